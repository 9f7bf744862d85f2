import PyProof.Rows.All
import Wide.All
import OpenK.AllK
import Wide.FinOn
import HandS.ForMost
import KE.SortData
import KE.DataMinMax
import HandS.TupAny
import HandS.Strs
import HandS.TupMul
import HandS.SortInts
import HandS.IsInst
import HandS.Deep
import HandS.Style
import HandS.Zip
import HandS.SortRule
import HandS.SortOrd
import HandS.Comp
import HandS.SetBool
import HandS.SetFor
import HandS.Conv
import HandS.DictTup
import HandS.RepeatKit
import KE.KDictList
import HandS.Sort
import KE.GoesMore
import PySem.Challenge.RW_tabletalk_k54_whole_shared_numbers
set_option Elab.async false
set_option linter.all false
set_option maxRecDepth 100000
set_option autoImplicit false
set_option maxHeartbeats 4000000
namespace Pu
open PySem PySem.Spec PyProof.Rows L2

/-! ## data, stores, results -/
inductive D where
  | non | bl (b : Bool) | int (i : Int) | str (s : Str) | tup (xs : List D) | ref (i : Nat) | fz (xs : List D) | fr (xs : List D) | ptp (xs : List D)
inductive Ob where
  | lst (xs : List D)
  | dK (kvs : List (Key × D))
  | dT (kvs : List (List Key × D))
abbrev Sto := List Ob
inductive R (α : Type) where
  | ok (a : α) (S : Sto)
  | exc (c : Str) (fs : List (Str × D)) (S : Sto)
  | bad
abbrev M (α : Type) := Sto → R α
def R.bind {α β : Type} : R α → (α → M β) → R β
  | .ok a S, f => f a S
  | .exc c fs S, _ => .exc c fs S
  | .bad, _ => .bad
def mret {α : Type} (a : α) : M α := fun S => .ok a S
def mbad {α : Type} : M α := fun _ => .bad
def mbind {α β : Type} (m : M α) (f : α → M β) : M β := fun S => (m S).bind f
/-- a check that nothing reckons out by itself -/
noncomputable def chk {α : Type} (p : Prop) (m : M α) : M α := @ite _ p (Classical.propDecidable p) m mbad
theorem chk_pos {α : Type} {p : Prop} {m : M α} (h : p) : chk p m = m := if_pos h
theorem chk_neg {α : Type} {p : Prop} {m : M α} (h : ¬ p) : chk p m = mbad := if_neg h
theorem mret_ap {α : Type} (a : α) (S : Sto) : mret a S = .ok a S := rfl
theorem mbad_ap {α : Type} (S : Sto) : (mbad S : R α) = .bad := rfl
theorem mbind_ap {α β : Type} (m : M α) (f : α → M β) (S : Sto) : mbind m f S = (m S).bind f := rfl
theorem bind_ok {α β : Type} (a : α) (S : Sto) (f : α → M β) : (R.ok a S).bind f = f a S := rfl
theorem bind_bad {α β : Type} (f : α → M β) : (R.bad : R α).bind f = .bad := rfl
theorem bind_exc {α β : Type} (c : Str) (x : List (Str × D)) (S : Sto) (f : α → M β) : (R.exc c x S).bind f = .exc c x S := rfl
abbrev Env' := List (Option D)

/-! ## how data lies in the heap -/
/-- a list that nothing changes, known to the object or written in the text -/
def FrL (K : PySem.W.Frag) (H : Hp) (a : Addr) (xs : List V) : Prop :=
  (∃ o, H a = some (.frz o (.lst xs))) ∨
    ∃ (o : Obj) (its : Array Value) (n : Nat), K.lookup a = some o ∧ o.cls = .type "list" ∧ o.dict = none ∧ o.data = .seq its n ∧ its.size ≤ sizeLine ∧ Vals xs its.toList
theorem FrL.sq {K : PySem.W.Frag} {H : Hp} {a : Addr} {xs : List V} (h : FrL K H a xs) : SqL K H a xs := by
  rcases h with ⟨o, h⟩ | h
  · exact .inl (.inr ⟨o, h⟩)
  · exact .inr h
/-- a tuple whose object is known to bear no names of its own -/
def PlT (H : Hp) (a : Addr) (vs : List V) : Prop := ∃ ob, H a = some (.frz ob (.tup vs)) ∧ ob.cls = .type "tuple" ∧ ob.dict = none
theorem PlT.sq {K : PySem.W.Frag} {H : Hp} {a : Addr} {xs : List V} (h : PlT H a xs) : SqT K H a xs := by
  obtain ⟨ob, h, _⟩ := h
  exact .inl (.inr ⟨ob, h⟩)
mutual
def Rep (K : PySem.W.Frag) (as : List Addr) (H : Hp) : D → V → Prop
  | .non, v => v = .non
  | .bl b, v => v = .bl b
  | .int i, v => v = .int i
  | .str s, v => v = .str s
  | .tup ds, v => ∃ a vs, v = .ref a ∧ SqT K H a vs ∧ Reps K as H ds vs
  | .ref i, v => ∃ a, as[i]? = some a ∧ v = .ref a
  | .fz ds, v => ∃ a vs, v = .ref a ∧ (∃ o, H a = some (.frz o (.lst vs))) ∧ Reps K as H ds vs
  | .fr ds, v => ∃ a vs, v = .ref a ∧ FrL K H a vs ∧ Reps K as H ds vs
  | .ptp ds, v => ∃ a vs, v = .ref a ∧ PlT H a vs ∧ Reps K as H ds vs
def Reps (K : PySem.W.Frag) (as : List Addr) (H : Hp) : List D → List V → Prop
  | [], vs => vs = []
  | d :: ds, vs => ∃ v r, vs = v :: r ∧ Rep K as H d v ∧ Reps K as H ds r
end
/-- what never changes -/
def Fxd (o : HO) : Prop := (∃ vs, o = .tup vs) ∨ ∃ ob u, o = .frz ob u
structure Ex0 (as : List Addr) (H : Hp) (as' : List Addr) (H' : Hp) : Prop where
  pre : ∀ (i : Nat) (a : Addr), as[i]? = some a → as'[i]? = some a
  fix : ∀ a o, H a = some o → Fxd o → H' a = some o
structure Ext (as : List Addr) (H : Hp) (as' : List Addr) (H' : Hp) : Prop extends Ex0 as H as' H' where
  keep : ∀ a o, H a = some o → a ∉ as → H' a = some o
  new : ∀ a, a ∈ as' → a ∈ as ∨ H a = none
theorem Ext.refl (as : List Addr) (H : Hp) : Ext as H as H := ⟨⟨fun _ _ h => h, fun _ _ h _ => h⟩, fun _ _ h _ => h, fun _ h => .inl h⟩
theorem Ext.out {as as' : List Addr} {H H' : Hp} (e : Ext as H as' H') {a : Addr} {o : HO} (h : H a = some o) (n : a ∉ as) : a ∉ as' := fun q => by
  rcases e.new a q with z | z
  · exact n z
  · rw [h] at z; cases z
theorem Ext.trans {as as1 as2 : List Addr} {H H1 H2 : Hp} (a : Ext as H as1 H1) (b : Ext as1 H1 as2 H2) : Ext as H as2 H2 :=
  ⟨⟨fun i x h => b.pre i x (a.pre i x h), fun x o h f => b.fix x o (a.fix x o h f) f⟩, fun x o h n => b.keep x o (a.keep x o h n) (a.out h n), fun x hx => by
    rcases b.new x hx with z | z
    · exact a.new x z
    · by_cases n : x ∈ as
      · exact .inl n
      · cases q : H x with
        | none => exact .inr rfl
        | some o => rw [a.keep x o q n] at z; cases z⟩
section
variable {K : PySem.W.Frag} {as as' : List Addr} {H H' : Hp}
theorem Ex0.sqT (e : Ex0 as H as' H') {a : Addr} {xs : List V} (h : SqT K H a xs) : SqT K H' a xs := by
  rcases h with (h | ⟨o, h⟩) | h
  · exact .inl (.inl (e.fix _ _ h (.inl ⟨_, rfl⟩)))
  · exact .inl (.inr ⟨o, e.fix _ _ h (.inr ⟨_, _, rfl⟩)⟩)
  · exact .inr h
theorem Ex0.fr (e : Ex0 as H as' H') {a : Addr} {xs : List V} (h : FrL K H a xs) : FrL K H' a xs := by
  rcases h with ⟨o, h⟩ | h
  · exact .inl ⟨o, e.fix _ _ h (.inr ⟨_, _, rfl⟩)⟩
  · exact .inr h
mutual
theorem Rep.mono0 (e : Ex0 as H as' H') : ∀ {d : D} {v : V}, Rep K as H d v → Rep K as' H' d v
  | .non, _, h => h
  | .bl _, _, h => h
  | .int _, _, h => h
  | .str _, _, h => h
  | .tup ds, v, h => by
    obtain ⟨a, vs, h1, h2, h3⟩ := h
    exact ⟨a, vs, h1, e.sqT h2, Reps.mono0 e h3⟩
  | .ref i, v, h => by
    obtain ⟨a, h1, h2⟩ := h
    exact ⟨a, e.pre _ _ h1, h2⟩
  | .fz ds, v, h => by
    obtain ⟨a, vs, h1, h2, h3⟩ := h
    obtain ⟨o, h2⟩ := h2
    exact ⟨a, vs, h1, ⟨o, e.fix _ _ h2 (.inr ⟨_, _, rfl⟩)⟩, Reps.mono0 e h3⟩
  | .fr ds, v, h => by
    obtain ⟨a, vs, h1, h2, h3⟩ := h
    exact ⟨a, vs, h1, e.fr h2, Reps.mono0 e h3⟩
  | .ptp ds, v, h => by
    obtain ⟨a, vs, h1, ⟨ob, h2, h4⟩, h3⟩ := h
    exact ⟨a, vs, h1, ⟨ob, e.fix _ _ h2 (.inr ⟨_, _, rfl⟩), h4⟩, Reps.mono0 e h3⟩
theorem Reps.mono0 (e : Ex0 as H as' H') : ∀ {ds : List D} {vs : List V}, Reps K as H ds vs → Reps K as' H' ds vs
  | [], _, h => h
  | d :: ds, vs, h => by
    obtain ⟨v, r, h1, h2, h3⟩ := h
    exact ⟨v, r, h1, Rep.mono0 e h2, Reps.mono0 e h3⟩
end
theorem Rep.mono {d : D} {v : V} (r : Rep K as H d v) (e : Ext as H as' H') : Rep K as' H' d v := Rep.mono0 e.toEx0 r
theorem Reps.mono {d : List D} {v : List V} (r : Reps K as H d v) (e : Ext as H as' H') : Reps K as' H' d v := Reps.mono0 e.toEx0 r
theorem Reps.length : ∀ {ds : List D} {vs : List V}, Reps K as H ds vs → vs.length = ds.length
  | [], _, h => by
    have h : _ = [] := h
    subst h; rfl
  | d :: ds, vs, h => by
    obtain ⟨v, r, rfl, h2, h3⟩ := h
    simp [Reps.length h3]
theorem Reps.get : ∀ {ds : List D} {vs : List V} {i : Nat} {d : D}, Reps K as H ds vs → ds[i]? = some d → ∃ v, vs[i]? = some v ∧ Rep K as H d v
  | [], _, _, _, _, e => by simp at e
  | d :: ds, vs, 0, d', h, e => by
    obtain ⟨v, r, rfl, h2, h3⟩ := h
    simp at e; subst e
    exact ⟨v, rfl, h2⟩
  | d :: ds, vs, i + 1, d', h, e => by
    obtain ⟨v, r, rfl, h2, h3⟩ := h
    obtain ⟨w, h4, h5⟩ := Reps.get (i := i) h3 (by simpa using e)
    exact ⟨w, by simpa using h4, h5⟩
theorem Reps.append : ∀ {ds es : List D} {vs us : List V}, Reps K as H ds vs → Reps K as H es us → Reps K as H (ds ++ es) (vs ++ us)
  | [], _, _, _, h, h' => by
    have h : _ = [] := h
    subst h; exact h'
  | d :: ds, es, vs, us, h, h' => by
    obtain ⟨v, r, rfl, h2, h3⟩ := h
    exact ⟨v, r ++ us, rfl, h2, Reps.append h3 h'⟩
theorem Reps.nil : Reps K as H [] [] := rfl
theorem Reps.cons {d : D} {v : V} {ds : List D} {vs : List V} (h : Rep K as H d v) (t : Reps K as H ds vs) : Reps K as H (d :: ds) (v :: vs) := ⟨v, vs, rfl, h, t⟩
theorem Reps.one {d : D} {v : V} (h : Rep K as H d v) : Reps K as H [d] [v] := Reps.cons h Reps.nil
theorem Reps.take (n : Nat) : ∀ {ds : List D} {vs : List V}, Reps K as H ds vs → Reps K as H (ds.take n) (vs.take n) := by
  induction n with
  | zero => intro ds vs _; simp; exact Reps.nil
  | succ n ih =>
    intro ds vs h
    cases ds with
    | nil => have h : _ = [] := h; subst h; exact Reps.nil
    | cons d ds => obtain ⟨v, r, rfl, h2, h3⟩ := h; exact Reps.cons h2 (ih h3)
theorem Reps.drop (n : Nat) : ∀ {ds : List D} {vs : List V}, Reps K as H ds vs → Reps K as H (ds.drop n) (vs.drop n) := by
  induction n with
  | zero => intro ds vs h; exact h
  | succ n ih =>
    intro ds vs h
    cases ds with
    | nil => have h : _ = [] := h; subst h; exact Reps.nil
    | cons d ds => obtain ⟨v, r, rfl, h2, h3⟩ := h; exact ih h3
theorem Reps.set {d : D} {v : V} (r : Rep K as H d v) : ∀ {ds : List D} {vs : List V} (i : Nat), Reps K as H ds vs → Reps K as H (ds.set i d) (vs.set i v)
  | [], _, _, h => by have h : _ = [] := h; subst h; exact Reps.nil
  | d' :: ds, vs, 0, h => by obtain ⟨v', r', rfl, h2, h3⟩ := h; exact Reps.cons r h3
  | d' :: ds, vs, i + 1, h => by obtain ⟨v', r', rfl, h2, h3⟩ := h; exact Reps.cons h2 (Reps.set r i h3)
theorem Reps.eraseIdx : ∀ {ds : List D} {vs : List V} (i : Nat), Reps K as H ds vs → Reps K as H (ds.eraseIdx i) (vs.eraseIdx i)
  | [], _, _, h => by have h : _ = [] := h; subst h; exact Reps.nil
  | d' :: ds, vs, 0, h => by obtain ⟨v', r', rfl, h2, h3⟩ := h; exact h3
  | d' :: ds, vs, i + 1, h => by obtain ⟨v', r', rfl, h2, h3⟩ := h; exact Reps.cons h2 (Reps.eraseIdx i h3)
theorem Reps.reverse : ∀ {ds : List D} {vs : List V}, Reps K as H ds vs → Reps K as H ds.reverse vs.reverse
  | [], _, h => by have h : _ = [] := h; subst h; exact Reps.nil
  | d :: ds, vs, h => by
    obtain ⟨v, r, rfl, h2, h3⟩ := h
    rw [List.reverse_cons, List.reverse_cons]
    exact Reps.append (Reps.reverse h3) (Reps.one h2)
theorem Reps.ints : ∀ {ns : List Int} {vs : List V}, Reps K as H (ns.map D.int) vs → vs = ns.map V.int
  | [], _, h => h
  | n :: ns, vs, h => by
    obtain ⟨v, r, rfl, h2, h3⟩ := h
    have h2 : v = .int n := h2
    rw [h2, Reps.ints h3]; rfl
theorem Reps.of_ints : ∀ (ns : List Int), Reps K as H (ns.map D.int) (ns.map V.int)
  | [] => rfl
  | n :: ns => ⟨_, _, rfl, rfl, Reps.of_ints ns⟩
end

def RepKs (K : PySem.W.Frag) (as : List Addr) (H : Hp) {κ : Type} : List (κ × D) → List (κ × V) → Prop
  | [], vs => vs = []
  | p :: ds, vs => ∃ v r, vs = (p.1, v) :: r ∧ Rep K as H p.2 v ∧ RepKs K as H ds r
theorem RepKs.mono0 {K : PySem.W.Frag} {as as' : List Addr} {H H' : Hp} {κ : Type} (e : Ex0 as H as' H') : ∀ {ds : List (κ × D)} {vs : List (κ × V)}, RepKs K as H ds vs → RepKs K as' H' ds vs
  | [], _, h => h
  | d :: ds, vs, h => by
    obtain ⟨v, r, h1, h2, h3⟩ := h
    exact ⟨v, r, h1, Rep.mono0 e h2, RepKs.mono0 e h3⟩
def RepO (K : PySem.W.Frag) (as : List Addr) (H : Hp) (a : Addr) : Ob → Prop
  | .lst ds => ∃ vs, H a = some (.lst vs) ∧ Reps K as H ds vs
  | .dK kvs => ∃ vs, H a = some (.dK vs) ∧ RepKs K as H kvs vs
  | .dT kvs => ∃ vs, H a = some (.dT vs) ∧ RepKs K as H kvs vs
theorem RepO.some {K : PySem.W.Frag} {as : List Addr} {H : Hp} {a : Addr} {o : Ob} (h : RepO K as H a o) : ∃ u, H a = some u ∧ ¬ Fxd u := by
  cases o with
  | lst ds => obtain ⟨vs, h1, _⟩ := h; exact ⟨_, h1, by rintro (⟨_, q⟩ | ⟨_, _, q⟩) <;> cases q⟩
  | dK ds => obtain ⟨vs, h1, _⟩ := h; exact ⟨_, h1, by rintro (⟨_, q⟩ | ⟨_, _, q⟩) <;> cases q⟩
  | dT ds => obtain ⟨vs, h1, _⟩ := h; exact ⟨_, h1, by rintro (⟨_, q⟩ | ⟨_, _, q⟩) <;> cases q⟩
/-- the object itself as it stands, the rest anywhere -/
theorem RepO.move {K : PySem.W.Frag} {as as' : List Addr} {H H' : Hp} {a : Addr} {o : Ob} (h : RepO K as H a o) (e : Ex0 as H as' H') (s : H' a = H a) : RepO K as' H' a o := by
  cases o with
  | lst ds => obtain ⟨vs, h1, h2⟩ := h; exact ⟨vs, s.trans h1, Reps.mono0 e h2⟩
  | dK ds => obtain ⟨vs, h1, h2⟩ := h; exact ⟨vs, s.trans h1, RepKs.mono0 e h2⟩
  | dT ds => obtain ⟨vs, h1, h2⟩ := h; exact ⟨vs, s.trans h1, RepKs.mono0 e h2⟩
structure Sim (K : PySem.W.Frag) (as : List Addr) (S : Sto) (H : Hp) : Prop where
  len : as.length = S.length
  inj : ∀ (i j : Nat) (a : Addr), as[i]? = some a → as[j]? = some a → i = j
  ob : ∀ (i : Nat) (a : Addr) (o : Ob), as[i]? = some a → S[i]? = some o → RepO K as H a o
section
variable {K : PySem.W.Frag} {as as' : List Addr} {H H' : Hp} {S : Sto}
theorem Sim.look (s : Sim K as S H) {i : Nat} {o : Ob} (h : S[i]? = some o) : ∃ a, as[i]? = some a ∧ RepO K as H a o := by
  have hl : i < S.length := (List.getElem?_eq_some_iff.mp h).1
  have hl' : i < as.length := by rw [s.len]; exact hl
  exact ⟨as[i], List.getElem?_eq_getElem hl', s.ob i _ o (List.getElem?_eq_getElem hl') h⟩
theorem Sim.has (s : Sim K as S H) {i : Nat} {a : Addr} (h : as[i]? = some a) : ∃ o, S[i]? = some o ∧ RepO K as H a o := by
  have hl : i < as.length := (List.getElem?_eq_some_iff.mp h).1
  have hl' : i < S.length := by rw [← s.len]; exact hl
  exact ⟨S[i], List.getElem?_eq_getElem hl', s.ob i _ _ h (List.getElem?_eq_getElem hl')⟩
/-- a fixed thing is laid -/
theorem Ext.fixed {p : Addr} {o : HO} (hp : H p = none) : Ext as H as (upd H p o) :=
  ⟨⟨fun _ _ h => h, fun a u h _ => by rw [upd_ne (ne_of_none h hp)]; exact h⟩, fun a u h _ => by rw [upd_ne (ne_of_none h hp)]; exact h, fun _ h => .inl h⟩
theorem Sim.fixed (s : Sim K as S H) {p : Addr} {o : HO} (hp : H p = none) : Sim K as S (upd H p o) :=
  ⟨s.len, s.inj, fun i a u h1 h2 => by
    have r := s.ob i a u h1 h2
    obtain ⟨w, hw, _⟩ := r.some
    exact r.move (Ext.fixed hp).toEx0 (upd_ne (ne_of_none hw hp))⟩
/-- a new object of the store -/
theorem Ext.alloc {p : Addr} {o : HO} (hp : H p = none) : Ext as H (as ++ [p]) (upd H p o) :=
  ⟨⟨fun i a h => by
    have hl : i < as.length := (List.getElem?_eq_some_iff.mp h).1
    rw [List.getElem?_append_left hl]; exact h, fun a u h _ => by rw [upd_ne (ne_of_none h hp)]; exact h⟩, fun a u h _ => by rw [upd_ne (ne_of_none h hp)]; exact h, fun a h => by
    rcases List.mem_append.mp h with z | z
    · exact .inl z
    · rw [List.mem_singleton.mp z]; exact .inr hp⟩
theorem Sim.new (s : Sim K as S H) {p : Addr} {o : HO} {u : Ob} (hp : H p = none) (ho : RepO K (as ++ [p]) (upd H p o) p u) : Sim K (as ++ [p]) (S ++ [u]) (upd H p o) := by
  refine ⟨by simp [s.len], fun i j a h1 h2 => ?_, fun i a w h1 h2 => ?_⟩
  · have free : ∀ k : Nat, as[k]? = some p → False := fun k hk => by
      obtain ⟨o', _, r⟩ := s.has hk
      obtain ⟨w, hw, _⟩ := r.some
      rw [hp] at hw; cases hw
    by_cases hi : i < as.length
    · rw [List.getElem?_append_left hi] at h1
      by_cases hj : j < as.length
      · rw [List.getElem?_append_left hj] at h2
        exact s.inj i j a h1 h2
      · rw [List.getElem?_append_right (by omega)] at h2
        have h3 := List.getElem?_eq_some_iff.mp h2
        obtain ⟨h4, h5⟩ := h3
        simp at h4 h5
        subst h5
        exact (free i h1).elim
    · rw [List.getElem?_append_right (by omega)] at h1
      obtain ⟨h4, h5⟩ := List.getElem?_eq_some_iff.mp h1
      simp at h4 h5
      by_cases hj : j < as.length
      · rw [List.getElem?_append_left hj] at h2
        subst h5
        exact (free j h2).elim
      · rw [List.getElem?_append_right (by omega)] at h2
        obtain ⟨h6, h7⟩ := List.getElem?_eq_some_iff.mp h2
        simp at h6 h7
        omega
  · by_cases hi : i < as.length
    · rw [List.getElem?_append_left hi] at h1
      rw [List.getElem?_append_left (by rw [← s.len]; exact hi)] at h2
      have r := s.ob i a w h1 h2
      obtain ⟨z, hz, _⟩ := r.some
      exact r.move (Ext.alloc hp).toEx0 (upd_ne (ne_of_none hz hp))
    · rw [List.getElem?_append_right (by omega)] at h1
      rw [List.getElem?_append_right (by rw [← s.len]; omega)] at h2
      obtain ⟨h4, h5⟩ := List.getElem?_eq_some_iff.mp h1
      obtain ⟨h6, h7⟩ := List.getElem?_eq_some_iff.mp h2
      simp at h4 h5 h6 h7
      subst h5; subst h7
      exact ho
/-- an object of the store is changed -/
theorem Sim.ext (s : Sim K as S H) {i : Nat} {p : Addr} {o : HO} (h : as[i]? = some p) : Ext as H as (upd H p o) :=
  ⟨⟨fun _ _ h => h, fun a u hu f => by
    obtain ⟨o', _, r⟩ := s.has h
    obtain ⟨z, hz, nz⟩ := r.some
    have : a ≠ p := fun e => by subst e; rw [hz] at hu; cases hu; exact nz f
    rw [upd_ne this]; exact hu⟩, fun a u hu n => by
    have : a ≠ p := fun e => by subst e; exact n (List.mem_of_getElem? h)
    rw [upd_ne this]; exact hu, fun _ h => .inl h⟩
theorem Sim.set (s : Sim K as S H) {i : Nat} {p : Addr} {o : HO} {u : Ob} (h : as[i]? = some p) (ho : RepO K as (upd H p o) p u) : Sim K as (S.set i u) (upd H p o) := by
  refine ⟨by simp [s.len], s.inj, fun j a w h1 h2 => ?_⟩
  by_cases e : j = i
  · subst e
    rw [h] at h1; cases h1
    have hl : j < S.length := by rw [← s.len]; exact (List.getElem?_eq_some_iff.mp h).1
    rw [List.getElem?_set_self hl] at h2
    cases h2; exact ho
  · rw [List.getElem?_set_ne (fun q => e q.symm)] at h2
    have r := s.ob j a w h1 h2
    have : a ≠ p := fun q => by subst q; exact e (s.inj j i _ h1 h)
    exact r.move (s.ext h).toEx0 (upd_ne this)
end
/-- the slots -/
structure EnvR (K : PySem.W.Frag) (as : List Addr) (H : Hp) (σ : L2.St) (ρ : Env') : Prop where
  len : σ.length = ρ.length
  look : ∀ (i : Nat) (d : D), ρ[i]? = some (some d) → ∃ v, σ[i]? = some (some v) ∧ Rep K as H d v
theorem EnvR.mono {K : PySem.W.Frag} {as as' : List Addr} {H H' : Hp} {σ : L2.St} {ρ : Env'} (r : EnvR K as H σ ρ) (e : Ext as H as' H') : EnvR K as' H' σ ρ :=
  ⟨r.len, fun i d h => let ⟨v, h1, h2⟩ := r.look i d h; ⟨v, h1, h2.mono e⟩⟩
theorem EnvR.mono0 {K : PySem.W.Frag} {as as' : List Addr} {H H' : Hp} {σ : L2.St} {ρ : Env'} (r : EnvR K as H σ ρ) (e : Ex0 as H as' H') : EnvR K as' H' σ ρ :=
  ⟨r.len, fun i d h => let ⟨v, h1, h2⟩ := r.look i d h; ⟨v, h1, Rep.mono0 e h2⟩⟩
theorem EnvR.set {K : PySem.W.Frag} {as : List Addr} {H : Hp} {σ : L2.St} {ρ : Env'} (r : EnvR K as H σ ρ) {d : D} {v : V} (h : Rep K as H d v) (i : Nat) : EnvR K as H (σ.set i (some v)) (ρ.set i (some d)) := by
  refine ⟨by simp [r.len], fun j d' hj => ?_⟩
  by_cases e : j = i
  · subst e
    have hl : j < ρ.length := by
      have := (List.getElem?_eq_some_iff.mp hj).1
      simpa using this
    rw [List.getElem?_set_self hl] at hj
    cases hj
    exact ⟨v, by rw [List.getElem?_set_self (by rw [r.len]; exact hl)], h⟩
  · rw [List.getElem?_set_ne (fun q => e q.symm)] at hj
    obtain ⟨w, h1, h2⟩ := r.look j d' hj
    exact ⟨w, by rw [List.getElem?_set_ne (fun q => e q.symm)]; exact h1, h2⟩
theorem EnvR.forget {K : PySem.W.Frag} {as : List Addr} {H : Hp} {σ : L2.St} {ρ : Env'} (r : EnvR K as H σ ρ) (i : Nat) : EnvR K as H (σ.set i none) (ρ.set i none) := by
  refine ⟨by simp [r.len], fun j d' hj => ?_⟩
  by_cases e : j = i
  · subst e
    have hl : j < ρ.length := by
      have := (List.getElem?_eq_some_iff.mp hj).1
      simpa using this
    rw [List.getElem?_set_self hl] at hj
    cases hj
  · rw [List.getElem?_set_ne (fun q => e q.symm)] at hj
    obtain ⟨w, h1, h2⟩ := r.look j d' hj
    exact ⟨w, by rw [List.getElem?_set_ne (fun q => e q.symm)]; exact h1, h2⟩
def wipeE (ρ : Env') : List Nat → Env'
  | [] => ρ
  | v :: vs => (wipeE ρ vs).set v none
theorem EnvR.wipe {K : PySem.W.Frag} {as : List Addr} {H : Hp} {σ : L2.St} {ρ : Env'} (r : EnvR K as H σ ρ) : ∀ vs : List Nat, EnvR K as H (L2.wipe σ vs) (wipeE ρ vs)
  | [] => r
  | v :: vs => (EnvR.wipe r vs).forget v

/-! ## ends -/
section
variable (K : PySem.W.Frag) (mg : Str → Option Value) (E : XK)
/-- an exception of the class c of the text, with its fields -/
def FinX (as : List Addr) (H : Hp) (c : Str) (fs : List (Str × D)) (S : Sto) : Prop :=
  ∀ (as' : List Addr) (H' : Hp) (C dd : Addr) (vs : List (Str × V)), Ext as H as' H' → Sim K as' S H' → mg c = some (.ref C) → H' dd = some (.xd vs) → RepKs K as' H' fs vs → E (.ref C) (some dd) H'
def Fin {α β : Type} (Rl : List Addr → Hp → α → β → Prop) (as : List Addr) (H : Hp) : R α → (β → Hp → Prop) → Prop
  | .ok a S', Q => ∀ (as' : List Addr) (H' : Hp) (b : β), Ext as H as' H' → Sim K as' S' H' → Rl as' H' a b → Q b H'
  | .exc c fs S', _ => FinX K mg E as H c fs S'
  | .bad, _ => False
def tM {α β : Type} (Rl : List Addr → Hp → α → β → Prop) (m : Env' → M α) : L2.St → Hp → (β → Hp → Prop) → Prop := fun σ H Q =>
  ∃ (as : List Addr) (S : Sto) (ρ : Env'), Sim K as S H ∧ EnvR K as H σ ρ ∧ Fin K mg E Rl as H (m ρ S) Q
abbrev tD (m : Env' → M D) : TE := tM K mg E (Rep K) m
abbrev tDs (m : Env' → M (List D)) : TA := tM K mg E (Reps K) m
abbrev RlB (_ : List Addr) (_ : Hp) (a b : Bool) : Prop := a = b
abbrev tB' (m : Env' → M Bool) : TT := tM K mg E RlB m
end
section
variable {K : PySem.W.Frag} {mg : Str → Option Value} {E : XK} {α β γ δ : Type} {Rl : List Addr → Hp → α → β → Prop} {Rl' : List Addr → Hp → γ → δ → Prop} {as as1 : List Addr} {H H1 : Hp}
theorem FinX.ext {c : Str} {fs : List (Str × D)} {S : Sto} (h : FinX K mg E as H c fs S) (e : Ext as H as1 H1) : FinX K mg E as1 H1 c fs S :=
  fun as' H' C dd vs e' => h as' H' C dd vs (e.trans e')
theorem Fin.ext {r : R α} {Q : β → Hp → Prop} (h : Fin K mg E Rl as H r Q) (e : Ext as H as1 H1) : Fin K mg E Rl as1 H1 r Q := by
  cases r with
  | ok a S => exact fun as' H' b e' => h as' H' b (e.trans e')
  | exc c fs S => exact FinX.ext h e
  | bad => exact h
theorem Fin.bind {m : R α} {f : α → M γ} {Q : δ → Hp → Prop} (h : Fin K mg E Rl' as H (m.bind f) Q) :
    Fin K mg E Rl as H m (fun b H1 => ∃ (as1 : List Addr) (S1 : Sto) (a : α), Ext as H as1 H1 ∧ Sim K as1 S1 H1 ∧ Rl as1 H1 a b ∧ Fin K mg E Rl' as1 H1 (f a S1) Q) := by
  cases m with
  | ok a S => exact fun as1 H1 b e s r => ⟨as1, S, a, e, s, r, Fin.ext (h : Fin K mg E Rl' as H (f a S) Q) e⟩
  | exc c fs S => exact h
  | bad => exact h
theorem Fin.imp {m : R α} {Q Q' : β → Hp → Prop} (h : Fin K mg E Rl as H m Q) (f : ∀ b H', Q b H' → Q' b H') : Fin K mg E Rl as H m Q' := by
  cases m with
  | ok a S => exact fun as1 H1 b e s r => f _ _ (h as1 H1 b e s r)
  | exc c fs S => exact h
  | bad => exact h
theorem Fin.chk {p : Prop} {m : M α} {S : Sto} {Q : β → Hp → Prop} (h : Fin K mg E Rl as H (Pu.chk p m S) Q) : p ∧ Fin K mg E Rl as H (m S) Q := by
  by_cases hp : p
  · rw [chk_pos hp] at h; exact ⟨hp, h⟩
  · rw [chk_neg hp] at h; exact h.elim
theorem Fin.ret {a : α} {b : β} {S : Sto} {Q : β → Hp → Prop} (h : Fin K mg E Rl as H (.ok a S) Q) (s : Sim K as S H) (r : Rl as H a b) : Q b H := h as H b (Ext.refl _ _) s r
end
end Pu

/-! combinations, by the places that are chosen -/
namespace Cmb
/-- the last place that may still go up -/
def upAt (n : Nat) (ix : List Nat) : Option Nat := (List.range ix.length).reverse.find? fun j => ix.getD j 0 != j + n - ix.length
/-- the next choice: the place goes up by one, those behind it follow on -/
def nxC (n : Nat) (ix : List Nat) : Option (List Nat) :=
  match upAt n ix with
  | none => none
  | some j => some (ix.take j ++ (List.range (ix.length - j)).map (ix.getD j 0 + 1 + ·))
/-- what follows the one that was handed out last -/
def chainC (n : Nat) : List Nat → List (List Nat) → Prop
  | ix, [] => nxC n ix = none
  | ix, ix' :: r => nxC n ix = some ix' ∧ chainC n ix' r
/-- those behind ix -/
def iterC (n : Nat) : Nat → List Nat → Option (List (List Nat))
  | 0, _ => none
  | f + 1, ix => match nxC n ix with
    | none => some []
    | some ix' => (iterC n f ix').map (ix' :: ·)
theorem iterC_chain {n : Nat} : ∀ {f : Nat} {ix : List Nat} {L : List (List Nat)}, iterC n f ix = some L → chainC n ix L
  | 0, _, _, h => by cases h
  | f + 1, ix, L, h => by
    unfold iterC at h
    cases q : nxC n ix with
    | none => rw [q] at h; cases h; exact q
    | some ix' =>
      rw [q] at h
      simp only [Option.map_eq_some_iff] at h
      obtain ⟨L', h1, rfl⟩ := h
      exact ⟨q, iterC_chain h1⟩
def allC (n r : Nat) : Option (List (List Nat)) := match (if r > n then some [] else (iterC n 300 (List.range r)).map (List.range r :: ·)) with
  | some L => if r ≤ 1000 ∧ L.length ≤ 1000 ∧ L.all (fun ix => decide (ix.length ≤ 1000)) = true then some L else none
  | none => none
theorem allC_ok {n r : Nat} {L : List (List Nat)} (h : allC n r = some L) : r ≤ 1000 ∧ L.length ≤ 1000 ∧ (∀ ix ∈ L, ix.length ≤ 1000) ∧ ((r > n ∧ L = []) ∨ (¬ r > n ∧ ∃ L', L = List.range r :: L' ∧ chainC n (List.range r) L')) := by
  unfold allC at h
  split at h
  · rename_i L0 hL
    split at h
    · rename_i c
      cases h
      refine ⟨c.1, c.2.1, fun ix hi => of_decide_eq_true (List.all_eq_true.mp c.2.2 ix hi), ?_⟩
      by_cases hr : r > n
      · rw [if_pos hr] at hL; cases hL; exact .inl ⟨hr, rfl⟩
      · rw [if_neg hr] at hL
        simp only [Option.map_eq_some_iff] at hL
        obtain ⟨L', h1, rfl⟩ := hL
        exact .inr ⟨hr, L', rfl, iterC_chain h1⟩
    · cases h
  · cases h
end Cmb

namespace Pu
open PySem PySem.Spec PyProof.Rows L2

/-! ## the small language -/
inductive Tg where
  | nm (i : Nat)
  | tp (ts : List Tg)
inductive Ty where
  | int | bool | str | tuple | list | dict
inductive Bi where
  | len | all | any | abs | int | list (own : Bool) | tuple | tupleP | sorted (own : Bool) | sum | min1 | max1 | min2 | max2
inductive Mt where
  | append | extend | popAt
mutual
inductive X' where
  | var (i : Nat)
  | cst (d : D)
  | bin (op : Operator) (a b : X')
  | neg (a : X')
  | cmp (op : CmpOp) (a b : X')
  | chn (o1 o2 : CmpOp) (a b c : X')
  | and (a b : X')
  | or (a b : X')
  | not (a : X')
  | ife (t : T') (a b : X')
  | tup (es : List X')
  | lst (own : Bool) (es : List X')
  | cat (own : Bool) (a b : X')
  | rep (own : Bool) (a b : X')
  | call (f : Nat) (es : List X')
  | blt (b : Bi) (es : List X')
  | isi (a : X') (t : Ty)
  | idx (a b : X')
  | slc (own : Bool) (a : X') (lo hi : P')
  | rev (own : Bool) (a : X')
  | mth (m : Mt) (a : X') (es : List X')
  | lc (own : Bool) (elt : X') (tg : Tg) (it : I') (ifs : List T') (ws : List Nat)
  | lrng (own : Bool) (a : X')
  | trng (a : X')
  | rgl (tup own : Bool) (a b : X')
  | tix (a b : X')
  | lix (a b : X')
  | lc2 (own : Bool) (elt : X') (tg : Tg) (it : I') (ifs : List T') (tg1 : Tg) (it1 : I') (ifs1 : List T') (ws ws1 : List Nat)
  | sst (own : Bool) (a : X')
  | lns (a : X')
  | cmb (own : Bool) (a k : X')
  | cmr (own : Bool) (a k : X')
  | ssc (own : Bool) (elt : X') (tg : Tg) (it : I') (tg1 : Tg) (it1 : I') (ws ws1 : List Nat)
inductive I' where
  | seq (e : X')
  | zip (a b : X')
  | rng (a : X')
  | rng2 (a b : X')
  | enm (a : X')
inductive P' where
  | no
  | ex (e : X')
inductive T' where
  | val (e : X')
  | bv (e : X')
  | and (a b : T')
  | or (a b : T')
  | not (a : T')
end
inductive S' where
  | set (i : Nat) (e : X')
  | asg (t : Tg) (e : X')
  | sto (o i e : X')
  | expr (e : X')
  | ret (e : X')
  | ife (t : T') (a b : List S')
  | frr (t : Tg) (it : I') (body : List S')
  | whl (t : T') (body : List S')
  | brk
  | cnt
  | pass
  | nev

/-! ## the evaluator's steps -/
def line : Nat := 16777216
def lstOf : D → Sto → Option (List D)
  | .fz xs, _ => some xs
  | .fr xs, _ => some xs
  | .ref i, S => match S[i]? with
    | some (.lst xs) => some xs
    | _ => none
  | _, _ => none
def seqOf : D → Sto → Option (List D)
  | .tup xs, _ => some xs
  | .ptp xs, _ => some xs
  | d, S => lstOf d S
/-- a list that is told by its own object -/
def tlsOf : D → Sto → Option (List D)
  | .fz xs, _ => some xs
  | .ref i, S => match S[i]? with
    | some (.lst xs) => some xs
    | _ => none
  | _, _ => none
def asInts : List D → Option (List Int)
  | [] => some []
  | .int i :: r => (asInts r).map (i :: ·)
  | _ :: _ => none
def asBools : List D → Option (List Bool)
  | [] => some []
  | .bl i :: r => (asBools r).map (i :: ·)
  | _ :: _ => none
def newL (own : Bool) (xs : List D) : M D := fun S => if xs.length ≤ line then (if own then .ok (.ref S.length) (S ++ [.lst xs]) else .ok (.fz xs) S) else .bad
/-- a list that is no longer than one that is there -/
def newU (own : Bool) (xs : List D) : M D := fun S => if own then .ok (.ref S.length) (S ++ [.lst xs]) else .ok (.fz xs) S
def newT (xs : List D) : M D := fun S => if xs.length ≤ line then .ok (.tup xs) S else .bad
def ofO {α : Type} (o : Option α) : M α := fun S => match o with
  | some a => .ok a S
  | none => .bad
def isK : Ty → D → Sto → Option Bool
  | _, .non, _ => some false
  | t, .bl _, _ => some (match t with | .bool => true | .int => true | _ => false)
  | t, .int _, _ => some (match t with | .int => true | _ => false)
  | t, .str _, _ => some (match t with | .str => true | _ => false)
  | t, .tup _, _ => some (match t with | .tuple => true | _ => false)
  | t, .ptp _, _ => some (match t with | .tuple => true | _ => false)
  | t, .fz _, _ => some (match t with | .list => true | _ => false)
  | t, .fr _, _ => some (match t with | .list => true | _ => false)
  | t, .ref i, S => match S[i]? with
    | some (.lst _) => some (match t with | .list => true | _ => false)
    | some (.dK _) => some (match t with | .dict => true | _ => false)
    | some (.dT _) => some (match t with | .dict => true | _ => false)
    | none => none
mutual
/-- as data; f: of the store's objects -/
def toPyG (f : Nat → Option PyData) : D → Option PyData
  | .non => some .none
  | .bl b => some (.bool b)
  | .int i => some (.int i)
  | .str x => some (.str x)
  | .tup xs => (toPysG f xs).map .tuple
  | .ptp xs => (toPysG f xs).map .tuple
  | .fz xs => (toPysG f xs).map .list
  | .fr xs => (toPysG f xs).map .list
  | .ref i => f i
def toPysG (f : Nat → Option PyData) : List D → Option (List PyData)
  | [] => some []
  | d :: ds => match toPyG f d, toPysG f ds with
    | some p, some ps => some (p :: ps)
    | _, _ => none
end
def toPy0 : D → Option PyData := toPyG fun _ => none
def toPys0 : List D → Option (List PyData) := toPysG fun _ => none
def deref (S : Sto) (i : Nat) : Option PyData := match S[i]? with
  | some (.lst xs) => (toPys0 xs).map .list
  | _ => none
def toPy (S : Sto) (d : D) : Option PyData := toPyG (deref S) d
def eqM (neg : Bool) (d e : D) : M D := fun S => match toPy S d, toPy S e with
  | some p, some q => if SeqAt.shaped p && SeqAt.shaped q then .ok (.bl (if neg then !PyData.eqv p q else PyData.eqv p q)) S else .bad
  | _, _ => .bad
def flatD : D → Bool
  | .non => true
  | .bl _ => true
  | .int _ => true
  | .str _ => true
  | _ => false
def eqF : D → D → Bool
  | .non, .non => true
  | .bl a, .bl b => a == b
  | .bl a, .int b => (if a then 1 else 0) == b
  | .int a, .bl b => a == (if b then 1 else 0)
  | .int a, .int b => a == b
  | .str a, .str b => a == b
  | _, _ => false
/-- x in a list or a tuple of data -/
def inDeep (neg : Bool) (d e : D) : M D := fun S => match toPy S d, toPy S e with
  | some p, some (.list qs) => if SeqAt.shaped p && SeqAt.shaped (.list qs) then .ok (.bl (if neg then !qs.any (fun z => PyData.eqv z p) else qs.any (fun z => PyData.eqv z p))) S else .bad
  | some p, some (.tuple qs) => if SeqAt.shaped p && SeqAt.shaped (.tuple qs) then .ok (.bl (if neg then !qs.any (fun z => PyData.eqv z p) else qs.any (fun z => PyData.eqv z p))) S else .bad
  | _, _ => .bad
def inM (neg : Bool) (d e : D) : M D := fun S => match e with
  | .tup xs => if flatD d && xs.all flatD then .ok (.bl (if neg then !xs.any fun y => eqF y d else xs.any fun y => eqF y d)) S else inDeep neg d e S
  | .ptp xs => if flatD d && xs.all flatD then .ok (.bl (if neg then !xs.any fun y => eqF y d else xs.any fun y => eqF y d)) S else inDeep neg d e S
  | _ => inDeep neg d e S
def ltM (d e : D) : M D := fun S => match d, e with
  | .int i, .int j => .ok (.bl (decide (i < j))) S
  | .tup xs, .tup ys => match asInts xs, asInts ys with
    | some ns, some ms => .ok (.bl (HT.lexLt ns ms)) S
    | _, _ => .bad
  | _, _ => .bad
def isM (neg : Bool) (d e : D) : M D := fun S => match e with
  | .non => .ok (.bl (match d with | .non => !neg | _ => neg)) S
  | .bl b => match d with
    | .bl a => .ok (.bl (if neg then a != b else a == b)) S
    | _ => .bad
  | _ => .bad
def cmpM : CmpOp → D → D → M D
  | .Lt, d, e => ltM d e
  | .LtE, .int i, .int j => mret (.bl (decide (i ≤ j)))
  | .Gt, .int i, .int j => mret (.bl (decide (j < i)))
  | .GtE, .int i, .int j => mret (.bl (decide (j ≤ i)))
  | .Eq, .int i, .int j => mret (.bl (decide (i = j)))
  | .NotEq, .int i, .int j => mret (.bl (!decide (i = j)))
  | .Eq, d, e => eqM false d e
  | .NotEq, d, e => eqM true d e
  | .Is, d, e => isM false d e
  | .IsNot, d, e => isM true d e
  | .In, d, e => inM false d e
  | .NotIn, d, e => inM true d e
  | _, _, _ => mbad
noncomputable def binM : Operator → D → D → M D
  | .Sub, .int i, .int j => mret (.int (i - j))
  | .Mod, .int i, .int j => chk (0 < j) (mret (.int (i % j)))
  | .FloorDiv, .int i, .int j => chk (0 < j ∧ j < 1073741824) (mret (.int (i / j)))
  | .Pow, .int i, .int j => chk (0 ≤ j ∧ j ≤ 1000000 ∧ i.natAbs < 18446744073709551616) (mret (.int (i ^ j.toNat)))
  | _, _, _ => mbad
/-- of tuples, one of which is plain: what is returned itself, and what is new -/
def catP (own : Bool) (d e : D) (xs ys : List D) : M D := fun S => if xs.length + ys.length ≤ line then .ok (if own then (if xs.isEmpty then e else if ys.isEmpty then d else .ptp (xs ++ ys)) else .tup (xs ++ ys)) S else .bad
def catM (own : Bool) (d e : D) : M D := fun S => match d, e with
  | .int i, .int j => .ok (.int (i + j)) S
  | .tup xs, .tup ys => match own with
    | false => newT (xs ++ ys) S
    | true => catP true (.tup xs) (.tup ys) xs ys S
  | .str x, .str y => if x.length + y.length ≤ line then .ok (.str (x ++ y)) S else .bad
  | .ptp xs, .tup ys => catP own (.ptp xs) (.tup ys) xs ys S
  | .tup xs, .ptp ys => catP own (.tup xs) (.ptp ys) xs ys S
  | .ptp xs, .ptp ys => catP own (.ptp xs) (.ptp ys) xs ys S
  | _, _ => match tlsOf d S, tlsOf e S with
    | some xs, some ys => newL own (xs ++ ys) S
    | _, _ => .bad
noncomputable def repM (own : Bool) (d e : D) : M D := fun S => match d, e with
  | .int i, .int j => chk ((-18446744073709551616 < i ∧ i < 18446744073709551616) ∨ (-18446744073709551616 < j ∧ j < 18446744073709551616)) (mret (.int (i * j))) S
  | .tup xs, .int k => if xs ≠ [] ∧ 2 ≤ k ∧ k ≤ 1000 ∧ xs.length ≤ 1000 then .ok (.tup (List.replicate k.toNat xs).flatten) S else .bad
  | _, .int k => match tlsOf d S with
    | some xs => chk (0 ≤ k ∧ k < 9223372036854775808) (newL own (List.replicate k.toNat xs).flatten) S
    | none => .bad
  | _, _ => .bad
def negM : D → M D
  | .int i => mret (.int (-i))
  | _ => mbad
def truM (d : D) : M Bool := fun S => match d with
  | .non => .ok false S
  | .bl b => .ok b S
  | .int i => .ok (i != 0) S
  | .str x => if x.length ≤ line then .ok (x.length != 0) S else .bad
  | _ => match seqOf d S with
    | some xs => .ok (!xs.isEmpty) S
    | none => .bad
def blM (d : D) : M Bool := fun S => match d with
  | .bl b => .ok b S
  | _ => .bad
def idxM (d e : D) : M D := fun S => match e with
  | .int i => match seqOf d S with
    | some xs => match atI xs i with
      | some x => .ok x S
      | none => .bad
    | none => .bad
  | _ => .bad
/-- where the first one stands -/
def firstAt (y : D) : List D → Option Nat
  | [] => none
  | z :: r => if eqF z y then some 0 else (firstAt y r).map (· + 1)
def tixM (d e : D) : M D := fun S => match d with
  | .ptp xs => if flatD e && xs.all flatD then (match firstAt e xs with | some j => .ok (.int j) S | none => .bad) else .bad
  | _ => .bad
/-- list.index: where the first one stands -/
def firstP (p : PyData) : List PyData → Option Nat
  | [] => none
  | z :: r => if PyData.eqv z p then some 0 else (firstP p r).map (· + 1)
def lixM (d e : D) : M D := fun S => match toPy S d, toPy S e with
  | some (.list qs), some p => if SeqAt.shaped p && SeqAt.shaped (.list qs) then (match firstP p qs with | some j => .ok (.int j) S | none => .bad) else .bad
  | _, _ => .bad
def intO (d : D) : M (Option Int) := fun S => match d with
  | .int i => .ok (some i) S
  | _ => .bad
def cutD (xs : List D) (lo hi : Option Int) : List D := (xs.drop (HT.sIx xs.length 0 lo)).take (HT.sIx xs.length xs.length hi - HT.sIx xs.length 0 lo)
def slcP (own : Bool) (d : D) (lo hi : Option Int) : M D := fun S => match d with
  | .tup xs => .ok (.tup (cutD xs lo hi)) S
  | .ptp xs => .ok (.tup (cutD xs lo hi)) S
  | _ => match lstOf d S with
    | some xs => newU own (cutD xs lo hi) S
    | none => .bad
def revM (own : Bool) (d : D) : M D := fun S => match d with
  | .tup xs => .ok (.tup xs.reverse) S
  | .ptp xs => .ok (.tup xs.reverse) S
  | _ => match lstOf d S with
    | some xs => newU own xs.reverse S
    | none => .bad
/-- sorted(a set of ints): each once, ascending -/
def insI (x : Int) : List Int → List Int
  | [] => [x]
  | y :: r => if x < y then x :: y :: r else if x = y then y :: r else y :: insI x r
def dedI (ns : List Int) : List Int := ns.foldr insI []
def setD (xs : List D) : Option (List D) := match asInts xs with
  | some ns => if ns.length < 64 then some ((dedI ns).map D.int) else none
  | none => none
def setM (own : Bool) (xs : List D) : M D := fun S => match setD xs with
  | some ys => newU own ys S
  | none => .bad
def sstM (own : Bool) (d : D) : M D := fun S => match seqOf d S with
  | some xs => setM own xs S
  | none => .bad
/-- len(set(..)) of ints -/
def lnsM (d : D) : M D := fun S => match (seqOf d S).bind asInts with
  | some ns => if ns.length < 64 then .ok (.int (dedI ns).length) S else .bad
  | none => .bad
def sortI (ns : List Int) : List Int := ns.mergeSort fun a b => decide (a ≤ b)
def leastI : List Int → Option Int
  | [] => none
  | n :: r => some (r.foldl (fun a b => if b < a then b else a) n)
def mostI : List Int → Option Int
  | [] => none
  | n :: r => some (r.foldl (fun a b => if a < b then b else a) n)
def lstInts (d : D) (S : Sto) : Option (List Int) := (lstOf d S).bind asInts
def lenM : List D → M D
  | [.str x] => fun S => if x.length ≤ line then .ok (.int x.length) S else .bad
  | [d] => fun S => match seqOf d S with
    | some xs => .ok (.int xs.length) S
    | none => .bad
  | _ => mbad
def allM : List D → M D
  | [d] => fun S => match (lstOf d S).bind asBools with
    | some bs => .ok (.bl (bs.all id)) S
    | none => .bad
  | _ => mbad
def anyM : List D → M D
  | [d] => fun S => match (lstOf d S).bind asBools with
    | some bs => .ok (.bl (bs.any id)) S
    | none => .bad
  | _ => mbad
def absM : List D → M D
  | [.int i] => mret (.int (if i < 0 then -i else i))
  | _ => mbad
def intM : List D → M D
  | [.int i] => mret (.int i)
  | [.bl b] => mret (.int (if b then 1 else 0))
  | _ => mbad
def listM (own : Bool) : List D → M D
  | [d] => fun S => match seqOf d S with
    | some xs => newU own xs S
    | none => .bad
  | _ => mbad
def tupleM : List D → M D
  | [d] => fun S => match seqOf d S with
    | some xs => .ok (.tup xs) S
    | none => .bad
  | _ => mbad
def tuplePM : List D → M D
  | [.ptp xs] => fun S => .ok (.ptp xs) S
  | [d] => fun S => match lstOf d S with
    | some xs => .ok (.ptp xs) S
    | none => .bad
  | _ => mbad
def lexP (p q : Int × Int) : Bool := if p.1 = q.1 then decide (p.2 < q.2) else decide (p.1 < q.1)
def leP (p q : Int × Int) : Bool := !lexP q p
def sortP (ps : List (Int × Int)) : List (Int × Int) := ps.mergeSort leP
def pairOf (p : Int × Int) : D := .tup [.int p.1, .int p.2]
def asPairs : List D → Option (List (Int × Int))
  | [] => some []
  | .tup [.int i, .int j] :: r => (asPairs r).map ((i, j) :: ·)
  | _ :: _ => none
/-- an item as data, and its order -/
noncomputable def encD (d : D) : PyData := (toPy0 d).getD .none
def sortOk (xs : List D) : Prop := (∀ d ∈ xs, (toPy0 d).isSome = true) ∧ (xs.length < 2 ∨ (PySem.W.AllAlike (xs.map encD) ∧ PySem.W.Sortable (xs.map encD) ∧ ∀ d ∈ xs, (encD d).depth ≤ 60))
noncomputable def sortD (xs : List D) : List D := xs.mergeSort (PySem.W.dataLe false encD)
noncomputable def sortedM (own : Bool) : List D → M D
  | [d] => fun S => match (seqOf d S).bind asInts with
    | some ns => newU own ((sortI ns).map D.int) S
    | none => match (lstOf d S).bind asPairs with
      | some ps => newU own ((sortP ps).map pairOf) S
      | none => match lstOf d S with
        | some xs => chk (sortOk xs) (newU own (sortD xs)) S
        | none => .bad
  | _ => mbad
def sumM : List D → M D
  | [d] => fun S => match lstInts d S with
    | some ns => .ok (.int ns.sum) S
    | none => .bad
  | _ => mbad
/-- the place of the first of the least -/
noncomputable def bestAt (xs : List D) : Nat := argBest (fun i j => PySem.W.dataLt ((xs.map encD).getD i .none) ((xs.map encD).getD j .none)) (xs.length - 1)
def minOk (xs : List D) : Prop := (∀ d ∈ xs, (toPy0 d).isSome = true) ∧ PySem.W.AlikeAll (xs.map encD) ∧ PyData.depthAll (xs.map encD) ≤ 60
noncomputable def min1M : List D → M D
  | [d] => fun S => match (lstInts d S).bind leastI with
    | some n => .ok (.int n) S
    | none => match seqOf d S with
      | some xs => match xs[bestAt xs]? with
        | some y => chk (minOk xs) (mret y) S
        | none => .bad
      | none => .bad
  | _ => mbad
def max1M : List D → M D
  | [d] => fun S => match (lstInts d S).bind mostI with
    | some n => .ok (.int n) S
    | none => .bad
  | _ => mbad
def min2M : List D → M D
  | [.int i, .int j] => mret (.int (if j < i then j else i))
  | _ => mbad
def max2M : List D → M D
  | [.int i, .int j] => mret (.int (if j > i then j else i))
  | _ => mbad
noncomputable def bltM : Bi → List D → M D
  | .len => lenM
  | .all => allM
  | .any => anyM
  | .abs => absM
  | .int => intM
  | .list own => listM own
  | .tuple => tupleM
  | .tupleP => tuplePM
  | .sorted own => sortedM own
  | .sum => sumM
  | .min1 => min1M
  | .max1 => max1M
  | .min2 => min2M
  | .max2 => max2M
def appendM (x : D) (ds : List D) : M D := fun S => match x, ds with
  | .ref i, [d] => match S[i]? with
    | some (.lst xs) => if xs.length < line then .ok .non (S.set i (.lst (xs ++ [d]))) else .bad
    | _ => .bad
  | _, _ => .bad
def extendM (x : D) (ds : List D) : M D := fun S => match x, ds with
  | .ref i, [e] => match S[i]?, tlsOf e S with
    | some (.lst xs), some ys => if xs.length + ys.length ≤ line then .ok .non (S.set i (.lst (xs ++ ys))) else .bad
    | _, _ => .bad
  | _, _ => .bad
def popAtM (x : D) (ds : List D) : M D := fun S => match x, ds with
  | .ref i, [.int k] => match S[i]? with
    | some (.lst xs) => match ixN xs.length k with
      | some j => match xs[j]? with
        | some y => .ok y (S.set i (.lst (xs.eraseIdx j)))
        | none => .bad
      | none => .bad
    | _ => .bad
  | _, _ => .bad
def mthM : Mt → D → List D → M D
  | .append => appendM
  | .extend => extendM
  | .popAt => popAtM
def stoM (o i d : D) : M Unit := fun S => match o, i with
  | .ref r, .int k => match S[r]? with
    | some (.lst xs) => match ixN xs.length k with
      | some j => .ok () (S.set r (.lst (xs.set j d)))
      | none => .bad
    | _ => .bad
  | _, _ => .bad
def varM (i : Nat) (ρ : Env') : M D := fun S => match ρ[i]? with
  | some (some d) => .ok d S
  | _ => .bad

/-! ## what is walked -/
structure Src where
  n : Nat
  nxt : Nat → Sto → Option (Option D)
def srcOf (d : D) (S : Sto) : Option Src := match d with
  | .tup xs => some ⟨xs.length, fun i _ => some xs[i]?⟩
  | .ptp xs => some ⟨xs.length, fun i _ => some xs[i]?⟩
  | .fz xs => some ⟨xs.length, fun i _ => some xs[i]?⟩
  | .fr xs => some ⟨xs.length, fun i _ => some xs[i]?⟩
  | .ref r => match S[r]? with
    | some (.lst xs) => some ⟨xs.length, fun i S' => match S'[r]? with | some (.lst ys) => some ys[i]? | _ => none⟩
    | _ => none
  | _ => none
def pairD (x y : Option D) : Option D := match x, y with
  | some a, some b => some (.tup [a, b])
  | _, _ => none
def zipOf (d e : D) (S : Sto) : Option Src := match d, e with
  | .tup xs, .tup ys => some ⟨xs.length, fun i _ => some (pairD xs[i]? ys[i]?)⟩
  | .ptp xs, .tup ys => some ⟨xs.length, fun i _ => some (pairD xs[i]? ys[i]?)⟩
  | .tup _, _ => none
  | _, .tup _ => none
  | _, _ => match lstOf d S, lstOf e S with
    | some xs, some _ => some ⟨xs.length, fun i S' => match lstOf d S', lstOf e S' with
      | some us, some vs => some (pairD us[i]? vs[i]?)
      | _, _ => none⟩
    | _, _ => none
def enmOf (d : D) : Option Src := match d with
  | .tup xs => some ⟨xs.length, fun i _ => some ((xs[i]?).map fun d => .tup [.int i, d])⟩
  | .ptp xs => some ⟨xs.length, fun i _ => some ((xs[i]?).map fun d => .tup [.int i, d])⟩
  | _ => none
def rngOf (lo : Int) (n : Nat) : Src := ⟨n, fun i _ => some (if i < n then some (.int (lo + i)) else none)⟩
mutual
def tgSet : Tg → D → Env' → Option Env'
  | .nm i, d, ρ => some (ρ.set i (some d))
  | .tp ts, .tup ds, ρ => tgSets ts ds ρ
  | .tp ts, .ptp ds, ρ => tgSets ts ds ρ
  | .tp _, _, _ => none
def tgSets : List Tg → List D → Env' → Option Env'
  | [], [], ρ => some ρ
  | t :: ts, d :: ds, ρ => (tgSet t d ρ).bind fun ρ' => tgSets ts ds ρ'
  | _, _, _ => none
end
/-- nothing is raised within -/
def nox {α : Type} (m : M α) : M α := fun S => match m S with
  | .exc _ _ _ => .bad
  | r => r
def lcLoop (elt : Env' → M D) (ifs : Env' → M Bool) (tg : Tg) (src : Src) : Nat → Nat → Env' → List D → M (List D)
  | n, i, ρ, acc => fun S => match src.nxt i S with
    | none => .bad
    | some none => .ok acc S
    | some (some d) => match n with
      | 0 => .bad
      | n + 1 => match tgSet tg d ρ with
        | none => .bad
        | some ρ' => (ifs ρ' S).bind fun b => if b then mbind (elt ρ') fun y S2 => lcLoop elt ifs tg src n (i + 1) ρ (acc ++ [y]) S2
          else lcLoop elt ifs tg src n (i + 1) ρ acc
def lcLoopC (elt : Env' → M D) (ifs : Env' → M Bool) (tg : Tg) (src : Src) : Nat → Nat → Env' → List D → M (List D)
  | n, i, ρ, acc => fun S => match src.nxt i S with
    | none => .bad
    | some none => .ok acc S
    | some (some d) => match n with
      | 0 => .bad
      | n + 1 => match tgSet tg d ρ with
        | none => .bad
        | some ρ' => (ifs ρ' S).bind fun b => if b then mbind (elt ρ') fun y S2 => if acc.length < line then lcLoopC elt ifs tg src n (i + 1) ρ (acc ++ [y]) S2 else .bad
          else lcLoopC elt ifs tg src n (i + 1) ρ acc
/-- two for's -/
def lcLoop2 (elt : Env' → M D) (ifs : Env' → M Bool) (tg : Tg) (src : Src) (it1 : Env' → M Src) (ifs1 : Env' → M Bool) (tg1 : Tg) (ws1 : List Nat) : Nat → Nat → Env' → List D → M (List D)
  | n, i, ρ, acc => fun S => match src.nxt i S with
    | none => .bad
    | some none => .ok acc S
    | some (some d) => match n with
      | 0 => .bad
      | n + 1 => match tgSet tg d ρ with
        | none => .bad
        | some ρ' => (ifs ρ' S).bind fun b => if b then mbind (it1 ρ') fun src1 => mbind (lcLoopC elt ifs1 tg1 src1 src1.n 0 (wipeE ρ' ws1) acc) fun acc' => lcLoop2 elt ifs tg src it1 ifs1 tg1 ws1 n (i + 1) ρ acc'
          else lcLoop2 elt ifs tg src it1 ifs1 tg1 ws1 n (i + 1) ρ acc
inductive Fl where
  | nx (ρ : Env')
  | rt (d : D)
  | bk (ρ : Env')
  | ct (ρ : Env')
def forLoop (body : Env' → M Fl) (tg : Tg) (src : Src) : Nat → Nat → Env' → M Fl
  | n, i, ρ => fun S => match src.nxt i S with
    | none => .bad
    | some none => .ok (.nx ρ) S
    | some (some d) => match n with
      | 0 => .bad
      | n + 1 => match tgSet tg d ρ with
        | none => .bad
        | some ρ' => (body ρ' S).bind fun fl => match fl with
          | .nx ρ2 => forLoop body tg src n (i + 1) ρ2
          | .ct ρ2 => forLoop body tg src n (i + 1) ρ2
          | .bk ρ2 => mret (.nx ρ2)
          | .rt d => mret (.rt d)

/-- while, at most n turns -/
def whlLoop (test : Env' → M Bool) (body : Env' → M Fl) : Nat → Env' → M Fl
  | 0, _ => mbad
  | n + 1, ρ => mbind (test ρ) fun b => if b then mbind (body ρ) fun fl => match fl with
      | .nx ρ2 => whlLoop test body n ρ2
      | .ct ρ2 => whlLoop test body n ρ2
      | .bk ρ2 => mret (.nx ρ2)
      | .rt d => mret (.rt d)
    else mret (.nx ρ)

/-- tuple(range(j)); list(range(i, j)), tuple(range(i, j)) -/
noncomputable def trngM : D → M D
  | .int j => chk (-4611686018427387904 ≤ j) (newT ((List.range j.toNat).map fun (k : Nat) => D.int (k : Int)))
  | _ => mbad
noncomputable def rglM (tup own : Bool) : D → D → M D
  | .int i, .int j => chk (-4611686018427387904 ≤ i ∧ i < 4611686018427387904 ∧ -4611686018427387904 ≤ j ∧ j < 4611686018427387904) (if tup then newT ((List.range (j - i).toNat).map fun (k : Nat) => D.int (i + (k : Int))) else newL own ((List.range (j - i).toNat).map fun (k : Nat) => D.int (i + (k : Int))))
  | _, _ => mbad

/-- list(combinations(x, r)); list(combinations(range(j), r)) -/
def pickD (xs : List D) (L : List (List Nat)) : List D := L.map fun ix => .tup (ix.map fun i => xs.getD i .non)
def rngD (j : Int) : List D := (List.range j.toNat).map fun (k : Nat) => D.int (k : Int)
noncomputable def cmbL (own : Bool) (xs : List D) (r : Int) : M D := chk (0 ≤ r) (match Cmb.allC xs.length r.toNat with
  | some L => newL own (pickD xs L)
  | none => mbad)
noncomputable def cmbM (own : Bool) (d e : D) : M D := fun S => match seqOf d S, e with
  | some xs, .int r => cmbL own xs r S
  | _, _ => .bad
noncomputable def cmrM (own : Bool) (j : Int) : D → M D
  | .int r => chk (-4611686018427387904 ≤ j ∧ j ≤ 16777216) (cmbL own (rngD j) r)
  | _ => mbad

/-! ## the evaluator; F: what the text's functions do -/
noncomputable section
variable (F : Nat → List D → M D)
mutual
def evE : X' → (Env' → M D)
  | .var i => fun ρ => varM i ρ
  | .cst d => fun _ => mret d
  | .bin op a b => fun ρ => mbind (evE a ρ) fun x => mbind (evE b ρ) fun y => binM op x y
  | .neg a => fun ρ => mbind (evE a ρ) fun x => negM x
  | .cmp op a b => fun ρ => mbind (evE a ρ) fun x => mbind (evE b ρ) fun y => cmpM op x y
  | .chn o1 o2 a b c => fun ρ => mbind (evE a ρ) fun x => mbind (evE b ρ) fun y => mbind (cmpM o1 x y) fun k => mbind (blM k) fun t =>
      if t then mbind (evE c ρ) fun z => cmpM o2 y z else mret (.bl false)
  | .and a b => fun ρ => mbind (evE a ρ) fun x => mbind (blM x) fun t => if t then evE b ρ else mret (.bl false)
  | .or a b => fun ρ => mbind (evE a ρ) fun x => mbind (blM x) fun t => if t then mret (.bl true) else evE b ρ
  | .not a => fun ρ => mbind (evE a ρ) fun x => mbind (blM x) fun t => mret (.bl (!t))
  | .ife t a b => fun ρ => mbind (evT t ρ) fun k => if k then evE a ρ else evE b ρ
  | .tup es => fun ρ => mbind (evEs es ρ) fun xs => newT xs
  | .lst own es => fun ρ => mbind (evEs es ρ) fun xs => newL own xs
  | .sst own a => fun ρ => mbind (evE a ρ) (sstM own)
  | .lns a => fun ρ => mbind (evE a ρ) lnsM
  | .cmb own a b => fun ρ => mbind (evE a ρ) fun x => mbind (evE b ρ) fun y => cmbM own x y
  | .cmr own a b => fun ρ => mbind (evE a ρ) fun x => match x with
    | .int j => mbind (evE b ρ) fun y => cmrM own j y
    | _ => mbad
  | .ssc own elt tg it tg1 it1 ws ws1 => fun ρ => mbind (evI it ρ) fun src => mbind (nox (lcLoop2 (evE elt) (fun _ => mret true) tg src (evI it1) (fun _ => mret true) tg1 ws1 src.n 0 (wipeE ρ ws) [])) fun xs => setM own xs
  | .cat own a b => fun ρ => mbind (evE a ρ) fun x => mbind (evE b ρ) fun y => catM own x y
  | .rep own a b => fun ρ => mbind (evE a ρ) fun x => mbind (evE b ρ) fun y => repM own x y
  | .call f es => fun ρ => mbind (evEs es ρ) fun xs => F f xs
  | .blt b es => fun ρ => mbind (evEs es ρ) fun xs => bltM b xs
  | .isi a t => fun ρ => mbind (evE a ρ) fun x S => match isK t x S with
    | some b => .ok (.bl b) S
    | none => .bad
  | .idx a b => fun ρ => mbind (evE a ρ) fun x => mbind (evE b ρ) fun y => idxM x y
  | .slc own a lo hi => fun ρ => mbind (evE a ρ) fun x => mbind (evP lo ρ) fun l => mbind (evP hi ρ) fun h => slcP own x l h
  | .rev own a => fun ρ => mbind (evE a ρ) fun x => revM own x
  | .mth m a es => fun ρ => mbind (evE a ρ) fun x S => match x with
    | .ref i => match S[i]? with
      | some (.lst _) => mbind (evEs es ρ) (mthM m x) S
      | _ => .bad
    | _ => .bad
  | .lc own elt tg it ifs ws => fun ρ => mbind (evI it ρ) fun src => mbind (nox (lcLoop (evE elt) (evTs ifs) tg src src.n 0 (wipeE ρ ws) [])) fun xs => newU own xs
  | .lrng own a => fun ρ => mbind (evE a ρ) fun x => match x with
    | .int j => chk (-4611686018427387904 ≤ j) (newL own ((List.range j.toNat).map fun (k : Nat) => D.int (k : Int)))
    | _ => mbad
  | .trng a => fun ρ => mbind (evE a ρ) trngM
  | .rgl tup own a b => fun ρ => mbind (evE a ρ) fun x => mbind (evE b ρ) fun y => rglM tup own x y
  | .tix a b => fun ρ => mbind (evE a ρ) fun x => match x with
    | .ptp _ => mbind (evE b ρ) fun y => tixM x y
    | _ => mbad
  | .lix a b => fun ρ => mbind (evE a ρ) fun x S => match lstOf x S with
    | some _ => mbind (evE b ρ) (fun y => lixM x y) S
    | none => .bad
  | .lc2 own elt tg it ifs tg1 it1 ifs1 ws ws1 => fun ρ => mbind (evI it ρ) fun src => mbind (nox (lcLoop2 (evE elt) (evTs ifs) tg src (evI it1) (evTs ifs1) tg1 ws1 src.n 0 (wipeE ρ ws) [])) fun xs => newL own xs
def evEs : List X' → (Env' → M (List D))
  | [] => fun _ => mret []
  | e :: es => fun ρ => mbind (evE e ρ) fun x => mbind (evEs es ρ) fun xs => mret (x :: xs)
def evT : T' → (Env' → M Bool)
  | .and a b => fun ρ => mbind (evT a ρ) fun t => if t then evT b ρ else mret false
  | .or a b => fun ρ => mbind (evT a ρ) fun t => if t then mret true else evT b ρ
  | .not a => fun ρ => mbind (evT a ρ) fun t => mret (!t)
  | .val e => fun ρ => mbind (evE e ρ) truM
  | .bv e => fun ρ => mbind (evE e ρ) blM
def evTs : List T' → (Env' → M Bool)
  | [] => fun _ => mret true
  | e :: es => fun ρ => mbind (evT e ρ) fun t => if t then evTs es ρ else mret false
def evP : P' → (Env' → M (Option Int))
  | .no => fun _ => mret none
  | .ex e => fun ρ => mbind (evE e ρ) intO
def evI : I' → (Env' → M Src)
  | .seq e => fun ρ => mbind (evE e ρ) fun x S => match srcOf x S with
    | some src => .ok src S
    | none => .bad
  | .zip a b => fun ρ => mbind (evE a ρ) fun x => mbind (evE b ρ) fun y S => match zipOf x y S with
    | some src => if src.n ≤ line then .ok src S else .bad
    | none => .bad
  | .enm a => fun ρ => mbind (evE a ρ) fun x S => match enmOf x with
    | some src => .ok src S
    | none => .bad
  | .rng a => fun ρ => mbind (evE a ρ) fun x => match x with
    | .int j => chk (-4611686018427387904 ≤ j ∧ j ≤ 16777216) (mret (rngOf 0 j.toNat))
    | _ => mbad
  | .rng2 a b => fun ρ => mbind (evE a ρ) fun x => mbind (evE b ρ) fun y => match x, y with
    | .int i, .int j => chk (-4611686018427387904 ≤ i ∧ i < 4611686018427387904 ∧ -4611686018427387904 ≤ j ∧ j < 4611686018427387904 ∧ j - i ≤ 16777216) (mret (rngOf i (j - i).toNat))
    | _, _ => mbad
end
mutual
def evS : S' → (Env' → M Fl)
  | .set i e => fun ρ => mbind (evE F e ρ) fun x => mret (.nx (ρ.set i (some x)))
  | .asg t e => fun ρ => mbind (evE F e ρ) fun x => match tgSet t x ρ with
    | some ρ' => mret (.nx ρ')
    | none => mbad
  | .sto o i e => fun ρ => mbind (evE F e ρ) fun x => mbind (evE F o ρ) fun r => mbind (evE F i ρ) fun k => mbind (stoM r k x) fun _ => mret (.nx ρ)
  | .expr e => fun ρ => mbind (evE F e ρ) fun _ => mret (.nx ρ)
  | .ret e => fun ρ => mbind (evE F e ρ) fun x => mret (.rt x)
  | .ife t a b => fun ρ => mbind (evT F t ρ) fun k => if k then evSs a ρ else evSs b ρ
  | .frr t it body => fun ρ => mbind (evI F it ρ) fun src => forLoop (evSs body) t src src.n 0 ρ
  | .whl t body => fun ρ => whlLoop (evT F t) (evSs body) 65536 ρ
  | .brk => fun ρ => mret (.bk ρ)
  | .cnt => fun ρ => mret (.ct ρ)
  | .pass => fun ρ => mret (.nx ρ)
  | .nev => fun _ => mbad
def evSs : List S' → (Env' → M Fl)
  | [] => fun ρ => mret (.nx ρ)
  | s :: r => fun ρ => mbind (evS s ρ) fun fl => match fl with
    | .nx ρ' => evSs r ρ'
    | f => mret f
end
end
/-- a def: how many slots, its body -/
structure Fn' where
  slots : Nat
  body : List S'
def envOf (n : Nat) (ds : List D) : Env' := ds.map some ++ List.replicate (n - ds.length) none
noncomputable def runB (F : Nat → List D → M D) (f : Fn') (ds : List D) : M D := mbind (evSs F f.body (envOf f.slots ds)) fun fl => match fl with
  | .nx _ => mret .non
  | .rt d => mret d
  | _ => mbad
/-- the text's functions, k calls deep -/
noncomputable def runF (tab : List Fn') : Nat → Nat → List D → M D
  | 0, _, _ => mbad
  | k + 1, f, ds => match tab[f]? with
    | some fn => runB (runF tab k) fn ds
    | none => mbad
end Pu

namespace Pu
open PySem PySem.Spec PyProof.Rows L2
/-! ## plain tuples: what is made, and its index -/
section
variable {X : Cx} {pins : List (Addr × Obj)} {σ : List (Option V)} {H : Hp} {s : Shared}
def tupOb (its : List Value) : Obj := { cls := .type "tuple", data := .seq its.toArray }
theorem laidT {xs : List V} {its : List Value} (I : L2.Inv X pins σ H s) (r : Vals xs its) (hz : xs.length ≤ sizeLine) :
    L2.Inv X pins σ (upd H s.heap.objs.size (.frz (tupOb its) (.tup xs))) { s with heap := s.heap.push (tupOb its) } :=
  I.laid (t' := s.toks) (fun b o e => Heap.get?_push_of_some _ e) (Nat.le_refl _) ⟨Heap.get?_push_size _ rfl, hz, its, r, IsTup.new _ _⟩
/-- a new plain tuple is asked for -/
def NewT (H : Hp) (Q : VK) (xs : List V) : Prop := ∀ (p : Addr) (ob : Obj), ob.cls = .type "tuple" → ob.dict = none → H p = none → Q (.ref p) (upd H p (.frz ob (.tup xs)))
theorem NewT.give {xs : List V} {its : List Value} {Q : VK} (q : NewT H Q xs) (I : L2.Inv X pins σ H s) (r : Vals xs its) (hz : xs.length ≤ sizeLine) : EP X pins σ Q (.ref s.heap.objs.size) { s with heap := s.heap.push (tupOb its) } :=
  ⟨.ref s.heap.objs.size, _, laidT I r hz, rfl, q _ _ rfl rfl (I.hok.fresh (Nat.le_refl _))⟩
end
section
variable {X : Cx}
/-- t + u, plain -/
theorem op_catN : OpR X (binaryOp .Add) (fun x y H Q => ∃ a b xs ys, x = .ref a ∧ y = .ref b ∧ SqT X.K H a xs ∧ SqT X.K H b ys ∧ xs.length + ys.length ≤ sizeLine ∧ (xs = [] → Q (.ref b) H) ∧ (xs ≠ [] → ys = [] → Q (.ref a) H) ∧ (xs ≠ [] → ys ≠ [] → NewT H Q (xs ++ ys))) := by
  intro pins s σ H x y v u Q I rx ry h
  obtain ⟨a, b, xs, ys, rfl, rfl, ha, hb, few, q0, q1, q2⟩ := h
  cases rx; cases ry
  obtain ⟨us, r1, t1, _⟩ := I.tuple ha
  obtain ⟨ws, r2, t2, _⟩ := I.tuple hb
  by_cases z : xs = []
  · have z' : us = [] := r1.nil_iff.mpr z
    subst z'
    exact cat_tup0 t1 t2 ⟨.ref b, H, I, rfl, q0 z⟩
  · have few' : us.length + ws.length ≤ sizeLine := by rw [← r1.length, ← r2.length]; exact few
    refine HT.cat_tup t1 t2 (fun w => z (r1.nil_iff.mp w)) (fun w => ⟨.ref a, H, I, rfl, q1 z (r2.nil_iff.mp w)⟩) (fun w => ?_) few'
    exact (q2 z (fun w' => w (r2.nil_iff.mpr w'))).give I (r1.append r2) (by rw [List.length_append]; exact few)
/-- tuple(xs) of a list, plain; of a tuple that tuple -/
theorem cr_tupleN : CallR X (.type "tuple") (fun xs H Q => ∃ p ys, xs = [.ref p] ∧ ((SqL X.K H p ys ∧ NewT H Q ys) ∨ (SqT X.K H p ys ∧ Q (.ref p) H))) := by
  intro pins s σ H xs us Q I r h
  obtain ⟨p, ys, rfl, h⟩ := h
  obtain ⟨u, rfl, rx⟩ := vals1 r
  cases rx
  rcases h with ⟨hq, q⟩ | ⟨hq, q⟩
  · obtain ⟨its, r', pl, few⟩ := I.list hq
    have few' : its.toArray.size ≤ sizeLine := by rw [List.size_toArray, ← r'.length]; exact few
    refine call_tuple_list pl.isList (fun h1 old => ?_) few'
    exact q.give (s := { s with heap := h1 }) (I.kept (t' := s.toks) old) r' few
  · obtain ⟨its, _, pl, _⟩ := I.tuple hq
    exact call_tuple_same pl ⟨.ref p, H, I, rfl, q⟩
/-- t.index(x), t and x of flat things -/
theorem mt_tixN : MtM X "tuple.index" (fun x xs H Q => ∃ (p : Addr) (ys : List V) (y z : V) (j : Nat), x = .ref p ∧ xs = [y] ∧ SqT X.K H p ys ∧ flatV y = true ∧ ys.all flatV = true ∧ ys[j]? = some z ∧ eqV z y = true ∧ (∀ (m : Nat) (w : V), m < j → ys[m]? = some w → eqV w y = false) ∧ Q (.int (j : Nat)) H) := by
  intro pins s σ H x xs v us Q I rx rs h
  obtain ⟨p, ys, y, z, j, rfl, rfl, hq, fy, fys, hz, hit, miss, q⟩ := h
  cases rx
  obtain ⟨uy, rfl, ry⟩ := vals1 rs
  obtain ⟨its, rv, ⟨⟨cls, dd, dt, sl⟩, ho, hc, n, hd⟩, few⟩ := I.tuple hq
  simp only at hc hd
  subst hc; subst hd
  have flat : ∀ (m : Nat) (w : V), ys[m]? = some w → flatV w = true := fun m w e => List.all_eq_true.mp fys w (List.mem_of_getElem? e)
  have same : ∀ (m : Nat) (w : V), ys[m]? = some w → ∀ hm : m < its.toArray.size, eqU y its.toArray[m] = eqV w y := fun m w e hm => by
    obtain ⟨u, hu, ru⟩ := rv.get e
    have hu2 := (List.getElem?_eq_some_iff.mp hu).2
    rw [← eqU_of ru (flat m w e), ← hu2]
    simp
  have size : its.toArray.size = ys.length := by rw [List.size_toArray, rv.length]
  have hj : j < its.toArray.size := by rw [size]; exact (List.getElem?_eq_some_iff.mp hz).1
  have body := TI.tuple_indexAt p its.toArray n dd sl uy (eqU y) j hj ((same j z hz hj).trans hit) (fun m hm lt => by
    have e : ys[m]? = some (ys[m]'(by rw [← size]; exact hm)) := List.getElem?_eq_getElem _
    rw [same m _ e hm]
    exact miss m _ lt e)
  refine call_meets PySem.F.slot_tuple_index ⟨_, ho, rfl⟩ PySem.F.entry_tuple_index (PySem.F.args_tuple_index_2 _ _) body ⟨ho, fun w hw => mem_eqAt ry fy rv fys w (by simpa using hw), ?_⟩
  exact ⟨.int (j : Nat), H, I.tok _, ⟨_, rfl⟩, q⟩
/-- o.index(e), o plain -/
theorem pe_tix {o e : Expr} {to : TE} {t : TA} {apos cpos : Pos} {r : V → List V → Hp → VK → Prop} (hm : MtM X "tuple.index" r) (ho : PE X o to) (ha : PA X [e] t)
    (hbase : attributeBase o "index" X.env (eval o X.env) = eval o X.env)
    (hfew : ((backTo cpos (starEach [e] X.env)).all (fun x => !x.1) && (backToKw cpos (keywordEach [] X.env)).all (fun x => x.1.isSome)
      && decide ([e].length + ([] : List Keyword).length + (if ([] : List Keyword).isEmpty then 0 else 1) < 30)) = true)
    (hline : (apos.endLine == cpos.line) = true) (hs : starEach [e] X.env = (false, eval e X.env) :: starEach [] X.env) (hplain : (backTo cpos (starEach [] X.env)).any (·.1) = false) :
    PE X (.Call (.Attribute o "index" apos) [e] [] cpos) (fun σ H Q => to σ H fun x H1 => (∃ a vs, x = .ref a ∧ PlT H1 a vs) ∧ t σ H1 fun xs H2 => r x xs H2 Q) := by
  refine ⟨fun pins s σ H Q I h => ?_⟩
  refine wpAny_Call_method_late hbase hfew hline rfl (thn (ho.run pins s σ H _ I h) fun v s1 ⟨x, H1, I1, r1, ⟨a, vs, ex, ob, hob, hcls, hdict⟩, q1⟩ => ?_)
  subst ex
  cases r1
  obtain ⟨there, _⟩ := I1.hok a _ hob
  refine ⟨"tuple", "tuple.index", PySem.F.plainAttrs_tuple, PySem.F.slot_tuple_index, PySem.F.type_tuple_index, ⟨ob, there, hcls⟩, fun b e => ?_, ?_⟩
  · cases e; exact ⟨ob, there, hdict⟩
  · have arg := ha.run cpos pins s1 σ H1 _ I1 q1
    rw [hs] at arg ⊢
    refine Calls.callWith_builtin (by show (false || (backTo cpos (starEach [] X.env)).any (·.1)) = false; rw [hplain] <;> rfl) (Calls.evalArgs_plain ?_)
    exact thn arg fun us s2 ⟨ys, H2, I2, r2, q2⟩ => hm pins s2 σ H2 (.ref a) ys _ us Q I2 rfl r2 q2
end
section
variable {K : PySem.W.Frag} {mg : Str → Option Value} {E : XK} {as : List Addr} {H : Hp} {S : Sto} {xs : List D} {vs : List V} {Q : VK}
theorem fin_N (fin : Fin K mg E (Rep K) as H (.ok (.tup xs) S) Q) (sim : Sim K as S H) (r : Reps K as H xs vs) : NewT H Q vs := fun p ob _ _ hp =>
  fin as _ _ (Ext.fixed hp) (sim.fixed hp) ⟨p, vs, rfl, .inl (.inr ⟨ob, upd_same⟩), r.mono (Ext.fixed hp)⟩
theorem fin_P (fin : Fin K mg E (Rep K) as H (.ok (.ptp xs) S) Q) (sim : Sim K as S H) (r : Reps K as H xs vs) : NewT H Q vs := fun p ob h1 h2 hp =>
  fin as _ _ (Ext.fixed hp) (sim.fixed hp) ⟨p, vs, rfl, ⟨ob, upd_same, h1, h2⟩, r.mono (Ext.fixed hp)⟩
end
section
variable {X : Cx} {mg : Str → Option Value} {E : XK}
theorem line_eq' : line = sizeLine := by rw [sizeLine_eq]; rfl
/-- both are tuples, of whatever kind -/
theorem cat_plain (own : Bool) {pins : List (Addr × Obj)} {s : Shared} {σ : List (Option V)} {H : Hp} {x y : V} {v u : Value} {Q : VK} {as : List Addr} {S : Sto} {d e : D} {xs ys : List D} {a b : Addr} {vs us : List V} (I : L2.Inv X pins σ H s) (rx : L2.RelV x v) (ry : L2.RelV y u) (sim : Sim X.K as S H)
    (hd : Rep X.K as H d x) (he : Rep X.K as H e y) (hx : x = .ref a) (ha : SqT X.K H a vs) (r1 : Reps X.K as H xs vs) (hy : y = .ref b) (hb : SqT X.K H b us) (r2 : Reps X.K as H ys us) (fin : Fin X.K mg E (Rep X.K) as H (catP own d e xs ys S) Q) :
    wpAny (model X.prog X.w) X.A (binaryOp .Add v u) (EP X pins σ Q) X.xe s := by
  unfold catP at fin
  split at fin
  · rename_i hl
    subst hx; subst hy
    have l1 := r1.length
    have l2 := r2.length
    rw [line_eq'] at hl
    refine op_catN pins s σ H _ _ v u Q I rx ry ⟨a, b, vs, us, rfl, rfl, ha, hb, by omega, fun z => ?_, fun z1 z => ?_, fun z1 z2 => ?_⟩
    · have zx : xs = [] := List.length_eq_zero_iff.mp (by rw [← l1, z]; rfl)
      subst zx
      cases own with
      | true => exact fin.ret sim he
      | false => exact fin.ret sim ⟨b, us, rfl, hb, r2⟩
    · have zy : ys = [] := List.length_eq_zero_iff.mp (by rw [← l2, z]; rfl)
      subst zy
      cases own with
      | true =>
        have : xs.isEmpty = false := by
          cases xs with
          | nil => exact absurd (List.length_eq_zero_iff.mp l1) z1
          | cons _ _ => rfl
        rw [this] at fin
        exact fin.ret sim hd
      | false =>
        rw [List.append_nil] at fin
        exact fin.ret sim ⟨a, vs, rfl, ha, r1⟩
    · cases own with
      | true =>
        have n1 : xs.isEmpty = false := by
          cases xs with
          | nil => exact absurd (List.length_eq_zero_iff.mp l1) z1
          | cons _ _ => rfl
        have n2 : ys.isEmpty = false := by
          cases ys with
          | nil => exact absurd (List.length_eq_zero_iff.mp l2) z2
          | cons _ _ => rfl
        rw [n1, n2] at fin
        exact fin_P fin sim (r1.append r2)
      | false => exact fin_N fin sim (r1.append r2)
  · exact fin.elim
end
end Pu

namespace L2
open PySem PySem.Spec PyProof.Rows
section
variable {X : Cx} {pins : List (Addr × Obj)} {σ : L2.St} {H : Hp} {s : Shared} {l : Addr} {xs : List V}
/-- a list that is read: tracked or frozen -/
theorem Inv.lstR (I : Inv X pins σ H s) (hH : Rd H l (.lst xs)) : xs.length ≤ sizeLine ∧ ∃ (its : List Value) (n : Nat), Vals xs its ∧ xs.length = its.length ∧ s.heap.get? l = some { cls := .type "list", data := .seq its.toArray n } :=
  let ⟨z, its, n, r, e⟩ := hH.ok I.hok
  ⟨z, its, n, r, r.length, e⟩
theorem op_catR : OpR X (binaryOp .Add) (fun x y H Q => ∃ l b xs zs, x = .ref l ∧ y = .ref b ∧ Rd H l (.lst xs) ∧ Rd H b (.lst zs) ∧ xs.length + zs.length ≤ sizeLine ∧ ∀ p, H p = none → Q (.ref p) (upd H p (.lst (xs ++ zs)))) := by
  intro pins s σ H x y v u Q I rx ry h
  obtain ⟨l, b, xs, zs, rfl, rfl, hH, hB, hz, q⟩ := h
  cases rx; cases ry
  obtain ⟨z, its, n, r, hl, e⟩ := I.lstR hH
  obtain ⟨z2, its2, n2, r2, hl2, e2⟩ := I.lstR hB
  refine PySem.P.add_list e e2 ?_ (by simp only [List.size_toArray]; omega)
  rw [show its.toArray ++ its2.toArray = (its ++ its2).toArray by simp]
  exact ⟨.ref _, _, I.lnew (t' := s.toks) (r.append r2) (by simp only [List.length_append]; omega), rfl, q _ I.fresh⟩
theorem fold_rep (its : List Value) (m : Nat) : List.foldl (fun x1 x2 => x1 ++ x2) #[] (List.replicate m its.toArray) = (List.replicate m its).flatten.toArray := by
  simpa using foldl_rep its m []
/-- follows HandS.List's rule of a tracked list -/
theorem op_repR : OpR X (binaryOp .Mult) (fun x y H Q => ∃ l k xs, x = .ref l ∧ y = .int k ∧ Rd H l (.lst xs) ∧ -(2 ^ 63) ≤ k ∧ k < 2 ^ 63 ∧ xs.length * k.toNat ≤ sizeLine ∧ ∀ p, H p = none → Q (.ref p) (upd H p (.lst (List.replicate k.toNat xs).flatten))) := by
  intro pins s σ H x y v u Q I rx ry h
  obtain ⟨l, k, xs, rfl, rfl, hH, h1, h2, hz, q⟩ := h
  cases rx
  obtain ⟨t, rfl⟩ := ry
  obtain ⟨z, its, n, r, hl, e⟩ := I.lstR hH
  have hlen : its.toArray.size * k.toNat ≤ sizeLine := by simp only [List.size_toArray, ← hl]; exact hz
  have big : (sizeLine : Nat) ≤ (2 ^ 63 - 1) / 8 := by decide
  have hcap : ¬ its.toArray.size * k.toNat > (2 ^ 63 - 1) / 8 := by omega
  have hfit : ¬ (!Builtin.List.listFitsIndex k) = true := by simp [fitsIndex_both h1 h2]
  have hlong : ¬ Builtin.List.listTooLong (its.toArray.size * k.toNat) = true := by rw [notLongL hlen]; decide
  have hnew : List.foldl (fun x1 x2 => x1 ++ x2) #[] (List.replicate (if its.toArray.isEmpty = true then 0 else k.toNat) its.toArray) = (List.replicate k.toNat its).flatten.toArray := by
    rw [fold_rep]
    cases its <;> simp
  refine wpAny_binaryOp_repeat_ref (T := "list") (U := "int") (by decide) ⟨_, e, rfl⟩ (fun s2 => typeIs_int s2 k t) noFill_list_mul PySem.F.fills_int_mul PySem.F.slot_int_rmul repeat_list PySem.F.slot_int_index.lookup ?_
  refine call_meets PySem.F.slot_int_rmul (typeIs_int s k t) PySem.F.entry_int_rmul (PySem.F.args_int_rmul_2 _ _) (int___rmul___int_list k t l its.toArray n) ⟨e, rfl, ⟨_, e, rfl⟩, ?_⟩
  refine call_meets PySem.F.slot_list_mul ⟨_, e, rfl⟩ PySem.F.entry_list_mul (PySem.F.args_list_mul_2 _ _) (AutoListH.list___mul___list_int_3 l its.toArray n k t hfit hcap hlong) ⟨e, ?_⟩
  rw [hnew]
  exact ⟨.ref _, _, I.lnew (t' := s.toks) (r.rep k.toNat) (by rw [PyProof.Rows.lm_len_rep_flat, Nat.mul_comm]; exact hz), rfl, q _ I.fresh⟩
theorem mt_extendR : MtM X "list.extend" (fun x vs H Q => ∃ l b xs zs, x = .ref l ∧ vs = [.ref b] ∧ H l = some (.lst xs) ∧ Rd H b (.lst zs) ∧ xs.length + zs.length ≤ sizeLine ∧ Q .non (upd H l (.lst (xs ++ zs)))) := by
  intro pins s σ H x vs v us Q I rx rv h
  obtain ⟨l, b, xs, zs, rfl, rfl, hH, hB, hz, q⟩ := h
  cases rx
  obtain ⟨u, rfl, ru⟩ := rv.one
  cases ru
  obtain ⟨z, its, n, r, hl, e⟩ := I.lstM hH
  obtain ⟨z2, its2, n2, r2, hl2, e2⟩ := I.lstR hB
  have hsz : its.toArray.size + its2.toArray.size ≤ sizeLine := by simp only [List.size_toArray]; omega
  have hlong : ¬ (!its.toArray.isEmpty && Builtin.List.listTooLong (its.toArray.size + its2.toArray.size)) = true := by rw [notLongL hsz, Bool.and_false]; decide
  refine call_meets PySem.F.slot_list_extend ⟨_, e, rfl⟩ PySem.F.entry_list_extend (PySem.F.args_list_extend_2 _ _) (AutoSeq1.list_extend_list_list_0 l its.toArray n b its2.toArray n2 hlong (by simp only [List.size_toArray]; omega) (by omega)) ⟨e, e2, ?_⟩
  exact ⟨.non, _, I.lset (its' := its ++ its2) hH e (by simp) (r.append r2) (by simp only [List.length_append]; omega), rfl, q⟩
/-- what is wanted of a new list: own: that it can be changed; else it is frozen at once -/
def QL (own : Bool) (Q : VK) : VK := if own then Q else fun v H1 => ∃ a xs, v = .ref a ∧ H1 a = some (.lst xs) ∧ ∀ o, Q v (upd H1 a (.frz o (.lst xs)))
theorem ql_ep {own : Bool} {Q : VK} {u : Value} (h : EP X pins σ (QL own Q) u s) : EP X pins σ Q u s := by
  cases own with
  | true => exact h
  | false =>
    obtain ⟨v, H', I, r, a, xs, rfl, ha, q⟩ := h
    obtain ⟨o, I'⟩ := I.lock ha trivial
    exact ⟨_, _, I', r, q o⟩
theorem ql {own : Bool} {Q : VK} {t : Sem Value} {s0 : Shared} {A : Around} {M : Model} {E : Value → Shared → Prop} (h : wpAny M A t (EP X pins σ (QL own Q)) E s0) : wpAny M A t (EP X pins σ Q) E s0 := thn h fun _ _ => ql_ep
end
end L2
namespace Pu
open PySem PySem.Spec PyProof.Rows L2

theorem line_eq : line = sizeLine := by rw [sizeLine_eq]; rfl
section
variable {K : PySem.W.Frag} {mg : Str → Option Value} {E : XK} {as : List Addr} {H : Hp} {S : Sto} {Q : VK}
theorem asInts_eq : ∀ {ds : List D} {ns : List Int}, asInts ds = some ns → ds = ns.map D.int
  | [], ns, h => by cases h; rfl
  | .int i :: r, ns, h => by
    have h : (asInts r).map (i :: ·) = some ns := h
    cases q : asInts r with
    | none => rw [q] at h; cases h
    | some ms => rw [q] at h; cases h; rw [asInts_eq q]; rfl
  | .non :: _, _, h | .bl _ :: _, _, h | .str _ :: _, _, h | .tup _ :: _, _, h | .ref _ :: _, _, h | .fz _ :: _, _, h | .fr _ :: _, _, h | .ptp _ :: _, _, h => by cases h
theorem asBools_eq : ∀ {ds : List D} {ns : List Bool}, asBools ds = some ns → ds = ns.map D.bl
  | [], ns, h => by cases h; rfl
  | .bl i :: r, ns, h => by
    have h : (asBools r).map (i :: ·) = some ns := h
    cases q : asBools r with
    | none => rw [q] at h; cases h
    | some ms => rw [q] at h; cases h; rw [asBools_eq q]; rfl
  | .non :: _, _, h | .int _ :: _, _, h | .str _ :: _, _, h | .tup _ :: _, _, h | .ref _ :: _, _, h | .fz _ :: _, _, h | .fr _ :: _, _, h | .ptp _ :: _, _, h => by cases h
theorem Reps.bls : ∀ {ns : List Bool} {vs : List V}, Reps K as H (ns.map D.bl) vs → vs = ns.map V.bl
  | [], _, h => h
  | n :: ns, vs, h => by
    obtain ⟨v, r, rfl, h2, h3⟩ := h
    have h2 : v = .bl n := h2
    rw [h2, Reps.bls h3]; rfl
theorem tls_ok (sim : Sim K as S H) {d : D} {xs : List D} {x : V} (h : tlsOf d S = some xs) (r : Rep K as H d x) : ∃ a vs, x = .ref a ∧ Rd H a (.lst vs) ∧ Reps K as H xs vs := by
  cases d with
  | fz ys =>
    cases h
    obtain ⟨a, vs, h1, h2, h3⟩ := r
    exact ⟨a, vs, h1, .inr h2, h3⟩
  | ref i =>
    simp only [tlsOf] at h
    obtain ⟨a, ha, hx⟩ := r
    obtain ⟨o, ho, hr⟩ := sim.has ha
    rw [ho] at h
    cases o with
    | lst ys =>
      cases h
      obtain ⟨vs, h1, h2⟩ := hr
      exact ⟨a, vs, hx, .inl h1, h2⟩
    | _ => cases h
  | _ => cases h
theorem lst_ok (sim : Sim K as S H) {d : D} {xs : List D} {x : V} (h : lstOf d S = some xs) (r : Rep K as H d x) : ∃ a vs, x = .ref a ∧ SqL K H a vs ∧ Reps K as H xs vs := by
  cases d with
  | fr ys =>
    cases h
    obtain ⟨a, vs, h1, h2, h3⟩ := r
    exact ⟨a, vs, h1, h2.sq, h3⟩
  | fz ys =>
    obtain ⟨a, vs, h1, h2, h3⟩ := tls_ok sim (show tlsOf (.fz ys) S = some xs from h) r
    exact ⟨a, vs, h1, .inl h2, h3⟩
  | ref i =>
    obtain ⟨a, vs, h1, h2, h3⟩ := tls_ok sim (show tlsOf (.ref i) S = some xs from h) r
    exact ⟨a, vs, h1, .inl h2, h3⟩
  | _ => cases h
theorem seq_ok (sim : Sim K as S H) {d : D} {xs : List D} {x : V} (h : seqOf d S = some xs) (r : Rep K as H d x) : ∃ a vs, x = .ref a ∧ (SqL K H a vs ∨ SqT K H a vs) ∧ Reps K as H xs vs := by
  cases d with
  | tup ys =>
    cases h
    obtain ⟨a, vs, h1, h2, h3⟩ := r
    exact ⟨a, vs, h1, .inr h2, h3⟩
  | ptp ys =>
    cases h
    obtain ⟨a, vs, h1, h2, h3⟩ := r
    exact ⟨a, vs, h1, .inr h2.sq, h3⟩
  | _ =>
    obtain ⟨a, vs, h1, h2, h3⟩ := lst_ok (xs := xs) sim (by simpa only [seqOf] using h) r
    exact ⟨a, vs, h1, .inl h2, h3⟩
/-- a new tuple; a new list -/
theorem fin_T {xs : List D} {vs : List V} (fin : Fin K mg E (Rep K) as H (newT xs S) Q) (sim : Sim K as S H) (r : Reps K as H xs vs) : vs.length ≤ sizeLine ∧ ∀ p, H p = none → Q (.ref p) (upd H p (.tup vs)) := by
  unfold newT at fin
  by_cases h : xs.length ≤ line
  · rw [if_pos h] at fin
    rw [line_eq] at h
    refine ⟨by rw [r.length]; exact h, fun p hp => fin as _ _ (Ext.fixed hp) (sim.fixed hp) ⟨p, vs, rfl, SqT.of upd_same, r.mono (Ext.fixed hp)⟩⟩
  · rw [if_neg h] at fin; exact fin.elim
theorem ext_frz {p : Addr} {o : HO} (hp : H p = none) : Ext as H as (upd H p o) := Ext.fixed hp
theorem fin_L {own : Bool} {xs : List D} {vs : List V} (fin : Fin K mg E (Rep K) as H (newL own xs S) Q) (sim : Sim K as S H) (r : Reps K as H xs vs) : vs.length ≤ sizeLine ∧ ∀ p, H p = none → QL own Q (.ref p) (upd H p (.lst vs)) := by
  unfold newL at fin
  by_cases h : xs.length ≤ line
  · rw [if_pos h] at fin
    rw [line_eq] at h
    refine ⟨by rw [r.length]; exact h, fun p hp => ?_⟩
    cases own with
    | true =>
      refine fin (as ++ [p]) _ _ (Ext.alloc hp) (sim.new hp ⟨vs, upd_same, r.mono (Ext.alloc hp)⟩) ⟨p, ?_, rfl⟩
      rw [← sim.len, List.getElem?_append_right (Nat.le_refl _)]
      simp
    | false =>
      refine ⟨p, vs, rfl, upd_same, fun o => ?_⟩
      rw [upd_upd]
      exact fin as _ _ (Ext.fixed hp) (sim.fixed hp) ⟨p, vs, rfl, ⟨o, upd_same⟩, r.mono (Ext.fixed hp)⟩
  · rw [if_neg h] at fin; exact fin.elim
theorem fin_U {own : Bool} {xs : List D} {vs : List V} (fin : Fin K mg E (Rep K) as H (newU own xs S) Q) (sim : Sim K as S H) (r : Reps K as H xs vs) : ∀ p, H p = none → QL own Q (.ref p) (upd H p (.lst vs)) := by
  unfold newU at fin
  intro p hp
  cases own with
  | true =>
    refine fin (as ++ [p]) _ _ (Ext.alloc hp) (sim.new hp ⟨vs, upd_same, r.mono (Ext.alloc hp)⟩) ⟨p, ?_, rfl⟩
    rw [← sim.len, List.getElem?_append_right (Nat.le_refl _)]
    simp
  | false =>
    refine ⟨p, vs, rfl, upd_same, fun o => ?_⟩
    rw [upd_upd]
    exact fin as _ _ (Ext.fixed hp) (sim.fixed hp) ⟨p, vs, rfl, ⟨o, upd_same⟩, r.mono (Ext.fixed hp)⟩
mutual
theorem py_ok {f : Nat → Option PyData} (hf : ∀ i p a, f i = some p → as[i]? = some a → Dp K H (.ref a) p) : ∀ {d : D} {p : PyData} {x : V}, toPyG f d = some p → Rep K as H d x → Dp K H x p
  | .non, p, x, h, r => by
    simp only [toPyG] at h; cases h
    have r : x = _ := r
    subst r; exact .non
  | .bl b, p, x, h, r => by
    simp only [toPyG] at h; cases h
    have r : x = _ := r
    subst r; exact .bl b
  | .int b, p, x, h, r => by
    simp only [toPyG] at h; cases h
    have r : x = _ := r
    subst r; exact .int b
  | .str b, p, x, h, r => by
    simp only [toPyG] at h; cases h
    have r : x = _ := r
    subst r; exact .str b
  | .tup ds, p, x, h, r => by
    simp only [toPyG] at h
    cases q : toPysG f ds with
    | none => rw [q] at h; cases h
    | some ps =>
      rw [q] at h; cases h
      obtain ⟨a, vs, rfl, h2, h3⟩ := r
      exact .tup h2 (pys_ok hf q h3)
  | .ptp ds, p, x, h, r => by
    simp only [toPyG] at h
    cases q : toPysG f ds with
    | none => rw [q] at h; cases h
    | some ps =>
      rw [q] at h; cases h
      obtain ⟨a, vs, rfl, h2, h3⟩ := r
      exact .tup h2.sq (pys_ok hf q h3)
  | .fz ds, p, x, h, r => by
    simp only [toPyG] at h
    cases q : toPysG f ds with
    | none => rw [q] at h; cases h
    | some ps =>
      rw [q] at h; cases h
      obtain ⟨a, vs, rfl, h2, h3⟩ := r
      exact .lst (.inl (.inr h2)) (pys_ok hf q h3)
  | .fr ds, p, x, h, r => by
    simp only [toPyG] at h
    cases q : toPysG f ds with
    | none => rw [q] at h; cases h
    | some ps =>
      rw [q] at h; cases h
      obtain ⟨a, vs, rfl, h2, h3⟩ := r
      exact .lst h2.sq (pys_ok hf q h3)
  | .ref i, p, x, h, r => by
    simp only [toPyG] at h
    obtain ⟨a, ha, rfl⟩ := r
    exact hf i p a h ha
theorem pys_ok {f : Nat → Option PyData} (hf : ∀ i p a, f i = some p → as[i]? = some a → Dp K H (.ref a) p) : ∀ {ds : List D} {ps : List PyData} {vs : List V}, toPysG f ds = some ps → Reps K as H ds vs → DpAll K H vs ps
  | [], ps, vs, h, r => by
    simp only [toPysG] at h; cases h
    have r : vs = [] := r
    subst r; exact .nil
  | d :: ds, ps, vs, h, r => by
    simp only [toPysG] at h
    obtain ⟨v, t, rfl, h2, h3⟩ := r
    cases q : toPyG f d with
    | none => rw [q] at h; cases h
    | some p =>
      cases q' : toPysG f ds with
      | none => rw [q, q'] at h; cases h
      | some ps' =>
        rw [q, q'] at h; cases h
        exact .cons (py_ok hf q h2) (pys_ok hf q' h3)
end
theorem toPy_ok (sim : Sim K as S H) {d : D} {p : PyData} {x : V} (h : toPy S d = some p) (r : Rep K as H d x) : Dp K H x p := by
  refine py_ok (fun i p a hi ha => ?_) h r
  unfold deref at hi
  obtain ⟨o, ho, hr⟩ := sim.has ha
  rw [ho] at hi
  cases o with
  | lst xs =>
    simp only at hi
    cases q : toPys0 xs with
    | none => rw [q] at hi; cases hi
    | some ps =>
      rw [q] at hi; cases hi
      obtain ⟨vs, h1, h2⟩ := hr
      exact .lst (SqL.of h1) (pys_ok (fun _ _ _ z => by cases z) q h2)
  | _ => cases hi
end

/-! ## operators -/
def rD2 (K : PySem.W.Frag) (mg : Str → Option Value) (E : XK) (g : D → D → M D) : R2 := fun x y H Q => ∃ as S d e, Sim K as S H ∧ Rep K as H d x ∧ Rep K as H e y ∧ Fin K mg E (Rep K) as H (g d e S) Q
section
variable {X : Cx} {mg : Str → Option Value} {E : XK}
theorem or_cat (own : Bool) : OpR X (binaryOp .Add) (rD2 X.K mg E (catM own)) := by
  intro pins s σ H x y v u Q I rx ry h
  obtain ⟨as, S, d, e, sim, hd, he, fin⟩ := h
  have gen : ∀ xs ys, tlsOf d S = some xs → tlsOf e S = some ys → Fin X.K mg E (Rep X.K) as H (newL own (xs ++ ys) S) Q → wpAny (model X.prog X.w) X.A (binaryOp .Add v u) (EP X pins σ Q) X.xe s := fun xs ys h1 h2 f => by
    obtain ⟨a, vs, rfl, ha, r1⟩ := tls_ok sim h1 hd
    obtain ⟨b, us, rfl, hb, r2⟩ := tls_ok sim h2 he
    obtain ⟨hz, q⟩ := fin_L f sim (r1.append r2)
    exact ql (own := own) (op_catR pins s σ H _ _ v u _ I rx ry ⟨a, b, vs, us, rfl, rfl, ha, hb, by rw [← List.length_append]; exact hz, q⟩)
  unfold catM at fin
  split at fin
  · cases hd; cases he
    exact op_add pins s σ H _ _ v u Q I rx ry ⟨_, _, rfl, rfl, fin.ret sim rfl⟩
  · obtain ⟨a, vs, ex, ha, r1⟩ := id hd
    obtain ⟨b, us, ey, hb, r2⟩ := id he
    cases own with
    | true => exact cat_plain true I rx ry sim hd he ex ha r1 ey hb r2 fin
    | false =>
      subst ex; subst ey
      dsimp only at fin
      have hz : vs.length + us.length ≤ sizeLine := by
        have := (fin_T fin sim (r1.append r2)).1
        rw [List.length_append] at this; exact this
      have fin2 := fin
      unfold newT at fin
      rw [if_pos (by rw [line_eq, ← (r1.append r2).length, List.length_append]; exact hz)] at fin
      refine op_catA pins s σ H _ _ v u Q I rx ry ⟨a, b, vs, us, rfl, rfl, ha, hb, hz, fun e => ?_, fun _ e => ?_, fun _ _ p hp => (fin_T fin2 sim (r1.append r2)).2 p hp⟩
      · subst e
        exact fin.ret sim ⟨b, us, rfl, hb, r1.append r2⟩
      · subst e
        refine fin.ret sim ⟨a, vs, rfl, ha, ?_⟩
        have := r1.append r2
        rw [List.append_nil] at this; exact this
  · split at fin
    · rename_i h
      cases hd; cases he
      rw [line_eq] at h
      exact op_add_str pins s σ H _ _ v u Q I rx ry ⟨_, _, rfl, rfl, h, fin.ret sim rfl⟩
    · exact fin.elim
  · obtain ⟨a, vs, ex, ha, r1⟩ := id hd
    obtain ⟨b, us, ey, hb, r2⟩ := id he
    exact cat_plain own I rx ry sim hd he ex ha.sq r1 ey hb r2 fin
  · obtain ⟨a, vs, ex, ha, r1⟩ := id hd
    obtain ⟨b, us, ey, hb, r2⟩ := id he
    exact cat_plain own I rx ry sim hd he ex ha r1 ey hb.sq r2 fin
  · obtain ⟨a, vs, ex, ha, r1⟩ := id hd
    obtain ⟨b, us, ey, hb, r2⟩ := id he
    exact cat_plain own I rx ry sim hd he ex ha.sq r1 ey hb.sq r2 fin
  · split at fin
    · rename_i h1 h2
      exact gen _ _ h1 h2 fin
    · exact fin.elim
theorem or_rep (own : Bool) : OpR X (binaryOp .Mult) (rD2 X.K mg E (repM own)) := by
  intro pins s σ H x y v u Q I rx ry h
  obtain ⟨as, S, d, e, sim, hd, he, fin⟩ := h
  have repR : ∀ {ds : List D} {vs : List V} (k : Nat), Reps X.K as H ds vs → Reps X.K as H (List.replicate k ds).flatten (List.replicate k vs).flatten := fun {ds vs} k r => by
    induction k with
    | zero => exact Reps.nil
    | succ k ih =>
      rw [List.replicate_succ, List.replicate_succ, List.flatten_cons, List.flatten_cons]
      exact r.append ih
  unfold repM at fin
  split at fin
  · obtain ⟨h, fin⟩ := Fin.chk fin
    cases hd; cases he
    exact op_mul pins s σ H _ _ v u Q I rx ry ⟨_, _, rfl, rfl, (by unfold CMul; omega), Fin.ret fin sim rfl⟩
  · split at fin
    · rename_i h
      obtain ⟨h1, h2, h3, h4⟩ := h
      obtain ⟨a, vs, rfl, ha, r1⟩ := hd
      cases he
      refine op_repT pins s σ H _ _ v u Q I rx ry ⟨a, _, vs, rfl, rfl, ha, fun z => h1 ?_, h2, h3, by rw [r1.length]; exact h4, fun p hp => ?_⟩
      · subst z
        have := r1.length
        exact List.length_eq_zero_iff.mp this.symm
      · exact fin as _ _ (Ext.fixed hp) (sim.fixed hp) ⟨p, _, rfl, SqT.of upd_same, (repR _ r1).mono (Ext.fixed hp)⟩
    · exact fin.elim
  · rename_i k _ _
    split at fin
    · rename_i xs hx
      obtain ⟨hk, fin⟩ := Fin.chk fin
      obtain ⟨a, vs, rfl, ha, r1⟩ := tls_ok sim hx hd
      cases he
      obtain ⟨hz, q⟩ := fin_L fin sim (repR k.toNat r1)
      refine ql (own := own) (op_repR pins s σ H _ _ v u _ I rx ry ⟨a, k, vs, rfl, rfl, ha, by omega, by omega, ?_, q⟩)
      have : (List.replicate k.toNat vs).flatten.length = vs.length * k.toNat := by simp [Nat.mul_comm]
      rw [← this]; exact hz
    · exact fin.elim
  · exact fin.elim
theorem or_sub : OpR X (binaryOp .Sub) (rD2 X.K mg E (binM .Sub)) := by
  intro pins s σ H x y v u Q I rx ry h
  obtain ⟨as, S, d, e, sim, hd, he, fin⟩ := h
  cases d <;> cases e <;> first | exact fin.elim | (cases hd; cases he; exact op_sub pins s σ H _ _ v u Q I rx ry ⟨_, _, rfl, rfl, Fin.ret fin sim rfl⟩)
theorem or_mod : OpR X (binaryOp .Mod) (rD2 X.K mg E (binM .Mod)) := by
  intro pins s σ H x y v u Q I rx ry h
  obtain ⟨as, S, d, e, sim, hd, he, fin⟩ := h
  cases d <;> cases e <;> first | exact fin.elim | skip
  rename_i i j
  cases hd; cases he
  simp only [binM] at fin
  obtain ⟨h, fin⟩ := Fin.chk fin
  exact op_mod pins s σ H _ _ v u Q I rx ry ⟨_, _, rfl, rfl, h, Fin.ret fin sim rfl⟩
theorem or_fdiv : OpR X (binaryOp .FloorDiv) (rD2 X.K mg E (binM .FloorDiv)) := by
  intro pins s σ H x y v u Q I rx ry h
  obtain ⟨as, S, d, e, sim, hd, he, fin⟩ := h
  cases d <;> cases e <;> first | exact fin.elim | skip
  rename_i i j
  cases hd; cases he
  simp only [binM] at fin
  obtain ⟨h, fin⟩ := Fin.chk fin
  exact op_fdiv pins s σ H _ _ v u Q I rx ry ⟨_, _, rfl, rfl, h, Fin.ret fin sim rfl⟩
theorem or_pow : OpR X (binaryOp .Pow) (rD2 X.K mg E (binM .Pow)) := by
  intro pins s σ H x y v u Q I rx ry h
  obtain ⟨as, S, d, e, sim, hd, he, fin⟩ := h
  cases d <;> cases e <;> first | exact fin.elim | skip
  rename_i i j
  cases hd; cases he
  simp only [binM] at fin
  obtain ⟨h, fin⟩ := Fin.chk fin
  exact op_pow pins s σ H _ _ v u Q I rx ry ⟨_, _, rfl, rfl, ⟨h.1, h.2.1, by omega⟩, Fin.ret fin sim rfl⟩
theorem ur_neg : UnR X (unaryOp .USub) (fun x H Q => ∃ as S d, Sim X.K as S H ∧ Rep X.K as H d x ∧ Fin X.K mg E (Rep X.K) as H (negM d S) Q) := by
  intro pins s σ H x v Q I rx h
  obtain ⟨as, S, d, sim, hd, fin⟩ := h
  cases d <;> first | exact fin.elim | skip
  cases hd
  exact un_neg pins s σ H _ v Q I rx ⟨_, rfl, Fin.ret fin sim rfl⟩

/-! ## comparisons -/
theorem or_eqG (hu : X.A.units + 64 < cLine) : OpR X (compareOp .Eq) (rD2 X.K mg E (eqM false)) := by
  intro pins s σ H x y v u Q I rx ry h
  obtain ⟨as, S, d, e, sim, hd, he, fin⟩ := h
  simp only [eqM] at fin
  split at fin
  · rename_i p q h1 h2
    split at fin
    · rename_i hs
      rw [Bool.and_eq_true] at hs
      exact op_eqD hu pins s σ H _ _ v u Q I rx ry ⟨p, q, toPy_ok sim h1 hd, toPy_ok sim h2 he, hs.1, hs.2, fin.ret sim rfl⟩
    · exact fin.elim
  · exact fin.elim
theorem or_neG (hu : X.A.units + 64 < cLine) : OpR X (compareOp .NotEq) (rD2 X.K mg E (eqM true)) := by
  intro pins s σ H x y v u Q I rx ry h
  obtain ⟨as, S, d, e, sim, hd, he, fin⟩ := h
  simp only [eqM] at fin
  split at fin
  · rename_i p q h1 h2
    split at fin
    · rename_i hs
      rw [Bool.and_eq_true] at hs
      exact op_neD hu pins s σ H _ _ v u Q I rx ry ⟨p, q, toPy_ok sim h1 hd, toPy_ok sim h2 he, hs.1, hs.2, fin.ret sim rfl⟩
    · exact fin.elim
  · exact fin.elim
theorem flat_ok {K : PySem.W.Frag} {as : List Addr} {H : Hp} {d : D} {x : V} (r : Rep K as H d x) (h : flatD d = true) : flatV x = true := by
  cases d <;> first | (cases r; rfl) | (simp [flatD] at h)
theorem flats_ok {K : PySem.W.Frag} {as : List Addr} {H : Hp} : ∀ {ds : List D} {xs : List V}, Reps K as H ds xs → ds.all flatD = true → xs.all flatV = true
  | [], xs, r, _ => by have r : xs = [] := r; subst r; rfl
  | d :: ds, xs, r, h => by
    obtain ⟨v, t, rfl, h2, h3⟩ := r
    rw [List.all_cons, Bool.and_eq_true] at h
    rw [List.all_cons, flat_ok h2 h.1, flats_ok h3 h.2]; rfl
theorem eqF_ok {K : PySem.W.Frag} {as : List Addr} {H : Hp} {d e : D} {x y : V} (r : Rep K as H d x) (q : Rep K as H e y) (h : flatD d = true) (h' : flatD e = true) : eqV x y = eqF d e := by
  cases d <;> first | (simp [flatD] at h; done) | (cases e <;> first | (simp [flatD] at h'; done) | (cases r; cases q; rfl))
theorem inF_ok {K : PySem.W.Frag} {as : List Addr} {H : Hp} {d : D} {x : V} (r : Rep K as H d x) (h : flatD d = true) : ∀ {ds : List D} {xs : List V}, Reps K as H ds xs → ds.all flatD = true → inV x xs = ds.any fun y => eqF y d
  | [], xs, q, _ => by have q : xs = [] := q; subst q; rfl
  | e :: ds, xs, q, h' => by
    obtain ⟨v, t, rfl, h2, h3⟩ := q
    rw [List.all_cons, Bool.and_eq_true] at h'
    have ih := inF_ok r h h3 h'.2
    unfold inV at ih ⊢
    rw [List.any_cons, List.any_cons, eqF_ok h2 r h'.1 h, ih]
theorem op_inT (hu : X.A.units + 65 < cLine) : OpR X (compareOp .In) (fun x y H Q => ∃ d ds, Dp X.K H x d ∧ Dp X.K H y (.tuple ds) ∧ SeqAt.shaped d = true ∧ SeqAt.shaped (.tuple ds) = true ∧ Q (.bl (ds.any fun z => PyData.eqv z d)) H) := by
  intro pins s σ H x y v u Q I rx ry h
  obtain ⟨d, ds, hd, he, sd, se, q⟩ := h
  obtain ⟨as, r1⟩ := Dp.reads I d x v hd rx
  obtain ⟨bs, r2⟩ := Dp.reads I (.tuple ds) y u he ry
  exact SeqAt.in_tuple_reads r2 r1 (SeqAt.canLay_of_shaped se) (SeqAt.canLay_of_shaped sd) (room_in_shaped sd hu) ⟨.bl _, H, I, rfl, q⟩
theorem op_notInT (hu : X.A.units + 65 < cLine) : OpR X (compareOp .NotIn) (fun x y H Q => ∃ d ds, Dp X.K H x d ∧ Dp X.K H y (.tuple ds) ∧ SeqAt.shaped d = true ∧ SeqAt.shaped (.tuple ds) = true ∧ Q (.bl (!ds.any fun z => PyData.eqv z d)) H) := by
  intro pins s σ H x y v u Q I rx ry h
  obtain ⟨d, ds, hd, he, sd, se, q⟩ := h
  obtain ⟨as, r1⟩ := Dp.reads I d x v hd rx
  obtain ⟨bs, r2⟩ := Dp.reads I (.tuple ds) y u he ry
  exact SeqAt.notIn_tuple_reads r2 r1 (SeqAt.canLay_of_shaped se) (SeqAt.canLay_of_shaped sd) (room_in_shaped sd hu) ⟨.bl _, H, I, rfl, q⟩
theorem or_in (hu : X.A.units + 65 < cLine) : OpR X (compareOp .In) (rD2 X.K mg E (inM false)) := by
  intro pins s σ H x y v u Q I rx ry h
  obtain ⟨as, S, d, e, sim, hd, he, fin⟩ := h
  have deep : Fin X.K mg E (Rep X.K) as H (inDeep false d e S) Q → wpAny (model X.prog X.w) X.A (compareOp .In v u) (EP X pins σ Q) X.xe s := fun fin => by
    unfold inDeep at fin
    split at fin
    · rename_i p qs h1 h2
      split at fin
      · rename_i hs
        rw [Bool.and_eq_true] at hs
        exact op_inD hu pins s σ H _ _ v u Q I rx ry ⟨p, qs, toPy_ok sim h1 hd, toPy_ok sim h2 he, hs.1, hs.2, fin.ret sim rfl⟩
      · exact fin.elim
    · rename_i p qs h1 h2
      split at fin
      · rename_i hs
        rw [Bool.and_eq_true] at hs
        exact op_inT hu pins s σ H _ _ v u Q I rx ry ⟨p, qs, toPy_ok sim h1 hd, toPy_ok sim h2 he, hs.1, hs.2, fin.ret sim rfl⟩
      · exact fin.elim
    · exact fin.elim
  simp only [inM] at fin
  split at fin
  · split at fin
    · rename_i hs
      rw [Bool.and_eq_true] at hs
      obtain ⟨a, vs, rfl, ha, r1⟩ := he
      refine op_in_seq pins s σ H _ _ v u Q I rx ry ⟨a, vs, rfl, .inr ha, flat_ok hd hs.1, flats_ok r1 hs.2, ?_⟩
      rw [inF_ok hd hs.1 r1 hs.2]
      exact fin.ret sim rfl
    · exact deep fin
  · split at fin
    · rename_i hs
      rw [Bool.and_eq_true] at hs
      obtain ⟨a, vs, rfl, ha, r1⟩ := he
      refine op_in_seq pins s σ H _ _ v u Q I rx ry ⟨a, vs, rfl, .inr ha.sq, flat_ok hd hs.1, flats_ok r1 hs.2, ?_⟩
      rw [inF_ok hd hs.1 r1 hs.2]
      exact fin.ret sim rfl
    · exact deep fin
  · exact deep fin
theorem or_notIn (hu : X.A.units + 65 < cLine) : OpR X (compareOp .NotIn) (rD2 X.K mg E (inM true)) := by
  intro pins s σ H x y v u Q I rx ry h
  obtain ⟨as, S, d, e, sim, hd, he, fin⟩ := h
  have deep : Fin X.K mg E (Rep X.K) as H (inDeep true d e S) Q → wpAny (model X.prog X.w) X.A (compareOp .NotIn v u) (EP X pins σ Q) X.xe s := fun fin => by
    unfold inDeep at fin
    split at fin
    · rename_i p qs h1 h2
      split at fin
      · rename_i hs
        rw [Bool.and_eq_true] at hs
        exact op_notInD hu pins s σ H _ _ v u Q I rx ry ⟨p, qs, toPy_ok sim h1 hd, toPy_ok sim h2 he, hs.1, hs.2, fin.ret sim rfl⟩
      · exact fin.elim
    · rename_i p qs h1 h2
      split at fin
      · rename_i hs
        rw [Bool.and_eq_true] at hs
        exact op_notInT hu pins s σ H _ _ v u Q I rx ry ⟨p, qs, toPy_ok sim h1 hd, toPy_ok sim h2 he, hs.1, hs.2, fin.ret sim rfl⟩
      · exact fin.elim
    · exact fin.elim
  simp only [inM] at fin
  split at fin
  · split at fin
    · rename_i hs
      rw [Bool.and_eq_true] at hs
      obtain ⟨a, vs, rfl, ha, r1⟩ := he
      refine op_notIn_seq pins s σ H _ _ v u Q I rx ry ⟨a, vs, rfl, .inr ha, flat_ok hd hs.1, flats_ok r1 hs.2, ?_⟩
      rw [inF_ok hd hs.1 r1 hs.2]
      exact fin.ret sim rfl
    · exact deep fin
  · split at fin
    · rename_i hs
      rw [Bool.and_eq_true] at hs
      obtain ⟨a, vs, rfl, ha, r1⟩ := he
      refine op_notIn_seq pins s σ H _ _ v u Q I rx ry ⟨a, vs, rfl, .inr ha.sq, flat_ok hd hs.1, flats_ok r1 hs.2, ?_⟩
      rw [inF_ok hd hs.1 r1 hs.2]
      exact fin.ret sim rfl
    · exact deep fin
  · exact deep fin
theorem or_lt (hu : X.A.units < cLine) : OpR X (compareOp .Lt) (rD2 X.K mg E ltM) := by
  intro pins s σ H x y v u Q I rx ry h
  obtain ⟨as, S, d, e, sim, hd, he, fin⟩ := h
  unfold ltM at fin
  split at fin
  · cases hd; cases he
    exact op_lt pins s σ H _ _ v u Q I rx ry ⟨_, _, rfl, rfl, fin.ret sim rfl⟩
  · split at fin
    · rename_i h1 h2
      obtain ⟨a, vs, rfl, ha, r1⟩ := hd
      obtain ⟨b, us, rfl, hb, r2⟩ := he
      rw [asInts_eq h1] at r1
      rw [asInts_eq h2] at r2
      rw [r1.ints] at ha
      rw [r2.ints] at hb
      exact op_ltT hu pins s σ H _ _ v u Q I rx ry ⟨a, b, _, _, rfl, rfl, ha, hb, fin.ret sim rfl⟩
    · exact fin.elim
  · exact fin.elim
theorem or_isN : OpR X (compareOp .Is) (rD2 X.K mg E (isM false)) := by
  intro pins s σ H x y v u Q I rx ry h
  obtain ⟨as, S, d, e, sim, hd, he, fin⟩ := h
  simp only [isM] at fin
  split at fin
  · cases he
    refine op_isN pins s σ H _ _ v u Q I rx ry ⟨rfl, ?_⟩
    cases d <;> first | (obtain ⟨a, vs, rfl, _⟩ := hd; exact fin.ret sim rfl) | (obtain ⟨a, _, rfl⟩ := hd; exact fin.ret sim rfl) | (cases hd; exact fin.ret sim rfl)
  · split at fin
    · cases he; cases hd
      cases rx; cases ry
      exact PyProof.Rows.is_bool (fin_bl I (fin.ret sim rfl) rfl)
    · exact fin.elim
  · exact fin.elim
theorem or_notN : OpR X (compareOp .IsNot) (rD2 X.K mg E (isM true)) := by
  intro pins s σ H x y v u Q I rx ry h
  obtain ⟨as, S, d, e, sim, hd, he, fin⟩ := h
  simp only [isM] at fin
  split at fin
  · cases he
    refine op_notN pins s σ H _ _ v u Q I rx ry ⟨rfl, ?_⟩
    cases d <;> first | (obtain ⟨a, vs, rfl, _⟩ := hd; exact fin.ret sim rfl) | (obtain ⟨a, _, rfl⟩ := hd; exact fin.ret sim rfl) | (cases hd; exact fin.ret sim rfl)
  · split at fin
    · cases he; cases hd
      cases rx; cases ry
      exact PyProof.Rows.isnot_bool (fin_bl I (fin.ret sim rfl) rfl)
    · exact fin.elim
  · exact fin.elim
theorem or_cmp (hu : X.A.units + 65 < cLine) (op : CmpOp) : OpR X (compareOp op) (rD2 X.K mg E (cmpM op)) := by
  intro pins s σ H x y v u Q I rx ry h
  obtain ⟨as, S, d, e, sim, hd, he, fin⟩ := h
  unfold cmpM at fin
  split at fin
  · exact or_lt (by omega) pins s σ H _ _ v u Q I rx ry ⟨as, S, _, _, sim, hd, he, fin⟩
  · cases hd; cases he
    exact op_le pins s σ H _ _ v u Q I rx ry ⟨_, _, rfl, rfl, Fin.ret fin sim rfl⟩
  · cases hd; cases he
    exact op_gt pins s σ H _ _ v u Q I rx ry ⟨_, _, rfl, rfl, Fin.ret fin sim rfl⟩
  · cases hd; cases he
    exact op_ge pins s σ H _ _ v u Q I rx ry ⟨_, _, rfl, rfl, Fin.ret fin sim rfl⟩
  · cases hd; cases he
    refine op_eq pins s σ H _ _ v u Q I rx ry ⟨rfl, ?_⟩
    rename_i i j
    have : decide (V.int i = V.int j) = decide (i = j) := by simp
    rw [this]
    exact Fin.ret fin sim rfl
  · cases hd; cases he
    refine op_ne pins s σ H _ _ v u Q I rx ry ⟨rfl, ?_⟩
    rename_i i j
    have : decide (V.int i = V.int j) = decide (i = j) := by simp
    rw [this]
    exact Fin.ret fin sim rfl
  · exact or_eqG (by omega) pins s σ H _ _ v u Q I rx ry ⟨as, S, _, _, sim, hd, he, fin⟩
  · exact or_neG (by omega) pins s σ H _ _ v u Q I rx ry ⟨as, S, _, _, sim, hd, he, fin⟩
  · exact or_isN pins s σ H _ _ v u Q I rx ry ⟨as, S, _, _, sim, hd, he, fin⟩
  · exact or_notN pins s σ H _ _ v u Q I rx ry ⟨as, S, _, _, sim, hd, he, fin⟩
  · exact or_in hu pins s σ H _ _ v u Q I rx ry ⟨as, S, _, _, sim, hd, he, fin⟩
  · exact or_notIn hu pins s σ H _ _ v u Q I rx ry ⟨as, S, _, _, sim, hd, he, fin⟩
  · exact fin.elim
end
end Pu

namespace HT
open PySem PyProof.Rows
section
variable {prog : Program} {w : World} {A : Around} {E : Value → Shared → Prop} {s : Shared}
theorem places_back (n : Nat) : Builtin.Slice.slicePlaces ((n : Int) - 1) (-1) (-1) = n := by
  unfold Builtin.Slice.slicePlaces
  have h1 : ¬ ((-1 : Int) > 0) := by omega
  simp only [h1, if_false]
  split
  · rename_i h
    first
      | omega
      | (rw [show (- (-1 : Int)) = 1 by decide, Int.ediv_one]; omega)
      | (simp; omega)
  · omega
theorem adjust_back (n : Nat) : Builtin.Slice.sliceAdjust none none (-1) (n : Int) = ((n : Int) - 1, -1) := by
  have h1 : ((-1 : Int) < 0) := by omega
  unfold Builtin.Slice.sliceAdjust
  simp only [h1, if_true]
theorem sliceApplied_back {sl : Addr} {vl vu vs : Value} {n : Nat} {Q : Int × Int × Nat → Shared → Prop} (hs : s.heap.IsSliceOf sl vl vu vs) (pl : IsPart vl none) (pu : IsPart vu none) (ps : IsPart vs (some (-1)))
    (h : Q ((n : Int) - 1, -1, n) s) : wpAny (model prog w) A (Builtin.Slice.sliceApplied (.ref sl) (pure (n : Int))) Q E s := by
  obtain ⟨os, hos, hcs, hds⟩ := id hs
  unfold Builtin.Slice.sliceApplied Builtin.Slice.sliceFields
  refine wpAny_bind (wpAny_bind (wpAny_field hos hds (x := vl) rfl (wpAny_bind (wpAny_field hos hds (x := vu) rfl (wpAny_bind (wpAny_field hos hds (x := vs) rfl (wpAny_pure ?_)))))))
  refine wpAny_bind (slicePart_ ps ?_)
  show wpAny _ _ (if ((-1 : Int) == 0) = true then _ else _) _ _ s
  rw [if_neg (by decide)]
  refine wpAny_bind (slicePart_ pl (wpAny_bind (slicePart_ pu (wpAny_bind (wpAny_pure ?_)))))
  show wpAny _ _ (match Builtin.Slice.sliceAdjust none none (-1) (n : Int) with | (lo, hi) => pure (lo, (-1 : Int), Builtin.Slice.slicePlaces lo hi (-1))) _ _ s
  rw [adjust_back n]
  show wpAny _ _ (pure ((n : Int) - 1, (-1 : Int), Builtin.Slice.slicePlaces ((n : Int) - 1) (-1) (-1))) _ _ s
  rw [places_back]
  exact wpAny_pure h
theorem pick_back (xs : Array Value) : ((List.range xs.size).filterMap fun (m : Nat) => xs[(((xs.size : Int) - 1) + (m : Int) * (-1)).toNat]?).toArray = xs.toList.reverse.toArray := by
  congr 1
  apply List.ext_getElem?
  intro i
  have e : ∀ (l : List Nat), (∀ m ∈ l, m < xs.size) → l.filterMap (fun (m : Nat) => xs[(((xs.size : Int) - 1) + (m : Int) * (-1)).toNat]?) = l.map fun m => xs.toList.reverse.getD m .none := by
    intro l
    induction l with
    | nil => intro _; rfl
    | cons a l ih =>
      intro h
      have ha : a < xs.size := h a List.mem_cons_self
      have e1 : (((xs.size : Int) - 1) + (a : Int) * (-1)).toNat = xs.size - 1 - a := by omega
      have e2 : xs[xs.size - 1 - a]? = some (xs.toList.reverse.getD a .none) := by
        rw [List.getD_eq_getElem?_getD, List.getElem?_reverse (by simpa using ha)]
        have h3 : xs.size - 1 - a < xs.size := by omega
        rw [show xs.toList.length = xs.size by simp, Array.getElem?_toList, Array.getElem?_eq_getElem h3]
        rfl
      rw [List.filterMap_cons, e1, e2, List.map_cons, ih fun m hm => h m (List.mem_cons_of_mem _ hm)]
  rw [e _ fun m hm => List.mem_range.mp hm]
  by_cases hi : i < xs.size
  · rw [List.getElem?_map, List.getElem?_range hi]
    have h4 : i < xs.toList.reverse.length := by simpa using hi
    rw [List.getElem?_eq_getElem h4]
    show some (xs.toList.reverse.getD i .none) = _
    rw [List.getD_eq_getElem?_getD, List.getElem?_eq_getElem h4]
    rfl
  · rw [List.getElem?_eq_none (by simp; omega), List.getElem?_eq_none (by simp; omega)]
theorem getItem_tuple_back {t sl : Addr} {items : Array Value} {vl vu vs : Value} {Q : Value → Shared → Prop} (ht : IsTup s.heap t items) (hs : s.heap.IsSliceOf sl vl vu vs) (pl : IsPart vl none) (pu : IsPart vu none) (ps : IsPart vs (some (-1)))
    (h : Q (.ref s.heap.objs.size) { s with heap := s.heap.push { cls := .type "tuple", data := .seq items.toList.reverse.toArray } })
    (hsz : items.size ≤ sizeLine) : wpAny (model prog w) A (getItem (.ref t) (.ref sl)) Q E s := by
  have htake : sizeOk (.seq items.toList.reverse.toArray) := by
    show items.toList.reverse.toArray.size ≤ sizeLine
    simp; omega
  obtain ⟨os, hos, hcs, hds⟩ := id hs
  have hTs : s.TypeIs (.ref sl) "slice" := ⟨os, hos, hcs⟩
  unfold getItem
  try with_reducible refine wpAny_holding ?_
  first | refine wpAny_bind (wpAny_pure ?_) | skip
  refine wpAny_bind (wpAny_sequenceKey ht.typeIs (by decide) ?_)
  refine wpAny_bind (wpAny_callSpecial?_slot (name := Str.ofString "__getitem__") ht.typeIs PyProof.Rows.slot_tuple_getitem
    (wpAny_call_entry PyProof.Rows.slot_tuple_getitem ht.typeIs entry_tuple_getitem ?_ (args_tuple_getitem _ _)))
  show wpAny _ _ (Builtin.Tuple.tupleItemsOf (.ref t) >>= _) _ _ s
  refine wpAny_bind (tupleItemsOf_ ht ?_)
  refine wpAny_bind (wpAny_typeOf hTs ?_)
  rw [if_pos (by decide)]
  refine wpAny_bind (sliceApplied_back (n := items.size) hs pl pu ps ?_)
  have hno : ¬ ((((items.size : Int) - 1) == 0 && (-1 : Int) == 1 && items.size == items.size) = true) := by
    intro q
    rw [Bool.and_eq_true, Bool.and_eq_true] at q
    exact absurd q.1.2 (by decide)
  show wpAny _ _ (if (((items.size : Int) - 1) == 0 && (-1 : Int) == 1 && items.size == items.size) = true then _ else _) _ _ s
  rw [if_neg hno, pick_back]
  first
    | exact wpAny_bind (m := Builtin.Tuple.tupleExact _) (wpAny_newObj_type (wpAny_pure ⟨_, rfl, wpAny_pure h⟩) htake)
    | exact wpAny_bind (m := Builtin.Tuple.tupleExact _) (wpAny_newObj_type (wpAny_bind (wpAny_pure (wpAny_pure ⟨_, rfl, wpAny_pure h⟩))) htake)
    | exact wpAny_bind (wpAny_bind (m := Builtin.Tuple.tupleExact _) (wpAny_newObj_type (wpAny_pure (wpAny_pure ⟨_, rfl, wpAny_pure h⟩)) htake))
    | exact wpAny_bind (wpAny_bind (m := Builtin.Tuple.tupleExact _) (wpAny_newObj_type (wpAny_pure ⟨_, rfl, wpAny_pure h⟩) htake))
end
end HT
namespace L2
open PySem PySem.Spec PyProof.Rows
/-- e[::-1], a list's or a tuple's -/
def tRevA (K : PySem.W.Frag) (te : TE) : TE := fun σ H Q => te σ H fun x H1 => ∃ a xs, x = .ref a ∧
  ((SqL K H1 a xs ∧ ∀ p, H1 p = none → Q (.ref p) (upd H1 p (.lst xs.reverse))) ∨ (SqT K H1 a xs ∧ ∀ p, H1 p = none → Q (.ref p) (upd H1 p (.tup xs.reverse))))
theorem pe_revA {X : Cx} {e : Expr} {te : TE} {k : Nat} {p1 p2 p3 pos : Pos} (he : PE X e te) : PE X (.Subscript e (.Slice none none (some (.UnaryOp .USub (.Constant (.int 1) k p1) p2)) p3) pos) (tRevA X.K te) := by
  refine ⟨fun pins s σ H Q I h => ?_⟩
  refine Subscript_ (thn (he.run pins s σ H _ I h) fun v s1 ⟨x, H1, I1, r1, q1⟩ => ?_)
  obtain ⟨a, xs, ex, hx⟩ := q1
  subst ex
  cases r1
  have hst : PO X (some (.UnaryOp .USub (.Constant (.int 1) k p1) p2)) (tPart (tUn (rU fun i => .int (-i)) (tC (.int 1)))) := po_some (pe_un un_neg pe_int)
  refine wpAny_Slice (thn (po_none.run pins s1 σ H1 (fun o H2 => o = none ∧ H2 = H1) I1 ⟨rfl, rfl⟩) fun vl s2 ⟨l, H2, I2, pl, el, e2⟩ => ?_)
  subst el e2
  refine thn (po_none.run pins s2 σ H2 (fun o H3 => o = none ∧ H3 = H2) I2 ⟨rfl, rfl⟩) fun vu s3 ⟨u, H3, I3, pu, eu, e3⟩ => ?_
  subst eu e3
  refine thn (hst.run pins s3 σ H3 (fun o H4 => o = some (-1) ∧ H4 = H3) I3 ⟨1, rfl, -1, rfl, rfl, rfl⟩) fun vs s4 ⟨o, H4, I4, ps, eo, e4⟩ => ?_
  subst eo e4
  have I5 : Inv X pins σ H4 { s4 with heap := s4.heap.push { cls := .type "slice", data := .fields #[vl, vu, vs] } } := I4.kept (t' := s4.toks) fun b ob q => Heap.get?_push_of_some _ q
  show wpAny (model X.prog X.w) X.A (subscriptTail e (.Slice none none (some (.UnaryOp .USub (.Constant (.int 1) k p1) p2)) p3) (.ref a) (.ref s4.heap.objs.size)) (EP X pins σ Q) X.xe { s4 with heap := s4.heap.push { cls := .type "slice", data := .fields #[vl, vu, vs] } }
  rcases hx with ⟨hx, q⟩ | ⟨hx, q⟩
  · obtain ⟨its, r, ht, hz⟩ := I5.list hx
    have hlen := r.length
    refine tail_any (ops := [.ref a, .ref s4.heap.objs.size]) ht.isList.typeIs (PySem.slot_list_getitem.lookup) ?_ (by with_unfolding_all rfl)
    refine wpAny_getItem_list_slice ht.isList (Heap.IsSliceOf.new _ vl vu vs) pl pu ps (by decide) ?_ (by rw [List.size_toArray]; omega)
    rw [PySem.W.krv_pick]
    refine ⟨.ref _, _, I5.laid (t' := s4.toks) (o := .lst xs.reverse) (fun b ob q => Heap.get?_push_of_some _ q) (Nat.le_refl _) ?_, rfl, q _ (I5.hok.fresh (Nat.le_refl _))⟩
    exact ⟨by rw [List.length_reverse]; exact hz, _, 0, r.reverse, Heap.get?_push_size _ rfl⟩
  · obtain ⟨its, r, ht, hz⟩ := I5.tuple hx
    have hlen := r.length
    refine tail_any (ops := [.ref a, .ref s4.heap.objs.size]) ht.typeIs (PyProof.Rows.slot_tuple_getitem.lookup) ?_ (by with_unfolding_all rfl)
    refine HT.getItem_tuple_back ht (Heap.IsSliceOf.new _ vl vu vs) pl pu ps ?_ (by rw [List.size_toArray]; omega)
    refine ⟨.ref _, _, I5.laid (t' := s4.toks) (o := .tup xs.reverse) (fun b ob q => Heap.get?_push_of_some _ q) (Nat.le_refl _) ?_, rfl, q _ (I5.hok.fresh (Nat.le_refl _))⟩
    exact ⟨by rw [List.length_reverse]; exact hz, _, r.reverse, IsTup.new _ _⟩
end L2

namespace Pu
open PySem PySem.Spec PyProof.Rows L2
/-! ## sorted(xs) of a tuple of ints: the items are gathered in a new list, a second one is sorted -/
def gathH (h : Heap) (vs : List Value) : Heap := Heap.update (h.push (seqObj "list" #[] 0)) h.objs.size (Obj.mapSeq fun (us : Array Value) => us ++ vs.toArray)
def twoH (h : Heap) (vs : List Value) : Heap := (gathH h vs).push (seqObj "list" vs.toArray 0)
theorem gathH_size (h : Heap) (vs : List Value) : (gathH h vs).objs.size = h.objs.size + 1 := by
  unfold gathH
  rw [Heap.size_update, size_push']
theorem gathH_old {h : Heap} {vs : List Value} {b : Addr} {o : Obj} (q : h.get? b = some o) : (gathH h vs).get? b = some o := by
  have lt := Heap.lt_size q
  exact (Heap.get?_update_ne _ _ _ _ (Nat.ne_of_lt lt)).trans (Heap.get?_push_of_some _ q)
theorem twoH_new (h : Heap) (vs : List Value) : (twoH h vs).get? (h.objs.size + 1) = some (seqObj "list" vs.toArray 0) := by
  have e := gathH_size h vs
  have z : (twoH h vs).get? (gathH h vs).objs.size = some (seqObj "list" vs.toArray 0) := Heap.get?_push_size _ rfl
  rwa [e] at z
theorem twoH_old {h : Heap} {vs : List Value} {b : Addr} {o : Obj} (q : h.get? b = some o) : (twoH h vs).get? b = some o := Heap.get?_push_of_some _ (gathH_old q)
section
variable {P : Program} {w : World} {A : Around} {E : Value → Shared → Prop} {s : Shared}
theorem gath_tup {l : Addr} {vs : List Value} {Q : List Value → Shared → Prop} (hl : s.heap.IsTuple l vs.toArray) (hz : vs.length ≤ sizeLine) (h : Q vs { s with heap := gathH s.heap vs }) :
    wpAny (model P w) A (collect (.ref l)) Q E s := by
  obtain ⟨o, ho, hc, n, hd⟩ := hl
  have fresh : (s.heap.push (seqObj "list" #[] 0)).get? s.heap.objs.size = some (seqObj "list" #[] 0) := Heap.get?_push_size _ rfl
  have there : (gathH s.heap vs).get? s.heap.objs.size = some _ := get?_update_seq fresh fun us => us ++ vs.toArray
  have same : ((#[] : Array Value) ++ vs.toArray).toList = vs := by simp
  have key : ∀ R : Result → Shared → Prop, R (.ok (.ret (.ref s.heap.objs.size))) { s with heap := gathH s.heap vs } → codeAny (model P w) A (.builtin "proto.collect" ⟨[.ref l], []⟩) R s := fun R r => by
    apply codeAny_builtin entry_proto_collect'
    apply wpAny_bind
    refine wpAny_newList ?_ (Nat.zero_le _)
    apply wpAny_pure
    refine ⟨Code.quiet_builtin _ (by decide +kernel), codeAny_builtin entry_list_iadd' ?_⟩
    exact wpAny_extend_seq (R := R) (s := { s with heap := s.heap.push (seqObj "list" #[] 0) }) s.heap.objs.size l (.ref s.heap.objs.size) 0 (.inr rfl) fresh (Heap.get?_push_of_some _ ho) hc hd r (by simpa using hz)
  unfold collect
  apply wpAny_bind
  refine wpAny_runValue (key _ ?_)
  apply wpAny_bind
  refine wpAny_load there ?_
  show wpAny _ _ (pure ((#[] : Array Value) ++ vs.toArray).toList) Q E _
  rw [same]
  exact wpAny_pure h
theorem sorted_tup {l : Addr} {vs : List Value} {lt : Value → Value → Bool} {Q : Value → Shared → Prop} (O : SrtO.Swo lt) (hl : s.heap.IsTuple l vs.toArray) (hz : vs.length ≤ sizeLine)
    (hS : 2 ≤ vs.length → SrtO.SortableO P w A.in1.in1 { s with heap := twoH s.heap vs } (s.heap.objs.size + 1) vs lt)
    (h : ∀ out : List Value, SrtO.Srtd lt out → SrtO.Stb lt out vs → Q (.ref (s.heap.objs.size + 1)) { s with heap := sortedAll s.heap vs out.toArray }) :
    wpAny (model P w) A (call (.builtin "sorted") [.ref l]) Q E s := by
  have fin := fun (out : List Value) (a : SrtO.Srtd lt out) (b : SrtO.Stb lt out vs) => h out a b
  apply Calls.call_function_entry kind_sorted plain_sorted entry_sorted (args_sorted1 _)
  unfold Builtin.sorted
  apply wpAny_bind
  apply wpAny_pure
  apply wpAny_bind
  apply gath_tup hl hz
  apply wpAny_bind
  refine wpAny_newList ?_ hz
  have big := twoH_new s.heap vs
  show wpAny _ _ _ _ _ { s with heap := twoH s.heap vs }
  dsimp only
  rw [gathH_size]
  apply wpAny_bind
  apply wpAny_holding
  refine wpAny_call_entry slot_list_sort ⟨_, big, rfl⟩ entry_list_sort ?_ (args_list_sort _)
  refine SrtO.list_sort_ord O big hz hS fun out a b => ⟨_, rfl, ?_⟩
  exact wpAny_pure ⟨_, rfl, fin out a b⟩
end
variable {X : Cx}
def rSortedIT (K : PySem.W.Frag) : List V → Hp → VK → Prop := fun vs H Q => ∃ (a : Addr) (ns : List Int), vs = [V.ref a] ∧ SqT K H a (ns.map V.int) ∧
  ∀ (ns' : List Int) (p : Addr), ns'.Perm ns → ns'.Pairwise (fun i j => i ≤ j) → H p = none → Q (.ref p) (upd H p (.lst (ns'.map V.int)))
theorem cr_sortedIT : CallR X (.builtin "sorted") (rSortedIT X.K) := fun pins s σ H vs us Q I r h => by
  obtain ⟨a, ns, rfl, hs, q⟩ := h
  obtain ⟨its, rv, tup, hz⟩ := I.tuple hs
  have hz' : its.length ≤ sizeLine := rv.length ▸ hz
  rw [Vals.ref1 r]
  refine sorted_tup SrtO.swo_int (show s.heap.IsTuple a its.toArray from tup) hz' (fun two => SrtO.ints_sortable rv.ints two) fun out up st => ?_
  obtain ⟨are, perm, rises⟩ := SrtO.ints_out rv.ints up st
  obtain ⟨ep, lies⟩ := PyProof.Rows.sortedAll_at s.heap its out.toArray
  have few : ((out.map SrtO.iv).map V.int).length ≤ sizeLine := by
    have := perm.length_eq
    simp only [List.length_map] at this hz ⊢
    omega
  refine ⟨.ref _, upd H (s.heap.objs.size + 1) (.lst ((out.map SrtO.iv).map V.int)), ?_, rfl, q _ _ perm rises (I.hok.fresh (Nat.le_succ _))⟩
  exact I.laid (t' := s.toks) (fun _ _ => PyProof.Rows.sortedAll_old) (Nat.le_succ _) ⟨few, out, ep, vals_of_ints are, lies⟩
end Pu

namespace Pu
open PySem PySem.Spec PyProof.Rows L2
/-! ## sorted(xs), xs a list of pairs of ints, whatever the pairs are held by -/
theorem lexP_eq (p q : Int × Int) : lexP p q = SrtO.lexB p q := rfl
theorem leP_iff {p q : Int × Int} : leP p q = true ↔ ¬ (q.1 < p.1 ∨ (q.1 = p.1 ∧ q.2 < p.2)) := by
  unfold leP
  rw [Bool.not_eq_true', lexP_eq]
  exact SrtO.lexB_no
theorem sortP_eq {ps qs : List (Int × Int)} (p : qs.Perm ps) (s : qs.Pairwise fun a b => leP a b = true) : qs = sortP ps := by
  have h1 : (sortP ps).Pairwise fun a b => leP a b = true := List.pairwise_mergeSort (le := leP) (fun a b c h1 h2 => by rw [leP_iff] at *; omega) (fun a b => by
    rw [Bool.or_eq_true, leP_iff, leP_iff]; omega) ps
  refine (p.trans (List.mergeSort_perm ps _).symm).eq_of_pairwise (fun a b _ _ h1 h2 => ?_) s h1
  rw [leP_iff] at h1 h2
  exact Prod.ext (by omega) (by omega)
def rSortedPT (K : PySem.W.Frag) : List V → Hp → VK → Prop := fun vs H Q => ∃ (a : Addr) (xs : List V) (k : V → Int × Int), vs = [V.ref a] ∧ SqL K H a xs ∧ (∀ x ∈ xs, ∃ t, x = V.ref t ∧ SqT K H t [.int (k x).1, .int (k x).2]) ∧
  ∀ (ys : List V) (p : Addr), ys.Perm xs → (ys.map k) = sortP (xs.map k) → H p = none → Q (.ref p) (upd H p (.lst ys))
theorem cr_sortedPT {X : Cx} : CallR X (.builtin "sorted") (rSortedPT X.K) := fun pins s σ H vs us Q I r h => by
  obtain ⟨a, xs, k, rfl, hs, hx, q⟩ := h
  obtain ⟨its, rv, hl, hz⟩ := I.list hs
  obtain ⟨u, rfl, ru⟩ := vals1 r
  cases ru
  obtain ⟨back, refs⟩ := refs_back rv fun x m => (hx x m).imp fun t e => e.1
  have few : its.length ≤ sizeLine := rv.length ▸ hz
  refine SrtO.sorted_pairsO (k := fun u => k (backV u)) hl.isList few (fun v hv => by
      obtain ⟨t, rfl⟩ := refs v hv
      have mem : V.ref t ∈ xs := back ▸ List.mem_map.mpr ⟨_, hv, rfl⟩
      obtain ⟨t', e, ht⟩ := hx _ mem
      cases e
      obtain ⟨two, r2, ⟨o, ho, hc, n, hd⟩, _⟩ := I.tuple ht
      obtain ⟨u1, u2, rfl, ⟨t1, rfl⟩, ⟨t2, rfl⟩⟩ := vals2 r2
      exact ⟨t, o, t1, t2, n, rfl, ho, hc, hd⟩) fun h1 d out up st kp hd there => ?_
  have refs' : ∀ u ∈ out, ∃ a, u = Value.ref a := fun u hu => refs u (st.perm.mem_iff.mp hu)
  obtain ⟨n, there⟩ := there
  have perm : (out.map backV).Perm xs := by
    have := st.perm.map backV
    rwa [← back] at this
  have few2 : (out.map backV).length ≤ sizeLine := by rw [perm.length_eq]; exact hz
  refine ⟨.ref d, upd H d (.lst (out.map backV)), I.laid (t' := s.toks) kp hd ⟨few2, out, n, vals_back refs', there⟩, rfl, q _ d perm (sortP_eq (perm.map k) ?_) (I.hok.fresh hd)⟩
  rw [List.map_map, List.pairwise_map]
  refine List.Pairwise.imp ?_ up
  intro x y hxy
  unfold leP
  rw [Bool.not_eq_true', lexP_eq]
  exact hxy
theorem asPairs_eq : ∀ {ds : List D} {ps : List (Int × Int)}, asPairs ds = some ps → ds = ps.map pairOf := by
  intro ds
  induction ds with
  | nil => intro ps h; simp only [asPairs] at h; cases h; rfl
  | cons d r ih =>
    intro ps h
    unfold asPairs at h
    split at h
    · rename_i heq
      cases heq
    · rename_i i j r' heq
      cases heq
      cases q : asPairs r with
      | none => rw [q] at h; cases h
      | some qs => rw [q] at h; cases h; rw [ih q]; rfl
    · cases h
section
open Classical in
/-- the pair that a value is -/
noncomputable def kOf (K : PySem.W.Frag) (H : Hp) (x : V) : Int × Int := if h : ∃ p : Int × Int, ∃ t, x = V.ref t ∧ SqT K H t [.int p.1, .int p.2] then h.choose else (0, 0)
end
section
variable {X : Cx} {pins : List (Addr × Obj)} {s : Shared} {σ : List (Option V)} {H : Hp}
theorem kOf_ok {K : PySem.W.Frag} {x : V} {p : Int × Int} {t : Addr} (hx : x = V.ref t) (ht : SqT K H t [.int p.1, .int p.2]) : ∃ t, x = V.ref t ∧ SqT K H t [.int (kOf K H x).1, .int (kOf K H x).2] := by
  have h : ∃ p : Int × Int, ∃ t, x = V.ref t ∧ SqT K H t [.int p.1, .int p.2] := ⟨p, t, hx, ht⟩
  have e : kOf K H x = h.choose := by unfold kOf; rw [dif_pos h]
  rw [e]
  exact h.choose_spec
theorem kOf_eq (I : L2.Inv X pins σ H s) {x : V} {p : Int × Int} {t : Addr} (hx : x = V.ref t) (ht : SqT X.K H t [.int p.1, .int p.2]) : kOf X.K H x = p := by
  obtain ⟨t', e, h⟩ := kOf_ok (K := X.K) hx ht
  rw [hx] at e
  cases e
  have := I.tuple_inj h ht
  injection this with a b
  injection a with a
  injection b with b
  injection b with b
  exact Prod.ext a b
theorem pairs_reps (I : L2.Inv X pins σ H s) {as : List Addr} : ∀ {ps : List (Int × Int)} {vs : List V}, Reps X.K as H (ps.map pairOf) vs → (∀ x ∈ vs, ∃ t, x = V.ref t ∧ SqT X.K H t [.int (kOf X.K H x).1, .int (kOf X.K H x).2]) ∧ vs.map (kOf X.K H) = ps
  | [], vs, r => by
    have r : vs = [] := r
    subst r; exact ⟨by simp, rfl⟩
  | p :: ps, vs, r => by
    obtain ⟨v, t, rfl, ⟨a, us, ev, ha, hr⟩, h3⟩ := r
    obtain ⟨i1, i2⟩ := pairs_reps I h3
    have e : us = [.int p.1, .int p.2] := Reps.ints (ns := [p.1, p.2]) hr
    subst e
    refine ⟨fun x hx => ?_, ?_⟩
    · rcases List.mem_cons.mp hx with e | hx
      · rw [e]; exact kOf_ok ev ha
      · exact i1 x hx
    · rw [List.map_cons, i2, kOf_eq I ev ha]
theorem reps_pairs {K : PySem.W.Frag} {as : List Addr} : ∀ {ys : List V}, (∀ x ∈ ys, ∃ t, x = V.ref t ∧ SqT K H t [.int (kOf K H x).1, .int (kOf K H x).2]) → Reps K as H ((ys.map (kOf K H)).map pairOf) ys
  | [], _ => Reps.nil
  | y :: ys, h => by
    obtain ⟨t, e, ht⟩ := h y List.mem_cons_self
    exact Reps.cons ⟨t, _, e, ht, Reps.of_ints [_, _]⟩ (reps_pairs fun x hx => h x (List.mem_cons_of_mem _ hx))
end
end Pu

namespace Pu
open PySem PySem.Spec PyProof.Rows L2
/-! ## sorted(xs), xs a list of data -/
section
variable {X : Cx} {pins : List (Addr × Obj)} {s : Shared} {σ : List (Option V)} {H : Hp} {K : PySem.W.Frag} {as : List Addr}
/-- the value stands for the datum -/
def StandsFor (K : PySem.W.Frag) (as : List Addr) (H : Hp) (u : Value) (d : D) : Prop := ∃ v, RelV v u ∧ Rep K as H d v
theorem each_of : ∀ {ds : List D} {vs : List V} {us : List Value}, Reps K as H ds vs → Vals vs us → PySem.W.EachIs (StandsFor K as H) us ds
  | [], vs, us, r, q => by
    have r : vs = [] := r
    subst r; cases q; exact .nil
  | d :: ds, vs, us, r, q => by
    obtain ⟨v, t, rfl, h2, h3⟩ := r
    cases q with
    | cons ry rt => exact .cons ⟨v, ry, h2⟩ (each_of h3 rt)
theorem of_each : ∀ {ds : List D} {us : List Value}, PySem.W.EachIs (StandsFor K as H) us ds → ∃ vs, Reps K as H ds vs ∧ Vals vs us
  | _, _, .nil => ⟨[], rfl, .nil⟩
  | _, _, .cons ⟨v, h1, h2⟩ t => by
    obtain ⟨vs, r, q⟩ := of_each t
    exact ⟨v :: vs, ⟨v, vs, rfl, h2, r⟩, .cons h1 q⟩
theorem each_reads (I : L2.Inv X pins σ H s) : ∀ {ds : List D} {us : List Value}, PySem.W.EachIs (StandsFor X.K as H) us ds → (∀ d ∈ ds, (toPy0 d).isSome = true) → PySem.W.EachIs (fun v b => ∃ as, Reads s.heap v (encD b) as) us ds
  | _, _, .nil, _ => .nil
  | _, _, .cons (b := d) ⟨v, h1, h2⟩ t, h => .cons (by
      have hd := h d List.mem_cons_self
      obtain ⟨p, hp⟩ := Option.isSome_iff_exists.mp hd
      have e : encD d = p := by unfold encD; rw [hp]; rfl
      rw [e]
      exact Dp.reads I p v _ (py_ok (K := X.K) (as := as) (H := H) (fun i p a h => by cases h) hp h2) h1) (each_reads I t fun x hx => h x (List.mem_cons_of_mem _ hx))
theorem sortD_short {ds : List D} (h : ds.length < 2) : sortD ds = ds := by
  match ds, h with
  | [], _ => simp [sortD]
  | [d], _ => simp [sortD]
  | _ :: _ :: l, h => exact absurd h (by simp)
def rSortedD (K : PySem.W.Frag) : List V → Hp → VK → Prop := fun vs H Q => ∃ (as : List Addr) (a : Addr) (xs : List V) (ds : List D), vs = [V.ref a] ∧ SqL K H a xs ∧ Reps K as H ds xs ∧ sortOk ds ∧ ∀ ys p, Reps K as H (sortD ds) ys → H p = none → Q (.ref p) (upd H p (.lst ys))
theorem cr_sortedD (hu : X.A.units + 65 < cLine) : CallR X (.builtin "sorted") (rSortedD X.K) := fun pins s σ H vs us Q I r h => by
  obtain ⟨as, a, xs, ds, rfl, hs, hr, ok, q⟩ := h
  obtain ⟨its, rv, hl, hz⟩ := I.list hs
  obtain ⟨u, rfl, ru⟩ := vals1 r
  cases ru
  have few : its.length ≤ sizeLine := rv.length ▸ hz
  have ea := each_of hr rv
  have hlen : its.length = ds.length := by rw [← hr.length, rv.length]
  -- what is answered
  have fin : ∀ out : List Value, out.length = its.length → PySem.W.EachIs (StandsFor X.K as H) out (sortD ds) → EP X pins σ Q (.ref (s.heap.objs.size + 1)) { s with heap := PyProof.Rows.sortedAll s.heap its out.toArray } := fun out lo eo => by
    obtain ⟨ys, ry, vy⟩ := of_each eo
    obtain ⟨ep, lies⟩ := PyProof.Rows.sortedAll_at s.heap its out.toArray
    have few2 : ys.length ≤ sizeLine := by rw [vy.length, lo]; exact few
    exact ⟨.ref _, upd H (s.heap.objs.size + 1) (.lst ys), I.laid (t' := s.toks) (fun _ _ => PyProof.Rows.sortedAll_old) (Nat.le_succ _) ⟨few2, out, ep, vy, lies⟩, rfl, q _ _ ry (I.hok.fresh (Nat.le_succ _))⟩
  obtain ⟨some, short | ⟨al, so, dp⟩⟩ := ok
  · refine SrtO.sorted_ord (ltv := fun _ _ => false) ⟨fun _ _ h => (Bool.noConfusion h), fun _ _ _ _ _ => rfl⟩ hl.isList few (fun two => absurd two (by omega)) fun out _ st => ?_
    have : out = its := by
      have p := st.perm
      match its, hlen, p with
      | [], _, p => exact p.eq_nil
      | [v], _, p => exact List.perm_singleton.mp p
      | _ :: _ :: l, e, _ => exact absurd short (by rw [← e]; simp)
    subst this
    exact fin out rfl (by rw [sortD_short short]; exact ea)
  · refine PySem.W.sorted_data (enc := encD) (R := StandsFor X.K as H) hl.isList ea (each_reads I ea some) al so (by rw [← hlen]; exact few) (fun b hb => ?_) fun out lo eo => ?_
    · have := dp b hb
      omega
    · exact fin out (by rw [lo, hlen]) eo
theorem reads_of (I : L2.Inv X pins σ H s) : ∀ {ds : List D} {us : List Value}, PySem.W.EachIs (StandsFor X.K as H) us ds → (∀ d ∈ ds, (toPy0 d).isSome = true) → ∃ as, ReadsAll s.heap us (ds.map encD) as
  | _, _, .nil, _ => ⟨_, .nil⟩
  | _, _, .cons (b := d) ⟨v, h1, h2⟩ t, h => by
    obtain ⟨as2, r2⟩ := reads_of I t fun x hx => h x (List.mem_cons_of_mem _ hx)
    have hd := h d List.mem_cons_self
    obtain ⟨p, hp⟩ := Option.isSome_iff_exists.mp hd
    have e : encD d = p := by unfold encD; rw [hp]; rfl
    obtain ⟨as1, r1⟩ := Dp.reads I p v _ (py_ok (K := X.K) (as := as) (H := H) (fun i p a h => by cases h) hp h2) h1
    exact ⟨_, .cons (by rw [e]; exact r1) r2⟩
def rMinD (K : PySem.W.Frag) : List V → Hp → VK → Prop := fun vs H Q => ∃ (as : List Addr) (a : Addr) (xs : List V) (ds : List D), vs = [V.ref a] ∧ (SqL K H a xs ∨ SqT K H a xs) ∧ Reps K as H ds xs ∧ minOk ds ∧ 0 < ds.length ∧ ∀ v, xs[bestAt ds]? = some v → Q v H
theorem cr_minD (hu : X.A.units + 65 < cLine) (hc : X.calm = true) : CallR X (.builtin "min") (rMinD X.K) := fun pins s σ H vs us Q I r h => by
  obtain ⟨as, a, xs, ds, rfl, hs, hr, ⟨ok, al, dp⟩, pos, q⟩ := h
  obtain ⟨u, rfl, ru⟩ := vals1 r
  cases ru
  have go : ∀ its : List Value, Vals xs its → (∀ v h' tk, its.toArray[bestAt ds]? = some v → (∀ b o, s.heap.get? b = some o → h'.get? b = some o) → EP X pins σ Q v { s with heap := h', toks := tk }) ∧ its.toArray.size = ds.length ∧ ∃ as, ReadsAll s.heap its.toArray.toList (ds.map encD) as := fun its rv => by
    refine ⟨fun v h' tk hv hk => ?_, by have := hr.length; have := rv.length; simp; omega, reads_of I (each_of hr rv) ok⟩
    have hv : its[bestAt ds]? = some v := by simpa using hv
    cases hx : xs[bestAt ds]? with
    | none => have := rv.none_of hx; rw [hv] at this; cases this
    | some x =>
      obtain ⟨u, hu', ru⟩ := rv.get hx
      rw [hv] at hu'; cases hu'
      exact ⟨x, H, I.kept hk, ru, q x hx⟩
  have uu : X.A.units + 1 + PyData.depthAll (ds.map encD) < cLine := by omega
  rcases hs with hs | hs
  · obtain ⟨its, rv, hl, _⟩ := I.list hs
    obtain ⟨fin, hn, bs, rd⟩ := go its rv
    refine call_min_walkH (PySem.W.iter_listW (A := X.A.in1) (I.ok.hd hc) hl.isList fun s₂ e W st hfp hw hk => ?_)
    refine ⟨_, _, _, _, _, _, _, s.heap, _, rfl, W, st, hfp, by omega, hw, hk, PySem.W.cmpIn_lt (A := X.A.in1) rd al (by show X.A.units + 1 + _ < _; exact uu), fun v s' hP m => ?_⟩
    obtain ⟨h', tk, rfl, hk'⟩ := PySem.W.moved_old e rfl m
    exact fin v h' tk (by rw [hn] at hP; exact hP) hk'
  · obtain ⟨its, rv, hl, _⟩ := I.tuple hs
    obtain ⟨fin, hn, bs, rd⟩ := go its rv
    refine call_min_walkH (PySem.W.iter_tupleW (A := X.A.in1) (I.ok.hd hc) hl fun s₂ e W st hfp hw hk => ?_)
    refine ⟨_, _, _, _, _, _, _, s.heap, _, rfl, W, st, hfp, by omega, hw, hk, PySem.W.cmpIn_lt (A := X.A.in1) rd al (by show X.A.units + 1 + _ < _; exact uu), fun v s' hP m => ?_⟩
    obtain ⟨h', tk, rfl, hk'⟩ := PySem.W.moved_old e rfl m
    exact fin v h' tk (by rw [hn] at hP; exact hP) hk'
end
end Pu

namespace Pu
open PySem PySem.Spec PyProof.Rows L2
section
variable {X : Cx} {mg : Str → Option Value} {E : XK}

theorem Reps.atI {K : PySem.W.Frag} {as : List Addr} {H : Hp} {ds : List D} {vs : List V} {i : Int} {d : D} (r : Reps K as H ds vs) (h : L2.atI ds i = some d) : ∃ v, L2.atI vs i = some v ∧ Rep K as H d v := by
  unfold L2.atI at h ⊢
  rw [r.length]
  cases q : ixN ds.length i with
  | none => rw [q] at h; cases h
  | some j =>
    rw [q] at h
    obtain ⟨v, h1, h2⟩ := r.get (i := j) h
    exact ⟨v, h1, h2⟩
theorem xr_idx : IxR X (rD2 X.K mg E idxM) := by
  intro value slice pins s σ H x y v u Q I rx ry h hs
  obtain ⟨as, S, d, e, sim, hd, he, fin⟩ := h
  unfold idxM at fin
  split at fin
  · split at fin
    · rename_i xs hx
      split at fin
      · rename_i z hz
        cases he
        obtain ⟨a, vs, rfl, hq, r⟩ := seq_ok sim hx hd
        obtain ⟨w, hw, rw'⟩ := r.atI hz
        rcases hq with hq | hq
        · exact ix_list value slice pins s σ H _ _ v u Q I rx ry ⟨a, vs, _, w, rfl, rfl, hq, hw, fin.ret sim rw'⟩ hs
        · exact ix_tup value slice pins s σ H _ _ v u Q I rx ry ⟨a, vs, _, w, rfl, rfl, hq, hw, fin.ret sim rw'⟩ hs
      · exact fin.elim
    · exact fin.elim
  · exact fin.elim
/-! ## slices -/
theorem Reps.cut {K : PySem.W.Frag} {as : List Addr} {H : Hp} {ds : List D} {vs : List V} (lo hi : Option Int) (r : Reps K as H ds vs) : Reps K as H (cutD ds lo hi) (cutV vs lo hi) := by
  unfold cutD cutV
  rw [r.length]
  exact (r.drop _).take _
def rSl (K : PySem.W.Frag) (mg : Str → Option Value) (E : XK) (own : Bool) : V → Option Int → Option Int → Hp → VK → Prop := fun x lo hi H Q => ∃ as S d, Sim K as S H ∧ Rep K as H d x ∧ Fin K mg E (Rep K) as H (slcP own d lo hi S) Q
theorem sr_slc (own : Bool) : SlR X (rSl X.K mg E own) := by
  intro pins s σ H x v vl vu lo hi sl Q I rx hs pl pu h
  obtain ⟨as, S, d, sim, hd, fin⟩ := h
  unfold slcP at fin
  split at fin
  · obtain ⟨a, vs, rfl, ha, r⟩ := hd
    refine sl_tupA pins s σ H _ v vl vu lo hi sl Q I rx hs pl pu ⟨a, vs, rfl, ha, fun hw => ?_, fun _ p hp => ?_⟩
    · refine fin.ret sim ⟨a, vs, rfl, ha, ?_⟩
      have := r.cut lo hi
      have e : cutV vs lo hi = vs := by
        unfold cutV
        rw [hw.1, hw.2]
        simp
      rw [e] at this; exact this
    · exact fin as _ _ (Ext.fixed hp) (sim.fixed hp) ⟨p, _, rfl, SqT.of upd_same, (r.cut lo hi).mono (Ext.fixed hp)⟩
  · obtain ⟨a, vs, rfl, ha, r⟩ := hd
    refine sl_tupA pins s σ H _ v vl vu lo hi sl Q I rx hs pl pu ⟨a, vs, rfl, ha.sq, fun hw => ?_, fun _ p hp => ?_⟩
    · refine fin.ret sim ⟨a, vs, rfl, ha.sq, ?_⟩
      have := r.cut lo hi
      have e : cutV vs lo hi = vs := by
        unfold cutV
        rw [hw.1, hw.2]
        simp
      rw [e] at this; exact this
    · exact fin as _ _ (Ext.fixed hp) (sim.fixed hp) ⟨p, _, rfl, SqT.of upd_same, (r.cut lo hi).mono (Ext.fixed hp)⟩
  · split at fin
    · rename_i xs hx
      obtain ⟨a, vs, rfl, ha, r⟩ := lst_ok sim hx hd
      obtain ⟨T, id, h1, h2, h3⟩ := sl_list pins s σ H _ v vl vu lo hi sl _ I rx hs pl pu ⟨a, vs, rfl, ha, fin_U fin sim (r.cut lo hi)⟩
      exact ⟨T, id, h1, h2, ql (own := own) h3⟩
    · exact fin.elim
/-! ## truth -/
theorem tr_tru {K : PySem.W.Frag} {as : List Addr} {H : Hp} {S : Sto} {d : D} {x : V} {Q : Bool → Hp → Prop} (sim : Sim K as S H) (r : Rep K as H d x) (fin : Fin K mg E RlB as H (truM d S) Q) : ∃ k, TruV K x H k ∧ Q k H := by
  unfold truM at fin
  split at fin
  · cases r; exact ⟨_, rfl, fin.ret sim rfl⟩
  · cases r; exact ⟨_, rfl, fin.ret sim rfl⟩
  · cases r; exact ⟨_, rfl, fin.ret sim rfl⟩
  · split at fin
    · rename_i h
      cases r
      rw [line_eq] at h
      rename_i y
      refine ⟨(y.length != 0), ⟨h, ?_⟩, fin.ret sim rfl⟩
      by_cases z : y.length = 0
      · rw [z]; rfl
      · have z2 : (y.length : Int) ≠ 0 := by omega
        rw [bne_iff_ne.mpr z, bne_iff_ne.mpr z2]
    · exact fin.elim
  · split at fin
    · rename_i xs hx
      obtain ⟨a, vs, rfl, hq, rr⟩ := seq_ok sim hx r
      have e : (!xs.isEmpty) = !vs.isEmpty := by
        have := rr.length
        cases xs <;> cases vs <;> simp_all
      refine ⟨!vs.isEmpty, ?_, by rw [← e]; exact fin.ret sim rfl⟩
      rcases hq with hq | hq
      · exact .inl ⟨vs, hq, rfl⟩
      · exact .inr (.inl ⟨vs, hq, rfl⟩)
    · exact fin.elim
/-! ## built-ins -/
def rDs (K : PySem.W.Frag) (mg : Str → Option Value) (E : XK) (g : List D → M D) : List V → Hp → VK → Prop := fun xs H Q => ∃ as S ds, Sim K as S H ∧ Reps K as H ds xs ∧ Fin K mg E (Rep K) as H (g ds S) Q
theorem rs1 {K : PySem.W.Frag} {as : List Addr} {H : Hp} {d : D} {xs : List V} (r : Reps K as H [d] xs) : ∃ x, xs = [x] ∧ Rep K as H d x := by
  obtain ⟨v, t, rfl, h2, h3⟩ := r
  have h3 : t = [] := h3
  subst h3
  exact ⟨v, rfl, h2⟩
theorem rs2 {K : PySem.W.Frag} {as : List Addr} {H : Hp} {d e : D} {xs : List V} (r : Reps K as H [d, e] xs) : ∃ x y, xs = [x, y] ∧ Rep K as H d x ∧ Rep K as H e y := by
  obtain ⟨v, t, rfl, h2, h3⟩ := r
  obtain ⟨y, rfl, h4⟩ := rs1 h3
  exact ⟨v, y, rfl, h2, h4⟩
theorem mem_perm_eq {ns ms : List Int} (p : ns.Perm ms) (s : ns.Pairwise (· ≤ ·)) : ns = sortI ms := by
  have h1 : (sortI ms).Pairwise (fun a b : Int => a ≤ b) := by
    have := List.pairwise_mergeSort (le := fun a b : Int => decide (a ≤ b)) (fun a b c h1 h2 => by simp at *; omega) (fun a b => by simp; omega) ms
    exact this.imp fun h => by simpa using h
  have h2 : (sortI ms).Perm ms := List.mergeSort_perm ms _
  exact (p.trans h2.symm).eq_of_pairwise (fun a b _ _ h1 h2 => by omega) s h1
theorem least_ok : ∀ {ns : List Int} {m : Int}, leastI ns = some m → m ∈ ns ∧ ∀ y ∈ ns, m ≤ y := by
  have go : ∀ (r : List Int) (a : Int), (r.foldl (fun a b => if b < a then b else a) a = a ∨ r.foldl (fun a b => if b < a then b else a) a ∈ r) ∧ r.foldl (fun a b => if b < a then b else a) a ≤ a ∧ ∀ y ∈ r, r.foldl (fun a b => if b < a then b else a) a ≤ y := by
    intro r
    induction r with
    | nil => intro a; simp
    | cons b r ih =>
      intro a
      obtain ⟨h1, h2, h3⟩ := ih (if b < a then b else a)
      simp only [List.foldl_cons]
      refine ⟨?_, ?_, ?_⟩
      · rcases h1 with h1 | h1
        · by_cases hb : b < a
          · rw [if_pos hb] at h1 ⊢; rw [h1]; exact .inr List.mem_cons_self
          · rw [if_neg hb] at h1 ⊢; exact .inl h1
        · exact .inr (List.mem_cons_of_mem _ h1)
      · by_cases hb : b < a
        · rw [if_pos hb] at h2 ⊢; omega
        · rw [if_neg hb] at h2 ⊢; omega
      · intro y hy
        rcases List.mem_cons.mp hy with e | hy
        · subst e
          by_cases hb : y < a
          · rw [if_pos hb] at h2 ⊢; omega
          · rw [if_neg hb] at h2 ⊢; omega
        · exact h3 y hy
  intro ns m h
  cases ns with
  | nil => cases h
  | cons n r =>
    cases h
    obtain ⟨h1, h2, h3⟩ := go r n
    refine ⟨?_, fun y hy => ?_⟩
    · rcases h1 with h1 | h1
      · rw [h1]; exact List.mem_cons_self
      · exact List.mem_cons_of_mem _ h1
    · rcases List.mem_cons.mp hy with e | hy
      · subst e; exact h2
      · exact h3 y hy
theorem most_ok : ∀ {ns : List Int} {m : Int}, mostI ns = some m → m ∈ ns ∧ ∀ y ∈ ns, y ≤ m := by
  have go : ∀ (r : List Int) (a : Int), (r.foldl (fun a b => if a < b then b else a) a = a ∨ r.foldl (fun a b => if a < b then b else a) a ∈ r) ∧ a ≤ r.foldl (fun a b => if a < b then b else a) a ∧ ∀ y ∈ r, y ≤ r.foldl (fun a b => if a < b then b else a) a := by
    intro r
    induction r with
    | nil => intro a; simp
    | cons b r ih =>
      intro a
      obtain ⟨h1, h2, h3⟩ := ih (if a < b then b else a)
      simp only [List.foldl_cons]
      refine ⟨?_, ?_, ?_⟩
      · rcases h1 with h1 | h1
        · by_cases hb : a < b
          · rw [if_pos hb] at h1 ⊢; rw [h1]; exact .inr List.mem_cons_self
          · rw [if_neg hb] at h1 ⊢; exact .inl h1
        · exact .inr (List.mem_cons_of_mem _ h1)
      · by_cases hb : a < b
        · rw [if_pos hb] at h2 ⊢; omega
        · rw [if_neg hb] at h2 ⊢; omega
      · intro y hy
        rcases List.mem_cons.mp hy with e | hy
        · subst e
          by_cases hb : a < y
          · rw [if_pos hb] at h2 ⊢; omega
          · rw [if_neg hb] at h2 ⊢; omega
        · exact h3 y hy
  intro ns m h
  cases ns with
  | nil => cases h
  | cons n r =>
    cases h
    obtain ⟨h1, h2, h3⟩ := go r n
    refine ⟨?_, fun y hy => ?_⟩
    · rcases h1 with h1 | h1
      · rw [h1]; exact List.mem_cons_self
      · exact List.mem_cons_of_mem _ h1
    · rcases List.mem_cons.mp hy with e | hy
      · subst e; exact h2
      · exact h3 y hy
theorem ints_ok {K : PySem.W.Frag} {as : List Addr} {H : Hp} {S : Sto} (sim : Sim K as S H) {d : D} {ns : List Int} {x : V} (h : lstInts d S = some ns) (r : Rep K as H d x) : ∃ a, x = .ref a ∧ SqL K H a (ns.map V.int) := by
  unfold lstInts at h
  cases q : lstOf d S with
  | none => rw [q] at h; cases h
  | some xs =>
    rw [q] at h
    obtain ⟨a, vs, rfl, ha, rr⟩ := lst_ok sim q r
    rw [asInts_eq h] at rr
    rw [rr.ints] at ha
    exact ⟨a, rfl, ha⟩
theorem cr_len' : CallR X (.builtin "len") (rDs X.K mg E lenM) := by
  intro pins s σ H xs us Q I rx h
  obtain ⟨as, S, ds, sim, hr, fin⟩ := h
  unfold lenM at fin
  split at fin
  · split at fin
    · rename_i h
      rw [line_eq] at h
      obtain ⟨x, rfl, rfl⟩ := rs1 hr
      exact call_len_str pins s σ H _ us Q I rx ⟨_, rfl, h, fin.ret sim rfl⟩
    · exact fin.elim
  · dsimp only at fin
    split at fin
    · rename_i ys hy
      obtain ⟨x, rfl, r⟩ := rs1 hr
      obtain ⟨a, vs, rfl, hq, rr⟩ := seq_ok sim hy r
      refine call_len_seq pins s σ H _ us Q I rx ⟨a, vs, rfl, hq, ?_⟩
      rw [rr.length]
      exact fin.ret sim rfl
    · exact fin.elim
  · exact fin.elim
theorem bools_ok {K : PySem.W.Frag} {as : List Addr} {H : Hp} {S : Sto} (sim : Sim K as S H) {d : D} {ns : List Bool} {x : V} (h : (lstOf d S).bind asBools = some ns) (r : Rep K as H d x) : ∃ a, x = .ref a ∧ SqL K H a (ns.map V.bl) := by
  cases q : lstOf d S with
  | none => rw [q] at h; cases h
  | some xs =>
    rw [q] at h
    obtain ⟨a, vs, rfl, ha, rr⟩ := lst_ok sim q r
    rw [asBools_eq h] at rr
    rw [rr.bls] at ha
    exact ⟨a, rfl, ha⟩
theorem cr_all' (hc : X.calm = true) : CallR X (.builtin "all") (rDs X.K mg E allM) := by
  intro pins s σ H xs us Q I rx h
  obtain ⟨as, S, ds, sim, hr, fin⟩ := h
  unfold allM at fin
  split at fin
  · split at fin
    · rename_i bs hb
      obtain ⟨x, rfl, r⟩ := rs1 hr
      obtain ⟨a, rfl, ha⟩ := bools_ok sim hb r
      exact cr_all hc pins s σ H _ us Q I rx ⟨a, bs, rfl, ha, fin.ret sim rfl⟩
    · exact fin.elim
  · exact fin.elim
theorem cr_any' (hc : X.calm = true) : CallR X (.builtin "any") (rDs X.K mg E anyM) := by
  intro pins s σ H xs us Q I rx h
  obtain ⟨as, S, ds, sim, hr, fin⟩ := h
  unfold anyM at fin
  split at fin
  · split at fin
    · rename_i bs hb
      obtain ⟨x, rfl, r⟩ := rs1 hr
      obtain ⟨a, rfl, ha⟩ := bools_ok sim hb r
      exact cr_any hc pins s σ H _ us Q I rx ⟨a, bs, rfl, ha, fin.ret sim rfl⟩
    · exact fin.elim
  · exact fin.elim
theorem cr_abs' : CallR X (.builtin "abs") (rDs X.K mg E absM) := by
  intro pins s σ H xs us Q I rx h
  obtain ⟨as, S, ds, sim, hr, fin⟩ := h
  unfold absM at fin
  split at fin
  · obtain ⟨x, rfl, rfl⟩ := rs1 hr
    exact call_abs pins s σ H _ us Q I rx ⟨_, rfl, Fin.ret fin sim rfl⟩
  · exact fin.elim
theorem cr_int' : CallR X (.type "int") (rDs X.K mg E intM) := by
  intro pins s σ H xs us Q I rx h
  obtain ⟨as, S, ds, sim, hr, fin⟩ := h
  unfold intM at fin
  split at fin
  · obtain ⟨x, rfl, rfl⟩ := rs1 hr
    exact call_int1 pins s σ H _ us Q I rx (.inl ⟨_, rfl, Fin.ret fin sim rfl⟩)
  · obtain ⟨x, rfl, rfl⟩ := rs1 hr
    exact call_int1 pins s σ H _ us Q I rx (.inr ⟨_, rfl, Fin.ret fin sim rfl⟩)
  · exact fin.elim
theorem cr_list' (own : Bool) : CallR X (.type "list") (rDs X.K mg E (listM own)) := by
  intro pins s σ H xs us Q I rx h
  obtain ⟨as, S, ds, sim, hr, fin⟩ := h
  unfold listM at fin
  split at fin
  · split at fin
    · rename_i ys hy
      obtain ⟨x, rfl, r⟩ := rs1 hr
      obtain ⟨a, vs, rfl, hq, rr⟩ := seq_ok sim hy r
      exact ql (own := own) (call_list_of pins s σ H _ us _ I rx ⟨a, vs, rfl, hq, fin_U fin sim rr⟩)
    · exact fin.elim
  · exact fin.elim
theorem cr_tuple' : CallR X (.type "tuple") (rDs X.K mg E tupleM) := by
  intro pins s σ H xs us Q I rx h
  obtain ⟨as, S, ds, sim, hr, fin⟩ := h
  unfold tupleM at fin
  split at fin
  · split at fin
    · rename_i ys hy
      obtain ⟨x, rfl, r⟩ := rs1 hr
      obtain ⟨a, vs, rfl, hq, rr⟩ := seq_ok sim hy r
      refine call_tuple_of pins s σ H _ us Q I rx ⟨a, vs, rfl, ?_⟩
      rcases hq with hq | hq
      · exact .inl ⟨hq, fun p hp => fin as _ _ (Ext.fixed hp) (sim.fixed hp) ⟨p, vs, rfl, SqT.of upd_same, rr.mono (Ext.fixed hp)⟩⟩
      · exact .inr ⟨hq, fin.ret sim ⟨a, vs, rfl, hq, rr⟩⟩
    · exact fin.elim
  · exact fin.elim
theorem cr_tupleP' : CallR X (.type "tuple") (rDs X.K mg E tuplePM) := by
  intro pins s σ H xs us Q I rx h
  obtain ⟨as, S, ds, sim, hr, fin⟩ := h
  unfold tuplePM at fin
  split at fin
  · obtain ⟨x, rfl, r⟩ := rs1 hr
    obtain ⟨a, vs, rfl, ha, rr⟩ := id r
    exact cr_tupleN pins s σ H _ us Q I rx ⟨a, vs, rfl, .inr ⟨ha.sq, fin.ret sim r⟩⟩
  · dsimp only at fin
    split at fin
    · rename_i ys hy
      obtain ⟨x, rfl, r⟩ := rs1 hr
      obtain ⟨a, vs, rfl, hq, rr⟩ := lst_ok sim hy r
      exact cr_tupleN pins s σ H _ us Q I rx ⟨a, vs, rfl, .inl ⟨hq, fin_P fin sim rr⟩⟩
    · exact fin.elim
  · exact fin.elim
theorem cr_sorted' (hu : X.A.units + 65 < cLine) (own : Bool) : CallR X (.builtin "sorted") (rDs X.K mg E (sortedM own)) := by
  intro pins s σ H xs us Q I rx h
  obtain ⟨as, S, ds, sim, hr, fin⟩ := h
  unfold sortedM at fin
  split at fin
  · split at fin
    · rename_i ns hn
      obtain ⟨x, rfl, r⟩ := rs1 hr
      obtain ⟨ys, hy, hi⟩ := Option.bind_eq_some_iff.mp hn
      obtain ⟨a, vs, rfl, hq, rr⟩ := seq_ok sim hy r
      rw [asInts_eq hi] at rr
      rw [rr.ints] at hq
      rcases hq with ha | ha
      · refine ql (own := own) (cr_sortedI pins s σ H _ us _ I rx ⟨a, ns, rfl, ha, fun ns' p hp hs hf => ?_⟩)
        rw [mem_perm_eq hp hs]
        exact fin_U fin sim (Reps.of_ints _) p hf
      · refine ql (own := own) (cr_sortedIT pins s σ H _ us _ I rx ⟨a, ns, rfl, ha, fun ns' p hp hs hf => ?_⟩)
        rw [mem_perm_eq hp hs]
        exact fin_U fin sim (Reps.of_ints _) p hf
    · split at fin
      · rename_i ps hp
        obtain ⟨x, rfl, r⟩ := rs1 hr
        obtain ⟨ys, hy, hi⟩ := Option.bind_eq_some_iff.mp hp
        obtain ⟨a, vs, rfl, hq, rr⟩ := lst_ok sim hy r
        rw [asPairs_eq hi] at rr
        obtain ⟨i1, i2⟩ := pairs_reps I rr
        refine ql (own := own) (cr_sortedPT pins s σ H _ us _ I rx ⟨a, vs, kOf X.K H, rfl, hq, i1, fun zs p hperm hk hf => ?_⟩)
        have rz := reps_pairs (as := as) (K := X.K) (H := H) (ys := zs) fun x hx => i1 x (hperm.mem_iff.mp hx)
        rw [hk, i2] at rz
        exact fin_U fin sim rz p hf
      · split at fin
        · rename_i ys hy
          obtain ⟨x, rfl, r⟩ := rs1 hr
          obtain ⟨a, vs, rfl, hq, rr⟩ := lst_ok sim hy r
          obtain ⟨ok, fin⟩ := Fin.chk fin
          exact ql (own := own) (cr_sortedD hu pins s σ H _ us _ I rx ⟨as, a, vs, ys, rfl, hq, rr, ok, fun zs p rz hf => fin_U fin sim rz p hf⟩)
        · exact fin.elim
  · exact fin.elim
theorem cr_sum' (hc : X.calm = true) : CallR X (.builtin "sum") (rDs X.K mg E sumM) := by
  intro pins s σ H xs us Q I rx h
  obtain ⟨as, S, ds, sim, hr, fin⟩ := h
  unfold sumM at fin
  split at fin
  · split at fin
    · rename_i ns hn
      obtain ⟨x, rfl, r⟩ := rs1 hr
      obtain ⟨a, rfl, ha⟩ := ints_ok sim hn r
      exact cr_sum hc pins s σ H _ us Q I rx ⟨a, ns, rfl, ha, fin.ret sim rfl⟩
    · exact fin.elim
  · exact fin.elim
theorem cr_min1' (hu : X.A.units + 65 < cLine) (hc : X.calm = true) : CallR X (.builtin "min") (rDs X.K mg E min1M) := by
  intro pins s σ H xs us Q I rx h
  obtain ⟨as, S, ds, sim, hr, fin⟩ := h
  unfold min1M at fin
  split at fin
  · rename_i d
    split at fin
    · rename_i n hn
      obtain ⟨x, rfl, r⟩ := rs1 hr
      cases q : lstInts d S with
      | none => rw [q] at hn; cases hn
      | some ns =>
        rw [q] at hn
        have hn : leastI ns = some n := hn
        obtain ⟨a, rfl, ha⟩ := ints_ok sim q r
        obtain ⟨l1, l2⟩ := least_ok hn
        refine cr_min hc pins s σ H _ us Q I rx ⟨a, ns, rfl, ha, List.length_pos_of_mem l1, fun m hm hle => ?_⟩
        have e1 := hle n l1
        have e2 := l2 m hm
        have : m = n := by omega
        subst this
        exact fin.ret sim rfl
    · split at fin
      · rename_i ys hy
        split at fin
        · rename_i y hb
          obtain ⟨x, rfl, r⟩ := rs1 hr
          obtain ⟨a, vs, rfl, hq, rr⟩ := seq_ok sim hy r
          obtain ⟨ok, fin⟩ := Fin.chk fin
          refine cr_minD hu hc pins s σ H _ us Q I rx ⟨as, a, vs, ys, rfl, hq, rr, ok, by
            cases ys with
            | nil => simp at hb
            | cons => simp, fun v hv => ?_⟩
          obtain ⟨v', h1, h2⟩ := rr.get hb
          rw [hv] at h1; cases h1
          exact fin.ret sim h2
        · exact fin.elim
      · exact fin.elim
  · exact fin.elim
theorem cr_max1' (hc : X.calm = true) : CallR X (.builtin "max") (rDs X.K mg E max1M) := by
  intro pins s σ H xs us Q I rx h
  obtain ⟨as, S, ds, sim, hr, fin⟩ := h
  unfold max1M at fin
  split at fin
  · rename_i d
    split at fin
    · rename_i n hn
      obtain ⟨x, rfl, r⟩ := rs1 hr
      cases q : lstInts d S with
      | none => rw [q] at hn; cases hn
      | some ns =>
        rw [q] at hn
        have hn : mostI ns = some n := hn
        obtain ⟨a, rfl, ha⟩ := ints_ok sim q r
        obtain ⟨l1, l2⟩ := most_ok hn
        refine cr_max hc pins s σ H _ us Q I rx ⟨a, ns, rfl, ha, List.length_pos_of_mem l1, fun m hm hle => ?_⟩
        have e1 := hle n l1
        have e2 := l2 m hm
        have : m = n := by omega
        subst this
        exact fin.ret sim rfl
    · exact fin.elim
  · exact fin.elim
theorem cr_min2' (hc : X.calm = true) : CallR X (.builtin "min") (rDs X.K mg E min2M) := by
  intro pins s σ H xs us Q I rx h
  obtain ⟨as, S, ds, sim, hr, fin⟩ := h
  unfold min2M at fin
  split at fin
  · obtain ⟨x, y, rfl, rfl, rfl⟩ := rs2 hr
    exact call_min2 hc pins s σ H _ us Q I rx ⟨_, _, rfl, Fin.ret fin sim rfl⟩
  · exact fin.elim
theorem cr_max2' (hc : X.calm = true) : CallR X (.builtin "max") (rDs X.K mg E max2M) := by
  intro pins s σ H xs us Q I rx h
  obtain ⟨as, S, ds, sim, hr, fin⟩ := h
  unfold max2M at fin
  split at fin
  · obtain ⟨x, y, rfl, rfl, rfl⟩ := rs2 hr
    exact call_max2 hc pins s σ H _ us Q I rx ⟨_, _, rfl, Fin.ret fin sim rfl⟩
  · exact fin.elim
/-! ## methods -/
def rMt (K : PySem.W.Frag) (mg : Str → Option Value) (E : XK) (g : D → List D → M D) : V → List V → Hp → VK → Prop := fun x xs H Q => ∃ as S d ds, Sim K as S H ∧ Rep K as H d x ∧ Reps K as H ds xs ∧ Fin K mg E (Rep K) as H (g d ds S) Q
theorem own_ok {K : PySem.W.Frag} {as : List Addr} {H : Hp} {S : Sto} (sim : Sim K as S H) {i : Nat} {x : V} {xs : List D} (r : Rep K as H (.ref i) x) (h : S[i]? = some (.lst xs)) : ∃ a vs, x = .ref a ∧ as[i]? = some a ∧ H a = some (.lst vs) ∧ Reps K as H xs vs := by
  obtain ⟨a, ha, hx⟩ := r
  obtain ⟨o, ho, hr⟩ := sim.has ha
  rw [h] at ho; cases ho
  obtain ⟨vs, h1, h2⟩ := hr
  exact ⟨a, vs, hx, ha, h1, h2⟩
theorem fin_set {K : PySem.W.Frag} {as : List Addr} {H : Hp} {S : Sto} {α β : Type} {Rl : List Addr → Hp → α → β → Prop} {i : Nat} {a : Addr} {ys : List D} {us : List V} {y : α} {z : β} {Q : β → Hp → Prop} (fin : Fin K mg E Rl as H (.ok y (S.set i (.lst ys))) Q) (sim : Sim K as S H) (ha : as[i]? = some a)
    (r : Reps K as H ys us) (q : Rl as (upd H a (.lst us)) y z) : Q z (upd H a (.lst us)) :=
  fin as _ z (sim.ext ha) (sim.set ha ⟨us, upd_same, r.mono (sim.ext ha)⟩) q
theorem mr_append : MtM X "list.append" (rMt X.K mg E appendM) := by
  intro pins s σ H x xs v us Q I rx rv h
  obtain ⟨as, S, d, ds, sim, hd, hr, fin⟩ := h
  unfold appendM at fin
  split at fin
  · split at fin
    · rename_i ys hy
      split at fin
      · rename_i hl
        obtain ⟨z, rfl, rz⟩ := rs1 hr
        obtain ⟨a, vs, rfl, ha, hH, rr⟩ := own_ok sim hd hy
        rw [line_eq] at hl
        exact mt_append pins s σ H _ _ v us Q I rx rv ⟨a, vs, z, rfl, rfl, hH, by rw [rr.length]; exact hl, fin_set fin sim ha (rr.append (Reps.one rz)) rfl⟩
      · exact fin.elim
    · exact fin.elim
  · exact fin.elim
theorem mr_extend : MtM X "list.extend" (rMt X.K mg E extendM) := by
  intro pins s σ H x xs v us Q I rx rv h
  obtain ⟨as, S, d, ds, sim, hd, hr, fin⟩ := h
  unfold extendM at fin
  split at fin
  · split at fin
    · rename_i ys zs hy hz
      split at fin
      · rename_i hl
        obtain ⟨z, rfl, rz⟩ := rs1 hr
        obtain ⟨a, vs, rfl, ha, hH, rr⟩ := own_ok sim hd hy
        obtain ⟨b, ws, rfl, hb, r2⟩ := tls_ok sim hz rz
        rw [line_eq] at hl
        exact mt_extendR pins s σ H _ _ v us Q I rx rv ⟨a, b, vs, ws, rfl, rfl, hH, hb, by rw [rr.length, r2.length]; exact hl, fin_set fin sim ha (rr.append r2) rfl⟩
      · exact fin.elim
    · exact fin.elim
  · exact fin.elim
theorem mr_popAt : MtM X "list.pop" (rMt X.K mg E popAtM) := by
  intro pins s σ H x xs v us Q I rx rv h
  obtain ⟨as, S, d, ds, sim, hd, hr, fin⟩ := h
  unfold popAtM at fin
  split at fin
  · split at fin
    · rename_i ys hy
      split at fin
      · rename_i j hj
        split at fin
        · rename_i y hyj
          obtain ⟨z, rfl, rfl⟩ := rs1 hr
          obtain ⟨a, vs, rfl, ha, hH, rr⟩ := own_ok sim hd hy
          obtain ⟨w, hw, rw'⟩ := rr.get hyj
          rw [← rr.length] at hj
          obtain ⟨h1, h2, h3, h4⟩ := ixN_seq hj
          have hz : vs.length ≤ sizeLine := (I.lstM hH).1
          have hn := line63
          exact mt_popAt pins s σ H _ _ v us Q I rx rv ⟨a, vs, _, j, w, rfl, rfl, hH, by omega, by omega, h1, hw, fin_set fin sim ha (rr.eraseIdx j) (rw'.mono (sim.ext ha))⟩
        · exact fin.elim
      · exact fin.elim
    · exact fin.elim
  · exact fin.elim
/-! ## stores -/
theorem set_d : PSet X (fun o i v H Q => ∃ as S d e f, Sim X.K as S H ∧ Rep X.K as H d o ∧ Rep X.K as H e i ∧ Rep X.K as H f v ∧ Fin X.K mg E (fun _ _ (_ : Unit) (_ : Unit) => True) as H (stoM d e f S) (fun _ H' => Q H')) := by
  intro pins s σ H o i v ov iv u Q I ro ri rv h
  obtain ⟨as, S, d, e, f, sim, hd, he, hf, fin⟩ := h
  unfold stoM at fin
  split at fin
  · split at fin
    · rename_i ys hy
      split at fin
      · rename_i j hj
        cases he
        obtain ⟨a, vs, rfl, ha, hH, rr⟩ := own_ok sim hd hy
        rw [← rr.length] at hj
        exact set_list pins s σ H _ _ v ov iv u Q I ro ri rv ⟨a, vs, _, j, rfl, rfl, hH, hj, fin_set (z := ()) fin sim ha (rr.set hf j) trivial⟩
      · exact fin.elim
    · exact fin.elim
  · exact fin.elim
/-! ## isinstance -/
def tyName : Ty → String
  | .int => "int" | .bool => "bool" | .str => "str" | .tuple => "tuple" | .list => "list" | .dict => "dict"
theorem isT_ok {K : PySem.W.Frag} {t : Ty} {n : String} {b : Bool} (h : kitB n (tyName t) = some b) : PySem.W.kitOne K (.type n) (.type (tyName t)) = some b := kit_ty h
def isN (t : Ty) (n : String) : Bool := match t with
  | .int => n == "int" || n == "bool"
  | .bool => n == "bool"
  | .str => n == "str"
  | .tuple => n == "tuple"
  | .list => n == "list"
  | .dict => n == "dict"
theorem kit_all (t : Ty) : kitB "NoneType" (tyName t) = some (isN t "NoneType") ∧ kitB "bool" (tyName t) = some (isN t "bool") ∧ kitB "int" (tyName t) = some (isN t "int") ∧ kitB "str" (tyName t) = some (isN t "str")
    ∧ kitB "tuple" (tyName t) = some (isN t "tuple") ∧ kitB "list" (tyName t) = some (isN t "list") ∧ kitB "dict" (tyName t) = some (isN t "dict") := by
  cases t <;> decide +kernel
theorem frl_ty {K : PySem.W.Frag} {H : Hp} {a : Addr} {xs : List V} (h : FrL K H a xs) : TyX K H (.ref a) (.type "list") := by
  rcases h with ⟨o, h⟩ | ⟨o, its, n, h1, h2, _⟩
  · exact .base (.frz h)
  · exact .kList h1 h2
theorem sqt_ty {K : PySem.W.Frag} {H : Hp} {a : Addr} {xs : List V} (h : SqT K H a xs) : TyX K H (.ref a) (.type "tuple") := by
  rcases h with (h | ⟨o, h⟩) | ⟨o, its, n, h1, h2, _⟩
  · exact .base (.tup h)
  · exact .fTuple h
  · exact .kTuple h1 h2
theorem is_ok {K : PySem.W.Frag} {as : List Addr} {H : Hp} {S : Sto} (sim : Sim K as S H) {d : D} {t : Ty} {b : Bool} {x : V} (r : Rep K as H d x) (h : isK t d S = some b) :
    ∃ n, TyX K H x (.type n) ∧ PySem.W.kitOne K (.type n) (.type (tyName t)) = some b := by
  obtain ⟨k1, k2, k3, k4, k5, k6, k7⟩ := kit_all t
  cases d with
  | non => cases r; refine ⟨"NoneType", .base .non, isT_ok ?_⟩; rw [k1]; cases t <;> exact h
  | bl c => cases r; refine ⟨"bool", .base (.bl _), isT_ok ?_⟩; rw [k2]; cases t <;> exact h
  | int c => cases r; refine ⟨"int", .base (.int _), isT_ok ?_⟩; rw [k3]; cases t <;> exact h
  | str c => cases r; refine ⟨"str", .base (.str _), isT_ok ?_⟩; rw [k4]; cases t <;> exact h
  | tup c =>
    obtain ⟨a, vs, rfl, h2, _⟩ := r
    refine ⟨"tuple", sqt_ty h2, isT_ok ?_⟩; rw [k5]; cases t <;> exact h
  | ptp c =>
    obtain ⟨a, vs, rfl, h2, _⟩ := r
    refine ⟨"tuple", sqt_ty h2.sq, isT_ok ?_⟩; rw [k5]; cases t <;> exact h
  | fz c =>
    obtain ⟨a, vs, rfl, h2, _⟩ := r
    obtain ⟨o, h2⟩ := h2; refine ⟨"list", .base (.frz h2), isT_ok ?_⟩; rw [k6]; cases t <;> exact h
  | fr c =>
    obtain ⟨a, vs, rfl, h2, _⟩ := r
    refine ⟨"list", frl_ty h2, isT_ok ?_⟩; rw [k6]; cases t <;> exact h
  | ref i =>
    obtain ⟨a, ha, rfl⟩ := r
    obtain ⟨o, ho, hr⟩ := sim.has ha
    simp only [isK, ho] at h
    cases o with
    | lst ys => obtain ⟨vs, h1, _⟩ := hr; refine ⟨"list", .base (.lst h1), isT_ok ?_⟩; rw [k6]; cases t <;> exact h
    | dK ys => obtain ⟨vs, h1, _⟩ := hr; refine ⟨"dict", .base (.dK h1), isT_ok ?_⟩; rw [k7]; cases t <;> exact h
    | dT ys => obtain ⟨vs, h1, _⟩ := hr; refine ⟨"dict", .base (.dT h1), isT_ok ?_⟩; rw [k7]; cases t <;> exact h
end
end Pu


namespace Pu
open PySem PySem.Spec PyProof.Rows L2
/-! ## a set of ints by two for's, without tests -/
abbrev sc2 (x t0 i0 t1 i1 : Expr) (sp : Scope) (ps : Pos) : Expr := .SetComp x [⟨t0, i0, [], 0⟩, ⟨t1, i1, [], 0⟩] sp ps
section
variable {x t0 i0 t1 i1 : Expr} {sp : Scope} {ps : Pos} {it D : Value} {en : Env}
theorem turn_outer : compTurn (sc2 x t0 i0 t1 i1 sp ps) 0 it D en = (do
    standAt i0.pos
    match ← pyNext it with
    | none => pure (.done .next)
    | some item =>
      letOwnedTupleGo t0 it item
      assign t0 en item
      let src ← eval i1 en
      standAt i1.pos
      let src ← foldedSetIterable i1 en src
      let _ ← runOwn (.compStart (sc2 x t0 i0 t1 i1 sp ps) 1 (← holding [src] (pyIter src)) D en) en
      again (.compLoop (sc2 x t0 i0 t1 i1 sp ps) 0 it D en)) := by rfl
theorem turn_inner : compTurn (sc2 x t0 i0 t1 i1 sp ps) 1 it D en = (do
    standAt i1.pos
    match ← pyNext it with
    | none => pure (.done .next)
    | some item =>
      letOwnedTupleGo t1 it item
      assign t1 en item
      (do let member ← eval x en; standAt x.pos; let _ ← call (.builtin "set.add") [D, member])
      again (.compLoop (sc2 x t0 i0 t1 i1 sp ps) 1 it D en)) := by rfl
variable {prog : Program} {w : World} {A : Around} {Z : Result → Shared → Prop} {s : Shared}
abbrev Bad (prog : Program) (w : World) (A : Around) (en : Env) (Z : Result → Shared → Prop) : Value → Shared → Prop := notedBy (model prog w) A en fun e s' => Z (.error e) s'
theorem loop_outer (hs : ∀ v, foldedSetIterable i1 en v = pure v) (J : Nat → Shared → Prop)
    (step : ∀ n s, J n s → wpAny (model prog w) A (pyNext it) (fun r sa => match r with
      | none => Z (.ok .next) sa
      | some item => wpAny (model prog w) A (letOwnedTupleGo t0 it item) (fun _ sb => wpAny (model prog w) A (assign t0 en item) (fun _ sc =>
          wpAny (model prog w) A (eval i1 en) (fun src sd => wpAny (model prog w) A (pyIter src) (fun jt se =>
            codeAny (model prog w) A (.compStart (sc2 x t0 i0 t1 i1 sp ps) 1 jt D en) (fun r s' => match r with
              | .ok _ => ∃ m, m < n ∧ J m s'
              | .error _ => False) se) (Bad prog w A en Z) sd) (Bad prog w A en Z) sc) (Bad prog w A en Z) sb) (Bad prog w A en Z) sa) (Bad prog w A en Z) s)
    (n : Nat) (h : J n s) : codeAny (model prog w) A (.compLoop (sc2 x t0 i0 t1 i1 sp ps) 0 it D en) Z s := by
  refine codeAny_loop rfl J (fun n s hJ => ?_) n h
  show wpAny _ A ((compTurn (sc2 x t0 i0 t1 i1 sp ps) 0 it D en).onRaise (fun e => do noteFrame e en; theTreesLotGoes e)) _ _ s
  refine wpAny_noted ?_
  rw [turn_outer]
  refine wpAny_bind (wpAny_standAt (wpAny_bind (wpAny_mono (step n s hJ) (fun r sa ha => ?_) fun _ _ z => z)))
  cases r with
  | none => exact wpAny_pure ha
  | some item =>
    refine wpAny_bind (wpAny_mono ha (fun _ sb hb => ?_) fun _ _ z => z)
    refine wpAny_bind (wpAny_mono hb (fun _ sc hc => ?_) fun _ _ z => z)
    refine wpAny_bind (wpAny_mono hc (fun src sd hd => ?_) fun _ _ z => z)
    refine wpAny_bind (wpAny_standAt (wpAny_bind (wpAny_of_eq (hs src) (wpAny_bind (wpAny_holding (wpAny_mono hd (fun jt se he => ?_) fun _ _ z => z))))))
    refine wpAny_bind (wpAny_runOwn ?_)
    rw [Around.mark_none]
    refine codeAny_mono he fun q s' hq => ?_
    cases q with
    | ok f => first | exact wpAny_pure ⟨rfl, hq⟩ | exact wpAny_bind (wpAny_pure (wpAny_pure ⟨rfl, hq⟩))
    | error e => exact hq.elim
theorem loop_inner (J : Nat → Shared → Prop)
    (step : ∀ n s, J n s → wpAny (model prog w) A (pyNext it) (fun r sa => match r with
      | none => Z (.ok .next) sa
      | some item => wpAny (model prog w) A (letOwnedTupleGo t1 it item) (fun _ sb => wpAny (model prog w) A (assign t1 en item) (fun _ sc =>
          wpAny (model prog w) A (eval x en) (fun member sd => wpAny (model prog w) A (call (.builtin "set.add") [D, member]) (fun _ se => ∃ m, m < n ∧ J m se) (Bad prog w A en Z) sd) (Bad prog w A en Z) sc) (Bad prog w A en Z) sb) (Bad prog w A en Z) sa) (Bad prog w A en Z) s)
    (n : Nat) (h : J n s) : codeAny (model prog w) A (.compLoop (sc2 x t0 i0 t1 i1 sp ps) 1 it D en) Z s := by
  refine codeAny_loop rfl J (fun n s hJ => ?_) n h
  show wpAny _ A ((compTurn (sc2 x t0 i0 t1 i1 sp ps) 1 it D en).onRaise (fun e => do noteFrame e en; theTreesLotGoes e)) _ _ s
  refine wpAny_noted ?_
  rw [turn_inner]
  refine wpAny_bind (wpAny_standAt (wpAny_bind (wpAny_mono (step n s hJ) (fun r sa ha => ?_) fun _ _ z => z)))
  cases r with
  | none => exact wpAny_pure ha
  | some item =>
    refine wpAny_bind (wpAny_mono ha (fun _ sb hb => ?_) fun _ _ z => z)
    refine wpAny_bind (wpAny_mono hb (fun _ sc hc => ?_) fun _ _ z => z)
    exact wpAny_bind (wpAny_bind (wpAny_mono hc (fun member sd hd => wpAny_bind (wpAny_standAt (wpAny_bind (wpAny_mono hd (fun _ se he => wpAny_pure (wpAny_pure ⟨rfl, he⟩)) fun _ _ z => z)))) fun _ _ z => z))
theorem start_inner (h0 : codeAny (model prog w) A (.compLoop (sc2 x t0 i0 t1 i1 sp ps) 1 it D en) Z s)
    (h : wpAny (model prog w) A (pyIter it) (fun jt s' => codeAny (model prog w) A (.compLoop (sc2 x t0 i0 t1 i1 sp ps) 1 jt D en) Z s') (Bad prog w A en Z) s) :
    codeAny (model prog w) A (.compStart (sc2 x t0 i0 t1 i1 sp ps) 1 it D en) Z s := by
  refine codeAny_of_tree ?_
  show wpAny _ _ ((compStart (sc2 x t0 i0 t1 i1 sp ps) 1 it D en).onRaise (fun e => do noteFrame e en; standAt theWindowsPlace)) _ _ s
  refine wpAny_notedAt ?_
  unfold compStart
  show wpAny _ _ (ask >>= _) _ _ s
  refine wpAny_bind (wpAny_askSetting (wpAny_ite ?_))
  split
  · first | exact wpAny_bind (wpAny_pure (wpAny_pure (And.intro rfl h0))) | exact wpAny_pure (And.intro rfl h0)
  · first
    | exact wpAny_bind (wpAny_rule (wpAny_bind (wpAny_standAt (wpAny_bind (wpAny_mono h (fun jt s' z => wpAny_pure (And.intro rfl z)) fun _ _ z => z)))))
    | (refine wpAny_bind (wpAny_rule ?_); show wpAny _ _ (standAt i1.pos >>= _) _ _ s; exact wpAny_bind (wpAny_standAt (wpAny_bind (wpAny_mono h (fun jt s' z => wpAny_pure (And.intro rfl z)) fun _ _ z => z))))
end
section
variable {X : Cx}
theorem add_int {pins : List (Addr × Obj)} {σ : L2.St} {H : Hp} {s : Shared} {E : Value → Shared → Prop} {D : Addr} {S : Int → Bool} {n : Nat} {y : Int} {u : Value} {Q : Value → Shared → Prop} (I : Inv X pins σ H s) (hD : H D = some (SetO X.w D S n)) (room : n + 1 < scanBound) (r : RelV (.int y) u)
    (h : ∀ s', Inv X pins σ (upd H D (SetO X.w D (fun j => S j || decide (j = y)) (if S y = true then n else n + 1))) s' → Q .none s') : wpAny (model X.prog X.w) X.A (call (.builtin "set.add") [.ref D, u]) Q E s := by
  obtain ⟨tk, rfl⟩ := r
  refine setR_add (setO_get I hD) room fun h' sb new => ?_
  have there : ∃ o, h'.get? D = some o := by obtain ⟨o, _, _, _, ho, _⟩ := new; exact ⟨o, ho⟩
  exact h _ (I.write (e := D) (t' := s.toks + 1) (by rw [hD]; trivial) (.inl rfl) (fun b o hb ho => (sb.2 b hb).trans ho) there (setO_new new))
/-- {x for t0 in i0 for t1 in i1}: vs the block's names, vs1 those of the second target -/
def tS2 (w : World) (wi : TI) (g : TG) (wi1 : TI) (g1 : TG) (te : TE) (vs vs1 : List Nat) : TE := fun σ H Q => wi σ H fun J H1 => ∀ D, H1 D = none → ∃ W : Nat → Nat → Hp → Prop, (∃ m, W 0 m (upd H1 D (SetO w D (fun _ => false) 0))) ∧ ∀ i m H, W i m H →
  (J.stop i H ∧ Q (.ref D) H) ∨ (J.go i H ∧ ∃ Nx : Hp → Prop, (∀ H', Nx H' → ∃ m', m' < m ∧ W (i + 1) m' H') ∧ ∀ y H', J.yld i H y H' → g y (wipe σ vs) H' fun σ2 H2 => wipe σ2 vs = wipe σ vs ∧
    wi1 σ2 H2 fun J1 H4 => ∃ W1 : Nat → Nat → Hp → Prop, (∃ m, W1 0 m H4) ∧ ∀ j k H, W1 j k H →
      (J1.stop j H ∧ Nx H) ∨ (J1.go j H ∧ ∃ Nx1 : Hp → Prop, (∀ H', Nx1 H' → ∃ k', k' < k ∧ W1 (j + 1) k' H') ∧ ∀ y H', J1.yld j H y H' → g1 y (wipe σ2 vs1) H' fun σ3 H5 => wipe σ3 vs1 = wipe σ2 vs1 ∧
        te σ3 H5 fun z H7 => ∃ (c : Int) (S : Int → Bool) (n : Nat), z = .int c ∧ H7 D = some (SetO w D S n) ∧ n + 1 < scanBound ∧ Nx1 (upd H7 D (SetO w D (fun j => S j || decide (j = c)) (if S c = true then n else n + 1)))))
end

section
variable {X : Cx}
theorem pe_s2 {elt tg iter tg1 iter1 : Expr} {sp : Scope} {own : List (Str × Nat)} {vs1 : List Nat} {ps : Pos} {wi wi1 : TI} {g g1 : TG} {te : TE} (calm : X.calm = true) (nd : X.N.Nodup) (hi : PI X tg iter wi) (ok : BlkOk X.N X.env.scope sp own) (hv : ∀ i ∈ vs1, i ∈ own.map (·.2))
    (hg : ∀ (s : Shared) (H : Hp) (C : Addr) (cl : List (Str × Addr)) (fp : List Addr), PG (X.blk s H sp (compEnvC sp cl C X.env) fp) tg g)
    (hi1 : ∀ (s : Shared) (H : Hp) (C : Addr) (cl : List (Str × Addr)) (fp : List Addr), PI (X.blk s H sp (compEnvC sp cl C X.env) fp) tg1 iter1 wi1)
    (hg1 : ∀ (s : Shared) (H : Hp) (C : Addr) (cl : List (Str × Addr)) (fp : List Addr), PG (X.blk s H sp (compEnvC sp cl C X.env) fp) tg1 g1)
    (he : ∀ (s : Shared) (H : Hp) (C : Addr) (cl : List (Str × Addr)) (fp : List Addr), PE (X.blk s H sp (compEnvC sp cl C X.env) fp) elt te)
    (hs : ∀ v, foldedSetIterable iter X.env v = pure v) (hs1 : ∀ en v, foldedSetIterable iter1 en v = pure v) :
    PE X (sc2 elt tg iter tg1 iter1 sp ps) (tS2 X.w wi g wi1 g1 te (own.map (·.2)) vs1) := by
  refine ⟨fun pins s σ H Q I h => ?_⟩
  rw [PpSet.eval_SetComp]
  have clo : ∀ y ∈ sp.names, y.2 = .free → ∃ c, X.env.cells.lookup y.1 = some c := fun y hy e =>
    (ok.free y hy e).elim (fun k => I.ok.has _ (.inl k)) fun k => I.ok.has _ (.inr k)
  refine wpAny_comprehension_free (use := none) rfl hs (closure_ok clo) ok.kind (fun y hy e => by rw [ok.uniq y hy, e]) (thn (hi.run pins s σ H _ I h) fun xv sa hx => thn hx fun itv sb hb => ?_)
  obtain ⟨it, fp, tn, J, Hb, e0, Ib, T, stb, fb, q⟩ := hb
  subst e0
  refine PpSet.newSet_ok (newEnv_comp ?_)
  generalize eD : sb.heap.objs.size = D
  obtain ⟨W, ⟨m0, w0⟩, turn⟩ := q D (Ib.hok.fresh (Nat.le_of_eq eD))
  -- the set, still empty
  generalize esc : ({ sb with heap := sb.heap.push { cls := .type "set", dict := none, data := .set #[] 0 (.fresh 0 0 (!X.w.params.followText "set-order")) } } : Shared) = sc
  have hsc : sc.heap = sb.heap.push { cls := .type "set", dict := none, data := .set #[] 0 (.fresh 0 0 (!X.w.params.followText "set-order")) } := by rw [← esc]
  have more : ∀ b o, sb.heap.get? b = some o → sc.heap.get? b = some o := fun b o e => by rw [hsc]; exact Heap.get?_push_of_some _ e
  have Ic : Inv X pins σ (upd Hb D (SetO X.w D (fun _ => false) 0)) sc := by
    subst esc eD
    exact Ib.laid (t' := sb.toks) (fun b o e => Heap.get?_push_of_some _ e) (Nat.le_refl _) (setO_new (setR_fresh X.w))
  generalize eHc : upd Hb D (SetO X.w D (fun _ => false) 0) = Hc at Ic w0
  have small : ∀ b ∈ fp, b < sb.heap.objs.size := fun b hb => let ⟨_, e, _⟩ := T.obj _ _ stb b hb; Heap.lt_size e
  have fc : ∀ b ∈ fp, FpOk X pins Hc b ∧ b < sc.heap.objs.size := fun b hb => by
    have lt := small b hb
    refine ⟨⟨?_, (fb b hb).2⟩, by rw [hsc, Heap.size_push]; exact Nat.lt_trans lt (Nat.lt_succ_self _)⟩
    rw [← eHc, upd_ne (by rw [← eD]; exact Nat.ne_of_lt lt)]; exact (fb b hb).1
  have gone : ∀ b ∈ fp, Hc b = none := fun b hb => (fc b hb).1.1
  have Id := block_start Ic ok nd fc
  have pg := hg sc Hc sc.heap.objs.size (cellsFrom (sc.heap.objs.size + 1) sp.names (cloFrom X.env.cells sp.names [])) fp
  have pi := hi1 sc Hc sc.heap.objs.size (cellsFrom (sc.heap.objs.size + 1) sp.names (cloFrom X.env.cells sp.names [])) fp
  have pg1 := hg1 sc Hc sc.heap.objs.size (cellsFrom (sc.heap.objs.size + 1) sp.names (cloFrom X.env.cells sp.names [])) fp
  have pe := he sc Hc sc.heap.objs.size (cellsFrom (sc.heap.objs.size + 1) sp.names (cloFrom X.env.cells sp.names [])) fp
  show codeAny _ _ (.compStart (sc2 elt tg iter tg1 iter1 sp ps) 0 (.ref it) (.ref D) (compEnvC sp (cellsFrom (sc.heap.objs.size + 1) sp.names (cloFrom X.env.cells sp.names [])) sc.heap.objs.size X.env)) (compPost (model X.prog X.w) X.A X.xe none _ (.ref D) sc.heap.objs.size) { sc with heap := pushCells (sc.heap.push { cls := .type "dict", data := .dict #[] }) sp.names }
  generalize een : compEnvC sp (cellsFrom (sc.heap.objs.size + 1) sp.names (cloFrom X.env.cells sp.names [])) sc.heap.objs.size X.env = en at Id pg pi pg1 pe ⊢
  have eL : en.locals = sc.heap.objs.size := by subst een; rfl
  generalize esd : ({ sc with heap := pushCells (sc.heap.push { cls := .type "dict", data := .dict #[] }) sp.names } : Shared) = sd at Id ⊢
  have std : tn 0 sd.heap := T.keep _ _ _ stb fun b _ o e => by rw [← esd]; exact pushCells_keeps _ _ _ _ (Heap.get?_push_of_some _ (more b o e))
  let B : Cx := X.blk sc Hc sp en fp
  have stat : ∀ {σ' : L2.St} {H' : Hp} {s' : Shared}, Inv B [] σ' H' s' → (∀ b ∈ fp, H' b = none) → ∀ b ∈ fp, FpOk B [] H' b := fun {σ' H' s'} I' hn b hb =>
    ⟨hn b hb, (I'.ok.exf b hb).1, I'.ok.exfs b hb, .inl hb, fun y c e => (I'.ok.exf b hb).2 y c e, fun p hp => nomatch (List.append_nil ([] : List (Addr × Obj))) ▸ hp⟩
  generalize eσ : wipe σ (own.map (·.2)) = τ at *
  let K : Nat → Shared → Prop := fun n s' => ∃ i H', Inv B [] τ H' s' ∧ tn i s'.heap ∧ (∀ b ∈ fp, H' b = none) ∧ W i n H'
  have loop : codeAny (model X.prog X.w) X.A (.compLoop (sc2 elt tg iter tg1 iter1 sp ps) 0 (.ref it) (.ref D) en) (compPost (model X.prog X.w) X.A X.xe none (EP X pins σ Q) (.ref D) sc.heap.objs.size) sd := by
    refine loop_outer (hs1 en) K ?_ m0 ⟨0, Hc, Id, std, gone, w0⟩
    rintro n se ⟨i, He, Ie, ste, ne, we⟩
    rcases turn i n He we with ⟨stop, done⟩ | ⟨go, Nx, hNx, step⟩
    · refine thnF (T.done B rfl rfl rfl calm i [] se _ He (fun _ _ => False) Ie (stat Ie ne) ste stop) fun r sf ⟨er, If⟩ => ?_
      subst er
      -- the def's own context again
      have back : Inv X pins σ He sf := Ic.call' (ch := fp) If.os If.base If.hok If.bare fun b hb => let z := (fc b hb).1.2; ⟨z.2.2.1, z.1, z.2.2.2.1, z.2.2.2.2⟩
      have noC : He sc.heap.objs.size = none := by have z : He en.locals = none := If.free; rwa [eL] at z
      obtain ⟨m, hm, _⟩ := If.loc
      have hm : sf.heap.Ns en.locals m := hm
      rw [eL] at hm
      obtain ⟨f0, f1, f2, f3, f4, f5⟩ := Ic.fpOk (Nat.le_refl _) noC
      exact ⟨m, hm, fun h'' sb' => ⟨.ref D, He, back.turned (t' := sf.toks) (fun b o hb e => (sb'.2 b hb).trans e) f0 f1 f3 f4 f5, rfl, done⟩⟩
    · refine thnF (T.item B rfl rfl rfl calm i [] se _ He (fun _ _ => False) Ie (stat Ie ne) ste go) fun r sf ⟨u, er, hf⟩ => ?_
      subst er
      refine thnF hf fun _ sg ⟨y, Hg, Ig, ry, yg, stg, ng⟩ => ?_
      refine thnF (pg.run _ sg _ Hg y u _ (Ig.pinned (stat Ig ng) (T.obj _ _ stg)) ry (step y Hg yg)) fun _ sh ⟨σh, Hh, Ih, wh, qh⟩ => ?_
      -- from any slots that know what the block knew at its start: the turn is done
      have fin : ∀ {σ9 : L2.St} {s' : Shared} {H' : Hp}, Inv B ([] ++ pinsAt fp sg.heap) σ9 H' s' → τ.length = σ9.length → (∀ (j : Nat) v, τ[j]? = some (some v) → σ9[j]? = some (some v)) → Nx H' → ∃ m, m < n ∧ K m s' := fun {σ9 s' H'} I' hl hk nx => by
        obtain ⟨m', lt, w'⟩ := hNx H' nx
        have kept : ∀ b ∈ fp, ∀ o, sg.heap.get? b = some o → s'.heap.get? b = some o ∧ H' b = none := fun b hb o e =>
          let z := I'.pin (b, o) (List.mem_append_right _ (List.mem_append_right _ (mem_pinsAt hb e))); ⟨z.1, z.2.1⟩
        refine ⟨m', lt, i + 1, H', (I'.unpinned (pins := [])).weak hl hk, T.keep _ _ _ stg fun b hb o e => (kept b hb o e).1, fun b hb => ?_, w'⟩
        obtain ⟨o, e, _⟩ := T.obj _ _ stg b hb
        exact (kept b hb o e).2
      have lenh : τ.length = σh.length := by rw [← wh, wipe_length]
      have knowh : ∀ (j : Nat) v, τ[j]? = some (some v) → (wipe σh vs1)[j]? = some (some v) := fun j v e => by
        rw [← wh] at e
        obtain ⟨e1, e2⟩ := wipe_some e
        rw [wipe_out fun z => e2 (hv j z)]; exact e1
      refine thnF (pi.run _ sh σh Hh _ Ih qh) fun xv si hx => thnF hx fun jv sj hj => ?_
      obtain ⟨jt, fp1, tn1, J1, Hj, e1, Ij, T1, stj, fj, W1, ⟨m1, w1⟩, turn1⟩ := hj
      subst e1
      have stat1 : ∀ {H' : Hp}, (∀ b ∈ fp1, H' b = none) → ∀ b ∈ fp1, FpOk B ([] ++ pinsAt fp sg.heap) H' b := fun hn b hb => ⟨hn b hb, (fj b hb).2⟩
      let K1 : Nat → Shared → Prop := fun k s' => ∃ j H', Inv B ([] ++ pinsAt fp sg.heap) (wipe σh vs1) H' s' ∧ tn1 j s'.heap ∧ (∀ b ∈ fp1, H' b = none) ∧ W1 j k H'
      have loop1 : codeAny (model X.prog X.w) X.A (.compLoop (sc2 elt tg iter tg1 iter1 sp ps) 1 (.ref jt) (.ref D) en)
          (fun r s' => match r with
            | .ok _ => ∃ m, m < n ∧ K m s'
            | .error _ => False) sj := by
        refine loop_inner K1 ?_ m1 ⟨0, Hj, Ij.weak (wipe_length _ _) (fun j v e => (wipe_some e).1), stj, fun b hb => (fj b hb).1, w1⟩
        rintro k sk ⟨j, Hk, Ik, stk, nk, wk⟩
        rcases turn1 j k Hk wk with ⟨stop1, nx1⟩ | ⟨go1, Nx1, hNx1, step1⟩
        · refine thnF (T1.done B rfl rfl rfl calm j _ sk (wipe σh vs1) Hk (fun _ _ => False) Ik (stat1 nk) stk stop1) fun r sl ⟨er, Il⟩ => ?_
          subst er
          exact fin Il (lenh.trans (wipe_length σh vs1).symm) knowh nx1
        · refine thnF (T1.item B rfl rfl rfl calm j _ sk (wipe σh vs1) Hk (fun _ _ => False) Ik (stat1 nk) stk go1) fun r sl ⟨u1, er, hl⟩ => ?_
          subst er
          refine thnF hl fun _ sm ⟨y1, Hm, Im, rm, ym, stm, nm⟩ => ?_
          refine thnF (pg1.run _ sm (wipe σh vs1) Hm y1 u1 _ (Im.pinned (stat1 nm) (T1.obj _ _ stm)) rm (step1 y1 Hm ym)) fun _ sn ⟨σn, Hn, In, wn, qn⟩ => ?_
          refine thnF (pe.run _ sn σn Hn _ In qn) fun z so ⟨yv, Ho, Io, ro, c, S0, n0, ez, hDo, room, nx⟩ => ?_
          subst ez
          refine add_int (X := B) Io hDo room ro fun sq Iq => ?_
          obtain ⟨m', lt, w'⟩ := hNx1 _ nx
          have kept : ∀ b ∈ fp1, ∀ o, sm.heap.get? b = some o → sq.heap.get? b = some o ∧ upd Ho D (SetO X.w D (fun j => S0 j || decide (j = c)) (if S0 c = true then n0 else n0 + 1)) b = none := fun b hb o e =>
            let z := Iq.pin (b, o) (List.mem_append_right _ (List.mem_append_right _ (mem_pinsAt hb e))); ⟨z.1, z.2.1⟩
          refine ⟨m', lt, j + 1, _, Iq.unpinned.weak (by rw [← wn, wipe_length]) (fun j v e => by rw [← wn] at e; exact (wipe_some e).1), T1.keep _ _ _ stm fun b hb o e => (kept b hb o e).1, fun b hb => ?_, w'⟩
          obtain ⟨o, e, _⟩ := T1.obj _ _ stm b hb
          exact (kept b hb o e).2
      exact start_inner loop1 (T1.self X.A 0 _ _ _ stj loop1)
  exact PpSet.codeAny_compStart_set loop (T.self X.A 0 _ _ _ std loop)
end
end Pu

namespace Pu
open PySem PySem.Spec PyProof.Rows L2
/-! ## set(list of ints) -/
abbrev eSet (w : World) : Obj := { cls := .type "set", dict := none, data := .set #[] 0 (.fresh 0 0 (!w.params.followText "set-order")) }
section
variable {P : Program} {w : World} {A : Around} {E : Value → Shared → Prop} {s : Shared}
set_option maxHeartbeats 3200000 in
theorem call_set_lst {l : Addr} {its : Array Value} (ns : List Int) {Q : Value → Shared → Prop} (hh : A.handled = none) (hl : s.heap.IsList l its) (ints' : IntsAre its.toList ns) (room : ns.length + 1 < scanBound)
    (h : ∀ (h' : Heap) (tk c : Nat), SetR w h' s.heap.objs.size (fun j => decide (j ∈ ns)) c → c ≤ ns.length → (∀ b o, s.heap.get? b = some o → h'.get? b = some o) → Q (.ref s.heap.objs.size) { s with heap := h', toks := tk }) :
    wpAny (model P w) A (call (.type "set") [.ref l]) Q E s := by
  have many : its.size = ns.length := by have q := IntsAre.length ints'; rwa [Array.length_toList] at q
  obtain ⟨c, tl, hmro⟩ := F.called_set.mro
  have made := F.called_set.made; have isub := F.called_set.sub
  refine wpAny_call (codeAny_of_tree ?_); show wpAny _ _ (callAny (.type "set") _) _ _ _
  refine wpAny_pure ⟨Code.quiet_builtin _ (by decide +kernel), codeAny_builtin F.entry_type_call ?_⟩; rw [Around.under_plain (weight_type_call_type "set" [.ref l] []) rfl]
  have k1 := F.called_set.notType; have k2 := F.called_set.canCreate; have k3 := F.typeCall_set_1 (.ref l)
  repeat (any_goals (first | assumption | wp_step))
  refine codeAny_mono (code_set_led1 (.ref l) (E := E) (Q₁ := fun ob sa => ob = .ref s.heap.objs.size ∧ sa = { s with heap := s.heap.push (eSet w) }) ⟨rfl, rfl⟩) fun r sa hr => ?_
  cases r with
  | error e => exact hr
  | ok fl =>
    cases fl with
    | ret ob =>
      obtain ⟨rfl, rfl⟩ := hr
      have got : (s.heap.push (eSet w)).get? s.heap.objs.size = some (eSet w) := Heap.get?_push_size _ rfl
      have ty : Shared.TypeIs { s with heap := s.heap.push (eSet w) } (.ref s.heap.objs.size) "set" := ⟨_, got, rfl⟩
      have k4 := F.called_set.init.lookup; have k5 := F.called_set.init.bind (.ref s.heap.objs.size)
      repeat (any_goals (first | assumption | wp_step))
      refine codeAny_mono (codeAny_call_builtin (R := wants (fun r sb => r = .none ∧ ∃ h' tk c, sb = { s with heap := h', toks := tk } ∧ SetR w h' s.heap.objs.size (fun j => decide (j ∈ ns)) c ∧ c ≤ ns.length ∧ (∀ b o, s.heap.get? b = some o → h'.get? b = some o)) E) F.called_set.init.plain F.entry_set_init (check_set_init_1 ty ?_)) fun r2 sb hr2 => ?_
      · obtain ⟨⟨cl, di, da, sl⟩, hol, hcl, nl, hdl⟩ := hl
        simp only at hcl hdl
        subst hcl hdl
        have hol' : (s.heap.push (eSet w)).get? l = some { cls := .type "list", dict := di, data := .seq its nl, slots := sl } := Heap.get?_push_of_some _ hol
        have n1 := F.sub_list_set; have n2 := F.sub_list_frozenset
        have n3 : (Value.type "list" == Value.type "dict") = false := by decide
        have hl1 : (s.heap.push (eSet w)).IsList l its := ⟨_, hol', rfl, nl, rfl⟩
        unfold Builtin.«set.__init__» noKeywords Builtin.Frozenset.updateFrom
        generalize ePI : pyIter = PI
        wp_walk
        subst ePI
        refine wpAny_pyIter_list hl1 ?_; refine wpAny_bind (wpAny_runValue ?_)
        have lt : l < s.heap.objs.size := Heap.lt_size hol
        have sz : (s.heap.push (eSet w)).objs.size = s.heap.objs.size + 1 := Heap.size_push ..
        refine set_update_ints ((Walks.list (by simp [hh]) _ l (by rw [sz]; exact Nat.ne_of_lt (Nat.lt_succ_of_lt lt)) its).toS) s.heap.objs.size
          (by rw [sz]; simp only [List.mem_cons, List.mem_singleton, List.not_mem_nil, or_false, not_or]; exact ⟨Nat.ne_of_lt (Nat.lt_succ_self _), Nat.ne_of_gt lt⟩) ns many room (fun i v hv => ?_) (its.size - 0) 0 _ (by omega) (Nat.zero_le _) ⟨⟨_, Heap.get?_push_size _ rfl, rfl, rfl⟩, (hl1.push _)⟩ ?hS0 ?hR
        · have hi : i < ns.length := by rw [← many]; exact (Array.getElem?_eq_some_iff.mp hv).1
          obtain ⟨t, e⟩ := PyProof.Rows.IntsAre.int_at ints' i v (by rw [Array.getElem?_toList]; exact hv)
          exact ⟨ns[i], t, List.getElem?_eq_getElem hi, by rw [e, List.getD_eq_getElem?_getD, List.getElem?_eq_getElem hi] <;> rfl⟩
        case hS0 => exact ⟨0, Nat.le_refl 0, setR_new_at (Heap.get?_push_of_some _ got)⟩
        case hR =>
          rintro ⟨h', ga, dr, tk', os'⟩ c' mv hc' hS'
          have e1 : ga = s.gens := mv.gens
          have e2 : dr = s.drawn := mv.drawn
          have e3 : os' = s.os := mv.os
          subst e1 e2 e3
          show wpAny _ _ _ _ _ _
          refine wpAny_pure ?_
          show wpAny _ _ (ret Value.none) _ _ _
          rw [many] at hc'
          refine wpAny_pure ⟨rfl, h', tk', c', rfl, hS', hc', fun b o e => ?_⟩
          have lb : b < s.heap.objs.size := Heap.lt_size e
          refine mv.heap b o ?_ (Heap.get?_push_of_some _ (Heap.get?_push_of_some _ e))
          rw [sz]; simp only [List.mem_cons, List.mem_singleton, List.not_mem_nil, or_false, not_or]; exact ⟨Nat.ne_of_lt lb, Nat.ne_of_lt (Nat.lt_succ_of_lt lb)⟩
      · cases r2 with
        | error e => exact hr2
        | ok f2 =>
          cases f2 with
          | ret r =>
            obtain ⟨rfl, h', tk, c', rfl, hS', hc', hk'⟩ := hr2
            repeat (any_goals (first | assumption | wp_step))
            exact h _ _ _ hS' hc' hk'
          | _ => exact hr2.elim
    | _ => exact hr.elim
end
end Pu

namespace L2
open PySem PySem.Spec PyProof.Rows
section
variable {X : Cx} {e : Expr} {es : List Expr}
theorem PE.imp {t t' : TE} (h : PE X e t) (f : ∀ σ H Q, t' σ H Q → t σ H Q) : PE X e t' := ⟨fun pins s σ H Q I q => h.run pins s σ H Q I (f _ _ _ q)⟩
theorem PT.imp {t t' : TT} (h : PT X e t) (f : ∀ σ H Q, t' σ H Q → t σ H Q) : PT X e t' := ⟨fun pins s σ H Q I q => h.run pins s σ H Q I (f _ _ _ q)⟩
theorem PA.imp {t t' : TA} (h : PA X es t) (f : ∀ σ H Q, t' σ H Q → t σ H Q) : PA X es t' := ⟨fun pos pins s σ H Q I q => h.run pos pins s σ H Q I (f _ _ _ q)⟩
theorem PI.imp {tg : Expr} {t t' : TI} (h : PI X tg e t) (f : ∀ σ H Q, t' σ H Q → t σ H Q) : PI X tg e t' := ⟨fun pins s σ H Q I q => h.run pins s σ H Q I (f _ _ _ q)⟩
theorem PS.imp {st : Stmt} {t t' : TS} (h : PS X st t) (f : ∀ D σ H, t' D σ H → t D σ H) : PS X st t' := ⟨fun pins s σ H D I q => h.run pins s σ H D I (f _ _ _ q)⟩
theorem PSs.imp {st : List Stmt} {t t' : TS} (h : PSs X st t) (f : ∀ D σ H, t' D σ H → t D σ H) : PSs X st t' := ⟨fun pins s σ H D I q => h.run pins s σ H D I (f _ _ _ q)⟩
theorem PW.imp {t t' : TT} (h : PW X e t) (f : ∀ σ H Q, t' σ H Q → t σ H Q) : PW X e t' := ⟨fun w pins s σ H Q I q => h.run w pins s σ H Q I (f _ _ _ q)⟩
end
end L2
namespace Pu
open PySem PySem.Spec PyProof.Rows L2

section
variable {X : Cx} {mg : Str → Option Value} {E : XK} {a b c e : Expr} {es : List Expr} {pos : Pos} {ma mb mc : Env' → M D} {ms : Env' → M (List D)}
/-- X e m: the expression does what m says -/
abbrev ME (X : Cx) (mg : Str → Option Value) (E : XK) (e : Expr) (m : Env' → M D) : Prop := PE X e (tD X.K mg E m)
abbrev MT (X : Cx) (mg : Str → Option Value) (E : XK) (e : Expr) (m : Env' → M Bool) : Prop := PT X e (tB' X.K mg E m)
abbrev MA (X : Cx) (mg : Str → Option Value) (E : XK) (es : List Expr) (m : Env' → M (List D)) : Prop := PA X es (tDs X.K mg E m)

theorem t_bind {K : PySem.W.Frag} {α β γ δ : Type} {Rl : List Addr → Hp → α → β → Prop} {Rl' : List Addr → Hp → γ → δ → Prop} {m : Env' → M α} {f : Env' → α → M γ} {σ : L2.St} {H : Hp} {Q : δ → Hp → Prop}
    (h : tM K mg E Rl' (fun ρ => mbind (m ρ) (f ρ)) σ H Q) :
    tM K mg E Rl m σ H (fun b H1 => ∃ (as : List Addr) (S : Sto) (ρ : Env') (a : α), Sim K as S H1 ∧ EnvR K as H1 σ ρ ∧ Rl as H1 a b ∧ Fin K mg E Rl' as H1 (f ρ a S) Q) := by
  obtain ⟨as, S, ρ, sim, env, fin⟩ := h
  refine ⟨as, S, ρ, sim, env, (Fin.bind (Rl := Rl) fin).imp ?_⟩
  rintro b H1 ⟨as1, S1, a, e1, sim1, r1, fin1⟩
  exact ⟨as1, S1, ρ, a, sim1, env.mono e1, r1, fin1⟩
theorem t_bind2 {K : PySem.W.Frag} {g : D → D → M D} {σ : L2.St} {H : Hp} {Q : VK} (h : tD K mg E (fun ρ => mbind (ma ρ) fun x => mbind (mb ρ) fun y => g x y) σ H Q) :
    tD K mg E ma σ H fun x H1 => tD K mg E mb σ H1 fun y H2 => rD2 K mg E g x y H2 Q := by
  obtain ⟨as, S, ρ, sim, env, fin⟩ := h
  refine ⟨as, S, ρ, sim, env, (Fin.bind (Rl := Rep K) fin).imp ?_⟩
  rintro x H1 ⟨as1, S1, d, e1, sim1, r1, fin1⟩
  refine ⟨as1, S1, ρ, sim1, env.mono e1, (Fin.bind (Rl := Rep K) fin1).imp ?_⟩
  rintro y H2 ⟨as2, S2, d2, e2, sim2, r2, fin2⟩
  exact ⟨as2, S2, d, d2, sim2, r1.mono e2, r2, fin2⟩
theorem t_ret {K : PySem.W.Frag} {α β : Type} {Rl : List Addr → Hp → α → β → Prop} {σ : L2.St} {H : Hp} {Q : β → Hp → Prop} {as : List Addr} {S : Sto} {ρ : Env'} {m : Env' → M α} (sim : Sim K as S H) (env : EnvR K as H σ ρ) (fin : Fin K mg E Rl as H (m ρ S) Q) : tM K mg E Rl m σ H Q :=
  ⟨as, S, ρ, sim, env, fin⟩

/-! ## expressions -/
theorem me_var {i : Nat} {x : Str} (hN : X.N[i]? = some x) (hv : Vis X.env.scope x) (h1 : (x == ("__debug__" : Str)) = false) (h2 : (x == ("__classdict__" : Str)) = false) : ME X mg E (.Name x pos) (varM i) := by
  refine (pe_var hN hv h1 h2).imp fun σ H Q h => ?_
  obtain ⟨as, S, ρ, sim, env, fin⟩ := h
  unfold varM at fin
  try dsimp only at fin
  split at fin
  · rename_i d hd
    obtain ⟨v, hv, r⟩ := env.look i d hd
    exact ⟨v, hv, fin.ret sim r⟩
  · exact fin.elim
theorem me_glob {x : Str} {v : V} {u : Value} {d : D} (hg : Gl X x) (hm : X.mg x = some u) (r : RelV v u) (hr : ∀ as H, Rep X.K as H d v) (h1 : (x == ("__debug__" : Str)) = false) : ME X mg E (.Name x pos) (fun _ => mret d) := by
  refine (pe_glob hg hm r h1).imp fun σ H Q h => ?_
  obtain ⟨as, S, ρ, sim, env, fin⟩ := h
  exact Fin.ret fin sim (hr _ _)
theorem me_int {i : Int} {j : Nat} : ME X mg E (.Constant (.int i) j pos) (fun _ => mret (.int i)) := pe_int.imp fun σ H Q h => by
  obtain ⟨as, S, ρ, sim, env, fin⟩ := h
  exact Fin.ret fin sim rfl
theorem me_bl {i : Bool} {j : Nat} : ME X mg E (.Constant (.bool i) j pos) (fun _ => mret (.bl i)) := pe_bl.imp fun σ H Q h => by
  obtain ⟨as, S, ρ, sim, env, fin⟩ := h
  exact Fin.ret fin sim rfl
theorem me_str {i : Str} {j : Nat} : ME X mg E (.Constant (.str i) j pos) (fun _ => mret (.str i)) := pe_str.imp fun σ H Q h => by
  obtain ⟨as, S, ρ, sim, env, fin⟩ := h
  exact Fin.ret fin sim rfl
theorem me_non {j : Nat} : ME X mg E (.Constant .none j pos) (fun _ => mret .non) := pe_non.imp fun σ H Q h => by
  obtain ⟨as, S, ρ, sim, env, fin⟩ := h
  exact Fin.ret fin sim rfl
theorem me_op {op : Operator} {g : D → D → M D} (ho : OpR X (binaryOp op) (rD2 X.K mg E g)) (ha : ME X mg E a ma) (hb : ME X mg E b mb) : ME X mg E (.BinOp a op b pos) (fun ρ => mbind (ma ρ) fun x => mbind (mb ρ) fun y => g x y) :=
  (pe_op ho ha hb).imp fun _ _ _ h => t_bind2 h
theorem me_neg (ha : ME X mg E a ma) : ME X mg E (.UnaryOp .USub a pos) (fun ρ => mbind (ma ρ) negM) :=
  (pe_un (ur_neg (mg := mg) (E := E)) ha).imp fun σ H Q h => by
    obtain ⟨as, S, ρ, sim, env, fin⟩ := h
    refine ⟨as, S, ρ, sim, env, (Fin.bind (Rl := Rep X.K) fin).imp ?_⟩
    rintro x H1 ⟨as1, S1, d, e1, sim1, r1, fin1⟩
    exact ⟨as1, S1, d, sim1, r1, fin1⟩
theorem me_cmp {op : CmpOp} (hu : X.A.units + 65 < cLine) (ha : ME X mg E a ma) (hb : ME X mg E b mb) (hm : behindInMarks op b = false) : ME X mg E (.Compare a [op] [b] pos) (fun ρ => mbind (ma ρ) fun x => mbind (mb ρ) fun y => cmpM op x y) :=
  (pe_cmpR (or_cmp hu op) ha hb hm).imp fun _ _ _ h => t_bind2 h
theorem bl_of {K : PySem.W.Frag} {as : List Addr} {H : Hp} {S : Sto} {d : D} {x : V} {β : Type} {α : Type} {Rl : List Addr → Hp → α → β → Prop} {f : Bool → M α} {Q : β → Hp → Prop} (r : Rep K as H d x) (fin : Fin K mg E Rl as H ((blM d S).bind f) Q) :
    ∃ k, x = .bl k ∧ Fin K mg E Rl as H (f k S) Q := by
  unfold blM at fin
  try dsimp only at fin
  split at fin
  · cases r; exact ⟨_, rfl, fin⟩
  · exact fin.elim
theorem mt_cmp {op : CmpOp} (hu : X.A.units + 65 < cLine) (ha : ME X mg E a ma) (hb : ME X mg E b mb) (hm : behindInMarks op b = false) : MT X mg E (.Compare a [op] [b] pos) (fun ρ => mbind (mbind (ma ρ) fun x => mbind (mb ρ) fun y => cmpM op x y) blM) :=
  (pt_cmpR (or_cmp (mg := mg) (E := E) hu op) ha hb hm).imp fun σ H Q h => by
    refine t_bind2 (Q := fun x H1 => ∃ k, x = .bl k ∧ Q k H1) (ma := ma) (mb := mb) ?_
    obtain ⟨as, S, ρ, sim, env, fin⟩ := h
    refine ⟨as, S, ρ, sim, env, (Fin.bind (Rl := Rep X.K) fin).imp ?_⟩
    rintro x H1 ⟨as1, S1, d, e1, sim1, r1, fin1⟩
    cases d with
    | bl k => cases r1; exact ⟨k, rfl, Fin.ret fin1 sim1 rfl⟩
    | _ => exact fin1.elim
/-- op a b, op' b c -/
theorem t_chain {o1 o2 : CmpOp} {σ : L2.St} {H : Hp} {Q : VK} (h : tD X.K mg E (fun ρ => mbind (ma ρ) fun x => mbind (mb ρ) fun y => mbind (cmpM o1 x y) fun k => mbind (blM k) fun t => if t then mbind (mc ρ) fun z => cmpM o2 y z else mret (.bl false)) σ H Q) :
    tChain (rD2 X.K mg E (cmpM o1)) (rD2 X.K mg E (cmpM o2)) (tD X.K mg E ma) (tD X.K mg E mb) (tD X.K mg E mc) σ H Q := by
  obtain ⟨as, S, ρ, sim, env, fin⟩ := h
  refine ⟨as, S, ρ, sim, env, (Fin.bind (Rl := Rep X.K) fin).imp ?_⟩
  rintro x H1 ⟨as1, S1, d, e1, sim1, r1, fin1⟩
  have env1 := env.mono e1
  refine ⟨as1, S1, ρ, sim1, env1, (Fin.bind (Rl := Rep X.K) fin1).imp ?_⟩
  rintro y H2 ⟨as2, S2, d2, e2, sim2, r2, fin2⟩
  have env2 := env1.mono e2
  refine ⟨as2, S2, d, d2, sim2, r1.mono e2, r2, (Fin.bind (Rl := Rep X.K) fin2).imp ?_⟩
  rintro z H3 ⟨as3, S3, k, e3, sim3, r3, fin3⟩
  obtain ⟨t, rfl, fin4⟩ := bl_of r3 fin3
  refine ⟨t, rfl, ?_⟩
  cases t with
  | false =>
    rw [if_neg Bool.false_ne_true]
    exact Fin.ret fin4 sim3 rfl
  | true =>
    rw [if_pos rfl]
    refine ⟨as3, S3, ρ, sim3, env2.mono e3, (Fin.bind (Rl := Rep X.K) fin4).imp ?_⟩
    rintro w H4 ⟨as4, S4, d4, e4, sim4, r4, fin5⟩
    exact ⟨as4, S4, d2, d4, sim4, (r2.mono e3).mono e4, r4, fin5⟩
theorem me_chn {o1 o2 : CmpOp} (hu : X.A.units + 65 < cLine) (ha : ME X mg E a ma) (hb : ME X mg E b mb) (hc : ME X mg E c mc) (hm : lastMarks [o1, o2] [b, c] = false) :
    ME X mg E (.Compare a [o1, o2] [b, c] pos) (fun ρ => mbind (ma ρ) fun x => mbind (mb ρ) fun y => mbind (cmpM o1 x y) fun k => mbind (blM k) fun t => if t then mbind (mc ρ) fun z => cmpM o2 y z else mret (.bl false)) :=
  (pe_chain (or_cmp hu o1) (or_cmp hu o2) ha hb hc hm).imp fun _ _ _ h => t_chain h
theorem mt_chn {o1 o2 : CmpOp} (hu : X.A.units + 65 < cLine) (ha : ME X mg E a ma) (hb : ME X mg E b mb) (hc : ME X mg E c mc) (hm : lastMarks [o1, o2] [b, c] = false) :
    MT X mg E (.Compare a [o1, o2] [b, c] pos) (fun ρ => mbind (mbind (ma ρ) fun x => mbind (mb ρ) fun y => mbind (cmpM o1 x y) fun k => mbind (blM k) fun t => if t then mbind (mc ρ) fun z => cmpM o2 y z else mret (.bl false)) blM) :=
  (pt_chain (or_cmp (mg := mg) (E := E) hu o1) (or_cmp (mg := mg) (E := E) hu o2) ha hb hc hm).imp fun σ H Q h => by
    refine t_chain (Q := fun x H1 => ∃ k, x = .bl k ∧ Q k H1) ?_
    obtain ⟨as, S, ρ, sim, env, fin⟩ := h
    refine ⟨as, S, ρ, sim, env, (Fin.bind (Rl := Rep X.K) fin).imp ?_⟩
    rintro x H1 ⟨as1, S1, d, e1, sim1, r1, fin1⟩
    cases d with
    | bl k => cases r1; exact ⟨k, rfl, Fin.ret fin1 sim1 rfl⟩
    | _ => exact fin1.elim
theorem me_and {rest : List Expr} (ha : ME X mg E a ma) (hb : ME X mg E (.BoolOp .And (b :: rest) pos) mb) : ME X mg E (.BoolOp .And (a :: b :: rest) pos) (fun ρ => mbind (ma ρ) fun x => mbind (blM x) fun t => if t then mb ρ else mret (.bl false)) :=
  (pe_and ha hb).imp fun σ H Q h => by
    obtain ⟨as, S, ρ, sim, env, fin⟩ := h
    refine ⟨as, S, ρ, sim, env, (Fin.bind (Rl := Rep X.K) fin).imp ?_⟩
    rintro x H1 ⟨as1, S1, d, e1, sim1, r1, fin1⟩
    obtain ⟨t, rfl, fin2⟩ := bl_of r1 fin1
    refine ⟨t, rfl, ?_⟩
    cases t with
    | false => rw [if_neg Bool.false_ne_true]; exact Fin.ret fin2 sim1 rfl
    | true => rw [if_pos rfl]; exact ⟨as1, S1, ρ, sim1, env.mono e1, fin2⟩
theorem me_or {rest : List Expr} (ha : ME X mg E a ma) (hb : ME X mg E (.BoolOp .Or (b :: rest) pos) mb) : ME X mg E (.BoolOp .Or (a :: b :: rest) pos) (fun ρ => mbind (ma ρ) fun x => mbind (blM x) fun t => if t then mret (.bl true) else mb ρ) :=
  (pe_or ha hb).imp fun σ H Q h => by
    obtain ⟨as, S, ρ, sim, env, fin⟩ := h
    refine ⟨as, S, ρ, sim, env, (Fin.bind (Rl := Rep X.K) fin).imp ?_⟩
    rintro x H1 ⟨as1, S1, d, e1, sim1, r1, fin1⟩
    obtain ⟨t, rfl, fin2⟩ := bl_of r1 fin1
    refine ⟨t, rfl, ?_⟩
    cases t with
    | false => rw [if_neg Bool.false_ne_true]; exact ⟨as1, S1, ρ, sim1, env.mono e1, fin2⟩
    | true => rw [if_pos rfl]; exact Fin.ret fin2 sim1 rfl
theorem me_one {op : BoolOp} (ha : ME X mg E a ma) : ME X mg E (.BoolOp op [a] pos) ma := pe_one ha
theorem me_not (ha : ME X mg E a ma) : ME X mg E (.UnaryOp .Not a pos) (fun ρ => mbind (ma ρ) fun x => mbind (blM x) fun t => mret (.bl (!t))) :=
  (pe_not ha).imp fun σ H Q h => by
    obtain ⟨as, S, ρ, sim, env, fin⟩ := h
    refine ⟨as, S, ρ, sim, env, (Fin.bind (Rl := Rep X.K) fin).imp ?_⟩
    rintro x H1 ⟨as1, S1, d, e1, sim1, r1, fin1⟩
    obtain ⟨t, rfl, fin2⟩ := bl_of r1 fin1
    exact ⟨t, rfl, Fin.ret fin2 sim1 rfl⟩
theorem me_ife {mt : Env' → M Bool} (hc : MT X mg E c mt) (ha : ME X mg E a ma) (hb : ME X mg E b mb) : ME X mg E (.IfExp c a b pos) (fun ρ => mbind (mt ρ) fun k => if k then ma ρ else mb ρ) :=
  (pe_ifExp hc ha hb).imp fun σ H Q h => by
    obtain ⟨as, S, ρ, sim, env, fin⟩ := h
    refine ⟨as, S, ρ, sim, env, (Fin.bind (Rl := RlB) fin).imp ?_⟩
    rintro x H1 ⟨as1, S1, d, e1, sim1, rfl, fin1⟩
    cases d with
    | false => rw [if_neg Bool.false_ne_true]; exact ⟨as1, S1, ρ, sim1, env.mono e1, fin1⟩
    | true => rw [if_pos rfl]; exact ⟨as1, S1, ρ, sim1, env.mono e1, fin1⟩
/-! ## tests -/
theorem mt_val (ha : ME X mg E a ma) (he : ∀ whole, isTrue a X.env whole = (do let v ← whole; standAt a.pos; holding [v] (truthy v))) : MT X mg E a (fun ρ => mbind (ma ρ) truM) :=
  (pt_truth ha he).imp fun σ H Q h => by
    obtain ⟨as, S, ρ, sim, env, fin⟩ := h
    refine ⟨as, S, ρ, sim, env, (Fin.bind (Rl := Rep X.K) fin).imp ?_⟩
    rintro x H1 ⟨as1, S1, d, e1, sim1, r1, fin1⟩
    exact tr_tru sim1 r1 fin1
abbrev MW (X : Cx) (mg : Str → Option Value) (E : XK) (e : Expr) (m : Env' → M Bool) : Prop := PW X e (tB' X.K mg E m)
theorem mw_and {ta tb : Env' → M Bool} {rest : List Expr} (ha : MT X mg E a ta) (hb : MW X mg E (.BoolOp .And (b :: rest) pos) tb) : MW X mg E (.BoolOp .And (a :: b :: rest) pos) (fun ρ => mbind (ta ρ) fun t => if t then tb ρ else mret false) :=
  ((pw_and ha hb)).imp fun σ H Q h => by
    obtain ⟨as, S, ρ, sim, env, fin⟩ := h
    refine ⟨as, S, ρ, sim, env, (Fin.bind (Rl := RlB) fin).imp ?_⟩
    rintro x H1 ⟨as1, S1, d, e1, sim1, rfl, fin1⟩
    cases d with
    | false => rw [if_neg Bool.false_ne_true]; exact Fin.ret fin1 sim1 rfl
    | true => rw [if_pos rfl]; exact ⟨as1, S1, ρ, sim1, env.mono e1, fin1⟩
theorem mw_or {ta tb : Env' → M Bool} {rest : List Expr} (ha : MT X mg E a ta) (hb : MW X mg E (.BoolOp .Or (b :: rest) pos) tb) : MW X mg E (.BoolOp .Or (a :: b :: rest) pos) (fun ρ => mbind (ta ρ) fun t => if t then mret true else tb ρ) :=
  ((pw_or ha hb)).imp fun σ H Q h => by
    obtain ⟨as, S, ρ, sim, env, fin⟩ := h
    refine ⟨as, S, ρ, sim, env, (Fin.bind (Rl := RlB) fin).imp ?_⟩
    rintro x H1 ⟨as1, S1, d, e1, sim1, rfl, fin1⟩
    cases d with
    | false => rw [if_neg Bool.false_ne_true]; exact ⟨as1, S1, ρ, sim1, env.mono e1, fin1⟩
    | true => rw [if_pos rfl]; exact Fin.ret fin1 sim1 rfl
theorem mt_not {ta : Env' → M Bool} (ha : MT X mg E a ta) : MT X mg E (.UnaryOp .Not a pos) (fun ρ => mbind (ta ρ) fun t => mret (!t)) :=
  (pt_not ha).imp fun σ H Q h => by
    obtain ⟨as, S, ρ, sim, env, fin⟩ := h
    refine ⟨as, S, ρ, sim, env, (Fin.bind (Rl := RlB) fin).imp ?_⟩
    rintro x H1 ⟨as1, S1, d, e1, sim1, rfl, fin1⟩
    exact Fin.ret fin1 sim1 rfl
/-! ## arguments, displays, calls -/
theorem ma_nil : MA X mg E [] (fun _ => mret []) := pa_nil.imp fun σ H Q h => by
  obtain ⟨as, S, ρ, sim, env, fin⟩ := h
  exact Fin.ret fin sim rfl
theorem ma_cons (ha : ME X mg E e ma) (hr : MA X mg E es ms) (hs : starEach (e :: es) X.env = (false, eval e X.env) :: starEach es X.env) : MA X mg E (e :: es) (fun ρ => mbind (ma ρ) fun x => mbind (ms ρ) fun xs => mret (x :: xs)) :=
  (pa_cons ha hr hs).imp fun σ H Q h => by
    obtain ⟨as, S, ρ, sim, env, fin⟩ := h
    refine ⟨as, S, ρ, sim, env, (Fin.bind (Rl := Rep X.K) fin).imp ?_⟩
    rintro x H1 ⟨as1, S1, d, e1, sim1, r1, fin1⟩
    refine ⟨as1, S1, ρ, sim1, env.mono e1, (Fin.bind (Rl := Reps X.K) fin1).imp ?_⟩
    rintro xs H2 ⟨as2, S2, ds, e2, sim2, r2, fin2⟩
    exact Fin.ret fin2 sim2 ⟨x, xs, rfl, r1.mono e2, r2⟩
theorem me_tup {k : Nat} (h : MA X mg E es ms) : ME X mg E (.Tuple es k pos) (fun ρ => mbind (ms ρ) newT) :=
  (pe_tup h).imp fun σ H Q h => by
    obtain ⟨as, S, ρ, sim, env, fin⟩ := h
    refine ⟨as, S, ρ, sim, env, (Fin.bind (Rl := Reps X.K) fin).imp ?_⟩
    rintro xs H1 ⟨as1, S1, ds, e1, sim1, r1, fin1⟩
    exact fin_T fin1 sim1 r1
theorem pe_ql {t : TE} (own : Bool) (h : PE X e t) : PE X e (fun σ H Q => t σ H (QL own Q)) := ⟨fun pins s σ H Q I q => ql (own := own) (h.run pins s σ H _ I q)⟩
theorem me_lst (own : Bool) (h : MA X mg E es ms) : ME X mg E (.List es pos) (fun ρ => mbind (ms ρ) (newL own)) :=
  (pe_ql own (pe_lst h)).imp fun σ H Q h => by
    obtain ⟨as, S, ρ, sim, env, fin⟩ := h
    refine ⟨as, S, ρ, sim, env, (Fin.bind (Rl := Reps X.K) fin).imp ?_⟩
    rintro xs H1 ⟨as1, S1, ds, e1, sim1, r1, fin1⟩
    exact fin_L fin1 sim1 r1
theorem t_call {K : PySem.W.Frag} {g : List D → M D} {σ : L2.St} {H : Hp} {Q : VK} (h : tD K mg E (fun ρ => mbind (ms ρ) g) σ H Q) : tDs K mg E ms σ H fun vs H1 => rDs K mg E g vs H1 Q := by
  obtain ⟨as, S, ρ, sim, env, fin⟩ := h
  refine ⟨as, S, ρ, sim, env, (Fin.bind (Rl := Reps K) fin).imp ?_⟩
  rintro xs H1 ⟨as1, S1, ds, e1, sim1, r1, fin1⟩
  exact ⟨as1, S1, ds, sim1, r1, fin1⟩
theorem me_callB {x : Str} {p : Pos} {id : String} {g : List D → M D} (hc : CallR X (.builtin id) (rDs X.K mg E g)) (hg : Gl X x) (hm : X.mg x = none) (hv : bootBuiltins x = some (.builtin id)) (ha : MA X mg E (e :: es) ms)
    (hn : x ≠ "__name__") (hdb : (x == ("__debug__" : Str)) = false) (he : starEach (e :: es) X.env = (false, eval e X.env) :: starEach es X.env) (hpl : (backTo pos (starEach es X.env)).any (·.1) = false) :
    ME X mg E (.Call (.Name x p) (e :: es) [] pos) (fun ρ => mbind (ms ρ) g) := (pe_callB hc hg hm hv ha hn hdb he hpl).imp fun _ _ _ h => t_call h
theorem me_callT {x : Str} {p : Pos} {T : String} {g : List D → M D} (hc : CallR X (.type T) (rDs X.K mg E g)) (hg : Gl X x) (hm : X.mg x = none) (hv : bootBuiltins x = some (.type T)) (ha : MA X mg E (e :: es) ms)
    (hn : x ≠ "__name__") (hdb : (x == ("__debug__" : Str)) = false) (he : starEach (e :: es) X.env = (false, eval e X.env) :: starEach es X.env) (hpl : (backTo pos (starEach es X.env)).any (·.1) = false) :
    ME X mg E (.Call (.Name x p) (e :: es) [] pos) (fun ρ => mbind (ms ρ) g) := (pe_callTy hc hg hm hv ha hn hdb he hpl).imp fun _ _ _ h => t_call h
/-- the promise of a def of the text; n: how many parameters -/
def spM (K : PySem.W.Frag) (mg : Str → Option Value) (n : Nat) (g : List D → M D) : Sp := fun vs H Q E => vs.length = n ∧ ∃ as S ds, Sim K as S H ∧ Reps K as H ds vs ∧ Fin K mg E (Rep K) as H (g ds S) Q
theorem me_call {CX : CXT} {k n : Nat} {f : Addr} {fd : FuncData} {ps : List Str} {x : Str} {p : Pos} {g : List D → M D} (F : FnOk X.prog X.w X.K X.mg X.base CX k f fd ps (spM X.K mg n g)) (hr : Room k X.A) (hg : Gl X x) (hm : X.mg x = some (.ref f)) (hk : PySem.W.keepIn X.K (.ref f) = true)
    (hb : Binds X.K fd ps []) (hx : Passes CX X E) (ha : MA X mg E (e :: es) ms) (hn : n = (e :: es).length) (hl : ∀ ρ S, ∀ ds S', ms ρ S = .ok ds S' → ds.length = (e :: es).length) (hdb : (x == ("__debug__" : Str)) = false) (he : starEach (e :: es) X.env = (false, eval e X.env) :: starEach es X.env) (hpl : (backTo pos (starEach es X.env)).any (·.1) = false) :
    ME X mg E (.Call (.Name x p) (e :: es) [] pos) (fun ρ => mbind (ms ρ) g) :=
  (pe_call F hr hg hm hk hb .nil hx ha hdb he hpl).imp fun σ H Q h => by
    obtain ⟨as, S, ρ, sim, env, fin⟩ := h
    refine ⟨as, S, ρ, sim, env, ?_⟩
    have hl' := hl ρ S
    cases hq : ms ρ S with
    | bad => simp only [mbind, hq, R.bind] at fin; exact fin.elim
    | exc c fs S' => simp only [mbind, hq, R.bind] at fin; exact fin
    | ok ds S' =>
      have hd := hl' ds S' hq
      simp only [mbind, hq, R.bind] at fin
      intro as1 H1 xs e1 sim1 r1
      refine ⟨by rw [List.append_nil, r1.length, hd, hn], as1, S', ds, sim1, by rw [List.append_nil]; exact r1, Fin.ext fin e1⟩
theorem me_isi {x y : Str} {p p2 : Pos} {t : Ty} (hg : Gl X x) (hm : X.mg x = none) (hv : bootBuiltins x = some (.builtin "isinstance")) (hg2 : Gl X y) (hm2 : X.mg y = none) (hv2 : bootBuiltins y = some (.type (tyName t))) (hn2 : y ≠ "__name__") (hdb2 : (y == ("__debug__" : Str)) = false)
    (ha : ME X mg E a ma) (hn : x ≠ "__name__") (hdb : (x == ("__debug__" : Str)) = false) (hs : ∀ r, starEach (a :: r) X.env = (false, eval a X.env) :: starEach r X.env) (hpl : (backTo pos (starEach [.Name y p2] X.env)).any (·.1) = false) :
    ME X mg E (.Call (.Name x p) [a, .Name y p2] [] pos) (fun ρ => mbind (ma ρ) fun d S => match isK t d S with
      | some b => .ok (.bl b) S
      | none => .bad) :=
  (pe_callB call_isi hg hm hv (pa_cons ha (pa_cons (pe_bltn (v := .ty (tyName t)) hg2 hm2 hv2 rfl hn2 hdb2) pa_nil rfl) (hs _)) hn hdb (hs _) hpl).imp fun σ H Q h => by
    obtain ⟨as, S, ρ, sim, env, fin⟩ := h
    refine ⟨as, S, ρ, sim, env, (Fin.bind (Rl := Rep X.K) fin).imp ?_⟩
    rintro v H1 ⟨as1, S1, d, e1, sim1, r1, fin1⟩
    try dsimp only at fin1
    split at fin1
    · rename_i b hb
      obtain ⟨n, h1, h2⟩ := is_ok sim1 r1 hb
      exact ⟨v, .ty (tyName t), _, _, b, rfl, .ty _, h1, h2, fin1.ret sim1 rfl⟩
    · exact fin1.elim
theorem me_lrng {x y : Str} {p p1 pos1 : Pos} (own : Bool) (hc : X.calm = true) (hg : Gl X "list") (hm : X.mg "list" = none) (hg2 : Gl X "range") (hm2 : X.mg "range" = none) (ha : ME X mg E a ma) (hs : starEach [a] X.env = (false, eval a X.env) :: starEach [] X.env) :
    ME X mg E (.Call (.Name "list" p) [.Call (.Name "range" p1) [a] [] pos1] [] pos) (fun ρ => mbind (ma ρ) fun x => match x with
    | .int j => chk (-4611686018427387904 ≤ j) (newL own ((List.range j.toNat).map fun (k : Nat) => D.int (k : Int)))
    | _ => mbad) :=
  (pe_ql own (pe_listRg hc hg hm (prg_1 hg2 hm2 ha hs) rfl)).imp fun σ H Q h => by
    obtain ⟨as, S, ρ, sim, env, fin⟩ := h
    refine ⟨as, S, ρ, sim, env, (Fin.bind (Rl := Rep X.K) fin).imp ?_⟩
    rintro v H1 ⟨as1, S1, d, e1, sim1, r1, fin1⟩
    cases d <;> first | exact fin1.elim | skip
    rename_i j
    obtain ⟨hj, fin1⟩ := Fin.chk fin1
    · skip
      cases r1
      have rr : Reps X.K as1 H1 ((List.range j.toNat).map fun (k : Nat) => D.int (k : Int)) (rgV 0 j) := by
        unfold rgV
        rw [Int.sub_zero]
        have go : ∀ l : List Nat, Reps X.K as1 H1 (l.map fun (k : Nat) => D.int (k : Int)) (l.map fun (i : Nat) => V.int (0 + (i : Int))) := by
          intro l
          induction l with
          | nil => rfl
          | cons n l ih => exact ⟨_, _, rfl, by show V.int (0 + (n : Int)) = V.int (n : Int); rw [Int.zero_add], ih⟩
        exact go _
      obtain ⟨hz, q⟩ := fin_L fin1 sim1 rr
      rw [rgV_length, Int.sub_zero, sizeLine_eq] at hz
      refine ⟨j, rfl, ⟨by omega, by omega, by omega, by omega, by rw [Int.sub_zero]; omega⟩, q⟩
theorem rg_reps {K : PySem.W.Frag} {as : List Addr} {H : Hp} (i j : Int) : Reps K as H ((List.range (j - i).toNat).map fun (k : Nat) => D.int (i + (k : Int))) (rgV i j) := by
  unfold rgV
  have go : ∀ l : List Nat, Reps K as H (l.map fun (k : Nat) => D.int (i + (k : Int))) (l.map fun (k : Nat) => V.int (i + (k : Int))) := by
    intro l
    induction l with
    | nil => rfl
    | cons n l ih => exact ⟨_, _, rfl, rfl, ih⟩
  exact go _
theorem me_trng {p p1 pos1 : Pos} (hc : X.calm = true) (hg : Gl X "tuple") (hm : X.mg "tuple" = none) (hg2 : Gl X "range") (hm2 : X.mg "range" = none) (ha : ME X mg E a ma) (hs : starEach [a] X.env = (false, eval a X.env) :: starEach [] X.env) :
    ME X mg E (.Call (.Name "tuple" p) [.Call (.Name "range" p1) [a] [] pos1] [] pos) (fun ρ => mbind (ma ρ) trngM) :=
  (pe_tupRg hc hg hm (prg_1 hg2 hm2 ha hs) rfl).imp fun σ H Q h => by
    obtain ⟨as, S, ρ, sim, env, fin⟩ := h
    refine ⟨as, S, ρ, sim, env, (Fin.bind (Rl := Rep X.K) fin).imp ?_⟩
    rintro v H1 ⟨as1, S1, d, e1, sim1, r1, fin1⟩
    cases d <;> first | exact fin1.elim | skip
    rename_i j
    obtain ⟨hj, fin1⟩ := Fin.chk fin1
    cases r1
    have rr := rg_reps (K := X.K) (as := as1) (H := H1) 0 j
    have e0 : ((List.range (j - 0).toNat).map fun (k : Nat) => D.int (0 + (k : Int))) = (List.range j.toNat).map fun (k : Nat) => D.int (k : Int) := by
      rw [Int.sub_zero]
      congr 1
      funext k
      rw [Int.zero_add]
    rw [e0] at rr
    obtain ⟨hz, q⟩ := fin_T fin1 sim1 rr
    rw [rgV_length, Int.sub_zero, sizeLine_eq] at hz
    exact ⟨j, rfl, ⟨by omega, by omega, by omega, by omega, by rw [Int.sub_zero]; omega⟩, q⟩
theorem me_rglL {p p1 pos1 : Pos} (own : Bool) (hc : X.calm = true) (hg : Gl X "list") (hm : X.mg "list" = none) (hg2 : Gl X "range") (hm2 : X.mg "range" = none) (ha : ME X mg E a ma) (hb : ME X mg E b mb) (hs : starEach [a, b] X.env = (false, eval a X.env) :: starEach [b] X.env) (hs2 : starEach [b] X.env = (false, eval b X.env) :: starEach [] X.env) :
    ME X mg E (.Call (.Name "list" p) [.Call (.Name "range" p1) [a, b] [] pos1] [] pos) (fun ρ => mbind (ma ρ) fun x => mbind (mb ρ) fun y => rglM false own x y) :=
  (pe_ql own (pe_listRg hc hg hm (prg_2 hg2 hm2 ha hb hs hs2 (by rw [hs2]; rfl)) rfl)).imp fun σ H Q h => by
    obtain ⟨as, S, ρ, sim, env, fin⟩ := h
    refine ⟨as, S, ρ, sim, env, (Fin.bind (Rl := Rep X.K) fin).imp ?_⟩
    rintro v H1 ⟨as1, S1, d, e1, sim1, r1, fin1⟩
    refine ⟨as1, S1, ρ, sim1, env.mono e1, (Fin.bind (Rl := Rep X.K) fin1).imp ?_⟩
    rintro u H2 ⟨as2, S2, d2, e2, sim2, r2, fin2⟩
    cases d <;> first | exact fin2.elim | skip
    cases d2 <;> first | exact fin2.elim | skip
    rename_i i j
    obtain ⟨hj, fin2⟩ := Fin.chk fin2
    cases r1; cases r2
    obtain ⟨hz, q⟩ := fin_L fin2 sim2 (rg_reps i j)
    rw [rgV_length, sizeLine_eq] at hz
    exact ⟨i, j, rfl, rfl, ⟨by omega, by omega, by omega, by omega, by omega⟩, q⟩
theorem me_rglT {p p1 pos1 : Pos} (own : Bool) (hc : X.calm = true) (hg : Gl X "tuple") (hm : X.mg "tuple" = none) (hg2 : Gl X "range") (hm2 : X.mg "range" = none) (ha : ME X mg E a ma) (hb : ME X mg E b mb) (hs : starEach [a, b] X.env = (false, eval a X.env) :: starEach [b] X.env) (hs2 : starEach [b] X.env = (false, eval b X.env) :: starEach [] X.env) :
    ME X mg E (.Call (.Name "tuple" p) [.Call (.Name "range" p1) [a, b] [] pos1] [] pos) (fun ρ => mbind (ma ρ) fun x => mbind (mb ρ) fun y => rglM true own x y) :=
  (pe_tupRg hc hg hm (prg_2 hg2 hm2 ha hb hs hs2 (by rw [hs2]; rfl)) rfl).imp fun σ H Q h => by
    obtain ⟨as, S, ρ, sim, env, fin⟩ := h
    refine ⟨as, S, ρ, sim, env, (Fin.bind (Rl := Rep X.K) fin).imp ?_⟩
    rintro v H1 ⟨as1, S1, d, e1, sim1, r1, fin1⟩
    refine ⟨as1, S1, ρ, sim1, env.mono e1, (Fin.bind (Rl := Rep X.K) fin1).imp ?_⟩
    rintro u H2 ⟨as2, S2, d2, e2, sim2, r2, fin2⟩
    cases d <;> first | exact fin2.elim | skip
    cases d2 <;> first | exact fin2.elim | skip
    rename_i i j
    obtain ⟨hj, fin2⟩ := Fin.chk fin2
    cases r1; cases r2
    obtain ⟨hz, q⟩ := fin_T fin2 sim2 (rg_reps i j)
    rw [rgV_length, sizeLine_eq] at hz
    exact ⟨i, j, rfl, rfl, ⟨by omega, by omega, by omega, by omega, by omega⟩, q⟩
/-! ## subscripts, slices, methods -/
theorem me_idx (ha : ME X mg E a ma) (hb : ME X mg E b mb) (hs : PlainIx b) : ME X mg E (.Subscript a b pos) (fun ρ => mbind (ma ρ) fun x => mbind (mb ρ) fun y => idxM x y) :=
  (pe_ix (xr_idx (mg := mg) (E := E)) ha hb hs).imp fun _ _ _ h => t_bind2 h
abbrev RlO (_ : List Addr) (_ : Hp) (a b : Option Int) : Prop := a = b
abbrev MO (X : Cx) (mg : Str → Option Value) (E : XK) (e : Option Expr) (m : Env' → M (Option Int)) : Prop := PO X e (tM X.K mg E RlO m)
theorem mo_none : MO X mg E none (fun _ => mret none) := ⟨fun pins s σ H Q I h => po_none.run pins s σ H Q I (by
    obtain ⟨as, S, ρ, sim, env, fin⟩ := h
    exact Fin.ret fin sim rfl)⟩
theorem mo_some (ha : ME X mg E a ma) : MO X mg E (some a) (fun ρ => mbind (ma ρ) intO) := ⟨fun pins s σ H Q I h => (po_some ha).run pins s σ H Q I (by
    obtain ⟨as, S, ρ, sim, env, fin⟩ := h
    refine ⟨as, S, ρ, sim, env, (Fin.bind (Rl := Rep X.K) fin).imp ?_⟩
    rintro v H1 ⟨as1, S1, d, e1, sim1, r1, fin1⟩
    cases d <;> first | exact fin1.elim | skip
    cases r1
    exact ⟨_, rfl, Fin.ret fin1 sim1 rfl⟩)⟩
theorem me_slc {lo hi : Option Expr} {ml mh : Env' → M (Option Int)} {p2 : Pos} (own : Bool) (ha : ME X mg E a ma) (hl : MO X mg E lo ml) (hh : MO X mg E hi mh) :
    ME X mg E (.Subscript a (.Slice lo hi none p2) pos) (fun ρ => mbind (ma ρ) fun x => mbind (ml ρ) fun l => mbind (mh ρ) fun h => slcP own x l h) :=
  (pe_slice (sr_slc (mg := mg) (E := E) own) ha hl hh).imp fun σ H Q h => by
    obtain ⟨as, S, ρ, sim, env, fin⟩ := h
    refine ⟨as, S, ρ, sim, env, (Fin.bind (Rl := Rep X.K) fin).imp ?_⟩
    rintro v H1 ⟨as1, S1, d, e1, sim1, r1, fin1⟩
    refine ⟨as1, S1, ρ, sim1, env.mono e1, (Fin.bind (Rl := RlO) fin1).imp ?_⟩
    rintro l H2 ⟨as2, S2, l', e2, sim2, rfl, fin2⟩
    refine ⟨as2, S2, ρ, sim2, (env.mono e1).mono e2, (Fin.bind (Rl := RlO) fin2).imp ?_⟩
    rintro u H3 ⟨as3, S3, u', e3, sim3, rfl, fin3⟩
    exact ⟨as3, S3, d, sim3, (r1.mono e2).mono e3, fin3⟩
theorem me_rev {k : Nat} {p1 p2 p3 : Pos} (own : Bool) (ha : ME X mg E a ma) : ME X mg E (.Subscript a (.Slice none none (some (.UnaryOp .USub (.Constant (.int 1) k p1) p2)) p3) pos) (fun ρ => mbind (ma ρ) (revM own)) := by
  have h := pe_revA (k := k) (p1 := p1) (p2 := p2) (p3 := p3) (pos := pos) ha
  refine ⟨fun pins s σ H Q I q => ?_⟩
  -- a tuple's answer as it is, a list's frozen where it is not to change
  refine thn (h.run pins s σ H (fun v H1 => Q v H1 ∨ QL own Q v H1) I ?_) fun u s' hu => ?_
  · obtain ⟨as, S, ρ, sim, env, fin⟩ := q
    refine ⟨as, S, ρ, sim, env, (Fin.bind (Rl := Rep X.K) fin).imp ?_⟩
    rintro v H1 ⟨as1, S1, d, e1, sim1, r1, fin1⟩
    unfold revM at fin1
    split at fin1
    · obtain ⟨p, vs, rfl, ha, r⟩ := r1
      exact ⟨p, vs, rfl, .inr ⟨ha, fun q hq => .inl (fin1 as1 _ _ (Ext.fixed hq) (sim1.fixed hq) ⟨q, _, rfl, SqT.of upd_same, r.reverse.mono (Ext.fixed hq)⟩)⟩⟩
    · obtain ⟨p, vs, rfl, ha, r⟩ := r1
      exact ⟨p, vs, rfl, .inr ⟨ha.sq, fun q hq => .inl (fin1 as1 _ _ (Ext.fixed hq) (sim1.fixed hq) ⟨q, _, rfl, SqT.of upd_same, r.reverse.mono (Ext.fixed hq)⟩)⟩⟩
    · split at fin1
      · rename_i xs hx
        obtain ⟨p, vs, rfl, ha, r⟩ := lst_ok sim1 hx r1
        exact ⟨p, vs, rfl, .inl ⟨ha, fun q hq => .inr (fin_U fin1 sim1 r.reverse q hq)⟩⟩
      · exact fin1.elim
  · obtain ⟨v, H', I', r, q | q⟩ := hu
    · exact ⟨v, H', I', r, q⟩
    · exact ql_ep (own := own) ⟨v, H', I', r, q⟩
/-- o.m(..) of a list's method -/
theorem me_mth {o : Expr} {mo : Env' → M D} {name : Str} {apos cpos : Pos} {id : String} {g : D → List D → M D} (slot : Slot "list" name id) (hty : typeOf (.builtin id) = pure (.type "method_descriptor"))
    (hm : MtM X id (rMt X.K mg E g)) (ho : ME X mg E o mo) (ha : MA X mg E (e :: es) ms)
    (hbase : attributeBase o name X.env (eval o X.env) = eval o X.env)
    (hfew : ((backTo cpos (starEach (e :: es) X.env)).all (fun x => !x.1) && (backToKw cpos (keywordEach [] X.env)).all (fun x => x.1.isSome)
      && decide ((e :: es).length + ([] : List Keyword).length + (if ([] : List Keyword).isEmpty then 0 else 1) < 30)) = true)
    (hline : (apos.endLine == cpos.line) = true) (hs : starEach (e :: es) X.env = (false, eval e X.env) :: starEach es X.env) (hplain : (backTo cpos (starEach es X.env)).any (·.1) = false) :
    ME X mg E (.Call (.Attribute o name apos) (e :: es) [] cpos) (fun ρ => mbind (mo ρ) fun x S => match x with
      | .ref i => match S[i]? with
        | some (.lst _) => mbind (ms ρ) (g x) S
        | _ => .bad
      | _ => .bad) :=
  (pe_bm PySem.F.plainAttrs_list slot hty hm ho ha hbase hfew hline hs hplain).imp fun σ H Q h => by
    obtain ⟨as, S, ρ, sim, env, fin⟩ := h
    refine ⟨as, S, ρ, sim, env, (Fin.bind (Rl := Rep X.K) fin).imp ?_⟩
    rintro v H1 ⟨as1, S1, d, e1, sim1, r1, fin1⟩
    try dsimp only at fin1
    split at fin1
    · split at fin1
      · rename_i ys hy
        obtain ⟨a, vs, rfl, haa, hH, rr⟩ := own_ok sim1 r1 hy
        refine ⟨.inl ⟨rfl, vs, SqL.of hH⟩, as1, S1, ρ, sim1, env.mono e1, (Fin.bind (Rl := Reps X.K) fin1).imp ?_⟩
        rintro xs H2 ⟨as2, S2, ds, e2, sim2, r2, fin2⟩
        exact ⟨as2, S2, _, ds, sim2, r1.mono e2, r2, fin2⟩
      · exact fin1.elim
    · exact fin1.elim
theorem firstAt_ok {K : PySem.W.Frag} {as : List Addr} {H : Hp} {d : D} {x : V} (r : Rep K as H d x) (f : flatD d = true) : ∀ {ds : List D} {xs : List V} {j : Nat}, Reps K as H ds xs → ds.all flatD = true → firstAt d ds = some j →
    ∃ z, xs[j]? = some z ∧ eqV z x = true ∧ ∀ (m : Nat) (w : V), m < j → xs[m]? = some w → eqV w x = false
  | [], _, _, _, _, h => by simp [firstAt] at h
  | e :: ds, xs, j, q, fs, h => by
    obtain ⟨v, t, rfl, h2, h3⟩ := q
    rw [List.all_cons, Bool.and_eq_true] at fs
    have hv := eqF_ok h2 r fs.1 f
    unfold firstAt at h
    by_cases c : eqF e d = true
    · rw [if_pos c] at h
      cases h
      exact ⟨v, rfl, hv.trans c, fun m w hm => absurd hm (by omega)⟩
    · rw [if_neg c] at h
      cases g : firstAt d ds with
      | none => rw [g] at h; cases h
      | some k =>
        rw [g] at h
        cases h
        obtain ⟨z, a1, a2, a3⟩ := firstAt_ok r f h3 fs.2 g
        refine ⟨z, by simpa using a1, a2, fun m w hm hw => ?_⟩
        cases m with
        | zero =>
          simp at hw
          subst hw
          exact hv.trans (Bool.eq_false_iff.mpr c)
        | succ m =>
          have hm : m + 1 < k + 1 := hm
          exact a3 m w (by omega) (by simpa using hw)
/-- o.index(e) of a plain tuple -/
theorem me_tix {o : Expr} {mo : Env' → M D} {apos cpos : Pos} {e : Expr} {me : Env' → M D} (ho : ME X mg E o mo) (he : ME X mg E e me)
    (hbase : attributeBase o "index" X.env (eval o X.env) = eval o X.env)
    (hfew : ((backTo cpos (starEach [e] X.env)).all (fun x => !x.1) && (backToKw cpos (keywordEach [] X.env)).all (fun x => x.1.isSome)
      && decide ([e].length + ([] : List Keyword).length + (if ([] : List Keyword).isEmpty then 0 else 1) < 30)) = true)
    (hline : (apos.endLine == cpos.line) = true) (hs : starEach [e] X.env = (false, eval e X.env) :: starEach [] X.env) (hplain : (backTo cpos (starEach [] X.env)).any (·.1) = false) :
    ME X mg E (.Call (.Attribute o "index" apos) [e] [] cpos) (fun ρ => mbind (mo ρ) fun x => match x with
      | .ptp _ => mbind (me ρ) fun y => tixM x y
      | _ => mbad) :=
  (pe_tix (mt_tixN (X := X)) ho (pa_cons he pa_nil hs) hbase hfew hline hs hplain).imp fun σ H Q h => by
    obtain ⟨as, S, ρ, sim, env, fin⟩ := h
    refine ⟨as, S, ρ, sim, env, (Fin.bind (Rl := Rep X.K) fin).imp ?_⟩
    rintro v H1 ⟨as1, S1, d, e1, sim1, r1, fin1⟩
    cases d with
    | ptp ds =>
      obtain ⟨a, vs, rfl, ha, rr⟩ := id r1
      refine ⟨⟨a, vs, rfl, ha⟩, as1, S1, ρ, sim1, env.mono e1, (Fin.bind (Rl := Rep X.K) fin1).imp ?_⟩
      rintro y H2 ⟨as2, S2, d2, e2, sim2, r2, fin2⟩
      have r1' := r1.mono e2
      obtain ⟨a', vs', ea, ha', rr'⟩ := id r1'
      cases ea
      unfold tixM at fin2
      dsimp only at fin2
      split at fin2
      · rename_i hc
        rw [Bool.and_eq_true] at hc
        split at fin2
        · rename_i j hj
          obtain ⟨z, b1, b2, b3⟩ := firstAt_ok r2 hc.1 rr' hc.2 hj
          exact ⟨a, vs', y, z, j, rfl, rfl, ha'.sq, flat_ok r2 hc.1, flats_ok rr' hc.2, b1, b2, b3, fin2.ret sim2 rfl⟩
        · exact fin2.elim
      · exact fin2.elim
    | _ => exact fin1.elim
theorem firstP_ok {p : PyData} : ∀ {qs : List PyData} {j : Nat}, firstP p qs = some j → ∃ z, qs[j]? = some z ∧ PyData.eqv z p = true ∧ ∀ (m : Nat) (w : PyData), m < j → qs[m]? = some w → PyData.eqv w p = false
  | [], _, h => by simp [firstP] at h
  | q :: qs, j, h => by
    unfold firstP at h
    by_cases c : PyData.eqv q p = true
    · rw [if_pos c] at h
      cases h
      exact ⟨q, rfl, c, fun m w hm => absurd hm (by omega)⟩
    · rw [if_neg c] at h
      cases g : firstP p qs with
      | none => rw [g] at h; cases h
      | some k =>
        rw [g] at h
        cases h
        obtain ⟨z, a1, a2, a3⟩ := firstP_ok g
        refine ⟨z, by simpa using a1, a2, fun m w hm hw => ?_⟩
        cases m with
        | zero => simp at hw; subst hw; exact Bool.eq_false_iff.mpr c
        | succ m =>
          have hm : m + 1 < k + 1 := hm
          exact a3 m w (by omega) (by simpa using hw)
/-- o.index(e) of a list -/
theorem me_lix {o : Expr} {mo : Env' → M D} {apos cpos : Pos} {e : Expr} {me : Env' → M D} (hu : X.A.units + 65 < cLine) (ho : ME X mg E o mo) (he : ME X mg E e me)
    (hbase : attributeBase o "index" X.env (eval o X.env) = eval o X.env)
    (hfew : ((backTo cpos (starEach [e] X.env)).all (fun x => !x.1) && (backToKw cpos (keywordEach [] X.env)).all (fun x => x.1.isSome)
      && decide ([e].length + ([] : List Keyword).length + (if ([] : List Keyword).isEmpty then 0 else 1) < 30)) = true)
    (hline : (apos.endLine == cpos.line) = true) (hs : starEach [e] X.env = (false, eval e X.env) :: starEach [] X.env) (hplain : (backTo cpos (starEach [] X.env)).any (·.1) = false) :
    ME X mg E (.Call (.Attribute o "index" apos) [e] [] cpos) (fun ρ => mbind (mo ρ) fun x S => match lstOf x S with
      | some _ => mbind (me ρ) (fun y => lixM x y) S
      | none => .bad) :=
  (pe_bm PySem.F.plainAttrs_list PySem.F.slot_list_index PySem.F.type_list_index (mt_indexD hu) ho (pa_cons he pa_nil hs) hbase hfew hline hs hplain).imp fun σ H Q h => by
    obtain ⟨as, S, ρ, sim, env, fin⟩ := h
    refine ⟨as, S, ρ, sim, env, (Fin.bind (Rl := Rep X.K) fin).imp ?_⟩
    rintro v H1 ⟨as1, S1, d, e1, sim1, r1, fin1⟩
    try dsimp only at fin1
    split at fin1
    · rename_i ys hy
      obtain ⟨a, vs, rfl, hH, rr⟩ := lst_ok sim1 hy r1
      refine ⟨.inl ⟨rfl, vs, hH⟩, as1, S1, ρ, sim1, env.mono e1, (Fin.bind (Rl := Rep X.K) fin1).imp ?_⟩
      rintro y H2 ⟨as2, S2, d2, e2, sim2, r2, fin2⟩
      have r1' := r1.mono e2
      unfold lixM at fin2
      try dsimp only at fin2
      split at fin2
      · rename_i qs p h1 h2
        split at fin2
        · rename_i hc
          rw [Bool.and_eq_true] at hc
          split at fin2
          · rename_i j hj
            obtain ⟨z, b1, b2, b3⟩ := firstP_ok hj
            exact ⟨a, y, p, qs, j, z, rfl, rfl, toPy_ok sim2 h1 r1', toPy_ok sim2 h2 r2, hc.2, hc.1, b1, b2, b3, fin2.ret sim2 rfl⟩
          · exact fin2.elim
        · exact fin2.elim
      · exact fin2.elim
    · exact fin1.elim
end
end Pu

namespace Cmb
open PySem PySem.Spec
open Sem (wp)
theorem mro_c : mroOf (.type "itertools.combinations") = pure [.type "itertools.combinations", .type "object"] := by rw [mroOf_type]; kernel_rfl
theorem lookup_c_new : typeLookup (.type "itertools.combinations") "__new__" = pure (some (.builtin "itertools.combinations.__new__")) := by rw [typeLookup_type, builtinLookup_eq_fast]; kernel_rfl
theorem slot_c_init : Slot "itertools.combinations" "__init__" "object.__init__" :=
  .of (owner := "object") (n := "__init__") (by rw [typeLookup_type, builtinLookup_eq_fast]; kernel_rfl) (by decide +kernel) (by decide +kernel) (by decide +kernel)
    (by first | exact .inl (by decide +kernel) | exact .inr (by decide +kernel)) (by rw [isSubtype_type]; kernel_rfl)
theorem sub_c : isSubtype (.type "itertools.combinations") (.type "itertools.combinations") = pure true := by rw [isSubtype_type]; kernel_rfl
theorem called_c : TypeCalled "itertools.combinations" "itertools.combinations.__new__" "object.__init__" :=
  ⟨by decide +kernel, by decide +kernel, ⟨_, _, mro_c⟩, madeBy_type mro_c lookup_c_new (by decide +kernel), by decide +kernel, sub_c, slot_c_init⟩
theorem typeCall_c (a b : Value) : checkTypeCall "itertools.combinations" ⟨[a, b], []⟩ = pure () := by kernel_rfl
theorem newCall_c (a b : Value) : checkBuiltinCall "itertools.combinations.__new__" ⟨[.type "itertools.combinations", a, b], []⟩ = pure () := by kernel_rfl
theorem entry_c_new : entryFor table "itertools.combinations.__new__" = some Builtin.«itertools.combinations.__new__» := entryFor_of_tree (by kernel_rfl)
theorem slot_c_iter : Slot "itertools.combinations" "__iter__" "itertools.combinations.__iter__" :=
  .of (owner := "itertools.combinations") (n := "__iter__") (by rw [typeLookup_type, builtinLookup_eq_fast]; kernel_rfl) (by decide +kernel) (by decide +kernel) (by decide +kernel)
    (by first | exact .inl (by decide +kernel) | exact .inr (by decide +kernel)) sub_c
theorem slot_c_next : Slot "itertools.combinations" "__next__" "itertools.combinations.__next__" :=
  .of (owner := "itertools.combinations") (n := "__next__") (by rw [typeLookup_type, builtinLookup_eq_fast]; kernel_rfl) (by decide +kernel) (by decide +kernel) (by decide +kernel)
    (by first | exact .inl (by decide +kernel) | exact .inr (by decide +kernel)) sub_c
theorem entry_c_iter : entryFor table "itertools.combinations.__iter__" = some Builtin.«dict_keyiterator.__iter__» :=
  entryFor_alias (id' := "dict_keyiterator.__iter__") (by kernel_rfl) (by first | rfl | decide +kernel | (unfold String.splitOn; simp +decide [String.splitOnAux])) (by decide +kernel) (by kernel_rfl)
theorem entry_c_next : entryFor table "itertools.combinations.__next__" = some Builtin.«itertools.combinations.__next__» := entryFor_of_tree (by kernel_rfl)
theorem owner_c : Manifest.owners.lookup (String.ofList ['s', 'n', 'o', 'i', 't', 'a', 'n', 'i', 'b', 'm', 'o', 'c', '.', 's', 'l', 'o', 'o', 't', 'r', 'e', 't', 'i'].reverse) = some Manifest.sig_itertools_combinations := by kernel_rfl
theorem args_c_iter (a : Value) : argsOk "itertools.combinations.__iter__" ⟨[a], []⟩ := by
  unfold argsOk; rw [signature?_of (id := "itertools.combinations.__iter__") (n := ['_', '_', 'r', 'e', 't', 'i', '_', '_']) (o := ['s', 'n', 'o', 'i', 't', 'a', 'n', 'i', 'b', 'm', 'o', 'c', '.', 's', 'l', 'o', 'o', 't', 'r', 'e', 't', 'i']) (by kernel_rfl) owner_c]; kernel_rfl
theorem args_c_next (a : Value) : argsOk "itertools.combinations.__next__" ⟨[a], []⟩ := by
  unfold argsOk; rw [signature?_of (id := "itertools.combinations.__next__") (n := ['_', '_', 't', 'x', 'e', 'n', '_', '_']) (o := ['s', 'n', 'o', 'i', 't', 'a', 'n', 'i', 'b', 'm', 'o', 'c', '.', 's', 'l', 'o', 'o', 't', 'r', 'e', 't', 'i']) (by kernel_rfl) owner_c]; kernel_rfl
theorem noDict_c : typeHasDict (.type "itertools.combinations") = false := by decide +kernel
theorem nolen_c : typeLookup (.type "itertools.combinations") "__len__" = pure none := by rw [typeLookup_type, builtinLookup_eq_fast]; kernel_rfl
theorem nohint_c : typeLookup (.type "itertools.combinations") "__length_hint__" = pure none := by rw [typeLookup_type, builtinLookup_eq_fast]; kernel_rfl
end Cmb

namespace Cmb
open PySem PySem.Spec PyProof.Rows
open Sem (wp)
abbrev recC (p : Addr) (st : Int) (res : Value) (ix : List Nat) : Obj := { cls := .type "itertools.combinations", dict := none, data := .fields ([.ref p, rawInt st, res] ++ ix.map fun (i : Nat) => rawInt i).toArray, slots := #[] }
abbrev tupO (items : List Value) : Obj := { cls := .type "tuple", data := .seq items.toArray }
theorem cr_c (a b : Value) : Builtin.Itertools.itClassAndRest "combinations" ⟨[.type "itertools.combinations", a, b], []⟩ = pure (.type "itertools.combinations", [a, b]) := by
  unfold Builtin.Itertools.itClassAndRest
  have e : ("itertools." ++ "combinations" : String) = "itertools.combinations" := by decide
  simp only [isType, e, sub_c, pure_bind, Bool.not_true, Bool.false_eq_true, if_false]
theorem bn_c (a b : Value) : Builtin.Itertools.itBindNamed "combinations" ["iterable", "r"] 2 2 [a, b] [] = pure [some a, some b] := by
  first
  | rfl
  | kernel_rfl
  | (unfold Builtin.Itertools.itBindNamed
     simp)
theorem ss_c (r : Nat) (t : Tok) (hr : r ≤ 1000) : Builtin.Itertools.itSsizeArg (.int (r : Int) t) = pure (r : Int) := by
  unfold Builtin.Itertools.itSsizeArg
  have e : asIndex (.int (r : Int) t) = pure (r : Int) := by first | rfl | kernel_rfl
  rw [e]
  simp only [pure_bind]
  rw [if_neg (by
    rw [Bool.or_eq_true, decide_eq_true_eq, decide_eq_true_eq]
    omega)]
theorem many_c (r : Nat) (hr : r ≤ 1000) : Builtin.Itertools.itTooMany (r : Int) = false := by
  unfold Builtin.Itertools.itTooMany
  exact decide_eq_false (by omega)
section
variable {prog : Program} {w : World}
theorem new_c (src : Value) (r : Nat) (t : Tok) (hr : r ≤ 1000) : MeetsIn prog w (Builtin.«itertools.combinations.__new__» ⟨[.type "itertools.combinations", src, .int (r : Int) t], []⟩)
    (fun A R s => wpAny (model prog w) A.in1 (collect src) (fun items s1 => items.length ≤ sizeLine ∧
      R (.ok (.ret (.ref (s1.heap.push (tupO items)).objs.size))) { s1 with heap := (s1.heap.push (tupO items)).push (recC s1.heap.objs.size (if r > items.length then 2 else 0) .none (List.range r)) }) (fun e s1 => R (.error e) s1) s) :=
  .of_wp fun A R s h => by
    unfold Builtin.«itertools.combinations.__new__»
    refine wpAny_bind ?_
    show wpAny _ _ (Builtin.Itertools.itClassAndRest "combinations" ⟨[.type "itertools.combinations", src, .int (r : Int) t], []⟩ >>= _) _ _ _
    refine wpAny_bind (wpAny_of_eq (cr_c _ _) ?_)
    dsimp only
    refine wpAny_bind (wpAny_of_eq (bn_c _ _) ?_)
    dsimp only
    refine wpAny_bind (wpAny_of_eq (ss_c r t hr) ?_)
    refine wpAny_bind (wpAny_mono h (fun items s1 ⟨hl, hR⟩ => ?_) fun _ _ z => z)
    rw [if_neg (show ¬ ((r : Int) < 0) by omega), many_c r hr]
    rw [if_neg Bool.false_ne_true]
    refine wpAny_bind (wpAny_newTuple ?_ (by simpa using hl))
    refine wpAny_pure ?_
    dsimp only
    rw [Int.toNat_natCast]
    refine wpAny_bind ?_
    unfold Builtin.Itertools.itNewRecord
    rw [noDict_c]
    rw [if_pos (by rfl)]
    refine wpAny_newObj_type (wpAny_pure ⟨_, rfl, hR⟩) ?_
    simp only [sizeOk, List.size_toArray, List.length_append, List.length_cons, List.length_nil, List.length_map, List.length_range, sizeLine_eq]
    omega
end
section
variable {prog : Program} {w : World} {A : Around} {E : Value → Shared → Prop} {s : Shared} {it p : Addr} {ix : List Nat} {res : Value} {items : List Value}
theorem numbers_c {Q : List Nat → Shared → Prop} {st : Int} (hit : s.heap.get? it = some (recC p st res ix)) (h : Q ix s) : wpAny (model prog w) A (Builtin.Itertools.itNumbersFrom (.ref it) 3) Q E s := by
  unfold Builtin.Itertools.itNumbersFrom
  refine wpAny_bind (wpAny_load hit ?_)
  dsimp only
  refine wpAny_pure ?_
  have e : ((([.ref p, rawInt st, res] ++ ix.map fun (i : Nat) => rawInt i).drop 3).map fun | .int n _ => n.toNat | _ => 0) = ix := by
    simp only [List.cons_append, List.nil_append, List.drop_succ_cons, List.drop_zero, List.map_map]
    conv => rhs; rw [← List.map_id ix]
    refine List.map_congr_left fun i _ => ?_
    rfl
  show Q ((([.ref p, rawInt st, res] ++ ix.map fun (i : Nat) => rawInt i).drop 3).map fun | .int n _ => n.toNat | _ => 0) s
  rw [e]; exact h
theorem pool_c {Q : Array Value → Shared → Prop} (hp : s.heap.get? p = some (tupO items)) (h : Q items.toArray s) : wpAny (model prog w) A (Builtin.Itertools.itPoolItems (.ref p)) Q E s := by
  unfold Builtin.Itertools.itPoolItems
  refine wpAny_bind (wpAny_seqItems hp rfl ?_)
  exact wpAny_pure h
theorem intf_c {Q : Int → Shared → Prop} {st : Int} (hit : s.heap.get? it = some (recC p st res ix)) (h : Q st s) : wpAny (model prog w) A (Builtin.Itertools.itIntField (.ref it) 1) Q E s := by
  unfold Builtin.Itertools.itIntField
  refine wpAny_bind (wpAny_field hit rfl (x := rawInt st) rfl ?_)
  exact wpAny_pure h
theorem set1_c {a b c x : Value} {l : List Value} : ([a, b, c] ++ l).toArray.setIfInBounds 1 x = ([a, x, c] ++ l).toArray := by simp
theorem set2_c {a b c x : Value} {l : List Value} : ([a, b, c] ++ l).toArray.setIfInBounds 2 x = ([a, b, x] ++ l).toArray := by simp
/-- what is handed out -/
theorem hand_c {Q : Fin → Shared → Prop} (hit : s.heap.get? it = some (recC p 1 res ix)) (hp : s.heap.get? p = some (tupO items)) (hpi : p ≠ it) (hz : ix.length ≤ 1000)
    (hQ : ∀ h', h'.get? it = some (recC p 1 (.ref s.heap.objs.size) ix) → h'.get? s.heap.objs.size = some (tupO (ix.map fun i => items.getD i .none)) → h'.objs.size = s.heap.objs.size + 1 →
      (∀ b o, b ≠ it → s.heap.get? b = some o → h'.get? b = some o) → Q (.done (.ret (.ref s.heap.objs.size))) { s with heap := h' }) :
    wpAny (model prog w) A ((Builtin.Itertools.itPoolItems (.ref p) >>= fun its => newTuple (ix.map fun i => its.getD i .none)) >>= fun result => field (.ref it) 2 >>= fun before => setField (.ref it) 2 result >>= fun _ => letGo [before] [result] >>= fun _ => ret result) Q E s := by
  refine wpAny_bind (wpAny_bind (pool_c hp ?_))
  refine wpAny_newTuple ?_ (by rw [List.length_map, sizeLine_eq]; omega)
  have hl : it < s.heap.objs.size := Heap.lt_size hit
  have hit1 : (s.heap.push (tupO (ix.map fun i => items.toArray.getD i .none))).get? it = some (recC p 1 res ix) := Heap.get?_push_of_some _ hit
  have hn : (s.heap.push (tupO (ix.map fun i => items.toArray.getD i .none))).get? s.heap.objs.size = some (tupO (ix.map fun i => items.toArray.getD i .none)) := Heap.get?_push_size _ rfl
  refine wpAny_bind (wpAny_field hit1 rfl (x := res) rfl ?_)
  refine wpAny_bind (wpAny_setField_rec hit1 (by simp) fun h2 he2 hs2 => ?_)
  refine wpAny_bind (wpAny_letGo ?_)
  refine wpAny_pure ?_
  have hg : (ix.map fun i => items.toArray.getD i .none) = ix.map fun i => items.getD i .none := List.map_congr_left fun i _ => by simp [Array.getD_eq_getD_getElem?, List.getD_eq_getElem?_getD]
  rw [hg] at hn hs2
  refine hQ h2 ?_ ((hs2.2 _ (Nat.ne_of_gt hl)).trans hn) ?_ fun b o hb e => (hs2.2 b hb).trans (Heap.get?_push_of_some _ e)
  · rw [set2_c] at he2
    exact he2
  · rw [hs2.1, Heap.size_push]
theorem next0_c {Q : Option Value → Shared → Prop} (hit : s.heap.get? it = some (recC p 0 res ix)) (hp : s.heap.get? p = some (tupO items)) (hpi : p ≠ it) (hz : ix.length ≤ 1000)
    (hQ : ∀ h', h'.get? it = some (recC p 1 (.ref s.heap.objs.size) ix) → h'.get? s.heap.objs.size = some (tupO (ix.map fun i => items.getD i .none)) → h'.objs.size = s.heap.objs.size + 1 →
      (∀ b o, b ≠ it → s.heap.get? b = some o → h'.get? b = some o) → Q (some (.ref s.heap.objs.size)) { s with heap := h' }) :
    wpAny (model prog w) A (pyNext (.ref it)) Q E s := by
  obtain ⟨hpp, g, dr, tk, os⟩ := s
  have hT : Shared.TypeIs ⟨hpp, g, dr, tk, os⟩ (.ref it) "itertools.combinations" := ⟨_, hit, rfl⟩
  unfold pyNext
  refine wpAny_bind (wpAny_attempt (wpAny_callSpecial?_slot (name := Str.ofString "__next__") hT slot_c_next
    (wpAny_call_entry slot_c_next hT entry_c_next ?_ (args_c_next _))))
  refine wpAny_bind (wpAny_pure ?_)
  refine wpAny_bind (wpAny_field hit rfl (x := .ref p) rfl ?_)
  refine wpAny_bind (numbers_c hit ?_)
  dsimp only
  refine wpAny_bind (intf_c hit ?_)
  show wpAny _ _ (setField (.ref it) 1 (rawInt 1) >>= _) _ _ _
  refine wpAny_bind (wpAny_setField_rec hit (by simp) fun h1 he1 hs1 => ?_)
  rw [set1_c] at he1
  refine hand_c he1 ((hs1.2 p hpi).trans hp) hpi hz fun h2 a1 a2 a3 a4 => ?_
  have e0 : h1.objs.size = hpp.objs.size := hs1.1
  refine ⟨_, rfl, wpAny_pure ?_⟩
  show Q (some (.ref h1.objs.size)) _
  rw [e0]
  rw [show ({ heap := h1, gens := g, drawn := dr, toks := tk, os := os } : Shared).heap.objs.size = hpp.objs.size from e0] at a1 a2 a3
  exact hQ h2 a1 a2 a3 fun b o hb e => a4 b o hb ((hs1.2 b hb).trans e)
/-- a further one -/
theorem next1_c {Q : Option Value → Shared → Prop} {ix' : List Nat} (hit : s.heap.get? it = some (recC p 1 res ix)) (hp : s.heap.get? p = some (tupO items)) (hpi : p ≠ it) (hx : nxC items.length ix = some ix') (hz : ix'.length ≤ 1000)
    (hQ : ∀ h', h'.get? it = some (recC p 1 (.ref s.heap.objs.size) ix') → h'.get? s.heap.objs.size = some (tupO (ix'.map fun i => items.getD i .none)) → h'.objs.size = s.heap.objs.size + 1 →
      (∀ b o, b ≠ it → s.heap.get? b = some o → h'.get? b = some o) → Q (some (.ref s.heap.objs.size)) { s with heap := h' }) :
    wpAny (model prog w) A (pyNext (.ref it)) Q E s := by
  obtain ⟨hpp, g, dr, tk, os⟩ := s
  have hT : Shared.TypeIs ⟨hpp, g, dr, tk, os⟩ (.ref it) "itertools.combinations" := ⟨_, hit, rfl⟩
  unfold pyNext
  refine wpAny_bind (wpAny_attempt (wpAny_callSpecial?_slot (name := Str.ofString "__next__") hT slot_c_next
    (wpAny_call_entry slot_c_next hT entry_c_next ?_ (args_c_next _))))
  refine wpAny_bind (wpAny_pure ?_)
  refine wpAny_bind (wpAny_field hit rfl (x := .ref p) rfl ?_)
  refine wpAny_bind (numbers_c hit ?_)
  dsimp only
  refine wpAny_bind (intf_c hit ?_)
  show wpAny _ _ (Builtin.Itertools.itPoolItems (.ref p) >>= _) _ _ _
  refine wpAny_bind (pool_c hp ?_)
  show wpAny _ _ (match nxC items.toArray.size ix with | some next => _ | none => _) _ _ _
  rw [show nxC items.toArray.size ix = some ix' by simpa using hx]
  dsimp only
  refine wpAny_bind ?_
  unfold Builtin.Itertools.itSetNumbersFrom
  have ext : (([.ref p, rawInt 1, res] ++ ix.map fun (i : Nat) => rawInt i).toArray.extract 0 3 ++ (ix'.map fun (n : Nat) => rawInt n).toArray) = ([.ref p, rawInt 1, res] ++ ix'.map fun (i : Nat) => rawInt i).toArray := by simp
  refine wpAny_updateFields hit rfl ?_ (by
    rw [ext]
    simp only [List.size_toArray, List.length_append, List.length_cons, List.length_nil, List.length_map, sizeLine_eq]
    omega)
  have he1 := Heap.get?_update_self (Obj.mapFields fun fs => fs.extract 0 3 ++ (ix'.map fun (n : Nat) => rawInt n).toArray) hit rfl
  have hs1 : Heap.SameBut it hpp (hpp.update it (Obj.mapFields fun fs => fs.extract 0 3 ++ (ix'.map fun (n : Nat) => rawInt n).toArray)) := Heap.SameBut.update ..
  dsimp only
  generalize hpp.update it (Obj.mapFields fun fs => fs.extract 0 3 ++ (ix'.map fun (n : Nat) => rawInt n).toArray) = h1 at he1 hs1 ⊢
  have he1 : h1.get? it = some (recC p 1 res ix') := by rw [he1, Obj.mapFields]; rw [ext]
  refine hand_c he1 ((hs1.2 p hpi).trans hp) hpi hz fun h2 a1 a2 a3 a4 => ?_
  have e0 : h1.objs.size = hpp.objs.size := hs1.1
  refine ⟨_, rfl, wpAny_pure ?_⟩
  show Q (some (.ref h1.objs.size)) _
  rw [e0]
  rw [show ({ heap := h1, gens := g, drawn := dr, toks := tk, os := os } : Shared).heap.objs.size = hpp.objs.size from e0] at a1 a2 a3
  exact hQ h2 a1 a2 a3 fun b o hb e => a4 b o hb ((hs1.2 b hb).trans e)
/-- the end's exception is made, and forgotten -/
theorem stop_c {Q : Option Value → Shared → Prop} {A0 : Around} (hh : A.handled = none) (hQ : ∀ h', (∀ b o, s.heap.get? b = some o → h'.get? b = some o) → Q none { s with heap := h' }) :
    wpAny (model prog w) A (Builtin.Itertools.itStop (α := Fin)) (fun fin s' => ∃ v, fin = Fin.done (Flow.ret v) ∧ wpAny (model prog w) A0 (pure (some v)) Q E s') (fun e s' => wpAny (model prog w) A0 (do
      let __do_lift ← isInstance e (Value.type "StopIteration")
      if __do_lift = true then pure none else throw e) Q E s') s := by
  unfold Builtin.Itertools.itStop
  show wpAny _ _ (newExc (.type "StopIteration") [] >>= _) _ _ _
  refine wpAny_bind ?_
  simp only [newExc, newTuple]
  refine wpAny_bind (wpAny_newObj_type ?_ (by size_fits))
  refine wpAny_bind (m := firstArgMember _ _) (wpAny_of_eq (a := Value.none) (by first | rfl | (simp only [firstArgMember]; rfl)) ?_)
  refine wpAny_newObj_type ?_ (by size_fits)
  simp only [raiseNew]
  refine wpAny_bind (wpAny_handled ?_)
  first | rw [hh] | rw [show A.handled = none from hh]
  refine wpAny_bind (wpAny_pure (wpAny_throw ?_))
  refine wpAny_bind (wpAny_isInstance (T := "StopIteration") (b := true) ⟨_, Heap.get?_push_size _ rfl, rfl⟩ isSubtype_stop ?_)
  exact wpAny_pure (hQ _ fun b o e => Heap.get?_push_of_some _ (Heap.get?_push_of_some _ e))
theorem fin_c {Q : Option Value → Shared → Prop} {st : Int} (hh : A.handled = none) (hit : s.heap.get? it = some (recC p st res ix)) (hp : s.heap.get? p = some (tupO items)) (hx : st = 2 ∨ (st = 1 ∧ nxC items.length ix = none))
    (hQ : ∀ h', (∃ o, h'.get? it = some o) → (∀ b o, b ≠ it → s.heap.get? b = some o → h'.get? b = some o) → Q none { s with heap := h' }) : wpAny (model prog w) A (pyNext (.ref it)) Q E s := by
  obtain ⟨hpp, g, dr, tk, os⟩ := s
  have hT : Shared.TypeIs ⟨hpp, g, dr, tk, os⟩ (.ref it) "itertools.combinations" := ⟨_, hit, rfl⟩
  unfold pyNext
  refine wpAny_bind (wpAny_attempt (wpAny_callSpecial?_slot (name := Str.ofString "__next__") hT slot_c_next
    (wpAny_call_entry slot_c_next hT entry_c_next ?_ (args_c_next _))))
  refine wpAny_bind (wpAny_pure ?_)
  refine wpAny_bind (wpAny_field hit rfl (x := .ref p) rfl ?_)
  refine wpAny_bind (numbers_c hit ?_)
  dsimp only
  refine wpAny_bind (intf_c hit ?_)
  rcases hx with rfl | ⟨rfl, hx⟩
  · show wpAny _ _ (rule "itertools.combinations.ended" >>= _) _ _ _
    refine wpAny_bind (wpAny_rule ?_)
    exact stop_c hh fun h' k => hQ h' ⟨_, k _ _ hit⟩ fun b o _ e => k b o e
  · show wpAny _ _ (Builtin.Itertools.itPoolItems (.ref p) >>= _) _ _ _
    refine wpAny_bind (pool_c hp ?_)
    show wpAny _ _ (match nxC items.toArray.size ix with | some next => _ | none => _) _ _ _
    rw [show nxC items.toArray.size ix = none by simpa using hx]
    dsimp only
    refine wpAny_bind (wpAny_setField_rec hit (by simp) fun h1 he1 hs1 => ?_)
    exact stop_c hh fun h' k => hQ h' ⟨_, k _ _ he1⟩ fun b o hb e => k b o ((hs1.2 b hb).trans e)
end
end Cmb

namespace Cmb
open PySem PySem.Spec PyProof.Rows
open Sem (wp)
/-- what is still to come -/
def AtC (h : Heap) (it p : Addr) (n : Nat) (L : List (List Nat)) : Prop :=
  (∃ ix r, h.get? it = some (recC p 0 .none ix) ∧ L = ix :: r ∧ chainC n ix r) ∨ (∃ res ix, h.get? it = some (recC p 1 res ix) ∧ chainC n ix L) ∨ ∃ res ix, h.get? it = some (recC p 2 res ix) ∧ L = []
theorem AtC.at {h h' : Heap} {it p : Addr} {n : Nat} {L : List (List Nat)} (x : AtC h it p n L) (k : ∀ o, h.get? it = some o → h'.get? it = some o) : AtC h' it p n L := by
  rcases x with ⟨ix, r, a, b⟩ | ⟨res, ix, a, b⟩ | ⟨res, ix, a, b⟩
  · exact .inl ⟨ix, r, k _ a, b⟩
  · exact .inr (.inl ⟨res, ix, k _ a, b⟩)
  · exact .inr (.inr ⟨res, ix, k _ a, b⟩)
theorem AtC.type {s : Shared} {it p : Addr} {n : Nat} {L : List (List Nat)} (x : AtC s.heap it p n L) : s.TypeIs (.ref it) "itertools.combinations" := by
  rcases x with ⟨ix, r, a, b⟩ | ⟨res, ix, a, b⟩ | ⟨res, ix, a, b⟩ <;> exact ⟨_, a, rfl⟩
section
variable {prog : Program} {w : World} {A : Around} {E : Value → Shared → Prop} {s : Shared} {it p : Addr} {items : List Value}
theorem nxt_c {Q : Option Value → Shared → Prop} {ix : List Nat} {L : List (List Nat)} (hst : AtC s.heap it p items.length (ix :: L)) (hp : s.heap.get? p = some (tupO items)) (hpi : p ≠ it) (hz : ix.length ≤ 1000)
    (hQ : ∀ h', AtC h' it p items.length L → h'.get? s.heap.objs.size = some (tupO (ix.map fun i => items.getD i .none)) → h'.objs.size = s.heap.objs.size + 1 →
      (∀ b o, b ≠ it → s.heap.get? b = some o → h'.get? b = some o) → Q (some (.ref s.heap.objs.size)) { s with heap := h' }) :
    wpAny (model prog w) A (pyNext (.ref it)) Q E s := by
  rcases hst with ⟨ix', r, a, b, c⟩ | ⟨res, ix', a, b⟩ | ⟨res, ix', a, b⟩
  · cases b
    exact next0_c a hp hpi hz fun h' q1 q2 q3 q4 => hQ h' (.inr (.inl ⟨_, _, q1, c⟩)) q2 q3 q4
  · exact next1_c a hp hpi b.1 hz fun h' q1 q2 q3 q4 => hQ h' (.inr (.inl ⟨_, _, q1, b.2⟩)) q2 q3 q4
  · cases b
theorem end_c {Q : Option Value → Shared → Prop} (hh : A.handled = none) (hst : AtC s.heap it p items.length []) (hp : s.heap.get? p = some (tupO items))
    (hQ : ∀ h', (∃ o, h'.get? it = some o) → (∀ b o, b ≠ it → s.heap.get? b = some o → h'.get? b = some o) → Q none { s with heap := h' }) : wpAny (model prog w) A (pyNext (.ref it)) Q E s := by
  rcases hst with ⟨ix', r, a, b, c⟩ | ⟨res, ix', a, b⟩ | ⟨res, ix', a, b⟩
  · cases b
  · exact fin_c hh a hp (.inr ⟨rfl, b⟩) hQ
  · exact fin_c hh a hp (.inl rfl) hQ
theorem iter_c {n : Nat} {L : List (List Nat)} {Q : Value → Shared → Prop} (hst : AtC s.heap it p n L) (h : Q (.ref it) s) : wpAny (model prog w) A (pyIter (.ref it)) Q E s := by
  have hT := AtC.type hst
  refine wpAny_pyIter_slot hT slot_c_iter (wpAny_call_entry slot_c_iter hT entry_c_iter ?_ (args_c_iter _))
  show wpAny _ _ (ret (.ref it)) _ _ s
  exact wpAny_pure ⟨_, rfl, "itertools.combinations", _, hT, slot_c_next.lookup, h⟩
end
structure MadeC (items : List Value) (lo : Addr) (h : Heap) (L : List (List Nat)) (as : List Addr) : Prop where
  rise : as.Pairwise (· < ·)
  above : ∀ a ∈ as, lo < a
  all : ∀ (j : Nat) (a : Addr), as[j]? = some a → ∃ ix, L[j]? = some ix ∧ h.get? a = some (tupO (ix.map fun i => items.getD i .none))
theorem MadeC.there {items : List Value} {lo : Addr} {h : Heap} {L : List (List Nat)} {as : List Addr} (g : MadeC items lo h L as) {a : Addr} (ha : a ∈ as) : a < h.objs.size := by
  obtain ⟨j, hj⟩ := List.mem_iff_getElem?.mp ha
  obtain ⟨_, _, e⟩ := g.all j a hj
  exact Heap.lt_size e
section
variable {prog : Program} {w : World} {A : Around} {s : Shared} {R : Result → Shared → Prop} {items : List Value}
theorem loopC {S I p lo : Addr} (hh : A.handled = none) (hSI : S ≠ I) (hpS : p ≠ S) (hpI : p ≠ I) (hSl : S ≤ lo) (hIl : I ≤ lo) (L0 : List (List Nat)) (hn : L0.length ≤ sizeLine) (hz : ∀ ix ∈ L0, ix.length ≤ 1000) (res : Value) {h₁ : Heap}
    (hR : ∀ h' tk acc c as, (∃ o, h'.get? I = some o) → (∀ b o, b ≠ S → b ≠ I → h₁.get? b = some o → h'.get? b = some o) → h'.get? S = some { cls := .type "list", dict := none, data := .seq acc c, slots := #[] } → as.length = L0.length → MadeC items lo h' L0 as →
      acc.toList = as.map Value.ref → R (.ok (.ret res)) { s with heap := h', toks := tk }) :
    ∀ (L : List (List Nat)) (i : Nat) (h : Heap) (tk c : Nat) (acc : Array Value) (as : List Addr), L0.drop i = L → AtC h I p items.length L → h.get? p = some (tupO items) → (∀ b o, b ≠ S → b ≠ I → h₁.get? b = some o → h.get? b = some o) →
      h.get? S = some { cls := .type "list", dict := none, data := .seq acc c, slots := #[] } → acc.toList = as.map Value.ref → as.length = i → i ≤ L0.length → MadeC items lo h L0 as → lo < h.objs.size →
      codeAny (model prog w) A (.builtin "list.extend.loop" ⟨[.ref S, .ref I, res], []⟩) R { s with heap := h, toks := tk } := by
  intro L
  induction L with
  | nil =>
    intro i h tk c acc as hL hst hp hkeep hS hacc hal hil hG hIs
    refine codeAny_builtin PySem.F.entry_extend_loop ?_
    rw [Around.under_plainId PySem.F.plain_extend_loop _]
    show wpAny _ A.in1 (pyNext (.ref I) >>= _) _ _ _
    refine wpAny_bind (end_c (s := { s with heap := h, toks := tk }) (A := A.in1) hh hst hp fun h' ho he => ?_)
    have hln : i = L0.length := by
      have := congrArg List.length hL
      rw [List.length_drop] at this
      simp at this
      omega
    refine wpAny_pure (hR h' tk acc c as ho (fun b o h1 h2 e => he b o h2 (hkeep b o h1 h2 e)) (he S _ hSI hS) (by omega) ⟨hG.rise, hG.above, fun j a hj => ?_⟩ hacc)
    obtain ⟨e, e1, e3⟩ := hG.all j a hj
    exact ⟨e, e1, he a _ (Nat.ne_of_gt (Nat.lt_of_le_of_lt hIl (hG.above a (List.mem_of_getElem? hj)))) e3⟩
  | cons ix L ih =>
    intro i h tk c acc as hL hst hp hkeep hS hacc hal hil hG hIs
    have hget : L0[i]? = some ix := by
      have := congrArg (·[0]?) hL
      simpa using this
    have hlt : i < L0.length := (List.getElem?_eq_some_iff.mp hget).1
    have hsz : acc.size = i := by rw [← Array.length_toList, hacc, List.length_map, hal]
    refine codeAny_builtin PySem.F.entry_extend_loop ?_
    rw [Around.under_plainId PySem.F.plain_extend_loop _]
    show wpAny _ A.in1 (pyNext (.ref I) >>= _) _ _ _
    refine wpAny_bind (nxt_c (s := { s with heap := h, toks := tk }) hst hp hpI (hz ix (List.mem_of_getElem? hget)) fun h' hst' ht hz' hkp => ?_)
    dsimp only at ht hz' hkp ⊢
    have hS' := hkp S _ hSI hS
    have up : ∀ b o, b ≠ S → h'.get? b = some o → (h'.update S (Obj.mapSeq (·.push (Value.ref h.objs.size)))).get? b = some o := fun b o hb e => (Heap.get?_update_other _ _ (Ne.symm hb)).trans e
    have hSl' : S < h.objs.size := Heap.lt_size hS
    show wpAny _ A.in1 (updateSeq S (·.push (Value.ref h.objs.size)) >>= _) _ _ _
    refine wpAny_bind ?_
    refine wpAny_updateSeq hS' rfl (wpAny_pure ⟨plainId_quiet PySem.F.plain_extend_loop _, ih (i + 1) _ tk _ (acc.push (Value.ref h.objs.size)) (as ++ [h.objs.size]) ?_ (hst'.at fun o e => up I o (Ne.symm hSI) e) (up p _ hpS (hkp p _ hpI hp))
      (fun b o h1 h2 e => up b o h1 (hkp b o h2 (hkeep b o h1 h2 e))) (Heap.get?_update_self _ hS' rfl) (by rw [Array.toList_push, hacc, List.map_append]; rfl) (by rw [List.length_append, hal]; rfl) hlt ⟨?_, ?_, ?_⟩ ?_⟩) (by rw [hsz]; omega) (by show (acc.push (Value.ref h.objs.size)).size ≤ sizeLine + 1; rw [Array.size_push, hsz]; omega)
    · rw [← List.drop_drop, hL]; rfl
    · refine List.pairwise_append.mpr ⟨hG.rise, List.pairwise_singleton _ _, fun a ha b hb => ?_⟩
      rw [List.mem_singleton.mp hb]
      exact hG.there ha
    · intro a ha
      rcases List.mem_append.mp ha with ha | ha
      · exact hG.above a ha
      · rw [List.mem_singleton.mp ha]; exact hIs
    · intro j b hj
      rcases Nat.lt_trichotomy j as.length with h1 | h1 | h1
      · rw [List.getElem?_append_left h1] at hj
        obtain ⟨e', e1, e3⟩ := hG.all j b hj
        have hb := hG.above b (List.mem_of_getElem? hj)
        exact ⟨e', e1, up b _ (Nat.ne_of_gt (Nat.lt_of_le_of_lt hSl hb)) (hkp b _ (Nat.ne_of_gt (Nat.lt_of_le_of_lt hIl hb)) e3)⟩
      · subst h1
        have hb : h.objs.size = b := by simpa using hj
        subst hb
        exact ⟨ix, by rw [hal]; exact hget, up _ _ (Nat.ne_of_gt hSl') ht⟩
      · have hnone : (as ++ [h.objs.size])[j]? = none := List.getElem?_eq_none (by rw [List.length_append, List.length_singleton]; omega)
        rw [hnone] at hj; cases hj
    · have e : (h'.update S (Obj.mapSeq (·.push (Value.ref h.objs.size)))).get? h.objs.size = _ := up _ _ (Nat.ne_of_gt hSl') ht
      exact Nat.lt_trans hIs (Heap.lt_size e)
end
end Cmb

namespace Cmb
open PySem PySem.Spec PyProof.Rows
open Sem (wp)
section
variable {prog : Program} {w : World} {A : Around} {E : Value → Shared → Prop} {s : Shared} {I p : Addr} {items : List Value} {L0 : List (List Nat)}
theorem hint_c {n : Nat} {L : List (List Nat)} {Q : Bool → Shared → Prop} (hst : AtC s.heap I p n L) (h : Q true s) : wpAny (model prog w) A (Builtin.List.listLengthHint (.ref I)) Q E s := by
  unfold Builtin.List.listLengthHint
  refine wpAny_bind (wpAny_specialOf (AtC.type hst) nolen_c ?_)
  show wpAny _ A (specialOf (Value.ref I) (Str.ofString "__length_hint__") >>= _) _ _ _
  refine wpAny_bind (wpAny_specialOf (AtC.type hst) nohint_c ?_)
  exact wpAny_pure h
theorem extC {R : Result → Shared → Prop} (hh : A.handled = none) (S : Addr) (hst : AtC s.heap I p items.length L0) (hp : s.heap.get? p = some (tupO items)) (hpI : p ≠ I) (hSI : S ≠ I) (hpS : p ≠ S) (lo : Addr) (hSl : S ≤ lo) (hIl : I ≤ lo) (hlo : lo < s.heap.objs.size) (hn : L0.length ≤ sizeLine) (hz : ∀ ix ∈ L0, ix.length ≤ 1000) (res : Value) (c₀ : Nat)
    (hS : s.heap.get? S = some { cls := .type "list", data := .seq #[] c₀ })
    (hR : ∀ h' tk acc c as, (∃ o, h'.get? I = some o) → (∀ b o, b ≠ S → b ≠ I → s.heap.get? b = some o → h'.get? b = some o) → h'.get? S = some { cls := .type "list", dict := none, data := .seq acc c, slots := #[] } → as.length = L0.length → MadeC items lo h' L0 as →
      acc.toList = as.map Value.ref → R (.ok (.ret res)) { s with heap := h', toks := tk }) :
    wpAny (model prog w) A.in1 (Builtin.List.listExtendWith (.ref S) (.ref I) res)
      (fun fin s' => match fin with | .done f => R (.ok f) s' | .again c' => c'.quiet = true ∧ codeAny (model prog w) A c' R s') (fun e s' => R (.error e) s') s := by
  have key : ∀ (h : Heap) (c₁ tk : Nat), (∀ b o, b ≠ S → s.heap.get? b = some o → h.get? b = some o) → lo < h.objs.size →
      h.get? S = some { cls := .type "list", data := .seq #[] c₁ } → codeAny (model prog w) A (.builtin "list.extend.loop" ⟨[.ref S, .ref I, res], []⟩) R { s with heap := h, toks := tk } := by
    intro h c₁ tk hk hlo' hS₁
    refine loopC (s := s) (h₁ := s.heap) (lo := lo) hh hSI hpS hpI hSl hIl L0 hn hz res hR L0 0 h tk c₁ #[] [] rfl (hst.at fun o e => hk I o (Ne.symm hSI) e) (hk p _ hpS hp) (fun b o hb _ e => hk b o hb e) hS₁ rfl rfl (Nat.zero_le _)
      ⟨List.Pairwise.nil, (fun _ ha => nomatch ha), (fun j a hj => by simp at hj)⟩ hlo'
  unfold Builtin.List.listExtendWith
  refine wpAny_bind (wpAny_typeOf (T := "itertools.combinations") (AtC.type hst) ?_)
  have h1 : Builtin.List.listSameRef (.ref S) (.ref I) = false := by simp [Builtin.List.listSameRef, hSI]
  have h2 : (Value.type "itertools.combinations" == Value.type "list") = false := by decide
  have h3 : (Value.type "itertools.combinations" == Value.type "tuple") = false := by decide
  simp only [h1, h2, h3, Bool.or_false, Bool.false_eq_true, if_false]
  refine wpAny_bind (iter_c hst ?_)
  refine wpAny_bind (wpAny_holding (hint_c hst ?_))
  refine wpAny_ite_split (fun _ => ?_) (fun hab => absurd rfl hab)
  refine wpAny_bind (wpAny_rule ?_)
  refine wpAny_bind ?_
  show wpAny _ _ (updateSeq S (·.push .none) >>= fun _ => updateSeq S (·.pop)) _ _ _
  refine wpAny_bind (wpAny_updateSeq hS rfl ?_)
  have hS₂ := Heap.get?_update_self (Obj.mapSeq (·.push Value.none)) hS rfl
  refine wpAny_updateSeq (hz := by seq_fits) hS₂ rfl ?_
  have hS₃ := Heap.get?_update_self (Obj.mapSeq (·.pop)) hS₂ rfl
  refine wpAny_pure ⟨plainId_quiet PySem.F.plain_extend_loop _, key _ _ _ (fun b o hb e => ?_) ?_ hS₃⟩
  · exact (Heap.get?_update_other _ _ (Ne.symm hb)).trans ((Heap.get?_update_other _ _ (Ne.symm hb)).trans e)
  · have e1 := (Heap.SameBut.update (s.heap.update S (Obj.mapSeq (·.push Value.none))) S (Obj.mapSeq (·.pop))).1
    have e2 := (Heap.SameBut.update s.heap S (Obj.mapSeq (·.push Value.none))).1
    rw [e1, e2]; exact hlo
theorem initC {R : Result → Shared → Prop} (hh : A.handled = none) (S : Addr) (hst : AtC s.heap I p items.length L0) (hp : s.heap.get? p = some (tupO items)) (hpI : p ≠ I) (hSI : S ≠ I) (hpS : p ≠ S) (lo : Addr) (hSl : S ≤ lo) (hIl : I ≤ lo) (hlo : lo < s.heap.objs.size) (hn : L0.length ≤ sizeLine) (hz : ∀ ix ∈ L0, ix.length ≤ 1000)
    (hS : s.heap.get? S = some { cls := .type "list", data := .seq #[] })
    (hR : ∀ h' tk acc c as, (∃ o, h'.get? I = some o) → (∀ b o, b ≠ S → b ≠ I → s.heap.get? b = some o → h'.get? b = some o) → h'.get? S = some { cls := .type "list", dict := none, data := .seq acc c, slots := #[] } → as.length = L0.length → MadeC items lo h' L0 as →
      acc.toList = as.map Value.ref → R (.ok (.ret .none)) { s with heap := h', toks := tk }) :
    wpAny (model prog w) A.in1 (Builtin.«list.__init__» ⟨[.ref S, .ref I], []⟩)
      (fun fin s' => match fin with | .done f => R (.ok f) s' | .again c' => c'.quiet = true ∧ codeAny (model prog w) A c' R s') (fun e s' => R (.error e) s') s := by
  show wpAny _ _ (do let old ← Builtin.List.listItems (.ref S); Builtin.List.listUpdate (.ref S) (fun _ => #[]); letGo old.toList.reverse; Builtin.List.listExtendWith (.ref S) (.ref I) .none) _ _ s
  refine wpAny_bind ?_
  unfold Builtin.List.listItems
  refine wpAny_bind (wpAny_seqItems hS rfl (wpAny_pure ?_))
  show wpAny _ _ (updateSeq S (fun _ => #[]) >>= fun _ => letGo (#[] : Array Value).toList.reverse >>= fun _ => Builtin.List.listExtendWith (.ref S) (.ref I) .none) _ _ s
  refine wpAny_bind (wpAny_updateSeq hS rfl ?_)
  have hS₂ := Heap.get?_update_self (Obj.mapSeq (fun _ => (#[] : Array Value))) hS rfl
  have oth : ∀ b o, b ≠ S → s.heap.get? b = some o → (s.heap.update S (Obj.mapSeq (fun _ => (#[] : Array Value)))).get? b = some o :=
    fun b o hb e => (Heap.get?_update_other _ _ (Ne.symm hb)).trans e
  refine wpAny_bind (wpAny_letGo ?_)
  have e2 := (Heap.SameBut.update s.heap S (Obj.mapSeq (fun _ => (#[] : Array Value)))).1
  refine extC hh S (hst.at fun o e => oth I o (Ne.symm hSI) e) (oth p _ hpS hp) hpI hSI hpS lo hSl hIl (by dsimp only; rw [e2]; exact hlo) hn hz .none _ hS₂ (fun h' tk acc' c' as ho hk hS' hl hG hacc => ?_)
  exact hR h' tk acc' c' as ho (fun b o hb hb2 e => hk b o hb hb2 (oth b o hb e)) hS' hl hG hacc
theorem callC {Q : Value → Shared → Prop} (hh : A.handled = none) (hst : AtC s.heap I p items.length L0) (hp : s.heap.get? p = some (tupO items)) (hpI : p ≠ I) (hn : L0.length ≤ sizeLine) (hz : ∀ ix ∈ L0, ix.length ≤ 1000)
    (hQ : ∀ h' tk acc c as, (∃ o, h'.get? I = some o) → (∀ b o, b ≠ I → s.heap.get? b = some o → h'.get? b = some o) → h'.get? s.heap.objs.size = some { cls := .type "list", dict := none, data := .seq acc c, slots := #[] } → as.length = L0.length → MadeC items s.heap.objs.size h' L0 as →
      acc.toList = as.map Value.ref → Q (.ref s.heap.objs.size) { s with heap := h', toks := tk }) :
    wpAny (model prog w) A (call (.type "list") [.ref I]) Q E s := by
  have hI : I < s.heap.objs.size := by
    obtain ⟨o, ho, _⟩ := AtC.type hst
    exact Heap.lt_size ho
  refine callType_codes (Q₁ := fun obj s₁ => obj = .ref s.heap.objs.size ∧ s₁ = { s with heap := s.heap.push { cls := .type "list", data := .seq #[] } }) PySem.F.called_list (PySem.F.typeCall_list_1 _) PySem.F.entry_list_init
    (code_list_new _ ⟨rfl, rfl⟩) fun obj s₁ h₁ => ?_
  obtain ⟨rfl, rfl⟩ := h₁
  have hS : (s.heap.push { cls := .type "list", data := .seq #[] }).get? s.heap.objs.size = some { cls := .type "list", data := .seq #[] } := Heap.get?_push_size _ rfl
  refine ⟨⟨_, hS, rfl⟩, PySem.F.args_list_init_2 _ _, initC (A := A.in1) hh _ (hst.at fun o e => Heap.get?_push_of_some _ e) (Heap.get?_push_of_some _ hp) hpI (Nat.ne_of_gt hI) (Nat.ne_of_lt (Heap.lt_size hp)) s.heap.objs.size (Nat.le_refl _) (Nat.le_of_lt hI) (by dsimp only; rw [Heap.size_push]; exact Nat.lt_succ_self _) hn hz hS (fun h' tk acc' c' as ho hk hS' hl hG hacc => ?_)⟩
  exact ⟨rfl, hQ h' tk acc' c' as ho (fun b o hb e => hk b o (Nat.ne_of_lt (Heap.lt_size e)) hb (Heap.get?_push_of_some _ e)) hS' hl hG hacc⟩
/-- combinations(src, r) -/
theorem mkC {src : Value} {r : Nat} {t : Tok} {Q : Value → Shared → Prop} (hr : r ≤ 1000) (h : wpAny (model prog w) A.in1.in1 (collect src) (fun its s1 => its.length ≤ sizeLine ∧
      ∀ h', h'.get? s1.heap.objs.size = some (tupO its) → h'.get? (s1.heap.objs.size + 1) = some (recC s1.heap.objs.size (if r > its.length then 2 else 0) .none (List.range r)) → h'.objs.size = s1.heap.objs.size + 2 → (∀ b o, s1.heap.get? b = some o → h'.get? b = some o) →
        Q (.ref (s1.heap.objs.size + 1)) { s1 with heap := h' }) E s) :
    wpAny (model prog w) A (call (.type "itertools.combinations") [src, .int (r : Int) t]) Q E s := by
  refine callType_newIn called_c (by decide) (typeCall_c _ _) (newCall_c _ _) (fun obj => F.args_object_init_3 obj _ _) entry_c_new (new_c src r t hr) ?_
  show wpAny (model prog w) A.in1.in1 (collect src) _ _ _
  refine wpAny_mono h (fun its s1 ⟨hl, hq⟩ => ⟨hl, ?_⟩) fun _ _ z => z
  have z : (s1.heap.push (tupO its)).objs.size = s1.heap.objs.size + 1 := Heap.size_push ..
  have g1 : ((s1.heap.push (tupO its)).push (recC s1.heap.objs.size (if r > its.length then 2 else 0) .none (List.range r))).get? (s1.heap.push (tupO its)).objs.size = some (recC s1.heap.objs.size (if r > its.length then 2 else 0) .none (List.range r)) := Heap.get?_push_size _ rfl
  have g0 := g1
  rw [z] at g0
  have q := hq _ (Heap.get?_push_of_some _ (Heap.get?_push_size _ rfl)) g0 (by rw [Heap.size_push, z]) fun b o e => Heap.get?_push_of_some _ (Heap.get?_push_of_some _ e)
  show _ ∧ _
  refine ⟨⟨_, g1, rfl⟩, ?_⟩
  rw [z]; exact q
end
end Cmb

namespace Cmb
open PySem PySem.Spec PyProof.Rows in
theorem allC_at {n r : Nat} {L : List (List Nat)} (h : allC n r = some L) {hp : Heap} {c p : Addr} (hc : hp.get? c = some (recC p (if r > n then 2 else 0) .none (List.range r))) : AtC hp c p n L := by
  obtain ⟨_, _, _, ⟨a, rfl⟩ | ⟨a, L', rfl, b⟩⟩ := allC_ok h
  · rw [if_pos a] at hc
    exact .inr (.inr ⟨_, _, hc, rfl⟩)
  · rw [if_neg a] at hc
    exact .inl ⟨_, _, hc, rfl, b⟩
end Cmb
namespace L2
open PySem PySem.Spec PyProof.Rows Cmb
section
variable {X : Cx}
theorem cr_range1 : CallR X (.type "range") (fun vs H Q => ∃ j, vs = [V.int j] ∧ ∀ p, H p = none → Q (.ref p) (upd H p (.rng 0 j))) := by
  intro pins s σ H vs us Q I r h
  obtain ⟨j, rfl, q⟩ := h
  obtain ⟨u1, rfl, rj⟩ := vals1 r
  obtain ⟨t, rfl⟩ := rj
  refine call_range_1 ⟨.ref s.heap.objs.size, upd H s.heap.objs.size (.rng 0 j), I.laid (t' := s.toks + 1 + 1) (fun b o e => Heap.get?_push_of_some _ e) (Nat.le_refl _) ?_, rfl, q _ (I.hok.fresh (Nat.le_refl _))⟩
  exact ⟨_, _, _, Heap.get?_push_size _ rfl⟩
/-- what is chosen from: a list, a tuple, a range -/
def CmSrc (K : PySem.W.Frag) (H : Hp) (v : V) (xs : List V) : Prop := (∃ a, v = .ref a ∧ (SqL K H a xs ∨ SqT K H a xs)) ∨ ∃ a j, v = .ref a ∧ H a = some (.rng 0 j) ∧ xs = rgV 0 j ∧ RgOk 0 j
/-- what is said of a combinations object that was just made -/
def PCm (X : Cx) (e : Expr) (tc : St → Hp → (List V → Nat → Hp → Prop) → Prop) : Prop := ∀ (pins : List (Addr × Obj)) (s : Shared) (σ : St) (H : Hp) (Q : List V → Nat → Hp → Prop), Inv X pins σ H s → tc σ H Q →
  wpAny (model X.prog X.w) X.A (eval e X.env) (fun x s2 => ∃ (c p : Addr) (its : List Value) (xs : List V) (r : Nat) (H1 : Hp), x = .ref c ∧ Vals xs its ∧ s2.heap.get? p = some (tupO its) ∧
    s2.heap.get? c = some (recC p (if r > its.length then 2 else 0) .none (List.range r)) ∧ p ≠ c ∧ FpOk X pins H1 c ∧ Inv X pins σ H1 s2 ∧ Q xs r H1) X.xe s
theorem pcm {a b : Expr} {t : TA} {p pos : Pos} (hc : X.calm = true) (hg : Gl X "combinations") (hm : X.mg "combinations" = some (.type "itertools.combinations")) (ha : PA X [a, b] t)
    (he : starEach [a, b] X.env = (false, eval a X.env) :: starEach [b] X.env) (hpl : (backTo pos (starEach [b] X.env)).any (·.1) = false) :
    PCm X (.Call (.Name "combinations" p) [a, b] [] pos) (fun σ H Q => t σ H fun vs H1 => ∃ v xs r, vs = [v, .int (r : Nat)] ∧ CmSrc X.K H1 v xs ∧ r ≤ 1000 ∧ Q xs r H1) := by
  intro pins s σ H Q I h
  refine wpAny_Call_Name_kw (ld_glob I hg hm ?_)
  refine PyProof.Rows.callWith_type1 (thn (ha.run pos pins s σ H _ I h) fun us s1 ⟨vs, H1, I1, r1, v, xs, r, ev, src, hr, q⟩ => ?_) he hpl
  subst ev
  obtain ⟨u1, u2, rfl, ru, rr⟩ := vals2 r1
  obtain ⟨tk, rfl⟩ := rr
  have fin : ∀ (its : List Value) (h' : Heap) (tk' : Nat), Vals xs its → xs.length ≤ sizeLine → (∀ b o, s1.heap.get? b = some o → h'.get? b = some o) → its.length ≤ sizeLine ∧
      ∀ h2, h2.get? h'.objs.size = some (tupO its) → h2.get? (h'.objs.size + 1) = some (recC h'.objs.size (if r > its.length then 2 else 0) .none (List.range r)) → h2.objs.size = h'.objs.size + 2 → (∀ b o, h'.get? b = some o → h2.get? b = some o) →
        ∃ (c p : Addr) (its : List Value) (xs : List V) (r : Nat) (H1 : Hp), (Value.ref (h'.objs.size + 1) : Value) = .ref c ∧ Vals xs its ∧ h2.get? p = some (tupO its) ∧
          h2.get? c = some (recC p (if r > its.length then 2 else 0) .none (List.range r)) ∧ p ≠ c ∧ FpOk X pins H1 c ∧ Inv X pins σ H1 { s1 with heap := h2, toks := tk' } ∧ Q xs r H1 := fun its h' tk' rv hl k => by
    refine ⟨by rw [← rv.length]; exact hl, fun h2 g1 g2 g3 k2 => ?_⟩
    have I2 : Inv X pins σ H1 { s1 with heap := h', toks := tk' } := I1.kept k
    have I3 : Inv X pins σ H1 { s1 with heap := h2, toks := tk' } := I1.kept fun b o e => k2 b o (k b o e)
    exact ⟨_, _, its, xs, r, H1, rfl, rv, g1, g2, Nat.ne_of_lt (Nat.lt_succ_self _), I2.fpOk (Nat.le_succ _) (I2.hok.fresh (Nat.le_succ _)), I3, q⟩
  refine mkC hr ?_
  rcases src with ⟨a', rfl, hs | hs⟩ | ⟨a', j, rfl, hs, rfl, ok⟩
  · cases ru
    obtain ⟨its, rv, pl, hz⟩ := I1.list hs
    obtain ⟨o, ho, hcl, n, hd⟩ := pl.isList
    refine wpAny_collect_seq (hsz := by have := rv.length; simp; omega) a' (.inl rfl) ho hcl hd fun h' k => ?_
    rw [List.toList_toArray]
    exact fin its h' s1.toks rv hz k
  · cases ru
    obtain ⟨its, rv, pl, hz⟩ := I1.tuple hs
    obtain ⟨o, ho, hcl, n, hd⟩ := pl
    refine wpAny_collect_seq (hsz := by have := rv.length; simp; omega) a' (.inr rfl) ho hcl hd fun h' k => ?_
    rw [List.toList_toArray]
    exact fin its h' s1.toks rv hz k
  · cases ru
    obtain ⟨t1, t2, t3, hr'⟩ := I1.hok a' _ hs
    obtain ⟨b1, b2, b3, b4, b5⟩ := ok
    refine collect_range (n := (j - 0).toNat) (I1.ok.hd hc) (show IsRange s1.heap a' 0 j 1 t1 t2 t3 from hr') (small_one b1 b2 b3 b4) (rangeSize_nat 0 j) b5 fun h' tk' acc hk hi => ?_
    exact fin acc.toList h' tk' (vals_rg hi) (by rw [rgV_length, sizeLine_eq]; omega) hk
/-- list(combinations(..)) -/
def tLstC (tc : St → Hp → (List V → Nat → Hp → Prop) → Prop) : TE := fun σ H Q => tc σ H fun xs r H1 => ∃ L, allC xs.length r = some L ∧ ∀ (H2 : Hp) (q : Addr) (as : List Addr), (∀ b o, H1 b = some o → H2 b = some o) → H2 q = none → as.length = L.length →
  (∀ (j : Nat) (a : Addr), as[j]? = some a → ∃ ix, L[j]? = some ix ∧ H2 a = some (.tup (ix.map fun i => xs.getD i .non))) → Q (.ref q) (upd H2 q (.lst (as.map V.ref)))
theorem getD_vals {xs : List V} {its : List Value} (rv : Vals xs its) (i : Nat) : RelV (xs.getD i .non) (its.getD i .none) := by
  rw [List.getD_eq_getElem?_getD, List.getD_eq_getElem?_getD]
  cases h : xs[i]? with
  | none =>
    rw [rv.none_of h]
    exact rfl
  | some x =>
    obtain ⟨u, hu, ru⟩ := rv.get h
    rw [hu]; exact ru
theorem map_vals {xs : List V} {its : List Value} (rv : Vals xs its) : ∀ ix : List Nat, Vals (ix.map fun i => xs.getD i .non) (ix.map fun i => its.getD i .none)
  | [] => .nil
  | i :: r => .cons (getD_vals rv i) (map_vals rv r)
theorem refs_vals : ∀ as : List Addr, Vals (as.map V.ref) (as.map Value.ref)
  | [] => .nil
  | a :: r => .cons rfl (refs_vals r)
theorem pe_lstC {e : Expr} {tc : St → Hp → (List V → Nat → Hp → Prop) → Prop} {p pos : Pos} (hc : X.calm = true) (hg : Gl X "list") (hm : X.mg "list" = none) (he : PCm X e tc) (na : starEach [e] X.env = (false, eval e X.env) :: starEach [] X.env := by rfl) :
    PE X (.Call (.Name "list" p) [e] [] pos) (tLstC tc) := by
  refine ⟨fun pins s σ H Q I h => ?_⟩
  refine Call_ (ld_blt I hg hm boot_list (PyProof.Rows.callWith_type1 (args_cons (thn (he pins s σ H _ I h) fun x s1 ⟨c, pp, its, xs, r, H1, ex, rv, g1, g2, hpc, fp, I1, L, hL, q⟩ => args_nil ?_) na) na))
  subst ex
  have hlen : xs.length = its.length := rv.length
  obtain ⟨l1, l2, l3, _⟩ := allC_ok hL
  rw [hlen] at hL
  have hI : c < s1.heap.objs.size := Heap.lt_size g2
  refine callC (items := its) (I1.ok.hd hc) (allC_at hL g2) g1 hpc (by rw [sizeLine_eq]; omega) l3 fun h' tk acc cc as ho hk hS hl hG hacc => ?_
  obtain ⟨oc, hoc⟩ := ho
  have c1 : H1 c = none := fp.1
  -- the object itself: any object from now on
  have I2 : Inv X pins σ (upd H1 c (.ext fun h => ∃ o, h.get? c = some o)) { s1 with heap := h', toks := tk } :=
    I1.take (h' := h') (t' := tk) (fun b ob hb e => hk b ob hb e) fp ⟨⟨oc, hoc⟩, ⟨oc, hoc⟩, fun h1 h2 ⟨o, e⟩ k => ⟨o, k o e⟩⟩
  have hcS : s1.heap.objs.size ≠ c := Nat.ne_of_gt hI
  have hS1 : H1 s1.heap.objs.size = none := I1.hok.fresh (Nat.le_refl _)
  have hSn : (upd H1 c (.ext fun h => ∃ o, h.get? c = some o)) s1.heap.objs.size = none := by rw [upd_ne hcS]; exact hS1
  have I3 : Inv X pins σ (upd (upd H1 c (.ext fun h => ∃ o, h.get? c = some o)) s1.heap.objs.size (.lst (as.map V.ref))) { s1 with heap := h', toks := tk } :=
    I2.take (h' := h') (t' := tk) (fun b ob _ e => e) (I1.fpOk (Nat.le_refl _) hSn) ⟨by rw [List.length_map, sizeLine_eq]; omega, as.map Value.ref, cc, refs_vals as, by rw [← hacc, Array.toArray_toList]; exact hS⟩
  have nd : as.Nodup := List.Pairwise.imp (fun h => Nat.ne_of_lt h) hG.rise
  obtain ⟨H2, I4, g, qt⟩ := DX.takeT (P := fun b vs => ∃ (j : Nat) (ix : List Nat), as[j]? = some b ∧ L[j]? = some ix ∧ vs = ix.map fun i => xs.getD i .non) I1 as _ I3 nd fun b hb => by
    obtain ⟨j, hj⟩ := List.mem_iff_getElem?.mp hb
    obtain ⟨ix, e1, e2⟩ := hG.all j b hj
    have hbl : s1.heap.objs.size < b := hG.above b hb
    refine ⟨Nat.le_of_lt hbl, ?_, _, ⟨j, ix, hj, e1, rfl⟩, fun H3 => ⟨(by rw [List.length_map, sizeLine_eq]; have := l3 ix (List.mem_of_getElem? e1); omega), _, map_vals rv ix, ⟨_, e2, rfl, 0, rfl⟩⟩⟩
    rw [upd_ne (Nat.ne_of_gt hbl), upd_ne (Nat.ne_of_gt (Nat.lt_trans hI hbl))]
    exact I1.hok.fresh (Nat.le_of_lt hbl)
  have hSL := g _ _ upd_same
  have e2 : H2 = upd (fun b => if b = s1.heap.objs.size then none else H2 b) s1.heap.objs.size (.lst (as.map V.ref)) := by
    funext b
    by_cases e : b = s1.heap.objs.size
    · rw [e, upd_same]; exact hSL
    · rw [upd_ne e]; exact (if_neg e).symm
  refine ⟨.ref s1.heap.objs.size, H2, I4, rfl, ?_⟩
  rw [e2]
  refine q _ _ as (fun b o e => ?_) (if_pos rfl) hl fun j a hj => ?_
  · have hb : b ≠ s1.heap.objs.size := fun z => by rw [z, hS1] at e; cases e
    have hb2 : b ≠ c := fun z => by rw [z, c1] at e; cases e
    rw [if_neg hb]
    refine g b o ?_
    rw [upd_ne hb, upd_ne hb2]; exact e
  · obtain ⟨vs, ⟨j2, ix, h1, h2, rfl⟩, h3⟩ := qt a (List.mem_of_getElem? hj)
    have ej : j = j2 := (List.getElem?_inj (List.getElem?_eq_some_iff.mp hj).1 nd).mp (hj.trans h1.symm)
    subst ej
    have ha : a ≠ s1.heap.objs.size := Nat.ne_of_gt (hG.above a (List.mem_of_getElem? hj))
    exact ⟨ix, h2, by rw [if_neg ha]; exact h3⟩
end
end L2

namespace Pu
open PySem PySem.Spec PyProof.Rows L2
section
variable {K : PySem.W.Frag} {as : List Addr} {H H' : Hp} {S : Sto}
theorem Ext.grow (k : ∀ b o, H b = some o → H' b = some o) : Ext as H as H' := ⟨⟨fun _ _ h => h, fun a o h _ => k a o h⟩, fun a o h _ => k a o h, fun _ h => .inl h⟩
theorem Sim.grow (s : Sim K as S H) (k : ∀ b o, H b = some o → H' b = some o) : Sim K as S H' :=
  ⟨s.len, s.inj, fun i a u h1 h2 => by
    have r := s.ob i a u h1 h2
    obtain ⟨w, hw, _⟩ := r.some
    exact r.move (Ext.grow (as := as) k).toEx0 ((k _ _ hw).trans hw.symm)⟩
theorem Reps.getD {ds : List D} {vs : List V} (r : Reps K as H ds vs) (i : Nat) : Rep K as H (ds.getD i .non) (vs.getD i .non) := by
  rw [List.getD_eq_getElem?_getD, List.getD_eq_getElem?_getD]
  cases h : ds[i]? with
  | none =>
    have hl := r.length
    have : vs[i]? = none := List.getElem?_eq_none (by rw [hl]; exact List.getElem?_eq_none_iff.mp h)
    rw [this]; rfl
  | some d =>
    obtain ⟨v, hv, rv⟩ := r.get h
    rw [hv]; exact rv
theorem Reps.picks {ds : List D} {vs : List V} (r : Reps K as H ds vs) : ∀ ix : List Nat, Reps K as H (ix.map fun i => ds.getD i .non) (ix.map fun i => vs.getD i .non)
  | [] => rfl
  | i :: t => Reps.cons (r.getD i) (Reps.picks r t)
theorem picks_ok {ds : List D} {vs : List V} (r : Reps K as H ds vs) : ∀ {L : List (List Nat)} {bs : List Addr}, bs.length = L.length → (∀ (j : Nat) (a : Addr), bs[j]? = some a → ∃ ix, L[j]? = some ix ∧ H a = some (.tup (ix.map fun i => vs.getD i .non))) → Reps K as H (pickD ds L) (bs.map V.ref)
  | [], [], _, _ => rfl
  | [], _ :: _, h, _ => by simp at h
  | _ :: _, [], h, _ => by simp at h
  | ix :: L, b :: bs, hl, h => by
    obtain ⟨ix', e1, e2⟩ := h 0 b rfl
    cases e1
    exact Reps.cons ⟨b, _, rfl, SqT.of e2, r.picks ix⟩ (picks_ok r (by simpa using hl) fun j a hj => by
      obtain ⟨ix', q1, q2⟩ := h (j + 1) a (by simpa using hj)
      exact ⟨ix', by simpa using q1, q2⟩)
end
section
variable {X : Cx} {mg : Str → Option Value} {E : XK} {a b : Expr} {pos : Pos} {ma mb : Env' → M D}
theorem cmb_end {own : Bool} {ds : List D} {vs : List V} {r : Nat} {as : List Addr} {H : Hp} {S : Sto} {Q : VK} (sim : Sim X.K as S H) (rv : Reps X.K as H ds vs) (fin : Fin X.K mg E (Rep X.K) as H (cmbL own ds (r : Int) S) Q) :
    r ≤ 1000 ∧ ∃ L, Cmb.allC vs.length r = some L ∧ ∀ (H2 : Hp) (q : Addr) (bs : List Addr), (∀ b o, H b = some o → H2 b = some o) → H2 q = none → bs.length = L.length →
      (∀ (j : Nat) (a : Addr), bs[j]? = some a → ∃ ix, L[j]? = some ix ∧ H2 a = some (.tup (ix.map fun i => vs.getD i .non))) → QL own Q (.ref q) (upd H2 q (.lst (bs.map V.ref))) := by
  unfold cmbL at fin
  obtain ⟨_, fin⟩ := Fin.chk fin
  rw [Int.toNat_natCast, ← rv.length] at fin
  cases hL : Cmb.allC vs.length r with
  | none => rw [hL] at fin; exact fin.elim
  | some L =>
    rw [hL] at fin
    refine ⟨(Cmb.allC_ok hL).1, L, rfl, fun H2 q bs k hq hl hb => ?_⟩
    have fin2 := Fin.ext fin (Ext.grow (as := as) k)
    exact (fin_L fin2 (sim.grow k) (picks_ok (rv.mono (Ext.grow k)) hl hb)).2 q hq
theorem me_cmb {p p1 pos1 : Pos} (own : Bool) (hc : X.calm = true) (hg : Gl X "list") (hm : X.mg "list" = none) (hg2 : Gl X "combinations") (hm2 : X.mg "combinations" = some (.type "itertools.combinations")) (ha : ME X mg E a ma) (hb : ME X mg E b mb)
    (hs : starEach [a, b] X.env = (false, eval a X.env) :: starEach [b] X.env) (hs2 : starEach [b] X.env = (false, eval b X.env) :: starEach [] X.env) :
    ME X mg E (.Call (.Name "list" p) [.Call (.Name "combinations" p1) [a, b] [] pos1] [] pos) (fun ρ => mbind (ma ρ) fun x => mbind (mb ρ) fun y => cmbM own x y) :=
  (pe_ql own (pe_lstC (pos := pos) (p := p) hc hg hm (pcm (pos := pos1) (p := p1) hc hg2 hm2 (pa_cons ha (pa_cons hb pa_nil hs2) hs) hs (by rw [hs2]; rfl)) rfl)).imp fun σ H Q h => by
    obtain ⟨as, S, ρ, sim, env, fin⟩ := h
    refine ⟨as, S, ρ, sim, env, (Fin.bind (Rl := Rep X.K) fin).imp ?_⟩
    rintro x H1 ⟨as1, S1, d, e1, sim1, r1, fin1⟩
    refine ⟨as1, S1, ρ, sim1, env.mono e1, (Fin.bind (Rl := Rep X.K) fin1).imp ?_⟩
    rintro y H2 ⟨as2, S2, d2, e2, sim2, r2, fin2⟩
    have r1' := r1.mono e2
    unfold cmbM at fin2
    cases hd : seqOf d S2 with
    | none => rw [hd] at fin2; exact fin2.elim
    | some xs =>
      rw [hd] at fin2
      cases d2 <;> first | exact fin2.elim | skip
      rename_i r
      obtain ⟨l, vs, rfl, hq, rr⟩ := seq_ok sim2 hd r1'
      have r0 : 0 ≤ r := by
        have := (Fin.chk (show Fin X.K mg E (Rep X.K) as2 H2 (cmbL own xs r S2) Q from fin2)).1
        exact this
      obtain ⟨k, rfl⟩ : ∃ k : Nat, r = (k : Int) := ⟨r.toNat, by omega⟩
      obtain ⟨hk, L, hL, q⟩ := cmb_end (own := own) sim2 rr fin2
      have r2 : y = .int (k : Int) := r2
      subst r2
      exact ⟨.ref l, vs, k, rfl, .inl ⟨l, rfl, hq⟩, hk, L, hL, q⟩
theorem rng_reps {K : PySem.W.Frag} {as : List Addr} {H : Hp} (j : Int) : Reps K as H (rngD j) (rgV 0 j) := by
  unfold rgV rngD
  rw [Int.sub_zero]
  have go : ∀ l : List Nat, Reps K as H (l.map fun (k : Nat) => D.int (k : Int)) (l.map fun (i : Nat) => V.int (0 + (i : Int))) := by
    intro l
    induction l with
    | nil => rfl
    | cons n l ih => exact ⟨_, _, rfl, by show V.int (0 + (n : Int)) = V.int (n : Int); rw [Int.zero_add], ih⟩
  exact go _
theorem me_cmr {p p1 p2 pos1 pos2 : Pos} (own : Bool) (hc : X.calm = true) (hg : Gl X "list") (hm : X.mg "list" = none) (hg2 : Gl X "combinations") (hm2 : X.mg "combinations" = some (.type "itertools.combinations")) (hg3 : Gl X "range") (hm3 : X.mg "range" = none) (ha : ME X mg E a ma) (hb : ME X mg E b mb)
    (hs : starEach [a] X.env = (false, eval a X.env) :: starEach [] X.env) (hs2 : starEach [b] X.env = (false, eval b X.env) :: starEach [] X.env) :
    ME X mg E (.Call (.Name "list" p) [.Call (.Name "combinations" p1) [.Call (.Name "range" p2) [a] [] pos2, b] [] pos1] [] pos) (fun ρ => mbind (ma ρ) fun x => match x with
      | .int j => mbind (mb ρ) fun y => cmrM own j y
      | _ => mbad) :=
  (pe_ql own (pe_lstC (pos := pos) (p := p) hc hg hm (pcm (pos := pos1) (p := p1) hc hg2 hm2 (pa_cons (pe_callTy (pos := pos2) (p := p2) cr_range1 hg3 hm3 (by decide +kernel) (pa_cons ha pa_nil hs) (by decide) (by decide) hs rfl) (pa_cons hb pa_nil hs2) rfl) rfl (by rw [hs2]; rfl)) rfl)).imp fun σ H Q h => by
    obtain ⟨as, S, ρ, sim, env, fin⟩ := h
    refine ⟨as, S, ρ, sim, env, (Fin.bind (Rl := Rep X.K) fin).imp ?_⟩
    rintro x H1 ⟨as1, S1, d, e1, sim1, r1, fin1⟩
    cases d <;> first | exact fin1.elim | skip
    rename_i j
    cases r1
    refine ⟨j, rfl, fun p hp => ?_⟩
    have e2 := Ext.fixed (as := as1) (o := .rng 0 j) hp
    have fin1 := Fin.ext fin1 e2
    refine ⟨as1, S1, ρ, sim1.fixed hp, (env.mono e1).mono e2, (Fin.bind (Rl := Rep X.K) fin1).imp ?_⟩
    rintro y H2 ⟨as2, S2, d2, e3, sim2, r2, fin2⟩
    cases d2 <;> first | exact fin2.elim | skip
    rename_i r
    obtain ⟨hj, fin2⟩ := Fin.chk (show Fin X.K mg E (Rep X.K) as2 H2 (cmrM own j (.int r) S2) Q from fin2)
    have r0 : 0 ≤ r := (Fin.chk (show Fin X.K mg E (Rep X.K) as2 H2 (cmbL own (rngD j) r S2) Q from fin2)).1
    obtain ⟨k, rfl⟩ : ∃ k : Nat, r = (k : Int) := ⟨r.toNat, by omega⟩
    obtain ⟨hk, L, hL, q⟩ := cmb_end (own := own) sim2 (rng_reps (K := X.K) (as := as2) (H := H2) j) fin2
    have r2 : y = .int (k : Int) := r2
    subst r2
    refine ⟨.ref p, rgV 0 j, k, rfl, .inr ⟨p, j, rfl, ?_, rfl, ⟨by omega, by omega, by omega, by omega, by rw [Int.sub_zero]; omega⟩⟩, hk, L, hL, q⟩
    refine e3.keep p _ upd_same fun hm => ?_
    obtain ⟨i, hi⟩ := List.mem_iff_getElem?.mp hm
    obtain ⟨o, _, ro⟩ := sim1.has hi
    obtain ⟨w, hw, _⟩ := ro.some
    rw [hp] at hw; cases hw
end
end Pu

namespace Pu
open PySem PySem.Spec PyProof.Rows L2

/-! ## targets -/
mutual
def tgIn (ws : List Nat) : Tg → Bool
  | .nm i => ws.contains i
  | .tp ts => tgsIn ws ts
def tgsIn (ws : List Nat) : List Tg → Bool
  | [] => true
  | t :: ts => tgIn ws t && tgsIn ws ts
end
theorem wipe_get (ws : List Nat) : ∀ (σ : L2.St) (j : Nat), (L2.wipe σ ws)[j]? = if j ∈ ws ∧ j < σ.length then some none else σ[j]? := by
  induction ws with
  | nil => intro σ j; simp [L2.wipe]
  | cons w ws ih =>
    intro σ j
    show ((L2.wipe σ ws).set w none)[j]? = _
    by_cases e : j = w
    · subst e
      by_cases hl : j < σ.length
      · rw [List.getElem?_set_self (by rw [wipe_length]; exact hl), if_pos ⟨List.mem_cons_self, hl⟩]
      · rw [List.getElem?_eq_none (by rw [List.length_set, wipe_length]; omega), if_neg (fun q => hl q.2), List.getElem?_eq_none (by omega)]
    · rw [List.getElem?_set_ne (fun q => e q.symm), ih σ j]
      by_cases h : j ∈ ws ∧ j < σ.length
      · rw [if_pos h, if_pos ⟨List.mem_cons_of_mem _ h.1, h.2⟩]
      · rw [if_neg h, if_neg (fun q => h ⟨(List.mem_cons.mp q.1).resolve_left e, q.2⟩)]
theorem wipe_set {ws : List Nat} {i : Nat} (h : i ∈ ws) (σ : L2.St) (x : Option V) : L2.wipe (σ.set i x) ws = L2.wipe σ ws := by
  apply List.ext_getElem?
  intro j
  rw [wipe_get, wipe_get, List.length_set]
  by_cases c : j ∈ ws ∧ j < σ.length
  · rw [if_pos c, if_pos c]
  · rw [if_neg c, if_neg c]
    by_cases e : i = j
    · subst e
      have hl : ¬ i < σ.length := fun q => c ⟨h, q⟩
      rw [List.getElem?_eq_none (by rw [List.length_set]; omega), List.getElem?_eq_none (by omega)]
    · rw [List.getElem?_set_ne e]
/-- what storing to a target does; the slots outside the target stay -/
def gM (K : PySem.W.Frag) (tg : Tg) : TG := fun v σ H Q => ∃ (as : List Addr) (ρ ρ' : Env') (d : D), EnvR K as H σ ρ ∧ Rep K as H d v ∧ tgSet tg d ρ = some ρ' ∧
  ∀ σ', EnvR K as H σ' ρ' → (∀ ws, tgIn ws tg = true → L2.wipe σ' ws = L2.wipe σ ws) → Q σ' H
def gsM (K : PySem.W.Frag) (tgs : List Tg) : TGs := fun vs σ H Q => ∃ (as : List Addr) (ρ ρ' : Env') (ds : List D), EnvR K as H σ ρ ∧ Reps K as H ds vs ∧ tgSets tgs ds ρ = some ρ' ∧
  ∀ σ', EnvR K as H σ' ρ' → (∀ ws, tgsIn ws tgs = true → L2.wipe σ' ws = L2.wipe σ ws) → Q σ' H
section
variable {X : Cx} {mg : Str → Option Value} {E : XK}
theorem PG_imp {e : Expr} {t t' : TG} (h : PG X e t) (f : ∀ v σ H Q, t' v σ H Q → t v σ H Q) : PG X e t' := ⟨fun pins s σ H v u Q I r q => h.run pins s σ H v u Q I r (f _ _ _ _ q)⟩
theorem PGs_imp {e : List Expr} {t t' : TGs} (h : PGs X e t) (f : ∀ v σ H Q, t' v σ H Q → t v σ H Q) : PGs X e t' := ⟨fun pins s σ H v u Q I r q => h.run pins s σ H v u Q I r (f _ _ _ _ q)⟩
theorem mg_nm {i : Nat} {x : Str} {pos : Pos} (hN : X.N.Nodup) (hi : X.N[i]? = some x) (hx : Loc X.env.scope x) (hf : X.fn x = true ∨ X.env.scope.names.lookup x = some .local) : PG X (.Name x pos) (gM X.K (.nm i)) :=
  PG_imp (pg_name hN hi hx hf) fun v σ H Q h => by
    obtain ⟨as, ρ, ρ', d, env, r, ht, q⟩ := h
    simp only [tgSet] at ht
    cases ht
    refine q _ (env.set r i) fun ws hw => ?_
    simp only [tgIn, List.contains_iff_mem] at hw
    exact wipe_set hw σ _
theorem mgs_nil : PGs X [] (gsM X.K []) := PGs_imp pgs_nil fun vs σ H Q h => by
  obtain ⟨as, ρ, ρ', ds, env, r, ht, q⟩ := h
  cases ds with
  | nil =>
    simp only [tgSets] at ht; cases ht
    have r : vs = [] := r
    exact ⟨r, q σ env fun _ _ => rfl⟩
  | cons d ds => simp only [tgSets] at ht; cases ht
theorem PGs_cons_ok {e : Expr} {es : List Expr} {t : Tg} {ts : List Tg} (h1 : PG X e (gM X.K t)) (h2 : PGs X es (gsM X.K ts)) (h : PGs X (e :: es) (gCons (gM X.K t) (gsM X.K ts))) : PGs X (e :: es) (gsM X.K (t :: ts)) :=
  PGs_imp h fun vs σ H Q h => by
    obtain ⟨as, ρ, ρ', ds, env, r, ht, q⟩ := h
    cases ds with
    | nil => simp only [tgSets] at ht; cases ht
    | cons d ds =>
      obtain ⟨v, rest, rfl, rd, rds⟩ := r
      simp only [tgSets] at ht
      cases hq : tgSet t d ρ with
      | none => rw [hq] at ht; cases ht
      | some ρ1 =>
        rw [hq] at ht
        have ht : tgSets ts ds ρ1 = some ρ' := ht
        refine ⟨v, rest, rfl, as, ρ, ρ1, d, env, rd, hq, fun σ1 env1 w1 => ⟨as, ρ1, ρ', ds, env1, rds, ht, fun σ2 env2 w2 => q σ2 env2 fun ws hw => ?_⟩⟩
        simp only [tgsIn, Bool.and_eq_true] at hw
        rw [w2 ws hw.2, w1 ws hw.1]
theorem tgSets_len : ∀ {ts : List Tg} {ds : List D} {ρ ρ' : Env'}, tgSets ts ds ρ = some ρ' → ds.length = ts.length
  | [], [], _, _, _ => rfl
  | [], _ :: _, _, _, h => by simp only [tgSets] at h; cases h
  | _ :: _, [], _, _, h => by simp only [tgSets] at h; cases h
  | t :: ts, d :: ds, ρ, ρ', h => by
    simp only [tgSets] at h
    cases hq : tgSet t d ρ with
    | none => rw [hq] at h; cases h
    | some ρ1 =>
      rw [hq] at h
      have h : tgSets ts ds ρ1 = some ρ' := h
      simp [tgSets_len h]
theorem PG_tup_ok {es : List Expr} {ts : List Tg} {k : Nat} {pos : Pos} {n : Nat} (h : PG X (.Tuple es k pos) (gTup X.K n (gsM X.K ts))) (hn : n = ts.length) : PG X (.Tuple es k pos) (gM X.K (.tp ts)) :=
  PG_imp h fun v σ H Q h => by
    obtain ⟨as, ρ, ρ', d, env, r, ht, q⟩ := h
    cases d with
    | tup ds =>
      simp only [tgSet] at ht
      obtain ⟨a, vs, rfl, ha, rr⟩ := r
      exact ⟨a, vs, rfl, ha, by rw [rr.length, tgSets_len ht, hn], as, ρ, ρ', ds, env, rr, ht, fun σ' env' w => q σ' env' fun ws hw => w ws (by simpa only [tgIn] using hw)⟩
    | ptp ds =>
      simp only [tgSet] at ht
      obtain ⟨a, vs, rfl, ha, rr⟩ := r
      exact ⟨a, vs, rfl, ha.sq, by rw [rr.length, tgSets_len ht, hn], as, ρ, ρ', ds, env, rr, ht, fun σ' env' w => q σ' env' fun ws hw => w ws (by simpa only [tgIn] using hw)⟩
    | _ => simp only [tgSet] at ht; cases ht

/-! ## what is walked -/
def IterOk (K : PySem.W.Frag) (as0 : List Addr) (H0 : Hp) (src : Src) (J : It) : Prop := src.n ≤ line ∧ ∀ (as : List Addr) (S : Sto) (H : Hp) (i : Nat), Ex0 as0 H0 as H → Sim K as S H → match src.nxt i S with
  | none => True
  | some none => J.stop i H
  | some (some d) => J.go i H ∧ ∀ x H', J.yld i H x H' → Ext as H as H' ∧ Sim K as S H' ∧ Rep K as H' d x
abbrev MI (X : Cx) (mg : Str → Option Value) (E : XK) (tg e : Expr) (m : Env' → M Src) : Prop := PI X tg e (tM X.K mg E (IterOk X.K) m)
theorem pi_any {tg l : Expr} {tl : TE} (hl : PE X l tl) : PI X tg l (fun σ H R => tl σ H fun x H1 => ∃ a xs, x = .ref a ∧ ((SqL X.K H1 a xs ∧ (xs.length ≤ sizeLine → R (Itl X.K a) H1)) ∨ (SqT X.K H1 a xs ∧ (xs.length ≤ sizeLine → R (Itt X.K a) H1)))) := by
  refine ⟨fun pins s σ H R I h => ?_⟩
  refine thn (hl.run pins s σ H _ I h) fun v s1 ⟨x, H1, I1, r1, q1⟩ => ?_
  obtain ⟨a, xs, e, q | q⟩ := q1
  · subst e
    cases r1
    obtain ⟨hq, q⟩ := q
    obtain ⟨its, rv, p, hz⟩ := I1.list hq
    refine wpAny_pyIter_list p.isList ?_
    refine ⟨s1.heap.objs.size, [s1.heap.objs.size], _, _, H1, rfl, I1.kept (t' := s1.toks) fun b o e => Heap.get?_push_of_some _ e, turn_list a _, ⟨_, Heap.get?_push_size _ rfl, rfl, rfl⟩, fun b hb => ?_, q hz⟩
    rw [List.mem_singleton.mp hb]
    exact I1.fpOk (Nat.le_refl _) (I1.hok.fresh (Nat.le_refl _))
  · subst e
    cases r1
    obtain ⟨hq, q⟩ := q
    obtain ⟨its, rv, p, hz⟩ := I1.tuple hq
    refine wpAny_pyIter_tuple (show s1.heap.IsTuple a its.toArray from p) ?_
    refine ⟨s1.heap.objs.size, [s1.heap.objs.size], _, _, H1, rfl, I1.kept (t' := s1.toks) fun b o e => Heap.get?_push_of_some _ e, turn_tuple a _, ⟨_, Heap.get?_push_size _ rfl, rfl, rfl⟩, fun b hb => ?_, q hz⟩
    rw [List.mem_singleton.mp hb]
    exact I1.fpOk (Nat.le_refl _) (I1.hok.fresh (Nat.le_refl _))
theorem reps_end {K : PySem.W.Frag} {as : List Addr} {H : Hp} {ds : List D} {vs : List V} {i : Nat} (r : Reps K as H ds vs) (h : ds[i]? = none) : vs.length ≤ i := by
  rw [r.length]; exact List.getElem?_eq_none_iff.mp h
/-- the items of a list that stays -/
theorem it_list {K : PySem.W.Frag} {as0 : List Addr} {H0 : Hp} {n : Nat} {ds : List D} {a : Addr} {vs : List V} (hs : ∀ as H, Ex0 as0 H0 as H → SqL K H a vs) (hi : ∀ H us, SqL K H a vs → SqL K H a us → us = vs) (r : Reps K as0 H0 ds vs) (hn : n ≤ line) : IterOk K as0 H0 ⟨n, fun i _ => some ds[i]?⟩ (Itl K a) := by
  refine ⟨hn, ?_⟩
  intro as S H i e sim
  show match some ds[i]? with | none => True | some none => _ | some (some d) => _
  have q := hs as H e
  have rr := Reps.mono0 e r
  cases h : ds[i]? with
  | none => exact ⟨vs, q, reps_end r h⟩
  | some d =>
    obtain ⟨v, hv, rv⟩ := rr.get h
    refine ⟨⟨vs, v, q, hv⟩, ?_⟩
    rintro x H' ⟨rfl, y⟩
    have := y vs q
    rw [hv] at this; cases this
    exact ⟨Ext.refl _ _, sim, rv⟩
theorem it_tup {K : PySem.W.Frag} {as0 : List Addr} {H0 : Hp} {n : Nat} {ds : List D} {a : Addr} {vs : List V} (hs : SqT K H0 a vs) (r : Reps K as0 H0 ds vs) (hn : n ≤ line) : IterOk K as0 H0 ⟨n, fun i _ => some ds[i]?⟩ (Itt K a) := by
  refine ⟨hn, ?_⟩
  intro as S H i e sim
  show match some ds[i]? with | none => True | some none => _ | some (some d) => _
  have q := e.sqT hs
  have rr := Reps.mono0 e r
  cases h : ds[i]? with
  | none => exact ⟨vs, q, reps_end r h⟩
  | some d =>
    obtain ⟨v, hv, rv⟩ := rr.get h
    refine ⟨⟨vs, v, q, hv⟩, ?_⟩
    rintro x H' ⟨rfl, y⟩
    have := y vs q
    rw [hv] at this; cases this
    exact ⟨Ext.refl _ _, sim, rv⟩
theorem it_own {K : PySem.W.Frag} {as0 : List Addr} {H0 : Hp} {n r : Nat} {a : Addr} (ha : as0[r]? = some a) (hn : n ≤ line) : IterOk K as0 H0 ⟨n, fun i S' => match S'[r]? with | some (.lst ys) => some ys[i]? | _ => none⟩ (Itl K a) := by
  refine ⟨hn, ?_⟩
  intro as S H i e sim
  show match (match S[r]? with | some (.lst ys) => some ys[i]? | _ => none) with | none => True | some none => _ | some (some d) => _
  have ha' := e.pre r a ha
  obtain ⟨o, ho, hr⟩ := sim.has ha'
  rw [ho]
  cases o with
  | lst ys =>
    obtain ⟨vs, h1, h2⟩ := hr
    show match some ys[i]? with | none => True | some none => _ | some (some d) => _
    cases h : ys[i]? with
    | none => exact ⟨vs, SqL.of h1, reps_end h2 h⟩
    | some d =>
      obtain ⟨v, hv, rv⟩ := h2.get h
      refine ⟨⟨vs, v, SqL.of h1, hv⟩, ?_⟩
      rintro x H' ⟨rfl, y⟩
      have := y vs (SqL.of h1)
      rw [hv] at this; cases this
      exact ⟨Ext.refl _ _, sim, rv⟩
  | _ => exact True.intro
theorem mi_seq {tg e : Expr} {me : Env' → M D} (h : ME X mg E e me) : MI X mg E tg e (fun ρ => mbind (me ρ) fun x S => match srcOf x S with
    | some src => .ok src S
    | none => .bad) :=
  (pi_any h).imp fun σ H R hq => by
    obtain ⟨as, S, ρ, sim, env, fin⟩ := hq
    refine ⟨as, S, ρ, sim, env, (Fin.bind (Rl := Rep X.K) fin).imp ?_⟩
    rintro v H1 ⟨as1, S1, d, e1, sim1, r1, fin1⟩
    cases d with
    | tup ds =>
      obtain ⟨a, vs, rfl, ha, rr⟩ := r1
      exact ⟨a, vs, rfl, .inr ⟨ha, fun hz => Fin.ret fin1 sim1 (it_tup ha rr (by rw [line_eq, ← rr.length]; exact hz))⟩⟩
    | ptp ds =>
      obtain ⟨a, vs, rfl, ha, rr⟩ := r1
      exact ⟨a, vs, rfl, .inr ⟨ha.sq, fun hz => Fin.ret fin1 sim1 (it_tup ha.sq rr (by rw [line_eq, ← rr.length]; exact hz))⟩⟩
    | fz ds =>
      obtain ⟨a, vs, rfl, ⟨o, ha⟩, rr⟩ := r1
      have go : ∀ as H, Ex0 as1 H1 as H → SqL X.K H a vs := fun as H e => .inl (.inr ⟨o, e.fix _ _ ha (.inr ⟨_, _, rfl⟩)⟩)
      refine ⟨a, vs, rfl, .inl ⟨go as1 H1 (Ext.refl _ _).toEx0, fun hz => Fin.ret fin1 sim1 ⟨by rw [line_eq]; show ds.length ≤ _; rw [← rr.length]; exact hz, ?_⟩⟩⟩
      intro as S H i e sim
      have hH : H a = some (.frz o (.lst vs)) := e.fix _ _ ha (.inr ⟨_, _, rfl⟩)
      show match some ds[i]? with | none => True | some none => _ | some (some d) => _
      have rr' := Reps.mono0 e rr
      cases h : ds[i]? with
      | none => exact ⟨vs, go as H e, reps_end rr h⟩
      | some d =>
        obtain ⟨v, hv, rv⟩ := rr'.get h
        refine ⟨⟨vs, v, go as H e, hv⟩, ?_⟩
        rintro x H' ⟨rfl, y⟩
        have := y vs (go as _ e)
        rw [hv] at this; cases this
        exact ⟨Ext.refl _ _, sim, rv⟩
    | fr ds =>
      obtain ⟨a, vs, rfl, ha, rr⟩ := r1
      have go : ∀ as H, Ex0 as1 H1 as H → SqL X.K H a vs := fun as H e => (e.fr ha).sq
      refine ⟨a, vs, rfl, .inl ⟨go as1 H1 (Ext.refl _ _).toEx0, fun hz => Fin.ret fin1 sim1 ⟨by rw [line_eq]; show ds.length ≤ _; rw [← rr.length]; exact hz, ?_⟩⟩⟩
      intro as S H i e sim
      show match some ds[i]? with | none => True | some none => _ | some (some d) => _
      have rr' := Reps.mono0 e rr
      cases h : ds[i]? with
      | none => exact ⟨vs, go as H e, reps_end rr h⟩
      | some d =>
        obtain ⟨v, hv, rv⟩ := rr'.get h
        refine ⟨⟨vs, v, go as H e, hv⟩, ?_⟩
        rintro x H' ⟨rfl, y⟩
        have := y vs (go as _ e)
        rw [hv] at this; cases this
        exact ⟨Ext.refl _ _, sim, rv⟩
    | ref r =>
      obtain ⟨a, ha, rfl⟩ := r1
      obtain ⟨o, ho, hr⟩ := sim1.has ha
      simp only [srcOf, ho] at fin1
      cases o with
      | lst ys =>
        obtain ⟨vs, h1, h2⟩ := hr
        exact ⟨a, vs, rfl, .inl ⟨SqL.of h1, fun hz => Fin.ret fin1 sim1 (it_own ha (by rw [line_eq, ← h2.length]; exact hz))⟩⟩
      | _ => exact fin1.elim
    | _ => exact fin1.elim
theorem it_rng {K : PySem.W.Frag} {as0 : List Addr} {H0 : Hp} (lo : Int) (n : Nat) (hn : n ≤ line) : IterOk K as0 H0 (rngOf lo n) (Itr lo n) := by
  refine ⟨hn, ?_⟩
  intro as S H i e sim
  show match (some (if i < n then some (D.int (lo + i)) else none)) with | none => True | some none => _ | some (some d) => _
  by_cases h : i < n
  · rw [if_pos h]
    refine ⟨h, ?_⟩
    rintro x H' ⟨rfl, rfl⟩
    exact ⟨Ext.refl _ _, sim, rfl⟩
  · rw [if_neg h]
    exact Nat.le_of_not_lt h
theorem mi_rng {tg a : Expr} {p pos : Pos} {ma : Env' → M D} (hg : Gl X "range") (hm : X.mg "range" = none) (ha : ME X mg E a ma) (hs : starEach [a] X.env = [(false, eval a X.env)]) :
    MI X mg E tg (.Call (.Name "range" p) [a] [] pos) (fun ρ => mbind (ma ρ) fun x => match x with
    | .int j => chk (-4611686018427387904 ≤ j ∧ j ≤ 16777216) (mret (rngOf 0 j.toNat))
    | _ => mbad) :=
  (pi_range1 hg hm (pa_cons ha pa_nil hs) hs).imp fun σ H R hq => by
    obtain ⟨as, S, ρ, sim, env, fin⟩ := hq
    refine ⟨as, S, ρ, sim, env, (Fin.bind (Rl := Rep X.K) fin).imp ?_⟩
    rintro v H1 ⟨as1, S1, d, e1, sim1, r1, fin1⟩
    cases d <;> first | exact fin1.elim | skip
    rename_i j
    obtain ⟨hj, fin1⟩ := Fin.chk fin1
    cases r1
    exact ⟨j, rfl, by omega, by omega, Fin.ret fin1 sim1 (it_rng 0 _ (by unfold line; omega))⟩
theorem mi_rng2 {tg a b : Expr} {p pos : Pos} {ma mb : Env' → M D} (hg : Gl X "range") (hm : X.mg "range" = none) (ha : ME X mg E a ma) (hb : ME X mg E b mb) (hs : starEach [a, b] X.env = [(false, eval a X.env), (false, eval b X.env)]) (hs2 : starEach [b] X.env = [(false, eval b X.env)]) :
    MI X mg E tg (.Call (.Name "range" p) [a, b] [] pos) (fun ρ => mbind (ma ρ) fun x => mbind (mb ρ) fun y => match x, y with
    | .int i, .int j => chk (-4611686018427387904 ≤ i ∧ i < 4611686018427387904 ∧ -4611686018427387904 ≤ j ∧ j < 4611686018427387904 ∧ j - i ≤ 16777216) (mret (rngOf i (j - i).toNat))
    | _, _ => mbad) :=
  (pi_range2 hg hm (pa_cons ha (pa_cons hb pa_nil hs2) (by rw [hs, hs2])) hs hs2).imp fun σ H R hq => by
    obtain ⟨as, S, ρ, sim, env, fin⟩ := hq
    refine ⟨as, S, ρ, sim, env, (Fin.bind (Rl := Rep X.K) fin).imp ?_⟩
    rintro v H1 ⟨as1, S1, d, e1, sim1, r1, fin1⟩
    refine ⟨as1, S1, ρ, sim1, env.mono e1, (Fin.bind (Rl := Rep X.K) fin1).imp ?_⟩
    rintro u H2 ⟨as2, S2, d2, e2, sim2, r2, fin2⟩
    cases d <;> first | exact fin2.elim | skip
    cases d2 <;> first | exact fin2.elim | skip
    rename_i i j
    obtain ⟨hj, fin2⟩ := Fin.chk fin2
    cases r1; cases r2
    exact ⟨i, j, rfl, by omega, Fin.ret fin2 sim2 (it_rng i _ (by unfold line; omega))⟩
/-- two sequences side by side -/
theorem lst_later {K : PySem.W.Frag} {as0 as : List Addr} {H0 H : Hp} {S : Sto} {d : D} {a : Addr} (r : Rep K as0 H0 d (.ref a)) (e : Ex0 as0 H0 as H) (sim : Sim K as S H) {ys : List D} (h : lstOf d S = some ys) : ∃ vs, SqL K H a vs ∧ Reps K as H ys vs := by
  obtain ⟨b, vs, h1, h2, h3⟩ := lst_ok sim h (Rep.mono0 e r)
  cases h1
  exact ⟨vs, h2, h3⟩
theorem it_zipL {K : PySem.W.Frag} {as0 : List Addr} {H0 : Hp} {n : Nat} {d1 d2 : D} {a b : Addr} (r1 : Rep K as0 H0 d1 (.ref a)) (r2 : Rep K as0 H0 d2 (.ref b)) (hn : n ≤ line) :
    IterOk K as0 H0 ⟨n, fun i S' => match lstOf d1 S', lstOf d2 S' with
      | some us, some vs => some (pairD us[i]? vs[i]?)
      | _, _ => none⟩ (Itz K a b) := by
  refine ⟨hn, ?_⟩
  intro as S H i e sim
  show match (match lstOf d1 S, lstOf d2 S with | some us, some vs => some (pairD us[i]? vs[i]?) | _, _ => none) with | none => True | some none => _ | some (some d) => _
  cases h1 : lstOf d1 S with
  | none => exact True.intro
  | some xs =>
    cases h2 : lstOf d2 S with
    | none => exact True.intro
    | some ys =>
      obtain ⟨us, q1, rr1⟩ := lst_later r1 e sim h1
      obtain ⟨ws, q2, rr2⟩ := lst_later r2 e sim h2
      show match some (pairD xs[i]? ys[i]?) with | none => True | some none => _ | some (some d) => _
      cases hx : xs[i]? with
      | none => exact ⟨us, ws, q1, q2, .inl (reps_end rr1 hx)⟩
      | some x =>
        cases hy : ys[i]? with
        | none => exact ⟨us, ws, q1, q2, .inr (reps_end rr2 hy)⟩
        | some y =>
          obtain ⟨v, hv, rv⟩ := rr1.get hx
          obtain ⟨w, hw, rw'⟩ := rr2.get hy
          refine ⟨⟨us, ws, v, w, q1, q2, hv, hw⟩, ?_⟩
          rintro z H' ⟨T, v', w', rfl, hT, rfl, y1, y2⟩
          have t1 := y1 us q1
          have t2 := y2 ws q2
          rw [hv] at t1; cases t1
          rw [hw] at t2; cases t2
          exact ⟨Ext.fixed hT, sim.fixed hT, T, _, rfl, SqT.of upd_same, (Reps.cons rv (Reps.one rw')).mono (Ext.fixed hT)⟩
theorem it_zipT {K : PySem.W.Frag} {as0 : List Addr} {H0 : Hp} {n : Nat} {xs ys : List D} {a b : Addr} {us ws : List V} (q1 : SqT K H0 a us) (r1 : Reps K as0 H0 xs us) (q2 : SqT K H0 b ws) (r2 : Reps K as0 H0 ys ws) (hn : n ≤ line) :
    IterOk K as0 H0 ⟨n, fun i _ => some (pairD xs[i]? ys[i]?)⟩ (RZ.ItzT K a b) := by
  refine ⟨hn, ?_⟩
  intro as S H i e sim
  show match some (pairD xs[i]? ys[i]?) with | none => True | some none => _ | some (some d) => _
  have q1 := e.sqT q1
  have q2 := e.sqT q2
  have rr1 := Reps.mono0 e r1
  have rr2 := Reps.mono0 e r2
  cases hx : xs[i]? with
  | none => exact ⟨us, ws, q1, q2, .inl (reps_end rr1 hx)⟩
  | some x =>
    cases hy : ys[i]? with
    | none => exact ⟨us, ws, q1, q2, .inr (reps_end rr2 hy)⟩
    | some y =>
      obtain ⟨v, hv, rv⟩ := rr1.get hx
      obtain ⟨w, hw, rw'⟩ := rr2.get hy
      refine ⟨⟨us, ws, v, w, q1, q2, hv, hw⟩, ?_⟩
      rintro z H' ⟨T, v', w', rfl, hT, rfl, y1, y2⟩
      have t1 := y1 us q1
      have t2 := y2 ws q2
      rw [hv] at t1; cases t1
      rw [hw] at t2; cases t2
      exact ⟨Ext.fixed hT, sim.fixed hT, T, _, rfl, SqT.of upd_same, (Reps.cons rv (Reps.one rw')).mono (Ext.fixed hT)⟩
theorem mi_zip {a b : Expr} {p pos tpos : Pos} {elts : List Expr} {kk : Nat} {ma mb : Env' → M D} (hg : Gl X "zip") (hm : X.mg "zip" = none) (ha : ME X mg E a ma) (hb : ME X mg E b mb)
    (hs : starEach [a, b] X.env = (false, eval a X.env) :: starEach [b] X.env) (hs2 : starEach [b] X.env = [(false, eval b X.env)]) (hpl : (backTo pos (starEach [b] X.env)).any (·.1) = false) :
    MI X mg E (.Tuple elts kk tpos) (.Call (.Name "zip" p) [a, b] [] pos) (fun ρ => mbind (ma ρ) fun x => mbind (mb ρ) fun y S => match zipOf x y S with
    | some src => if src.n ≤ line then .ok src S else .bad
    | none => .bad) :=
  (RZ.pi_zipA hg hm (pa_cons ha (pa_cons hb pa_nil hs2) hs) hs hpl).imp fun σ H R hq => by
    obtain ⟨as, S, ρ, sim, env, fin⟩ := hq
    refine ⟨as, S, ρ, sim, env, (Fin.bind (Rl := Rep X.K) fin).imp ?_⟩
    rintro v H1 ⟨as1, S1, d, e1, sim1, r1, fin1⟩
    refine ⟨as1, S1, ρ, sim1, env.mono e1, (Fin.bind (Rl := Rep X.K) fin1).imp ?_⟩
    rintro u H2 ⟨as2, S2, d2, e2, sim2, r2, fin2⟩
    have r1' := r1.mono e2
    have lists : ∀ xs ys, xs.length ≤ line → lstOf d S2 = some xs → lstOf d2 S2 = some ys → Fin X.K mg E (IterOk X.K) as2 H2 (.ok ⟨xs.length, fun i S' => match lstOf d S', lstOf d2 S' with
        | some us, some vs => some (pairD us[i]? vs[i]?)
        | _, _ => none⟩ S2) R → ∃ a b xs ys, [v, u] = [V.ref a, .ref b] ∧ ((SqL X.K H2 a xs ∧ SqL X.K H2 b ys ∧ R (Itz X.K a b) H2) ∨ (SqT X.K H2 a xs ∧ SqT X.K H2 b ys ∧ R (RZ.ItzT X.K a b) H2)) := fun xs ys hn h1 h2 f => by
      obtain ⟨a, vs, rfl, q1, rr1⟩ := lst_ok sim2 h1 r1'
      obtain ⟨b, ws, rfl, q2, rr2⟩ := lst_ok sim2 h2 r2
      exact ⟨a, b, vs, ws, rfl, .inl ⟨q1, q2, Fin.ret f sim2 (it_zipL r1' r2 hn)⟩⟩
    unfold zipOf at fin2
    try dsimp only at fin2
    split at fin2
    · rename_i src hsrc
      by_cases hn : src.n ≤ line
      case neg => rw [if_neg hn] at fin2; exact fin2.elim
      rw [if_pos hn] at fin2
      split at hsrc
      · cases hsrc
        obtain ⟨a, vs, rfl, q1, rr1⟩ := r1'
        obtain ⟨b, ws, rfl, q2, rr2⟩ := r2
        exact ⟨a, b, vs, ws, rfl, .inr ⟨q1, q2, Fin.ret fin2 sim2 (it_zipT q1 rr1 q2 rr2 hn)⟩⟩
      · cases hsrc
        obtain ⟨a, vs, rfl, q1, rr1⟩ := r1'
        obtain ⟨b, ws, rfl, q2, rr2⟩ := r2
        exact ⟨a, b, vs, ws, rfl, .inr ⟨q1.sq, q2, Fin.ret fin2 sim2 (it_zipT q1.sq rr1 q2 rr2 hn)⟩⟩
      · cases hsrc
      · cases hsrc
      · split at hsrc
        · rename_i xs ys h1 h2
          cases hsrc
          exact lists _ _ hn h1 h2 fin2
        · cases hsrc
    · exact fin2.elim
end
end Pu

namespace Pu
open PySem PySem.Spec PyProof.Rows L2
/-! ## enumerate(t), t a tuple -/
abbrev tItOb (l : Addr) : Obj := { cls := .type "tuple_iterator", data := .fields #[.ref l, .int 0 0] }
abbrev enumOb (it : Addr) : Obj := { cls := .type "enumerate", data := .fields #[.none, .bool false, .ref it, rawInt 0, .none, .none] }
theorem enumT_new (l : Addr) (o : Obj) (items : Array Value) (n : Nat) (hc : o.cls = .type "tuple") (hd : o.data = .seq items n) :
    Meets (Builtin.«enumerate.__new__» ⟨[.type "enumerate", .ref l], []⟩) (fun _ R s => s.heap.get? l = some o ∧
      R (.ok (.ret (.ref (s.heap.push (tItOb l)).objs.size))) { s with heap := (s.heap.push (tItOb l)).push (enumOb s.heap.objs.size) }) :=
  .of_wp fun prog w A R s hh => by
    obtain ⟨hp, g, d, tk, os⟩ := s
    obtain ⟨hl, fin⟩ := hh
    have sub := sub_enumerate
    have tup : Heap.IsTuple hp l items := ⟨o, hl, hc, n, hd⟩
    wp_walk using wpAny_loadPart' hl, wpAny_pyIter_tuple tup
    refine wpAny_stack_any fun st => wpAny_pure ?_
    split
    · rename_i c _ _ _ _ _
      cases (c == Value.type "enumerate") <;> (wp_walk using wpAny_loadPart' hl, wpAny_pyIter_tuple tup; exact ⟨_, rfl, fin⟩)
    · wp_walk using wpAny_loadPart' hl, wpAny_pyIter_tuple tup
      exact ⟨_, rfl, fin⟩
section
variable {P : Program} {w : World} {A : Around} {E : Value → Shared → Prop} {s : Shared}
theorem enumT_call {l : Addr} {items : Array Value} {Q : Value → Shared → Prop} (tup : s.heap.IsTuple l items)
    (fin : ∀ h1, IsEnum h1 (s.heap.objs.size + 1) s.heap.objs.size 0 .none → h1.IsTupleIter s.heap.objs.size l 0 → (∀ b o, s.heap.get? b = some o → h1.get? b = some o) → Q (.ref (s.heap.objs.size + 1)) { s with heap := h1 }) :
    wpAny (model P w) A (call (.type "enumerate") [.ref l]) Q E s := by
  obtain ⟨o, ho, hc, n, hd⟩ := tup
  have size : (s.heap.push (tItOb l)).objs.size = s.heap.objs.size + 1 := Heap.size_push ..
  have first : ((s.heap.push (tItOb l)).push (enumOb s.heap.objs.size)).get? s.heap.objs.size = some (tItOb l) := Heap.get?_push_of_some _ (Heap.get?_push_size _ rfl)
  have second : ((s.heap.push (tItOb l)).push (enumOb s.heap.objs.size)).get? (s.heap.objs.size + 1) = some (enumOb s.heap.objs.size) := by
    have := Heap.get?_push_size (s.heap.push (tItOb l)) (o := enumOb s.heap.objs.size) rfl
    rwa [size] at this
  have old : ∀ b u, s.heap.get? b = some u → ((s.heap.push (tItOb l)).push (enumOb s.heap.objs.size)).get? b = some u := fun b u q => Heap.get?_push_of_some _ (Heap.get?_push_of_some _ q)
  refine callType_new F.called_enumerate (by decide) (F.typeCall_enumerate_1 _) (F.newCall_enumerate_1 _) (fun obj => F.args_object_init_2 obj _) F.entry_enumerate_new (enumT_new l o items n hc hd) ⟨ho, ?_⟩
  show _ ∧ _
  rw [size]
  exact ⟨⟨_, second, rfl⟩, fin _ second ⟨_, first, rfl, rfl⟩ old⟩
end
/-- behind the last item -/
theorem enumT_last {P : Program} {w : World} {A : Around} (hh : A.handled = none) (it l : Addr) (i : Nat) (items : Array Value) (hx : items[i]? = none) :
    Draws P w A.in1 it [it, l] i (fun _ _ => False) (fun j h => j = i ∧ h.IsTupleIter it l i ∧ h.IsTuple l items) where
  live := fun _ _ st => let ⟨o, ho, _⟩ := st.2.1; ⟨o, ho⟩
  frame := fun _ _ _ st hk => ⟨st.1, st.2.1.at fun o e => hk it (by simp) o e, st.2.2.at fun o e => hk l (by simp) o e⟩
  item := fun j s Q E hi st => absurd st.1 (Nat.ne_of_lt hi)
  done := fun s Q E st hE => wpAny_nextOf_tuple_end hh st.2.1 st.2.2 hx hE
/-- the tuple at a, each item in a new pair with its place -/
def IteT (K : PySem.W.Frag) (a : Addr) : It :=
  ⟨fun i H => ∃ (xs : List V) (x : V), SqT K H a xs ∧ xs[i]? = some x, fun i H v H' => ∃ T x, v = .ref T ∧ H T = none ∧ H' = upd H T (.tup [.int (i : Nat), x]) ∧ ∀ xs, SqT K H a xs → xs[i]? = some x, fun i H => ∃ xs : List V, SqT K H a xs ∧ xs.length ≤ i⟩
theorem turn_enumT {P : Program} {w : World} {K : PySem.W.Frag} {elts : List Expr} {kk : Nat} {tpos : Pos} (a e it : Addr) (hai : a ≠ it) (hae : a ≠ e) :
    Turn P w K (.Tuple elts kk tpos) (IteT K a) [e, it] e (fun i h => (∃ old, IsEnum h e it ((i : Nat) : Int) old) ∧ h.IsTupleIter it a i ∧ e ≠ it) where
  mem := by simp
  obj := fun i h st b hb => by
    obtain ⟨⟨old, he⟩, ⟨o, ho, hc, hd⟩, _⟩ := st
    have two : b = e ∨ b = it := by simpa using hb
    rcases two with rfl | rfl
    · exact ⟨_, he, fun v q => nomatch q⟩
    · exact ⟨o, ho, fun v q => by rw [hd] at q; cases q⟩
  keep := fun i h h' st k => let ⟨⟨old, he⟩, hi, hne⟩ := st; ⟨⟨old, k e (by simp) _ he⟩, hi.at fun o q => k it (by simp) o q, hne⟩
  item := by
    intro X hP hw hK hc i pins s σ H E I hf st hg
    subst hP hw hK
    obtain ⟨⟨old, he⟩, hit, hne⟩ := st
    obtain ⟨xs, x, hq, hx⟩ := hg
    obtain ⟨its, rv, tup, hz⟩ := I.tuple hq
    obtain ⟨u, hu, ru⟩ := rv.get hx
    have hel : e < s.heap.objs.size := Heap.lt_size he
    have hil : it < s.heap.objs.size := by obtain ⟨_, q, _⟩ := hit; exact Heap.lt_size q
    have hi : i < its.toArray.size := by simpa using (List.getElem?_eq_some_iff.mp hu).1
    have D := Draws.tuple (prog := X.prog) (w := X.w) (A := X.A.in1) (I.ok.hd hc) it a hai its.toArray
    refine wpAny_pyNext_enum_itemD D he ⟨hit, tup⟩ hi hne (by simp [hne, Ne.symm hae]) fun x' h' tk hP ho hst hT hsz hk => ?_
    have hx' : x' = u := by
      have : its.toArray[i]? = some u := by simpa using hu
      rw [this] at hP; exact (Option.some.inj hP).symm
    subst hx'
    refine ⟨_, rfl, wpAny_letOwnedTupleGo_enum (s := { s with heap := h', toks := tk + 1 }) ho fun h2 he' sb => ?_⟩
    have hT2 : h2.get? s.heap.objs.size = some { cls := .type "tuple", data := .seq #[.int i tk, x'] } := (sb.2 _ (Nat.ne_of_gt hel)).trans hT
    have pair : ObjOk X.prog X.w (upd H s.heap.objs.size (.tup [.int (i : Nat), x])) h2 s.heap.objs.size (.tup [.int (i : Nat), x]) :=
      ⟨by show 2 ≤ sizeLine; decide, [.int i tk, x'], .cons ⟨_, rfl⟩ (.cons ru .nil), ⟨_, hT2, rfl, _, rfl⟩⟩
    have I1 : L2.Inv X pins σ (upd H s.heap.objs.size (.tup [.int (i : Nat), x])) { s with heap := h2, toks := tk + 1 } :=
      I.turnedNew (ch := [e, it]) (fun b ob hb q => (sb.2 b (fun z => hb (by simp [z]))).trans (hk b ob (fun z => hb (by simp [z])) (fun z => hb (by simp [z])) q)) hf (Nat.le_refl _) pair
    refine ⟨.ref s.heap.objs.size, _, I1, rfl, ⟨_, x, rfl, I.hok.fresh (Nat.le_refl _), rfl, fun ys hy => by rw [I.tuple_inj hy hq]; exact hx⟩, ⟨⟨x', ?_⟩, hst.1.at fun o q => (sb.2 it (Ne.symm hne)).trans q, hne⟩, fun b hb => ?_⟩
    · rw [show ((i + 1 : Nat) : Int) = (i : Int) + 1 by omega]
      exact he'
    · have two : b = e ∨ b = it := by simpa using hb
      have lt : b < s.heap.objs.size := by rcases two with rfl | rfl <;> assumption
      rw [upd_ne (Nat.ne_of_lt lt)]
      exact (hf b hb).1
  done := by
    intro X hP hw hK hc i pins s σ H E I hf st hg
    subst hP hw hK
    obtain ⟨⟨old, he⟩, hit, hne⟩ := st
    obtain ⟨xs, hq, hx⟩ := hg
    obtain ⟨its, rv, tup, hz⟩ := I.tuple hq
    have none' : its.toArray[i]? = none := by
      have := rv.length
      rw [List.getElem?_toArray, List.getElem?_eq_none_iff]
      omega
    obtain ⟨f0, f1, f2, f3, f4, f5⟩ := hf it (by simp)
    exact wpAny_pyNext_enum_endD (enumT_last (I.ok.hd hc) it a i its.toArray none') he ⟨rfl, hit, tup⟩ fun h' eb => ⟨rfl, I.turned (t' := s.toks) (fun b o hb q => eb b o hb q) f0 f1 f3 f4 f5⟩
  self := fun A i s Q E st h => let ⟨⟨_, he⟩, _⟩ := st; wpAny_pyIter_enum he h
section
variable {X : Cx} {mg : Str → Option Value} {E : XK}
theorem pi_enumT {e : Expr} {ta : TA} {p pos tpos : Pos} {elts : List Expr} {kk : Nat} (hg : Gl X "enumerate") (hm : X.mg "enumerate" = none) (ha : PA X [e] ta) (hs : starEach [e] X.env = [(false, eval e X.env)]) :
    PI X (.Tuple elts kk tpos) (.Call (.Name "enumerate" p) [e] [] pos) (fun σ H R => ta σ H fun vs H1 => ∃ a xs, vs = [.ref a] ∧ SqT X.K H1 a xs ∧ (xs.length ≤ sizeLine → R (IteT X.K a) H1)) := by
  refine ⟨fun pins s σ H R I h => ?_⟩
  refine Call_ (ld_blt I hg hm boot_enumerate (PyProof.Rows.callWith_type1 (thn (ha.run pos pins s σ H _ I h) fun us s1 ⟨vs, H1, I1, r1, a, xs, ev, hq, q⟩ => ?_) hs rfl))
  subst ev
  obtain ⟨u, rfl, ru⟩ := vals1 r1
  cases ru
  obtain ⟨its, rv, tup, hz⟩ := I1.tuple hq
  have la : a < s1.heap.objs.size := by obtain ⟨o, ho, _⟩ := tup; exact Heap.lt_size ho
  refine enumT_call (show s1.heap.IsTuple a its.toArray from tup) fun h1 he hit old => wpAny_pyIter_enum he ?_
  have I2 : L2.Inv X pins σ H1 { s1 with heap := h1 } := I1.kept (t' := s1.toks) old
  refine ⟨s1.heap.objs.size + 1, [s1.heap.objs.size + 1, s1.heap.objs.size], _, _, H1, rfl, I2, turn_enumT a (s1.heap.objs.size + 1) s1.heap.objs.size (Nat.ne_of_lt la) (Nat.ne_of_lt (Nat.lt_succ_of_lt la)), ⟨⟨.none, he⟩, hit, Nat.succ_ne_self _⟩, fun b hb => ?_, q hz⟩
  have two : b = s1.heap.objs.size + 1 ∨ b = s1.heap.objs.size := by simpa using hb
  have le : s1.heap.objs.size ≤ b := by rcases two with rfl | rfl <;> omega
  exact I1.fpOk le (I1.hok.fresh le)
theorem it_enumT {K : PySem.W.Frag} {as0 : List Addr} {H0 : Hp} {n : Nat} {ds : List D} {a : Addr} {vs : List V} (hs : SqT K H0 a vs) (r : Reps K as0 H0 ds vs) (hn : n ≤ line) :
    IterOk K as0 H0 ⟨n, fun i _ => some ((ds[i]?).map fun d => .tup [.int i, d])⟩ (IteT K a) := by
  refine ⟨hn, ?_⟩
  intro as S H i e sim
  show match some ((ds[i]?).map fun d => D.tup [.int i, d]) with | none => True | some none => _ | some (some d) => _
  have q := e.sqT hs
  have rr := Reps.mono0 e r
  cases h : ds[i]? with
  | none => exact ⟨vs, q, reps_end rr h⟩
  | some d =>
    obtain ⟨v, hv, rv⟩ := rr.get h
    refine ⟨⟨vs, v, q, hv⟩, ?_⟩
    rintro x H' ⟨T, v', rfl, hT, rfl, y⟩
    have := y vs q
    rw [hv] at this; cases this
    have ri : Rep K as H (.int (i : Int)) (.int (i : Int)) := rfl
    exact ⟨Ext.fixed hT, sim.fixed hT, T, _, rfl, SqT.of upd_same, (Reps.cons ri (Reps.one rv)).mono (Ext.fixed hT)⟩
theorem mi_enm {e : Expr} {p pos tpos : Pos} {elts : List Expr} {kk : Nat} {me : Env' → M D} (hg : Gl X "enumerate") (hm : X.mg "enumerate" = none) (he : ME X mg E e me) (hs : starEach [e] X.env = (false, eval e X.env) :: starEach [] X.env) :
    MI X mg E (.Tuple elts kk tpos) (.Call (.Name "enumerate" p) [e] [] pos) (fun ρ => mbind (me ρ) fun x S => match enmOf x with
      | some src => .ok src S
      | none => .bad) :=
  (pi_enumT hg hm (pa_cons he pa_nil hs) hs).imp fun σ H R hq => by
    obtain ⟨as, S, ρ, sim, env, fin⟩ := hq
    refine ⟨as, S, ρ, sim, env, (Fin.bind (Rl := Rep X.K) fin).imp ?_⟩
    rintro v H1 ⟨as1, S1, d, e1, sim1, r1, fin1⟩
    cases d with
    | tup ds =>
      obtain ⟨a, vs, rfl, q1, rr⟩ := r1
      exact ⟨a, vs, rfl, q1, fun hz => Fin.ret fin1 sim1 (it_enumT q1 rr (by rw [line_eq, ← rr.length]; exact hz))⟩
    | ptp ds =>
      obtain ⟨a, vs, rfl, q1, rr⟩ := r1
      exact ⟨a, vs, rfl, q1.sq, fun hz => Fin.ret fin1 sim1 (it_enumT q1.sq rr (by rw [line_eq, ← rr.length]; exact hz))⟩
    | _ => exact fin1.elim
end
end Pu

namespace Pu
open PySem PySem.Spec PyProof.Rows L2

section
variable {K : PySem.W.Frag} {as : List Addr} {H : Hp} {S : Sto}
theorem Sim.notIn (s : Sim K as S H) {p : Addr} (h : H p = none) : p ∉ as := fun q => by
  obtain ⟨i, hi⟩ := List.mem_iff_getElem?.mp q
  obtain ⟨o, _, r⟩ := s.has hi
  obtain ⟨w, hw, _⟩ := r.some
  rw [h] at hw; cases hw
/-- a list that no object of the store is, changed -/
theorem Ex0.out {p : Addr} {vs : List V} {o : HO} (h : H p = some (.lst vs)) : Ex0 as H as (upd H p o) :=
  ⟨fun _ _ h => h, fun a u hu f => by
    have : a ≠ p := fun e => by
      subst e; rw [h] at hu; cases hu
      rcases f with ⟨_, q⟩ | ⟨_, _, q⟩ <;> cases q
    rw [upd_ne this]; exact hu⟩
theorem Sim.out (s : Sim K as S H) {p : Addr} {vs : List V} {o : HO} (h : H p = some (.lst vs)) (n : p ∉ as) : Sim K as S (upd H p o) :=
  ⟨s.len, s.inj, fun i a u h1 h2 => by
    have ne : a ≠ p := fun e => by subst e; exact n (List.mem_of_getElem? h1)
    exact (s.ob i a u h1 h2).move (Ex0.out h) (upd_ne ne)⟩
/-- such a list becomes an object of the store -/
theorem Sim.adopt (s : Sim K as S H) {p : Addr} {vs : List V} {ds : List D} (h : H p = some (.lst vs)) (n : p ∉ as) (r : Reps K as H ds vs) : Sim K (as ++ [p]) (S ++ [.lst ds]) H := by
  have e : Ex0 as H (as ++ [p]) H := ⟨fun i a h => by
    rw [List.getElem?_append_left (List.getElem?_eq_some_iff.mp h).1]; exact h, fun _ _ h _ => h⟩
  have last : ∀ (i : Nat) (a : Addr), (as ++ [p])[i]? = some a → ¬ i < as.length → i = as.length ∧ a = p := fun i a h hl => by
    rw [List.getElem?_append_right (by omega)] at h
    obtain ⟨h4, h5⟩ := List.getElem?_eq_some_iff.mp h
    simp at h4 h5
    exact ⟨by omega, h5.symm⟩
  refine ⟨by simp [s.len], fun i j a h1 h2 => ?_, fun i a o h1 h2 => ?_⟩
  · by_cases hi : i < as.length
    · rw [List.getElem?_append_left hi] at h1
      by_cases hj : j < as.length
      · rw [List.getElem?_append_left hj] at h2
        exact s.inj i j a h1 h2
      · obtain ⟨_, e2⟩ := last j a h2 hj
        subst e2
        exact (n (List.mem_of_getElem? h1)).elim
    · obtain ⟨e1, e2⟩ := last i a h1 hi
      by_cases hj : j < as.length
      · rw [List.getElem?_append_left hj] at h2
        subst e2
        exact (n (List.mem_of_getElem? h2)).elim
      · obtain ⟨e3, _⟩ := last j a h2 hj
        omega
  · by_cases hi : i < as.length
    · rw [List.getElem?_append_left hi] at h1
      rw [List.getElem?_append_left (by rw [← s.len]; exact hi)] at h2
      exact (s.ob i a o h1 h2).move e rfl
    · obtain ⟨e1, e2⟩ := last i a h1 hi
      subst e1; subst e2
      rw [List.getElem?_append_right (by rw [← s.len]; exact Nat.le_refl _)] at h2
      have h2 : [Ob.lst ds][as.length - S.length]? = some o := h2
      rw [s.len, Nat.sub_self] at h2
      cases h2
      exact ⟨vs, h, Reps.mono0 e r⟩
end
section
variable {X : Cx} {mg : Str → Option Value} {E : XK} {pos : Pos}
theorem wipe_twice (σ : L2.St) (ws : List Nat) : L2.wipe (L2.wipe σ ws) ws = L2.wipe σ ws := by
  apply List.ext_getElem?
  intro j
  rw [wipe_get, wipe_length, wipe_get]
  by_cases c : j ∈ ws ∧ j < σ.length
  · rw [if_pos c, if_pos c]
  · rw [if_neg c]
theorem lc_read {K : PySem.W.Frag} {tg' : Tg} {mi : Env' → M Src} {mel : Env' → M D} {mt : Env' → M Bool} (ownF : Bool) {ws : List Nat} (hw : tgIn ws tg' = true) {σ : L2.St} {H : Hp} {Q Q' : VK} (hQ : ∀ v H1, QL ownF Q v H1 → Q' v H1)
    (h : tD K mg E (fun ρ => mbind (mi ρ) fun src => mbind (nox (lcLoop mel mt tg' src src.n 0 (wipeE ρ ws) [])) fun xs => newU ownF xs) σ H Q) :
    tLc (tM K mg E (IterOk K) mi) (gM K tg') (tB' K mg E0 mt) (tD K mg E0 mel) ws σ H Q' := by
  obtain ⟨as0, S0, ρ, sim0, env0, fin0⟩ := h
  refine ⟨as0, S0, ρ, sim0, env0, (Fin.bind (Rl := IterOk K) fin0).imp ?_⟩
  rintro J H1 ⟨as1, S1, src, e1, sim1, ⟨hsn, itok⟩, fin1⟩
  intro D hD
  have env1 := (env0.mono e1).wipe ws
  generalize wipeE ρ ws = ρw at fin1 env1
  let Inv' : Nat → Nat → Hp → Prop := fun i m H => ∃ as S acc vs, Sim K as S H ∧ Ext as1 H1 as H ∧ H D = some (.lst vs) ∧ D ∉ as ∧ Reps K as H acc vs ∧ acc.length ≤ i ∧ i + m = src.n ∧ Fin K mg E (Rep K) as1 H1 ((nox (lcLoop mel mt tg' src m i ρw acc) S).bind (newU ownF)) Q
  show ∃ W : Nat → Nat → Hp → Prop, _
  refine ⟨Inv', ⟨src.n, as1, S1, [], [], sim1.fixed hD, Ext.fixed hD, upd_same, sim1.notIn hD, Reps.nil, Nat.le_refl _, Nat.zero_add _, fin1⟩, ?_⟩
  rintro i m H ⟨as, S, acc, vs, sim, e, hDv, hDn, racc, hai, him, fin⟩
  have it := itok as S H i e.toEx0 sim
  unfold lcLoop at fin
  cases hn : src.nxt i S with
  | none => simp only [nox, hn] at fin; exact fin.elim
  | some o =>
    rw [hn] at it
    cases o with
    | none =>
      refine .inl ⟨it, ?_⟩
      simp only [nox, hn, R.bind] at fin
      unfold newU at fin
      · skip
        cases ownF with
        | true =>
          refine hQ _ _ (fin (as ++ [D]) H _ ⟨⟨fun i a h => ?_, e.fix⟩, e.keep, fun a ha => ?_⟩ (sim.adopt hDv hDn racc) ⟨D, ?_, rfl⟩)
          · have h2 := e.pre i a h
            rw [List.getElem?_append_left (List.getElem?_eq_some_iff.mp h2).1]; exact h2
          · rcases List.mem_append.mp ha with z | z
            · exact e.new a z
            · rw [List.mem_singleton.mp z]; exact .inr hD
          · rw [← sim.len, List.getElem?_append_right (Nat.le_refl _)]; simp
        | false =>
          refine hQ _ _ ⟨D, vs, rfl, hDv, fun o => fin as _ _ ⟨⟨e.pre, fun a u hu f => ?_⟩, fun a u hu n => ?_, e.new⟩ (sim.out hDv hDn) ⟨D, vs, rfl, ⟨o, upd_same⟩, Reps.mono0 (Ex0.out hDv) racc⟩⟩
          · rw [upd_ne (ne_of_none hu hD)]; exact e.fix a u hu f
          · rw [upd_ne (ne_of_none hu hD)]; exact e.keep a u hu n
    | some d =>
      obtain ⟨hgo, hy⟩ := it
      refine .inr ⟨hgo, ?_⟩
      cases m with
      | zero => simp only [nox, hn] at fin; exact fin.elim
      | succ m =>
        refine ⟨Inv' (i + 1) m, fun H' h => ⟨m, Nat.lt_succ_self m, h⟩, fun x H2 y => ?_⟩
        obtain ⟨e2, sim2, rx⟩ := hy x H2 y
        simp only [nox, hn] at fin
        cases htg : tgSet tg' d ρw with
        | none => rw [htg] at fin; exact fin.elim
        | some ρ' =>
          rw [htg] at fin
          have eb := e.trans e2
          refine ⟨as, ρw, ρ', d, env1.mono eb, rx, htg, fun σ' env' w' => ⟨by rw [w' ws hw, wipe_twice], as, S, ρ', sim2, env', ?_⟩⟩
          have hD2 : H2 D = some (.lst vs) := e2.keep _ _ hDv hDn
          cases hm : mt ρ' S with
          | bad => simp only [hm, R.bind] at fin; exact fin.elim
          | exc c fs S3 => simp only [hm, R.bind] at fin; exact fin.elim
          | ok b S3 =>
            simp only [hm, R.bind] at fin
            intro as3 H3 b' e3 sim3 hb
            have hb : b = b' := hb
            subst hb
            have hD3 : H3 D = some (.lst vs) := e3.keep _ _ hD2 hDn
            have hn3 : D ∉ as3 := e3.out hD2 hDn
            have racc3 := (racc.mono e2).mono e3
            cases b with
            | false =>
              rw [if_neg Bool.false_ne_true]
              simp only [Bool.false_eq_true, if_false] at fin
              exact ⟨as3, S3, acc, vs, sim3, eb.trans e3, hD3, hn3, racc3, by omega, by omega, fin⟩
            | true =>
              rw [if_pos rfl]
              refine ⟨as3, S3, ρ', sim3, env'.mono e3, ?_⟩
              cases hq : mel ρ' S3 with
              | bad => simp only [mbind, hq, R.bind, if_true] at fin; exact fin.elim
              | exc c fs S4 => simp only [mbind, hq, R.bind, if_true] at fin; exact fin.elim
              | ok z S4 =>
                simp only [mbind, hq, R.bind, if_true] at fin
                intro as4 H4 v e4 sim4 rv
                have hl : acc.length < line := by omega
                · skip
                  have hD4 : H4 D = some (.lst vs) := e4.keep _ _ hD3 hn3
                  have hn4 : D ∉ as4 := e4.out hD3 hn3
                  have racc4 := racc3.mono e4
                  have eB := (eb.trans e3).trans e4
                  rw [line_eq] at hl
                  refine ⟨vs, hD4, by rw [racc4.length]; exact hl, as4, S4, acc ++ [z], vs ++ [v], sim4.out hD4 hn4, ⟨⟨eB.pre, fun a u hu f => ?_⟩, fun a u hu n => ?_, eB.new⟩, upd_same, hn4, Reps.mono0 (Ex0.out hD4) (racc4.append (Reps.one rv)), by simp; omega, by omega, fin⟩
                  · rw [upd_ne (ne_of_none hu hD)]; exact eB.fix a u hu f
                  · rw [upd_ne (ne_of_none hu hD)]; exact eB.keep a u hu n
/-- two for's: the reading -/
def nx {α : Type} : R α → R α
  | .exc _ _ _ => .bad
  | r => r
theorem nox_nx {α : Type} (m : M α) (S : Sto) : nox m S = nx (m S) := by
  unfold nox nx
  cases m S <;> rfl
theorem nx_bind {α β : Type} (a : R α) (f : α → M β) : nx (a.bind f) = (nx a).bind fun x S => nx (f x S) := by
  cases a <;> rfl
theorem lc2_read {K : PySem.W.Frag} {tg' tg1' : Tg} {mi mi1 : Env' → M Src} {mel : Env' → M D} {mt mt1 : Env' → M Bool} (ownF : Bool) {ws ws1 : List Nat} (hw : tgIn ws tg' = true) (hw1 : tgIn ws1 tg1' = true) {σ : L2.St} {H : Hp} {Q Q' : VK} (hQ : ∀ v H1, QL ownF Q v H1 → Q' v H1)
    (h : tD K mg E (fun ρ => mbind (mi ρ) fun src => mbind (nox (lcLoop2 mel mt tg' src mi1 mt1 tg1' ws1 src.n 0 (wipeE ρ ws) [])) fun xs => newL ownF xs) σ H Q) :
    tLc2 (tM K mg E (IterOk K) mi) (gM K tg') (tB' K mg E0 mt) (tM K mg E0 (IterOk K) mi1) (gM K tg1') (tB' K mg E0 mt1) (tD K mg E0 mel) ws ws1 σ H Q' := by
  obtain ⟨as0, S0, ρ, sim0, env0, fin0⟩ := h
  refine ⟨as0, S0, ρ, sim0, env0, (Fin.bind (Rl := IterOk K) fin0).imp ?_⟩
  rintro J H1 ⟨as1, S1, src, e1, sim1, ⟨hsn, itok⟩, fin1⟩
  intro D hD
  have env1 := (env0.mono e1).wipe ws
  generalize wipeE ρ ws = ρw at fin1 env1
  have fin1 : Fin K mg E (Rep K) as1 H1 ((nx (lcLoop2 mel mt tg' src mi1 mt1 tg1' ws1 src.n 0 ρw [] S1)).bind (newL ownF)) Q := by rw [← nox_nx]; exact fin1
  let Inv' : Nat → Nat → Hp → Prop := fun i m H => ∃ as S acc vs, Sim K as S H ∧ Ext as1 H1 as H ∧ H D = some (.lst vs) ∧ D ∉ as ∧ Reps K as H acc vs ∧ Fin K mg E (Rep K) as1 H1 ((nx (lcLoop2 mel mt tg' src mi1 mt1 tg1' ws1 m i ρw acc S)).bind (newL ownF)) Q
  refine ⟨Inv', ⟨src.n, as1, S1, [], [], sim1.fixed hD, Ext.fixed hD, upd_same, sim1.notIn hD, Reps.nil, fin1⟩, ?_⟩
  rintro i m H ⟨as, S, acc, vs, sim, e, hDv, hDn, racc, fin⟩
  have it := itok as S H i e.toEx0 sim
  unfold lcLoop2 at fin
  cases hn : src.nxt i S with
  | none => simp only [hn, nx] at fin; exact fin.elim
  | some o =>
    rw [hn] at it
    cases o with
    | none =>
      refine .inl ⟨it, ?_⟩
      simp only [hn, nx, R.bind] at fin
      unfold newL at fin
      by_cases hl : acc.length ≤ line
      · rw [if_pos hl] at fin
        cases ownF with
        | true =>
          refine hQ _ _ (fin (as ++ [D]) H _ ⟨⟨fun i a h => ?_, e.fix⟩, e.keep, fun a ha => ?_⟩ (sim.adopt hDv hDn racc) ⟨D, ?_, rfl⟩)
          · have h2 := e.pre i a h
            rw [List.getElem?_append_left (List.getElem?_eq_some_iff.mp h2).1]; exact h2
          · rcases List.mem_append.mp ha with z | z
            · exact e.new a z
            · rw [List.mem_singleton.mp z]; exact .inr hD
          · rw [← sim.len, List.getElem?_append_right (Nat.le_refl _)]; simp
        | false =>
          refine hQ _ _ ⟨D, vs, rfl, hDv, fun o => fin as _ _ ⟨⟨e.pre, fun a u hu f => ?_⟩, fun a u hu n => ?_, e.new⟩ (sim.out hDv hDn) ⟨D, vs, rfl, ⟨o, upd_same⟩, Reps.mono0 (Ex0.out hDv) racc⟩⟩
          · rw [upd_ne (ne_of_none hu hD)]; exact e.fix a u hu f
          · rw [upd_ne (ne_of_none hu hD)]; exact e.keep a u hu n
      · rw [if_neg hl] at fin; exact fin.elim
    | some d =>
      obtain ⟨hgo, hy⟩ := it
      refine .inr ⟨hgo, ?_⟩
      cases m with
      | zero => simp only [hn, nx] at fin; exact fin.elim
      | succ m =>
        refine ⟨Inv' (i + 1) m, fun H' h => ⟨m, Nat.lt_succ_self m, h⟩, fun x H2 y => ?_⟩
        obtain ⟨e2, sim2, rx⟩ := hy x H2 y
        simp only [hn] at fin
        cases htg : tgSet tg' d ρw with
        | none => simp only [htg, nx] at fin; exact fin.elim
        | some ρ' =>
          simp only [htg] at fin
          have eb := e.trans e2
          refine ⟨as, ρw, ρ', d, env1.mono eb, rx, htg, fun σ' env' w' => ⟨by rw [w' ws hw, wipe_twice], as, S, ρ', sim2, env', ?_⟩⟩
          have hD2 : H2 D = some (.lst vs) := e2.keep _ _ hDv hDn
          cases hm : mt ρ' S with
          | bad => simp only [hm, R.bind, nx] at fin; exact fin.elim
          | exc c fs S3 => simp only [hm, R.bind, nx] at fin; exact fin.elim
          | ok b S3 =>
            simp only [hm, R.bind] at fin
            intro as3 H3 b' e3 sim3 hb
            have hb : b = b' := hb
            subst hb
            have hD3 : H3 D = some (.lst vs) := e3.keep _ _ hD2 hDn
            have hn3 : D ∉ as3 := e3.out hD2 hDn
            have racc3 := (racc.mono e2).mono e3
            cases b with
            | false =>
              rw [if_neg Bool.false_ne_true]
              simp only [Bool.false_eq_true, if_false] at fin
              exact ⟨as3, S3, acc, vs, sim3, eb.trans e3, hD3, hn3, racc3, fin⟩
            | true =>
              rw [if_pos rfl]
              simp only [if_true] at fin
              have env3 := env'.mono e3
              refine ⟨as3, S3, ρ', sim3, env3, ?_⟩
              cases hq : mi1 ρ' S3 with
              | bad => simp only [mbind, hq, R.bind, nx] at fin; exact fin.elim
              | exc c fs S4 => simp only [mbind, hq, R.bind, nx] at fin; exact fin.elim
              | ok src1 S4 =>
                simp only [mbind, hq, R.bind] at fin
                intro as4 H4 J1 e4 sim4 itok1
                obtain ⟨hsn1, itok1⟩ := itok1
                have hD4 : H4 D = some (.lst vs) := e4.keep _ _ hD3 hn3
                have hn4 : D ∉ as4 := e4.out hD3 hn3
                have env4 := (env3.mono e4).wipe ws1
                have eb4 := (eb.trans e3).trans e4
                generalize hρ1 : wipeE ρ' ws1 = ρ1 at fin env4
                have ex : ∀ (us : List V), Ex0 as4 H4 as4 (upd H4 D (.lst us)) := fun us => Ex0.out hD4
                let Inn : Nat → Nat → Hp → Prop := fun j k H => ∃ as S acc vs, Sim K as S H ∧ Ex0 as4 H4 as H ∧ Ext as1 H1 as H ∧ H D = some (.lst vs) ∧ D ∉ as ∧ Reps K as H acc vs ∧
                  Fin K mg E (Rep K) as1 H1 ((nx ((lcLoopC mel mt1 tg1' src1 k j ρ1 acc S).bind fun acc' => lcLoop2 mel mt tg' src mi1 mt1 tg1' ws1 m (i + 1) ρw acc')).bind (newL ownF)) Q
                refine ⟨Inn, ⟨src1.n, as4, S4, acc, vs, sim4, (Ext.refl _ _).toEx0, eb4, hD4, hn4, racc3.mono e4, fin⟩, ?_⟩
                rintro j k Hj ⟨as5, S5, acc5, vs5, sim5, e5, eo5, hD5, hn5, racc5, fin5⟩
                have it1 := itok1 as5 S5 Hj j e5 sim5
                unfold lcLoopC at fin5
                cases hn1 : src1.nxt j S5 with
                | none => simp only [hn1, R.bind, nx] at fin5; exact fin5.elim
                | some o1 =>
                  rw [hn1] at it1
                  cases o1 with
                  | none =>
                    refine .inl ⟨it1, ?_⟩
                    simp only [hn1, R.bind] at fin5
                    exact ⟨as5, S5, acc5, vs5, sim5, eo5, hD5, hn5, racc5, fin5⟩
                  | some d1 =>
                    obtain ⟨hgo1, hy1⟩ := it1
                    refine .inr ⟨hgo1, ?_⟩
                    cases k with
                    | zero => simp only [hn1, R.bind, nx] at fin5; exact fin5.elim
                    | succ k =>
                      refine ⟨Inn (j + 1) k, fun H' h => ⟨k, Nat.lt_succ_self k, h⟩, fun x1 H6 y1 => ?_⟩
                      obtain ⟨e6, sim6, rx1⟩ := hy1 x1 H6 y1
                      simp only [hn1] at fin5
                      cases htg1 : tgSet tg1' d1 ρ1 with
                      | none => simp only [htg1, R.bind, nx] at fin5; exact fin5.elim
                      | some ρ2 =>
                        simp only [htg1] at fin5
                        have ex6 : Ex0 as4 H4 as5 H6 := ⟨fun i a h => e6.pre i a (e5.pre i a h), fun a o h f => e6.fix a o (e5.fix a o h f) f⟩
                        have eo6 := eo5.trans e6
                        refine ⟨as5, ρ1, ρ2, d1, env4.mono0 ex6, rx1, htg1, fun σ3 env3' w3 => ⟨by rw [w3 ws1 hw1, wipe_twice], as5, S5, ρ2, sim6, env3', ?_⟩⟩
                        have hD6 : H6 D = some (.lst vs5) := e6.keep _ _ hD5 hn5
                        cases hm1 : mt1 ρ2 S5 with
                        | bad => simp only [hm1, R.bind, nx] at fin5; exact fin5.elim
                        | exc c fs S7 => simp only [hm1, R.bind, nx] at fin5; exact fin5.elim
                        | ok b1 S7 =>
                          simp only [hm1, R.bind] at fin5
                          intro as7 H7 b1' e7 sim7 hb1
                          have hb1 : b1 = b1' := hb1
                          subst hb1
                          have hD7 : H7 D = some (.lst vs5) := e7.keep _ _ hD6 hn5
                          have hn7 : D ∉ as7 := e7.out hD6 hn5
                          have racc7 := (racc5.mono e6).mono e7
                          have ex7 : Ex0 as4 H4 as7 H7 := ⟨fun i a h => e7.pre i a (ex6.pre i a h), fun a o h f => e7.fix a o (ex6.fix a o h f) f⟩
                          cases b1 with
                          | false =>
                            rw [if_neg Bool.false_ne_true]
                            simp only [Bool.false_eq_true, if_false] at fin5
                            exact ⟨as7, S7, acc5, vs5, sim7, ex7, eo6.trans e7, hD7, hn7, racc7, fin5⟩
                          | true =>
                            rw [if_pos rfl]
                            refine ⟨as7, S7, ρ2, sim7, env3'.mono e7, ?_⟩
                            cases hq1 : mel ρ2 S7 with
                            | bad => simp only [mbind, hq1, R.bind, if_true, nx] at fin5; exact fin5.elim
                            | exc c fs S8 => simp only [mbind, hq1, R.bind, if_true, nx] at fin5; exact fin5.elim
                            | ok z S8 =>
                              simp only [mbind, hq1, R.bind, if_true] at fin5
                              intro as8 H8 v e8 sim8 rv
                              by_cases hl : acc5.length < line
                              · rw [if_pos hl] at fin5
                                have hD8 : H8 D = some (.lst vs5) := e8.keep _ _ hD7 hn7
                                have hn8 : D ∉ as8 := e8.out hD7 hn7
                                have racc8 := racc7.mono e8
                                have eB := (eo6.trans e7).trans e8
                                rw [line_eq] at hl
                                have ex8 : Ex0 as4 H4 as8 (upd H8 D (.lst (vs5 ++ [v]))) := ⟨fun i a h => e8.pre i a (ex7.pre i a h), fun a o h f => by
                                  have := e8.fix a o (ex7.fix a o h f) f
                                  exact (Ex0.out (as := as8) (o := .lst (vs5 ++ [v])) hD8).fix a o this f⟩
                                refine ⟨vs5, hD8, by rw [racc8.length]; exact hl, as8, S8, acc5 ++ [z], vs5 ++ [v], sim8.out hD8 hn8, ex8, ⟨⟨eB.pre, fun a u hu f => ?_⟩, fun a u hu n => ?_, eB.new⟩, upd_same, hn8, Reps.mono0 (Ex0.out hD8) (racc8.append (Reps.one rv)), fin5⟩
                                · rw [upd_ne (ne_of_none hu hD)]; exact eB.fix a u hu f
                                · rw [upd_ne (ne_of_none hu hD)]; exact eB.keep a u hu n
                              · rw [if_neg hl] at fin5; exact fin5.elim
theorem me_lc {elt tg iter : Expr} {ifs : List Expr} {scope : Scope} {own : List (Str × Nat)} {tg' : Tg} {mi : Env' → M Src} {mel : Env' → M D} {mt : Env' → M Bool} (ownF : Bool) (hc : X.calm = true) (hN : X.N.Nodup) (hi : MI X mg E tg iter mi) (ok : BlkOk X.N X.env.scope scope own)
    (hg : ∀ (s : Shared) (H : Hp) (C : Addr) (cl : List (Str × Addr)) (fp : List Addr), PG (X.blk s H scope (compEnvC scope cl C X.env) fp) tg (gM X.K tg'))
    (ht : ∀ (s : Shared) (H : Hp) (C : Addr) (cl : List (Str × Addr)) (fp : List Addr), PTs (X.blk s H scope (compEnvC scope cl C X.env) fp) ifs (tB' X.K mg E0 mt))
    (he : ∀ (s : Shared) (H : Hp) (C : Addr) (cl : List (Str × Addr)) (fp : List Addr), PE (X.blk s H scope (compEnvC scope cl C X.env) fp) elt (tD X.K mg E0 mel))
    (hw : tgIn (own.map (·.2)) tg' = true) (hs : ∀ x, foldedSetIterable iter X.env x = pure x) :
    ME X mg E (.ListComp elt [⟨tg, iter, ifs, 0⟩] scope pos) (fun ρ => mbind (mi ρ) fun src => mbind (nox (lcLoop mel mt tg' src src.n 0 (wipeE ρ (own.map (·.2))) [])) fun xs => newU ownF xs) := by
  exact (pe_ql ownF (pe_lc hc hN hi ok hg ht he hs)).imp fun σ H Q h => lc_read ownF hw (fun _ _ q => q) h
theorem me_lc2 {elt tg iter tg1 iter1 : Expr} {ifs ifs1 : List Expr} {scope : Scope} {own : List (Str × Nat)} {tg' tg1' : Tg} {ws1 : List Nat} {mi mi1 : Env' → M Src} {mel : Env' → M D} {mt mt1 : Env' → M Bool} (ownF : Bool) (hc : X.calm = true) (hN : X.N.Nodup) (hi : MI X mg E tg iter mi) (ok : BlkOk X.N X.env.scope scope own) (hv : ∀ i ∈ ws1, i ∈ own.map (·.2))
    (hg : ∀ (s : Shared) (H : Hp) (C : Addr) (cl : List (Str × Addr)) (fp : List Addr), PG (X.blk s H scope (compEnvC scope cl C X.env) fp) tg (gM X.K tg'))
    (ht : ∀ (s : Shared) (H : Hp) (C : Addr) (cl : List (Str × Addr)) (fp : List Addr), PTs (X.blk s H scope (compEnvC scope cl C X.env) fp) ifs (tB' X.K mg E0 mt))
    (hi1 : ∀ (s : Shared) (H : Hp) (C : Addr) (cl : List (Str × Addr)) (fp : List Addr), PI (X.blk s H scope (compEnvC scope cl C X.env) fp) tg1 iter1 (tM X.K mg E0 (IterOk X.K) mi1))
    (hg1 : ∀ (s : Shared) (H : Hp) (C : Addr) (cl : List (Str × Addr)) (fp : List Addr), PG (X.blk s H scope (compEnvC scope cl C X.env) fp) tg1 (gM X.K tg1'))
    (ht1 : ∀ (s : Shared) (H : Hp) (C : Addr) (cl : List (Str × Addr)) (fp : List Addr), PTs (X.blk s H scope (compEnvC scope cl C X.env) fp) ifs1 (tB' X.K mg E0 mt1))
    (he : ∀ (s : Shared) (H : Hp) (C : Addr) (cl : List (Str × Addr)) (fp : List Addr), PE (X.blk s H scope (compEnvC scope cl C X.env) fp) elt (tD X.K mg E0 mel))
    (hw : tgIn (own.map (·.2)) tg' = true) (hw1 : tgIn ws1 tg1' = true) (hs : ∀ x, foldedSetIterable iter X.env x = pure x) (hs1 : ∀ env x, foldedSetIterable iter1 env x = pure x) :
    ME X mg E (.ListComp elt [⟨tg, iter, ifs, 0⟩, ⟨tg1, iter1, ifs1, 0⟩] scope pos) (fun ρ => mbind (mi ρ) fun src => mbind (nox (lcLoop2 mel mt tg' src mi1 mt1 tg1' ws1 src.n 0 (wipeE ρ (own.map (·.2))) [])) fun xs => newL ownF xs) := by
  exact (pe_ql ownF (pe_lc2 hc hN hi ok hv hg ht hi1 hg1 ht1 he hs hs1)).imp fun σ H Q h => lc2_read ownF hw hw1 (fun _ _ q => q) h
theorem mts_nil : PTs X [] (tB' X.K mg E (fun _ => mret true)) := ⟨fun pins s σ H Q I h => pts_nil.run pins s σ H Q I (by
  obtain ⟨as, S, ρ, sim, env, fin⟩ := h
  exact Fin.ret fin sim rfl)⟩
theorem mts_one {c : Expr} {ta : Env' → M Bool} (h : MT X mg E c ta) : PTs X [c] (tB' X.K mg E (fun ρ => mbind (ta ρ) fun t => if t then mret true else mret false)) := ⟨fun pins s σ H Q I q => (pts_one h).run pins s σ H Q I (by
  obtain ⟨as, S, ρ, sim, env, fin⟩ := q
  refine ⟨as, S, ρ, sim, env, (Fin.bind (Rl := RlB) fin).imp ?_⟩
  rintro x H1 ⟨as1, S1, d, e1, sim1, rfl, fin1⟩
  cases d with
  | false => exact Fin.ret fin1 sim1 rfl
  | true => exact Fin.ret fin1 sim1 rfl)⟩
end

/-! ## statements -/
def FinS (K : PySem.W.Frag) (mg : Str → Option Value) (E : XK) (D : Ends) (as : List Addr) (H : Hp) : R Fl → Prop
  | .ok (.nx ρ) S' => ∀ as' H' σ', Ext as H as' H' → Sim K as' S' H' → EnvR K as' H' σ' ρ → D.nx σ' H'
  | .ok (.rt d) S' => ∀ as' H' v, Ext as H as' H' → Sim K as' S' H' → Rep K as' H' d v → D.rt v H'
  | .ok (.bk ρ) S' => ∀ as' H' σ', Ext as H as' H' → Sim K as' S' H' → EnvR K as' H' σ' ρ → D.bk σ' H'
  | .ok (.ct ρ) S' => ∀ as' H' σ', Ext as H as' H' → Sim K as' S' H' → EnvR K as' H' σ' ρ → D.ct σ' H'
  | .exc c fs S' => FinX K mg E as H c fs S'
  | .bad => False
def tSt (K : PySem.W.Frag) (mg : Str → Option Value) (E : XK) (m : Env' → M Fl) : TS := fun D σ H => ∃ (as : List Addr) (S : Sto) (ρ : Env'), Sim K as S H ∧ EnvR K as H σ ρ ∧ FinS K mg E D as H (m ρ S)
section
variable {K : PySem.W.Frag} {mg : Str → Option Value} {E : XK} {D : Ends} {as as1 : List Addr} {H H1 : Hp}
theorem FinS.ext {r : R Fl} (h : FinS K mg E D as H r) (e : Ext as H as1 H1) : FinS K mg E D as1 H1 r := by
  cases r with
  | ok f S => cases f with
    | nx ρ => exact fun as' H' σ' e' => h as' H' σ' (e.trans e')
    | rt d => exact fun as' H' v e' => h as' H' v (e.trans e')
    | bk ρ => exact fun as' H' σ' e' => h as' H' σ' (e.trans e')
    | ct ρ => exact fun as' H' σ' e' => h as' H' σ' (e.trans e')
  | exc c fs S => exact FinX.ext h e
  | bad => exact h
theorem FinS.bind {α β : Type} {Rl : List Addr → Hp → α → β → Prop} {m : R α} {f : α → M Fl} (h : FinS K mg E D as H (m.bind f)) :
    Fin K mg E Rl as H m (fun b H1 => ∃ (as1 : List Addr) (S1 : Sto) (a : α), Ext as H as1 H1 ∧ Sim K as1 S1 H1 ∧ Rl as1 H1 a b ∧ FinS K mg E D as1 H1 (f a S1)) := by
  cases m with
  | ok a S => exact fun as1 H1 b e s r => ⟨as1, S, a, e, s, r, FinS.ext (h : FinS K mg E D as H (f a S)) e⟩
  | exc c fs S => exact h
  | bad => exact h
end
section
variable {X : Cx} {mg : Str → Option Value} {E : XK} {pos : Pos} {e o i : Expr} {st : Stmt} {sts : List Stmt} {me mo mi : Env' → M D}
abbrev MS (X : Cx) (mg : Str → Option Value) (E : XK) (st : Stmt) (m : Env' → M Fl) : Prop := PS X st (tSt X.K mg E m)
abbrev MSs (X : Cx) (mg : Str → Option Value) (E : XK) (st : List Stmt) (m : Env' → M Fl) : Prop := PSs X st (tSt X.K mg E m)
theorem t_set {j : Nat} {D : Ends} {σ : L2.St} {H : Hp} (h : tSt X.K mg E (fun ρ => mbind (me ρ) fun x => mret (.nx (ρ.set j (some x)))) D σ H) : tD X.K mg E me σ H fun x H1 => gName j x σ H1 D.nx := by
  obtain ⟨as, S, ρ, sim, env, fin⟩ := h
  refine ⟨as, S, ρ, sim, env, (FinS.bind (Rl := Rep X.K) fin).imp ?_⟩
  rintro v H1 ⟨as1, S1, d, e1, sim1, r1, fin1⟩
  exact fin1 as1 H1 _ (Ext.refl _ _) sim1 ((env.mono e1).set r1 j)
theorem ms_set {j : Nat} {x : Str} {p : Pos} (hN : X.N.Nodup) (hi : X.N[j]? = some x) (hx : Loc X.env.scope x) (he : ME X mg E e me) (hs : swapsWith e (some (.Name x p)) pos.line X.env = pure false) (hf : X.fn x = true ∨ X.env.scope.names.lookup x = some .local) :
    MS X mg E (.Assign [.Name x p] e pos) (fun ρ => mbind (me ρ) fun x => mret (.nx (ρ.set j (some x)))) := (ps_set hN hi hx he hs hf).imp fun _ _ _ h => t_set h
/-- a list that the statement leaves is frozen behind it -/
theorem ps_frz {t : TS} (h : PS X st t) : PS X st (fun D σ H => t { D with nx := fun σ' H' => D.nx σ' H' ∨ ∃ a xs, H' a = some (.lst xs) ∧ ∀ o, D.nx σ' (upd H' a (.frz o (.lst xs))) } σ H) := ⟨fun pins s σ H D I q => by
  refine thn (h.run pins s σ H _ I q) fun f s' hf => ?_
  cases f with
  | next =>
    obtain ⟨σ', H', I', q | ⟨a, xs, ha, q⟩⟩ := hf
    · exact ⟨σ', H', I', q⟩
    · obtain ⟨o, I2⟩ := I'.lock ha trivial
      exact ⟨σ', _, I2, q o⟩
  | brk => exact hf
  | cont => exact hf
  | ret u => exact hf⟩
theorem ms_setLc {elt tg iter : Expr} {ifs : List Expr} {scope : Scope} {own : List (Str × Nat)} {tg' : Tg} {mi : Env' → M Src} {mel : Env' → M D} {mt : Env' → M Bool} {cpos : Pos} {j : Nat} {x : Str} {p : Pos} (ownF : Bool) (hc : X.calm = true) (hN : X.N.Nodup)
    (hj : X.N[j]? = some x) (hx : X.env.scope.names.lookup x = some .local) (hsw : swapsWith (.ListComp elt [⟨tg, iter, ifs, 0⟩] scope cpos) (some (.Name x p)) pos.line X.env = pure true) (hi : MI X mg E tg iter mi) (ok : BlkOk X.N X.env.scope scope own)
    (hg : ∀ (s : Shared) (H : Hp) (C : Addr) (cl : List (Str × Addr)) (fp : List Addr), PG (X.blk s H scope (compEnvC scope cl C X.env) fp) tg (gM X.K tg'))
    (ht : ∀ (s : Shared) (H : Hp) (C : Addr) (cl : List (Str × Addr)) (fp : List Addr), PTs (X.blk s H scope (compEnvC scope cl C X.env) fp) ifs (tB' X.K mg E0 mt))
    (he : ∀ (s : Shared) (H : Hp) (C : Addr) (cl : List (Str × Addr)) (fp : List Addr), PE (X.blk s H scope (compEnvC scope cl C X.env) fp) elt (tD X.K mg E0 mel))
    (hw : tgIn (own.map (·.2)) tg' = true) (hs : ∀ x, foldedSetIterable iter X.env x = pure x) :
    MS X mg E (.Assign [.Name x p] (.ListComp elt [⟨tg, iter, ifs, 0⟩] scope cpos) pos) (fun ρ => mbind (mbind (mi ρ) fun src => mbind (nox (lcLoop mel mt tg' src src.n 0 (wipeE ρ (own.map (·.2))) [])) fun xs => newU ownF xs) fun x => mret (.nx (ρ.set j (some x)))) :=
  (ps_frz (ps_setLc hc hN hj hx hsw hi ok hg ht he hs)).imp fun D σ H h => lc_read ownF hw (fun v H1 q => by
    cases ownF with
    | true => exact .inl q
    | false =>
      obtain ⟨a, xs, rfl, ha, q⟩ := q
      exact .inr ⟨a, xs, ha, q⟩) (t_set h)
theorem ms_setLc2 {elt tg iter tg1 iter1 : Expr} {ifs ifs1 : List Expr} {scope : Scope} {own : List (Str × Nat)} {tg' tg1' : Tg} {ws1 : List Nat} {mi mi1 : Env' → M Src} {mel : Env' → M D} {mt mt1 : Env' → M Bool} {cpos : Pos} {j : Nat} {x : Str} {p : Pos} (ownF : Bool) (hc : X.calm = true) (hN : X.N.Nodup)
    (hj : X.N[j]? = some x) (hx : X.env.scope.names.lookup x = some .local) (hsw : swapsWith (.ListComp elt [⟨tg, iter, ifs, 0⟩, ⟨tg1, iter1, ifs1, 0⟩] scope cpos) (some (.Name x p)) pos.line X.env = pure true) (hi : MI X mg E tg iter mi) (ok : BlkOk X.N X.env.scope scope own) (hv : ∀ i ∈ ws1, i ∈ own.map (·.2))
    (hg : ∀ (s : Shared) (H : Hp) (C : Addr) (cl : List (Str × Addr)) (fp : List Addr), PG (X.blk s H scope (compEnvC scope cl C X.env) fp) tg (gM X.K tg'))
    (ht : ∀ (s : Shared) (H : Hp) (C : Addr) (cl : List (Str × Addr)) (fp : List Addr), PTs (X.blk s H scope (compEnvC scope cl C X.env) fp) ifs (tB' X.K mg E0 mt))
    (hi1 : ∀ (s : Shared) (H : Hp) (C : Addr) (cl : List (Str × Addr)) (fp : List Addr), PI (X.blk s H scope (compEnvC scope cl C X.env) fp) tg1 iter1 (tM X.K mg E0 (IterOk X.K) mi1))
    (hg1 : ∀ (s : Shared) (H : Hp) (C : Addr) (cl : List (Str × Addr)) (fp : List Addr), PG (X.blk s H scope (compEnvC scope cl C X.env) fp) tg1 (gM X.K tg1'))
    (ht1 : ∀ (s : Shared) (H : Hp) (C : Addr) (cl : List (Str × Addr)) (fp : List Addr), PTs (X.blk s H scope (compEnvC scope cl C X.env) fp) ifs1 (tB' X.K mg E0 mt1))
    (he : ∀ (s : Shared) (H : Hp) (C : Addr) (cl : List (Str × Addr)) (fp : List Addr), PE (X.blk s H scope (compEnvC scope cl C X.env) fp) elt (tD X.K mg E0 mel))
    (hw : tgIn (own.map (·.2)) tg' = true) (hw1 : tgIn ws1 tg1' = true) (hs : ∀ x, foldedSetIterable iter X.env x = pure x) (hs1 : ∀ env x, foldedSetIterable iter1 env x = pure x) :
    MS X mg E (.Assign [.Name x p] (.ListComp elt [⟨tg, iter, ifs, 0⟩, ⟨tg1, iter1, ifs1, 0⟩] scope cpos) pos) (fun ρ => mbind (mbind (mi ρ) fun src => mbind (nox (lcLoop2 mel mt tg' src mi1 mt1 tg1' ws1 src.n 0 (wipeE ρ (own.map (·.2))) [])) fun xs => newL ownF xs) fun x => mret (.nx (ρ.set j (some x)))) :=
  (ps_frz (ps_setLc2 hc hN hj hx hsw hi ok hv hg ht hi1 hg1 ht1 he hs hs1)).imp fun D σ H h => lc2_read ownF hw hw1 (fun v H1 q => by
    cases ownF with
    | true => exact .inl q
    | false =>
      obtain ⟨a, xs, rfl, ha, q⟩ := q
      exact .inr ⟨a, xs, ha, q⟩) (t_set h)
theorem ms_asg {tg : Expr} {tg' : Tg} (he : ME X mg E e me) (hg : PG X tg (gM X.K tg')) (hs : swapsWithSole [tg] e pos.line X.env = pure false) (hw : swappedStores [tg] e X.env = pure none) (h1 : (assignEach [tg] X.env).map (·.2) = [assign tg X.env]) :
    MS X mg E (.Assign [tg] e pos) (fun ρ => mbind (me ρ) fun x => match tgSet tg' x ρ with
      | some ρ' => mret (.nx ρ')
      | none => mbad) := (ps_asg he hg hs hw h1).imp fun D σ H h => by
  obtain ⟨as, S, ρ, sim, env, fin⟩ := h
  refine ⟨as, S, ρ, sim, env, (FinS.bind (Rl := Rep X.K) fin).imp ?_⟩
  rintro v H1 ⟨as1, S1, d, e1, sim1, r1, fin1⟩
  cases ht : tgSet tg' d ρ with
  | none => rw [ht] at fin1; exact fin1.elim
  | some ρ' =>
    rw [ht] at fin1
    exact ⟨as1, ρ, ρ', d, env.mono e1, r1, ht, fun σ' env' _ => fin1 as1 H1 σ' (Ext.refl _ _) sim1 env'⟩
theorem ms_sto {p : Pos} (he : ME X mg E e me) (ho : ME X mg E o mo) (hi : ME X mg E i mi) (hs : swapsWithSole [.Subscript o i p] e pos.line X.env = pure false) (hw : swappedStores [.Subscript o i p] e X.env = pure none)
    (h1 : (assignEach [.Subscript o i p] X.env).map (·.2) = [assign (.Subscript o i p) X.env]) (hg : ∀ t, PSet X t → PG X (.Subscript o i p) (gSub (tD X.K mg E mo) (tD X.K mg E mi) t)) :
    MS X mg E (.Assign [.Subscript o i p] e pos) (fun ρ => mbind (me ρ) fun x => mbind (mo ρ) fun r => mbind (mi ρ) fun k => mbind (stoM r k x) fun _ => mret (.nx ρ)) :=
  (ps_asg he (hg _ (set_d (mg := mg) (E := E))) hs hw h1).imp fun D σ H h => by
  obtain ⟨as, S, ρ, sim, env, fin⟩ := h
  refine ⟨as, S, ρ, sim, env, (FinS.bind (Rl := Rep X.K) fin).imp ?_⟩
  rintro v H1 ⟨as1, S1, d, e1, sim1, r1, fin1⟩
  refine ⟨as1, S1, ρ, sim1, env.mono e1, (FinS.bind (Rl := Rep X.K) fin1).imp ?_⟩
  rintro v2 H2 ⟨as2, S2, d2, e2, sim2, r2, fin2⟩
  refine ⟨as2, S2, ρ, sim2, (env.mono e1).mono e2, (FinS.bind (Rl := Rep X.K) fin2).imp ?_⟩
  rintro v3 H3 ⟨as3, S3, d3, e3, sim3, r3, fin3⟩
  refine ⟨as3, S3, d2, d3, d, sim3, r2.mono e3, r3, (r1.mono e2).mono e3, (FinS.bind (Rl := fun _ _ (_ : Unit) (_ : Unit) => True) fin3).imp ?_⟩
  rintro _ H4 ⟨as4, S4, _, e4, sim4, _, fin4⟩
  exact fin4 as4 H4 σ (Ext.refl _ _) sim4 ((((env.mono e1).mono e2).mono e3).mono e4)
theorem ms_expr (he : ME X mg E e me) (hs : swapsWith e none pos.line X.env = pure false) : MS X mg E (.Expr e pos) (fun ρ => mbind (me ρ) fun _ => mret (.nx ρ)) := (ps_expr he hs).imp fun D σ H h => by
  obtain ⟨as, S, ρ, sim, env, fin⟩ := h
  refine ⟨as, S, ρ, sim, env, (FinS.bind (Rl := Rep X.K) fin).imp ?_⟩
  rintro v H1 ⟨as1, S1, d, e1, sim1, r1, fin1⟩
  exact fin1 as1 H1 _ (Ext.refl _ _) sim1 (env.mono e1)
theorem ms_ret (he : ME X mg E e me) : MS X mg E (.Return (some e) pos) (fun ρ => mbind (me ρ) fun x => mret (.rt x)) := (ps_ret he).imp fun D σ H h => by
  obtain ⟨as, S, ρ, sim, env, fin⟩ := h
  refine ⟨as, S, ρ, sim, env, (FinS.bind (Rl := Rep X.K) fin).imp ?_⟩
  rintro v H1 ⟨as1, S1, d, e1, sim1, r1, fin1⟩
  exact fin1 as1 H1 _ (Ext.refl _ _) sim1 r1
theorem ms_ife {c : Expr} {a b : List Stmt} {mc : Env' → M Bool} {ma mb : Env' → M Fl} (hc : MT X mg E c mc) (ha : MSs X mg E a ma) (hb : MSs X mg E b mb) : MS X mg E (.If c a b pos) (fun ρ => mbind (mc ρ) fun k => if k then ma ρ else mb ρ) :=
  (ps_if hc ha hb).imp fun D σ H h => by
  obtain ⟨as, S, ρ, sim, env, fin⟩ := h
  refine ⟨as, S, ρ, sim, env, (FinS.bind (Rl := RlB) fin).imp ?_⟩
  rintro v H1 ⟨as1, S1, d, e1, sim1, rfl, fin1⟩
  cases d with
  | false => rw [if_neg Bool.false_ne_true]; exact ⟨as1, S1, ρ, sim1, env.mono e1, fin1⟩
  | true => rw [if_pos rfl]; exact ⟨as1, S1, ρ, sim1, env.mono e1, fin1⟩
theorem ms_brk : MS X mg E (.Break pos) (fun ρ => mret (.bk ρ)) := ps_break.imp fun D σ H h => by
  obtain ⟨as, S, ρ, sim, env, fin⟩ := h
  exact fin as H σ (Ext.refl _ _) sim env
theorem ms_cnt : MS X mg E (.Continue pos) (fun ρ => mret (.ct ρ)) := ps_continue.imp fun D σ H h => by
  obtain ⟨as, S, ρ, sim, env, fin⟩ := h
  exact fin as H σ (Ext.refl _ _) sim env
theorem ms_pass : MS X mg E (.Pass pos) (fun ρ => mret (.nx ρ)) := ps_pass.imp fun D σ H h => by
  obtain ⟨as, S, ρ, sim, env, fin⟩ := h
  exact fin as H σ (Ext.refl _ _) sim env
theorem ms_nev {st : Stmt} : MS X mg E st (fun _ => mbad) := ⟨fun pins s σ H D I h => by
  obtain ⟨as, S, ρ, sim, env, fin⟩ := h
  exact fin.elim⟩
theorem mss_nil : MSs X mg E [] (fun ρ => mret (.nx ρ)) := pss_nil.imp fun D σ H h => by
  obtain ⟨as, S, ρ, sim, env, fin⟩ := h
  exact fin as H σ (Ext.refl _ _) sim env
theorem mss_cons {m1 m2 : Env' → M Fl} (h1 : MS X mg E st m1) (h2 : MSs X mg E sts m2) : MSs X mg E (st :: sts) (fun ρ => mbind (m1 ρ) fun fl => match fl with
    | .nx ρ' => m2 ρ'
    | f => mret f) := (pss_cons h1 h2).imp fun D σ H h => by
  obtain ⟨as, S, ρ, sim, env, fin⟩ := h
  refine ⟨as, S, ρ, sim, env, ?_⟩
  cases hq : m1 ρ S with
  | bad => simp only [mbind, hq, R.bind] at fin; exact fin.elim
  | exc c fs S1 => simp only [mbind, hq, R.bind] at fin; exact fin
  | ok f S1 =>
    simp only [mbind, hq, R.bind] at fin
    cases f with
    | nx ρ' => exact fun as1 H1 σ1 e1 sim1 env1 => ⟨as1, S1, ρ', sim1, env1, FinS.ext fin e1⟩
    | rt d => exact fin
    | bk ρ' => exact fin
    | ct ρ' => exact fin
theorem ms_for {tg iter : Expr} {body : List Stmt} {tg' : Tg} {mit : Env' → M Src} {mb : Env' → M Fl} (hp : PassesOwn (model X.prog X.w) X.A X.env X.xe) (hc : X.calm = true) (hi : MI X mg E tg iter mit) (hg : PG X tg (gM X.K tg')) (hb : MSs X mg E body mb)
    (hs : ∀ x, foldedSetIterable iter X.env x = pure x) : MS X mg E (.For tg iter body [] pos) (fun ρ => mbind (mit ρ) fun src => forLoop mb tg' src src.n 0 ρ) :=
  (ps_for hp hc hi hg hb hs).imp fun D σ H h => by
  obtain ⟨as0, S0, ρ0, sim0, env0, fin0⟩ := h
  refine ⟨as0, S0, ρ0, sim0, env0, (FinS.bind (Rl := IterOk X.K) fin0).imp ?_⟩
  rintro J H1 ⟨as1, S1, src, e1, sim1, ⟨_, itok⟩, fin1⟩
  let W : Nat → Nat → L2.St → Hp → Prop := fun i m σ H => ∃ as S ρ, Sim X.K as S H ∧ Ext as1 H1 as H ∧ EnvR X.K as H σ ρ ∧ FinS X.K mg E D as1 H1 (forLoop mb tg' src m i ρ S)
  refine ⟨W, ⟨src.n, as1, S1, ρ0, sim1, Ext.refl _ _, env0.mono e1, fin1⟩, ?_⟩
  rintro i m σ H ⟨as, S, ρ, sim, e, env, fin⟩
  have it := itok as S H i e.toEx0 sim
  unfold forLoop at fin
  cases hn : src.nxt i S with
  | none => simp only [hn] at fin; exact fin.elim
  | some o =>
    rw [hn] at it
    cases o with
    | none =>
      simp only [hn] at fin
      exact .inl ⟨it, fin as H σ e sim env⟩
    | some d =>
      obtain ⟨hgo, hy⟩ := it
      refine .inr ⟨hgo, ?_⟩
      cases m with
      | zero => simp only [hn] at fin; exact fin.elim
      | succ m =>
        refine ⟨W (i + 1) m, fun σ' H' h => ⟨m, Nat.lt_succ_self m, h⟩, fun x H2 y => ?_⟩
        obtain ⟨e2, sim2, rx⟩ := hy x H2 y
        simp only [hn] at fin
        cases htg : tgSet tg' d ρ with
        | none => rw [htg] at fin; exact fin.elim
        | some ρ' =>
          rw [htg] at fin
          refine ⟨as, ρ, ρ', d, env.mono e2, rx, htg, fun σ' env' w' => ⟨as, S, ρ', sim2, env', ?_⟩⟩
          have eb := e.trans e2
          simp only at fin
          cases hm : mb ρ' S with
          | bad => simp only [hm, R.bind] at fin; exact fin.elim
          | exc c fs S3 => simp only [hm, R.bind] at fin; exact FinX.ext fin eb
          | ok f S3 =>
            simp only [hm, R.bind] at fin
            cases f with
            | nx ρ2 => exact fun as3 H3 σ3 e3 sim3 env3 => ⟨as3, S3, ρ2, sim3, eb.trans e3, env3, fin⟩
            | ct ρ2 => exact fun as3 H3 σ3 e3 sim3 env3 => ⟨as3, S3, ρ2, sim3, eb.trans e3, env3, fin⟩
            | bk ρ2 => exact fun as3 H3 σ3 e3 sim3 env3 => fin as3 H3 σ3 (eb.trans e3) sim3 env3
            | rt d => exact fun as3 H3 v e3 sim3 r3 => fin as3 H3 v (eb.trans e3) sim3 r3
theorem ms_whl {c : Expr} {body : List Stmt} {mc : Env' → M Bool} {mb : Env' → M Fl} (N0 : Nat) (hp : PassesOwn (model X.prog X.w) X.A X.env X.xe) (hc : MT X mg E c mc) (hb : MSs X mg E body mb) :
    MS X mg E (.While c body [] pos) (whlLoop mc mb N0) := (ps_while hp hc hb).imp fun D σ H h => by
  obtain ⟨as0, S0, ρ0, sim0, env0, fin0⟩ := h
  let W : Nat → L2.St → Hp → Prop := fun m σ H => ∃ as S ρ, Sim X.K as S H ∧ Ext as0 H as H ∧ EnvR X.K as H σ ρ ∧ FinS X.K mg E D as H (whlLoop mc mb m ρ S)
  refine ⟨fun m σ H => ∃ as S ρ, Sim X.K as S H ∧ EnvR X.K as H σ ρ ∧ FinS X.K mg E D as H (whlLoop mc mb m ρ S), ⟨N0, as0, S0, ρ0, sim0, env0, fin0⟩, ?_⟩
  rintro m σ H ⟨as, S, ρ, sim, env, fin⟩
  cases m with
  | zero => simp only [whlLoop, mbad] at fin; exact fin.elim
  | succ m =>
    unfold whlLoop at fin
    refine ⟨as, S, ρ, sim, env, (FinS.bind (Rl := RlB) fin).imp ?_⟩
    rintro b H1 ⟨as1, S1, b', e1, sim1, rfl, fin1⟩
    cases b' with
    | false =>
      rw [if_neg Bool.false_ne_true]
      exact fin1 as1 H1 σ (Ext.refl _ _) sim1 (env.mono e1)
    | true =>
      rw [if_pos rfl]
      refine ⟨fun σ' H' => ∃ as S ρ, Sim X.K as S H' ∧ EnvR X.K as H' σ' ρ ∧ FinS X.K mg E D as H' (whlLoop mc mb m ρ S), fun σ' H' h => ⟨m, Nat.lt_succ_self m, h⟩, as1, S1, ρ, sim1, env.mono e1, ?_⟩
      simp only [if_true] at fin1
      cases hm : mb ρ S1 with
      | bad => simp only [mbind, hm, R.bind] at fin1; exact fin1.elim
      | exc c fs S3 => simp only [mbind, hm, R.bind] at fin1; exact fin1
      | ok f S3 =>
        simp only [mbind, hm, R.bind] at fin1
        cases f with
        | nx ρ2 => exact fun as3 H3 σ3 e3 sim3 env3 => ⟨as3, S3, ρ2, sim3, env3, FinS.ext fin1 e3⟩
        | ct ρ2 => exact fun as3 H3 σ3 e3 sim3 env3 => ⟨as3, S3, ρ2, sim3, env3, FinS.ext fin1 e3⟩
        | bk ρ2 => exact fun as3 H3 σ3 e3 sim3 env3 => fin1 as3 H3 σ3 e3 sim3 env3
        | rt d => exact fun as3 H3 v e3 sim3 r3 => fin1 as3 H3 v e3 sim3 r3
end
end Pu

namespace Pu
open PySem PySem.Spec PyProof.Rows L2
/-! ## sorted(set of ints) -/
theorem mem_insI {x y : Int} : ∀ {l : List Int}, y ∈ insI x l ↔ y = x ∨ y ∈ l
  | [] => by simp [insI]
  | z :: r => by
    unfold insI
    split
    · simp
    · split
      · rename_i e; subst e; simp
      · simp only [List.mem_cons, mem_insI (l := r)]
        constructor
        · rintro (h | h | h) <;> simp [h]
        · rintro (h | h | h) <;> simp [h]
theorem insI_asc {x : Int} : ∀ {l : List Int}, l.Pairwise (· < ·) → (insI x l).Pairwise (· < ·)
  | [], _ => by simp [insI]
  | z :: r, h => by
    unfold insI
    obtain ⟨h1, h2⟩ := List.pairwise_cons.mp h
    split
    · rename_i lt
      refine List.pairwise_cons.mpr ⟨fun y hy => ?_, h⟩
      rcases List.mem_cons.mp hy with rfl | hy
      · exact lt
      · have := h1 y hy; omega
    · split
      · exact h
      · refine List.pairwise_cons.mpr ⟨fun y hy => ?_, insI_asc h2⟩
        rcases mem_insI.mp hy with rfl | hy
        · omega
        · exact h1 y hy
theorem mem_dedI {y : Int} : ∀ {l : List Int}, y ∈ dedI l ↔ y ∈ l
  | [] => by simp [dedI]
  | x :: r => by
    show y ∈ insI x (dedI r) ↔ _
    rw [mem_insI, mem_dedI (l := r), List.mem_cons]
theorem dedI_asc : ∀ l : List Int, (dedI l).Pairwise (· < ·)
  | [] => List.Pairwise.nil
  | x :: r => insI_asc (dedI_asc r)
theorem asc_eq {xs ys : List Int} (h1 : xs.Pairwise (· < ·)) (h2 : ys.Pairwise (· < ·)) (h : ∀ k, k ∈ xs ↔ k ∈ ys) : xs = ys := by
  have p : xs.Perm ys := (List.perm_ext_iff_of_nodup (h1.imp fun {a b} h => by omega) (h2.imp fun {a b} h => by omega)).mpr h
  have e1 := mem_perm_eq p (h1.imp fun {a b} h => by omega)
  have e2 := mem_perm_eq (List.Perm.refl ys) (h2.imp fun {a b} h => by omega)
  rw [e1, ← e2]
theorem asInts_pre : ∀ {a t : List D} {ns : List Int}, asInts (a ++ t) = some ns → ∃ ms, asInts a = some ms ∧ ms.length ≤ ns.length ∧ a = ms.map D.int
  | [], t, ns, h => ⟨[], rfl, by simp, rfl⟩
  | d :: a, t, ns, h => by
    cases d <;> first | (cases h; done) | skip
    rename_i i
    have h : (asInts (a ++ t)).map (i :: ·) = some ns := h
    obtain ⟨ns', h1, rfl⟩ := Option.map_eq_some_iff.mp h
    obtain ⟨ms, h2, h3, h4⟩ := asInts_pre h1
    exact ⟨i :: ms, by show (asInts a).map _ = _; rw [h2]; rfl, by simpa using h3, by rw [h4]; rfl⟩
section
variable {elt : Env' → M D} {ifs ifs1 : Env' → M Bool} {tg tg1 : Tg} {it1 : Env' → M Src} {ws1 : List Nat}
theorem lcC_pre {src : Src} : ∀ {n i : Nat} {ρ : Env'} {acc xs : List D} {S S' : Sto}, lcLoopC elt ifs tg src n i ρ acc S = .ok xs S' → ∃ t, xs = acc ++ t := by
  intro n
  induction n with
  | zero =>
    intro i ρ acc xs S S' h
    unfold lcLoopC at h
    split at h
    · cases h
    · cases h; exact ⟨[], by simp⟩
    · cases h
  | succ n ih =>
    intro i ρ acc xs S S' h
    unfold lcLoopC at h
    split at h
    · cases h
    · cases h; exact ⟨[], by simp⟩
    · simp only at h
      split at h
      · cases h
      · cases hb : ifs (by assumption) S with
        | bad => rw [hb] at h; cases h
        | exc c fs S1 => rw [hb] at h; cases h
        | ok b S1 =>
          rw [hb] at h
          cases b with
          | false => exact ih h
          | true =>
            simp only [R.bind, if_true, mbind] at h
            rename_i ρ' _
            cases hq : elt ρ' S1 with
            | bad => rw [hq] at h; cases h
            | exc c fs S2 => rw [hq] at h; cases h
            | ok y S2 =>
              rw [hq] at h
              simp only at h
              split at h
              · obtain ⟨t, e⟩ := ih h
                exact ⟨y :: t, by rw [e]; simp⟩
              · cases h
theorem lc2_pre {src : Src} : ∀ {n i : Nat} {ρ : Env'} {acc xs : List D} {S S' : Sto}, lcLoop2 elt ifs tg src it1 ifs1 tg1 ws1 n i ρ acc S = .ok xs S' → ∃ t, xs = acc ++ t := by
  intro n
  induction n with
  | zero =>
    intro i ρ acc xs S S' h
    unfold lcLoop2 at h
    split at h
    · cases h
    · cases h; exact ⟨[], by simp⟩
    · cases h
  | succ n ih =>
    intro i ρ acc xs S S' h
    unfold lcLoop2 at h
    split at h
    · cases h
    · cases h; exact ⟨[], by simp⟩
    · simp only at h
      split at h
      · cases h
      · rename_i ρ' _
        cases hb : ifs ρ' S with
        | bad => rw [hb] at h; cases h
        | exc c fs S1 => rw [hb] at h; cases h
        | ok b S1 =>
          rw [hb] at h
          cases b with
          | false => exact ih h
          | true =>
            simp only [R.bind, if_true, mbind] at h
            cases hq : it1 ρ' S1 with
            | bad => rw [hq] at h; cases h
            | exc c fs S2 => rw [hq] at h; cases h
            | ok y S2 =>
              rw [hq] at h
              change (lcLoopC elt ifs1 tg1 y y.n 0 (wipeE ρ' ws1) acc S2).bind _ = _ at h
              cases hr : lcLoopC elt ifs1 tg1 y y.n 0 (wipeE ρ' ws1) acc S2 with
              | bad => rw [hr] at h; cases h
              | exc c fs S3 => rw [hr] at h; cases h
              | ok ys S3 =>
                rw [hr] at h
                obtain ⟨t1, e1⟩ := lcC_pre hr
                obtain ⟨t2, e2⟩ := ih h
                exact ⟨t1 ++ t2, by rw [e2, e1]; simp⟩
end
/-- what is gathered so far is ints, and few -/
theorem fin_ints {K : PySem.W.Frag} {mg : Str → Option Value} {E : XK} {as : List Addr} {H : Hp} {own : Bool} {r : R (List D)} {acc : List D} {Q : VK} (fin : Fin K mg E (Rep K) as H ((nx r).bind (setM own)) Q) (pre : ∀ xs S', r = .ok xs S' → ∃ t, xs = acc ++ t) :
    ∃ ms, asInts acc = some ms ∧ ms.length < 64 ∧ acc = ms.map D.int := by
  cases r with
  | bad => exact fin.elim
  | exc c fs S => exact fin.elim
  | ok xs S =>
    obtain ⟨t, rfl⟩ := pre xs S rfl
    have fin : Fin K mg E (Rep K) as H (setM own (acc ++ t) S) Q := fin
    unfold setM setD at fin
    cases h : asInts (acc ++ t) with
    | none => rw [h] at fin; exact fin.elim
    | some ns =>
      rw [h] at fin
      simp only at fin
      by_cases hl : ns.length < 64
      · obtain ⟨ms, h1, h2, h3⟩ := asInts_pre h
        exact ⟨ms, h1, by omega, h3⟩
      · rw [if_neg hl] at fin; exact fin.elim

section
variable {K : PySem.W.Frag} {as : List Addr} {H : Hp} {S : Sto} {w : World}
theorem Ex0.outS {p : Addr} {f : Int → Bool} {n : Nat} {o : HO} (h : H p = some (SetO w p f n)) : Ex0 as H as (upd H p o) :=
  ⟨fun _ _ h => h, fun a u hu q => by
    have : a ≠ p := fun e => by
      subst e; rw [h] at hu; cases hu
      rcases q with ⟨_, q⟩ | ⟨_, _, q⟩ <;> cases q
    rw [upd_ne this]; exact hu⟩
theorem Sim.outS (s : Sim K as S H) {p : Addr} {f : Int → Bool} {m : Nat} {o : HO} (h : H p = some (SetO w p f m)) (n : p ∉ as) : Sim K as S (upd H p o) :=
  ⟨s.len, s.inj, fun i a u h1 h2 => by
    have ne : a ≠ p := fun e => by subst e; exact n (List.mem_of_getElem? h1)
    exact (s.ob i a u h1 h2).move (Ex0.outS h) (upd_ne ne)⟩
/-- the set at D holds what is gathered -/
def SetAs (w : World) (H : Hp) (D : Addr) (acc : List Pu.D) : Prop := ∃ (ns : List Int) (f : Int → Bool) (n : Nat), acc = ns.map Pu.D.int ∧ H D = some (SetO w D f n) ∧ (∀ k : Int, f k = true ↔ k ∈ ns) ∧ n ≤ ns.length

theorem SetAs.add {H : Hp} {D : Addr} {acc : List Pu.D} {c : Int} {ns : List Int} {f : Int → Bool} {n : Nat} (e : acc = ns.map Pu.D.int) (hf : ∀ k : Int, f k = true ↔ k ∈ ns) (hn : n ≤ ns.length) :
    SetAs w (upd H D (SetO w D (fun j => f j || decide (j = c)) (if f c = true then n else n + 1))) D (acc ++ [.int c]) := by
  refine ⟨ns ++ [c], _, _, by rw [e, List.map_append]; rfl, upd_same, fun k => ?_, ?_⟩
  · rw [Bool.or_eq_true, hf, decide_eq_true_eq, List.mem_append, List.mem_singleton]
  · rw [List.length_append, List.length_singleton]; split <;> omega
end

theorem ih_map (l : List Int) (x : Int) : asInts ((x :: l).map D.int) = some (x :: l) := by
  induction l generalizing x with
  | nil => rfl
  | cons y l ih => show (asInts ((y :: l).map D.int)).map (x :: ·) = _; rw [ih]; rfl
theorem room64 {n : Nat} (h : n < 64) : n + 1 < scanBound := by
  have : 65 < scanBound := by decide
  omega
theorem last_int {acc : List D} {ns ms : List Int} {z : D} (h1 : acc = ns.map D.int) (h2 : acc ++ [z] = ms.map D.int) : ∃ c, z = .int c ∧ ms = ns ++ [c] := by
  subst h1
  induction ns generalizing ms with
  | nil =>
    match ms, h2 with
    | [c], h2 => exact ⟨c, by simpa using h2, rfl⟩
    | [], h2 => simp at h2
    | _ :: _ :: _, h2 => simp at h2
  | cons x ns ih =>
    match ms, h2 with
    | [], h2 => simp at h2
    | y :: ms, h2 =>
      simp only [List.map_cons, List.cons_append, List.cons.injEq, D.int.injEq] at h2
      obtain ⟨c, e1, e2⟩ := ih h2.2
      exact ⟨c, e1, by rw [e2, ← h2.1]; rfl⟩
section
variable {mg : Str → Option Value} {E : XK}
abbrev yes' : Env' → M Bool := fun _ => mret true
/-- at the end: the set is sorted -/
theorem s2_end {K : PySem.W.Frag} {w : World} {own : Bool} {as0 as : List Addr} {H0 H : Hp} {S : Sto} {acc : List D} {A : Addr} {Q : VK} (e : Ext as0 H0 as H) (sim : Sim K as S H) (st : SetAs w H A acc)
    (fin : Fin K mg E (Rep K) as0 H0 (setM own acc S) Q) : rSortedSet w [V.ref A] H (QL own Q) := by
  obtain ⟨ns, f, n, rfl, hA, hf, hn⟩ := st
  unfold setM setD at fin
  have hi : asInts (ns.map D.int) = some ns := by
    induction ns with
    | nil => rfl
    | cons x l ih => exact ih_map l x
  rw [hi] at fin
  simp only at fin
  by_cases hl : ns.length < 64
  · rw [if_pos hl] at fin
    refine ⟨A, f, n, rfl, hA, by omega, fun ms p asc mem len hp => ?_⟩
    have em : ms = dedI ns := asc_eq asc (dedI_asc ns) fun k => by rw [mem, hf, mem_dedI]
    rw [em]
    exact fin_U (fin.ext e) sim (Reps.of_ints _) p hp
  · rw [if_neg hl] at fin; exact fin.elim
theorem s2_read {K : PySem.W.Frag} {w : World} {tg' tg1' : Tg} {mi mi1 : Env' → M Src} {mel : Env' → M D} (own : Bool) {ws ws1 : List Nat} (hw : tgIn ws tg' = true) (hw1 : tgIn ws1 tg1' = true) {σ : L2.St} {H : Hp} {Q : VK}
    (h : tD K mg E (fun ρ => mbind (mi ρ) fun src => mbind (nox (lcLoop2 mel yes' tg' src mi1 yes' tg1' ws1 src.n 0 (wipeE ρ ws) [])) fun xs => setM own xs) σ H Q) :
    tS2 w (tM K mg E (IterOk K) mi) (gM K tg') (tM K mg E0 (IterOk K) mi1) (gM K tg1') (tD K mg E0 mel) ws ws1 σ H (fun v H1 => rSortedSet w [v] H1 (QL own Q)) := by
  obtain ⟨as0, S0, ρ, sim0, env0, fin0⟩ := h
  refine ⟨as0, S0, ρ, sim0, env0, (Fin.bind (Rl := IterOk K) fin0).imp ?_⟩
  rintro J H1 ⟨as1, S1, src, e1, sim1, ⟨hsn, itok⟩, fin1⟩
  intro A hA
  have env1 := (env0.mono e1).wipe ws
  generalize wipeE ρ ws = ρw at fin1 env1
  have fin1 : Fin K mg E (Rep K) as1 H1 ((nx (lcLoop2 mel yes' tg' src mi1 yes' tg1' ws1 src.n 0 ρw [] S1)).bind (setM own)) Q := by rw [← nox_nx]; exact fin1
  let Out : Nat → Nat → Hp → Prop := fun i m H => ∃ as S acc, Sim K as S H ∧ Ext as1 H1 as H ∧ A ∉ as ∧ SetAs w H A acc ∧ Fin K mg E (Rep K) as1 H1 ((nx (lcLoop2 mel yes' tg' src mi1 yes' tg1' ws1 m i ρw acc S)).bind (setM own)) Q
  refine ⟨Out, ⟨src.n, as1, S1, [], sim1.fixed hA, Ext.fixed hA, sim1.notIn hA, ⟨[], _, 0, rfl, upd_same, fun k => by simp, Nat.zero_le _⟩, fin1⟩, ?_⟩
  rintro i m H ⟨as, S, acc, sim, e, hn, st, fin⟩
  have it := itok as S H i e.toEx0 sim
  unfold lcLoop2 at fin
  cases hx : src.nxt i S with
  | none => simp only [hx, nx] at fin; exact fin.elim
  | some o =>
    rw [hx] at it
    cases o with
    | none =>
      refine .inl ⟨it, ?_⟩
      simp only [hx, nx, R.bind] at fin
      exact s2_end e sim st fin
    | some d =>
      obtain ⟨hgo, hy⟩ := it
      refine .inr ⟨hgo, ?_⟩
      cases m with
      | zero => simp only [hx, nx] at fin; exact fin.elim
      | succ m =>
        refine ⟨Out (i + 1) m, fun H' h => ⟨m, Nat.lt_succ_self m, h⟩, fun x H2 y => ?_⟩
        obtain ⟨e2, sim2, rx⟩ := hy x H2 y
        simp only [hx] at fin
        cases htg : tgSet tg' d ρw with
        | none => simp only [htg, nx] at fin; exact fin.elim
        | some ρ' =>
          simp only [htg, mret, R.bind, if_true] at fin
          have eb := e.trans e2
          refine ⟨as, ρw, ρ', d, env1.mono eb, rx, htg, fun σ' env' w' => ⟨by rw [w' ws hw, wipe_twice], as, S, ρ', sim2, env', ?_⟩⟩
          have st2 : SetAs w H2 A acc := by obtain ⟨ns, f, n, q1, q2, q3⟩ := st; exact ⟨ns, f, n, q1, e2.keep _ _ q2 hn, q3⟩
          cases hq : mi1 ρ' S with
          | bad => simp only [mbind, hq, nx, R.bind] at fin; exact fin.elim
          | exc c fs S4 => simp only [mbind, hq, nx, R.bind] at fin; exact fin.elim
          | ok src1 S4 =>
            simp only [mbind, hq] at fin
            intro as4 H4 J1 e4 sim4 itok1
            obtain ⟨hsn1, itok1⟩ := itok1
            have hn4 : A ∉ as4 := by
              obtain ⟨ns, f, n, q1, q2, q3⟩ := st2; exact e4.out q2 hn
            have st4 : SetAs w H4 A acc := by obtain ⟨ns, f, n, q1, q2, q3⟩ := st2; exact ⟨ns, f, n, q1, e4.keep _ _ q2 hn, q3⟩
            have env4 := (env'.mono e4).wipe ws1
            have eb4 := eb.trans e4
            generalize hρ1 : wipeE ρ' ws1 = ρ1 at fin env4
            let Inn : Nat → Nat → Hp → Prop := fun j k H => ∃ as S acc, Sim K as S H ∧ Ex0 as4 H4 as H ∧ Ext as1 H1 as H ∧ A ∉ as ∧ SetAs w H A acc ∧
              Fin K mg E (Rep K) as1 H1 ((nx ((lcLoopC mel yes' tg1' src1 k j ρ1 acc S).bind fun acc' => lcLoop2 mel yes' tg' src mi1 yes' tg1' ws1 m (i + 1) ρw acc')).bind (setM own)) Q
            refine ⟨Inn, ⟨src1.n, as4, S4, acc, sim4, (Ext.refl _ _).toEx0, eb4, hn4, st4, fin⟩, ?_⟩
            rintro j k Hj ⟨as5, S5, acc5, sim5, e5, eo5, hn5, st5, fin5⟩
            have it1 := itok1 as5 S5 Hj j e5 sim5
            unfold lcLoopC at fin5
            cases hx1 : src1.nxt j S5 with
            | none => simp only [hx1, R.bind, nx] at fin5; exact fin5.elim
            | some o1 =>
              rw [hx1] at it1
              cases o1 with
              | none =>
                refine .inl ⟨it1, ?_⟩
                simp only [hx1, R.bind] at fin5
                exact ⟨as5, S5, acc5, sim5, eo5, hn5, st5, fin5⟩
              | some d1 =>
                obtain ⟨hgo1, hy1⟩ := it1
                refine .inr ⟨hgo1, ?_⟩
                cases k with
                | zero => simp only [hx1, R.bind, nx] at fin5; exact fin5.elim
                | succ k =>
                  refine ⟨Inn (j + 1) k, fun H' h => ⟨k, Nat.lt_succ_self k, h⟩, fun x1 H6 y1 => ?_⟩
                  obtain ⟨e6, sim6, rx1⟩ := hy1 x1 H6 y1
                  simp only [hx1] at fin5
                  cases htg1 : tgSet tg1' d1 ρ1 with
                  | none => simp only [htg1, R.bind, nx] at fin5; exact fin5.elim
                  | some ρ2 =>
                    simp only [htg1, mret, R.bind, if_true] at fin5
                    have ex6 : Ex0 as4 H4 as5 H6 := ⟨fun i a h => e6.pre i a (e5.pre i a h), fun a o h f => e6.fix a o (e5.fix a o h f) f⟩
                    have eo6 := eo5.trans e6
                    refine ⟨as5, ρ1, ρ2, d1, env4.mono0 ex6, rx1, htg1, fun σ3 env3' w3 => ⟨by rw [w3 ws1 hw1, wipe_twice], as5, S5, ρ2, sim6, env3', ?_⟩⟩
                    cases hq1 : mel ρ2 S5 with
                    | bad => simp only [mbind, hq1, R.bind, nx] at fin5; exact fin5.elim
                    | exc c fs S8 => simp only [mbind, hq1, R.bind, nx] at fin5; exact fin5.elim
                    | ok z S8 =>
                      simp only [mbind, hq1] at fin5
                      intro as8 H8 v e8 sim8 rv
                      by_cases hl : acc5.length < line
                      · simp only [R.bind, if_pos hl] at fin5
                        have fin5 : Fin K mg E (Rep K) as1 H1 ((nx ((lcLoopC mel yes' tg1' src1 k (j + 1) ρ1 (acc5 ++ [z]) S8).bind fun acc' => lcLoop2 mel yes' tg' src mi1 yes' tg1' ws1 m (i + 1) ρw acc')).bind (setM own)) Q := fin5
                        obtain ⟨ms, i1, i2, i3⟩ := fin_ints (acc := acc5 ++ [z]) fin5 (fun xs S' hr => by
                          cases hc : lcLoopC mel yes' tg1' src1 k (j + 1) ρ1 (acc5 ++ [z]) S8 with
                          | bad => rw [hc] at hr; cases hr
                          | exc c fs S9 => rw [hc] at hr; cases hr
                          | ok ys S9 =>
                            rw [hc] at hr
                            obtain ⟨t1, q1⟩ := lcC_pre hc
                            obtain ⟨t2, q2⟩ := lc2_pre hr
                            exact ⟨t1 ++ t2, by rw [q2, q1]; simp⟩)
                        obtain ⟨ns, f, n, q1, q2, q3, q4⟩ := st5
                        have q8 : H8 A = some (SetO w A f n) := e8.keep _ _ (e6.keep _ _ q2 hn5) hn5
                        have hn8 : A ∉ as8 := e8.out (e6.keep _ _ q2 hn5) hn5
                        obtain ⟨c, rfl, rfl⟩ : ∃ c, z = .int c ∧ ms = ns ++ [c] := last_int q1 i3
                        cases rv
                        rw [List.length_append, List.length_singleton] at i2
                        have eB := eo6.trans e8
                        have hA1 : H1 A = none := hA
                        refine ⟨c, f, n, rfl, q8, room64 (by omega), as8, S8, acc5 ++ [.int c], sim8.outS q8 hn8, ?_, ⟨⟨eB.pre, fun a u hu f => ?_⟩, fun a u hu n => ?_, eB.new⟩, hn8, SetAs.add q1 q3 q4, fin5⟩
                        · exact ⟨fun i a h => e8.pre i a (ex6.pre i a h), fun a o h f => by
                            have := e8.fix a o (ex6.fix a o h f) f
                            exact (Ex0.outS (as := as8) q8).fix a o this f⟩
                        · rw [upd_ne (ne_of_none hu hA1)]; exact eB.fix a u hu f
                        · rw [upd_ne (ne_of_none hu hA1)]; exact eB.keep a u hu n
                      · simp only [R.bind, if_neg hl, nx] at fin5; exact fin5.elim
end

section
variable {X : Cx} {mg : Str → Option Value} {E : XK} {pos : Pos}
theorem me_ssc {p p1 : Pos} {elt tg iter tg1 iter1 : Expr} {scope : Scope} {own : List (Str × Nat)} {tg' tg1' : Tg} {ws1 : List Nat} {mi mi1 : Env' → M Src} {mel : Env' → M D} (ownF : Bool) (hc : X.calm = true) (hN : X.N.Nodup) (hgl : Gl X "sorted") (hm : X.mg "sorted" = none) (hi : MI X mg E tg iter mi) (ok : BlkOk X.N X.env.scope scope own) (hv : ∀ i ∈ ws1, i ∈ own.map (·.2))
    (hg : ∀ (s : Shared) (H : Hp) (C : Addr) (cl : List (Str × Addr)) (fp : List Addr), PG (X.blk s H scope (compEnvC scope cl C X.env) fp) tg (gM X.K tg'))
    (hi1 : ∀ (s : Shared) (H : Hp) (C : Addr) (cl : List (Str × Addr)) (fp : List Addr), PI (X.blk s H scope (compEnvC scope cl C X.env) fp) tg1 iter1 (tM X.K mg E0 (IterOk X.K) mi1))
    (hg1 : ∀ (s : Shared) (H : Hp) (C : Addr) (cl : List (Str × Addr)) (fp : List Addr), PG (X.blk s H scope (compEnvC scope cl C X.env) fp) tg1 (gM X.K tg1'))
    (he : ∀ (s : Shared) (H : Hp) (C : Addr) (cl : List (Str × Addr)) (fp : List Addr), PE (X.blk s H scope (compEnvC scope cl C X.env) fp) elt (tD X.K mg E0 mel))
    (hw : tgIn (own.map (·.2)) tg' = true) (hw1 : tgIn ws1 tg1' = true) (hs : ∀ x, foldedSetIterable iter X.env x = pure x) (hs1 : ∀ env x, foldedSetIterable iter1 env x = pure x) :
    ME X mg E (.Call (.Name "sorted" p) [.SetComp elt [⟨tg, iter, [], 0⟩, ⟨tg1, iter1, [], 0⟩] scope p1] [] pos) (fun ρ => mbind (mi ρ) fun src => mbind (nox (lcLoop2 mel yes' tg' src mi1 yes' tg1' ws1 src.n 0 (wipeE ρ (own.map (·.2))) [])) fun xs => setM ownF xs) :=
  (pe_ql ownF (pe_callB (pos := pos) (p := p) (cr_sortedSet hc) hgl hm (by decide +kernel) (pa_cons (pe_s2 hc hN hi ok hv hg hi1 hg1 he hs hs1) pa_nil) (by decide) (by decide) rfl rfl)).imp fun σ H Q h => s2_read ownF hw hw1 h
/-- set(xs) -/
def rSetOf (K : PySem.W.Frag) (w : World) : List V → Hp → VK → Prop := fun vs H Q => ∃ (a : Addr) (ns : List Int), vs = [V.ref a] ∧ (SqL K H a (ns.map V.int) ∨ SqT K H a (ns.map V.int)) ∧ ns.length < 64 ∧ ∀ (p : Addr) (f : Int → Bool) (n : Nat), (∀ k : Int, f k = true ↔ k ∈ ns) → n ≤ ns.length → n = (dedI ns).length → H p = none → Q (.ref p) (upd H p (SetO w p f n))
theorem setR_count {w : World} {h : Heap} {a : Addr} {S : Int → Bool} {n : Nat} {ns : List Int} (R : SetR w h a S n) (hm : ∀ k : Int, S k = true ↔ k ∈ ns) : n = (dedI ns).length := by
  obtain ⟨o, es, ep, t, _, _, _, _, nd, hk, _, _, hs, _⟩ := R
  have h1 : (es.toList.map keyOf).length = n := by rw [List.length_map, ← hs]; simp
  have a1 := dedI_asc ns
  have p : (es.toList.map keyOf).Perm (dedI ns) := (List.perm_ext_iff_of_nodup nd (a1.imp fun {a b} h => by omega)).mpr fun k => by rw [← hk, hm, mem_dedI]
  rw [← h1, p.length_eq]
theorem cr_setOf (hc : X.calm = true) : CallR X (.type "set") (rSetOf X.K X.w) := by
  intro pins s σ H vs us Q I r h
  obtain ⟨a, ns, rfl, hq, few, q⟩ := h
  rw [Vals.ref1 r]
  have fin : ∀ (h' : Heap) (tk c : Nat), SetR X.w h' s.heap.objs.size (fun j => decide (j ∈ ns)) c → c ≤ ns.length → (∀ b o, s.heap.get? b = some o → h'.get? b = some o) → EP X pins σ Q (.ref s.heap.objs.size) { s with heap := h', toks := tk } := fun h' tk c R hl keep =>
    ⟨.ref s.heap.objs.size, _, I.laid (t' := tk) keep (Nat.le_refl _) (setO_new R), rfl, q _ _ _ (fun k => decide_eq_true_iff) hl (setR_count R fun k => decide_eq_true_iff) (I.hok.fresh (Nat.le_refl _))⟩
  rcases hq with hq | hq
  · obtain ⟨its, rv, pz, hz⟩ := I.list hq
    exact call_set_lst ns (I.ok.hd hc) pz.isList (ints_of_vals rv) (room64 few) fin
  · obtain ⟨its, rv, pz, hz⟩ := I.tuple hq
    exact call_set_tupI ns (I.ok.hd hc) pz (ints_of_vals rv) (room64 few) fin
theorem me_sst {p p1 pos1 : Pos} {a : Expr} {ma : Env' → M D} (own : Bool) (hc : X.calm = true) (hg : Gl X "sorted") (hm : X.mg "sorted" = none) (hg2 : Gl X "set") (hm2 : X.mg "set" = none) (ha : ME X mg E a ma) (hs : starEach [a] X.env = (false, eval a X.env) :: starEach [] X.env) :
    ME X mg E (.Call (.Name "sorted" p) [.Call (.Name "set" p1) [a] [] pos1] [] pos) (fun ρ => mbind (ma ρ) (sstM own)) :=
  (pe_ql own (pe_callB (pos := pos) (p := p) (cr_sortedSet hc) hg hm (by decide +kernel) (pa_cons (pe_callTy (pos := pos1) (p := p1) (cr_setOf hc) hg2 hm2 (by decide +kernel) (pa_cons ha pa_nil hs) (by decide) (by decide) hs rfl) pa_nil) (by decide) (by decide) rfl rfl)).imp fun σ H Q h => by
    obtain ⟨as, S, ρ, sim, env, fin⟩ := h
    refine ⟨as, S, ρ, sim, env, (Fin.bind (Rl := Rep X.K) fin).imp ?_⟩
    rintro v H1 ⟨as1, S1, d, e1, sim1, r1, fin1⟩
    unfold sstM at fin1
    cases hd : seqOf d S1 with
    | none => rw [hd] at fin1; exact fin1.elim
    | some xs =>
      rw [hd] at fin1
      obtain ⟨l, vs, rfl, hq, rr⟩ := seq_ok sim1 hd r1
      have fin1 : Fin X.K mg E (Rep X.K) as1 H1 (setM own xs S1) Q := fin1
      obtain ⟨ns, i1, i2, i3⟩ : ∃ ns, asInts xs = some ns ∧ ns.length < 64 ∧ xs = ns.map D.int := by
        unfold setM setD at fin1
        cases h : asInts xs with
        | none => rw [h] at fin1; exact fin1.elim
        | some ns =>
          rw [h] at fin1
          simp only at fin1
          by_cases hl : ns.length < 64
          · exact ⟨ns, rfl, hl, asInts_eq h⟩
          · rw [if_neg hl] at fin1; exact fin1.elim
      subst i3
      rw [rr.ints] at hq
      refine ⟨l, ns, rfl, hq, i2, fun q f n hf hn _ hp => ?_⟩
      exact s2_end (Ext.fixed hp) (sim1.fixed hp) ⟨ns, f, n, rfl, upd_same, hf, hn⟩ fin1
/-- len(set(xs)) -/
def rLenSet (w : World) : List V → Hp → VK → Prop := fun vs H Q => ∃ (p : Addr) (f : Int → Bool) (n : Nat), vs = [V.ref p] ∧ H p = some (SetO w p f n) ∧ n < 1000 ∧ Q (.int n) H
theorem cr_lenSet : CallR X (.builtin "len") (rLenSet X.w) := by
  intro pins s σ H vs us Q I r h
  obtain ⟨p, f, n, rfl, hp, hn, q⟩ := h
  obtain ⟨o, es, ep, t, ho, hex, hd, _, _, _, _, hf, hs, _⟩ := setO_get I hp
  rw [Vals.ref1 r]
  exact call_len_set ho hex hd hf (by rw [hs]; omega) ⟨.int n, H, I.tok _, ⟨_, by rw [hs]⟩, q⟩
theorem me_lns {p p1 pos1 : Pos} {a : Expr} {ma : Env' → M D} (hc : X.calm = true) (hg : Gl X "len") (hm : X.mg "len" = none) (hg2 : Gl X "set") (hm2 : X.mg "set" = none) (ha : ME X mg E a ma) (hs : starEach [a] X.env = (false, eval a X.env) :: starEach [] X.env) :
    ME X mg E (.Call (.Name "len" p) [.Call (.Name "set" p1) [a] [] pos1] [] pos) (fun ρ => mbind (ma ρ) lnsM) :=
  (pe_callB (pos := pos) (p := p) cr_lenSet hg hm (by decide +kernel) (pa_cons (pe_callTy (pos := pos1) (p := p1) (cr_setOf hc) hg2 hm2 (by decide +kernel) (pa_cons ha pa_nil hs) (by decide) (by decide) hs rfl) pa_nil) (by decide) (by decide) rfl rfl).imp fun σ H Q h => by
    obtain ⟨as, S, ρ, sim, env, fin⟩ := h
    refine ⟨as, S, ρ, sim, env, (Fin.bind (Rl := Rep X.K) fin).imp ?_⟩
    rintro v H1 ⟨as1, S1, d, e1, sim1, r1, fin1⟩
    unfold lnsM at fin1
    cases hd : seqOf d S1 with
    | none => rw [hd] at fin1; exact fin1.elim
    | some xs =>
      rw [hd, Option.bind_some] at fin1
      obtain ⟨l, vs, rfl, hq, rr⟩ := seq_ok sim1 hd r1
      cases h : asInts xs with
      | none => rw [h] at fin1; exact fin1.elim
      | some ns =>
        rw [h] at fin1
        dsimp only at fin1
        by_cases hl : ns.length < 64
        · rw [if_pos hl] at fin1
          have i3 := asInts_eq h
          subst i3
          rw [rr.ints] at hq
          refine ⟨l, ns, rfl, hq, hl, fun q f n hf hn hc hp => ?_⟩
          refine ⟨q, f, n, rfl, upd_same, by omega, ?_⟩
          rw [hc]
          exact fin1 as1 _ _ (Ext.fixed hp) (sim1.fixed hp) rfl
        · rw [if_neg hl] at fin1; exact fin1.elim
end
end Pu

namespace Pu
open PySem PySem.Spec PyProof.Rows L2

/-! ## from the text's trees to the small language -/
structure Gi where
  fns : List (Str × Nat)
  ar : List Nat
  cst : List (Str × D)
  own : List (Nat × Nat)
  cmb : Bool
def Gi.isOwn (G : Gi) (p : Pos) : Bool := G.own.contains (p.line, p.col)
def visK (sc : Scope) (x : Str) : Bool := match sc.names.lookup x with
  | some .local => true
  | some .cell => true
  | some .free => true
  | _ => false
def glK (sc : Scope) (x : Str) : Bool := match sc.names.lookup x with
  | some .globalImplicit => true
  | _ => false
def locK (sc : Scope) (x : Str) : Bool := match sc.names.lookup x with
  | some .local => true
  | _ => false
def dbg (x : Str) : Bool := (x == ("__debug__" : Str)) || (x == ("__classdict__" : Str)) || (x == ("__name__" : Str))
def ixOf : List Str → Str → Option Nat
  | [], _ => none
  | y :: r, x => if y = x then some 0 else (ixOf r x).map (· + 1)
def relab (scope outer : Scope) : Scope :=
  { scope with names := scope.names.map fun (n, k) => if (k == .free && outer.kind == .function && outer.names.lookup n == some .cell) then (n, .cell) else (n, k) }
def mapO {α β : Type} (f : α → Option β) : List α → Option (List β)
  | [] => some []
  | a :: r => match f a, mapO f r with
    | some b, some bs => some (b :: bs)
    | _, _ => none
def tyOf (x : Str) : Option Ty :=
  if x = "int" then some .int else if x = "bool" then some .bool else if x = "str" then some .str else if x = "tuple" then some .tuple else if x = "list" then some .list else if x = "dict" then some .dict else none
def tyStr : Ty → Str
  | .int => "int" | .bool => "bool" | .str => "str" | .tuple => "tuple" | .list => "list" | .dict => "dict"
/-- a built-in function or class by its name, how many arguments it is given -/
def bltOf (x : Str) (n : Nat) (own : Bool) : Option Bi :=
  if n = 1 then
    if x = "len" then some .len else if x = "all" then some .all else if x = "any" then some .any else if x = "abs" then some .abs else if x = "int" then some .int
    else if x = "list" then some (.list own) else if x = "tuple" then some (if own then .tupleP else .tuple) else if x = "sorted" then some (.sorted own) else if x = "sum" then some .sum else if x = "min" then some .min1 else if x = "max" then some .max1 else none
  else if n = 2 then
    if x = "min" then some .min2 else if x = "max" then some .max2 else none
  else none
def mtOf (x : Str) : Option Mt := if x = "append" then some .append else if x = "extend" then some .extend else if x = "pop" then some .popAt else none
/-- what may stand ahead of a method's name -/
def attrOk : Expr → Bool
  | .Name _ _ => true
  | .Subscript _ _ _ => true
  | _ => false
/-- what may be an index -/
def ixOk : Expr → Bool
  | .Name _ _ => true
  | .Constant _ _ _ => true
  | .BinOp _ _ _ _ => true
  | .UnaryOp _ _ _ => true
  | .Call _ _ _ _ => true
  | .Subscript _ _ _ => true
  | _ => false
/-- a test that is the value's truth -/
def truOk : Expr → Bool
  | .Name _ _ => true
  | .Constant _ _ _ => true
  | .BinOp _ _ _ _ => true
  | .Call _ _ _ _ => true
  | .Subscript _ _ _ => true
  | .List _ _ => true
  | .Tuple _ _ _ => true
  | _ => false
def isTup : Expr → Bool
  | .Tuple _ _ _ => true
  | _ => false
/-- the cells that a comprehension's own scope makes -/
def celK (scope : Scope) (x : Str) : Bool := scope.names.lookup x == some .cell
def allK (_ : Str) : Bool := true
def celL (sc : Scope) (x : Str) : Bool := match sc.names.lookup x with
  | some .cell => true
  | _ => false
mutual
def trTg (N : List Str) (sc : Scope) (fk : Str → Bool) : Nat → Expr → Option Tg
  | 0, _ => none
  | n + 1, e => match e with
    | .Name x _ => match sc.names.lookup x with
      | some .local => (ixOf N x).map .nm
      | some .cell => if fk x then (ixOf N x).map .nm else none
      | _ => none
    | .Tuple es _ _ => (trTgs N sc fk n es).map .tp
    | _ => none
def trTgs (N : List Str) (sc : Scope) (fk : Str → Bool) : Nat → List Expr → Option (List Tg)
  | 0, _ => none
  | n + 1, es => match es with
    | [] => some []
    | e :: r => match trTg N sc fk n e, trTgs N sc fk n r with
      | some t, some ts => some (t :: ts)
      | _, _ => none
end
def tgNames : Nat → Expr → List Str
  | 0, _ => []
  | n + 1, e => match e with
    | .Name x _ => [x]
    | .Tuple es _ _ => (es.map (tgNames n)).flatten
    | _ => []
mutual
def tgSlots : Tg → List Nat
  | .nm i => [i]
  | .tp ts => tgsSlots ts
def tgsSlots : List Tg → List Nat
  | [] => []
  | t :: ts => tgSlots t ++ tgsSlots ts
end
def ownOf (N : List Str) (scope : Scope) : List (Str × Nat) := scope.names.filterMap fun (x, k) => if (k == .local || k == .cell) then (ixOf N x).map fun i => (x, i) else none
section
variable (G : Gi) (N : List Str)
/-- range(a), the built-in one -/
def rngOne (sc : Scope) : Expr → Option Expr
  | .Call (.Name r _) [a] [] _ => if r = "range" && glK sc r && !(G.fns.lookup r).isSome then some a else none
  | _ => none
mutual
def trE : Nat → Scope → Expr → Option X'
  | 0, _, _ => none
  | n + 1, sc, e => match e with
    | .Name x _ => if dbg x then none else if visK sc x then (ixOf N x).map .var else if glK sc x then (G.cst.lookup x).map .cst else none
    | .Constant c _ _ => match c with
      | .none => some (.cst .non)
      | .bool b => some (.cst (.bl b))
      | .int i => some (.cst (.int i))
      | .str s => some (.cst (.str s))
      | _ => none
    | .BinOp a op b pos => match trE n sc a, trE n sc b with
      | some x, some y => match op with
        | .Add => some (.cat (G.isOwn pos) x y)
        | .Mult => some (.rep (G.isOwn pos) x y)
        | .Sub => some (.bin .Sub x y)
        | .Mod => some (.bin .Mod x y)
        | .FloorDiv => some (.bin .FloorDiv x y)
        | .Pow => some (.bin .Pow x y)
        | _ => none
      | _, _ => none
    | .UnaryOp op a _ => match op with
      | .USub => (trE n sc a).map .neg
      | .Not => (trE n sc a).map .not
      | _ => none
    | .BoolOp op vs pos => match vs with
      | [] => none
      | [a] => trE n sc a
      | a :: b :: r => match trE n sc a, trE n sc (.BoolOp op (b :: r) pos) with
        | some x, some y => match op with
          | .And => some (.and x y)
          | .Or => some (.or x y)
        | _, _ => none
    | .Compare a ops cs _ => match ops, cs with
      | [op], [b] => if behindInMarks op b then none else match trE n sc a, trE n sc b with
        | some x, some y => some (.cmp op x y)
        | _, _ => none
      | [o1, o2], [b, c] => if lastMarks [o1, o2] [b, c] then none else match trE n sc a, trE n sc b, trE n sc c with
        | some x, some y, some z => some (.chn o1 o2 x y z)
        | _, _, _ => none
      | _, _ => none
    | .IfExp t a b _ => match trT n sc t, trE n sc a, trE n sc b with
      | some t, some x, some y => some (.ife t x y)
      | _, _, _ => none
    | .Tuple es _ _ => (trEs n sc es).map .tup
    | .List es pos => (trEs n sc es).map (.lst (G.isOwn pos))
    | .Call f args kws pos => match f, kws with
      | .Name x _, [] => if dbg x || !glK sc x then none else match G.fns.lookup x with
        | some i => match args with
          | [] => none
          | e :: es => if G.ar[i]? = some (e :: es).length then (trEs n sc (e :: es)).map (.call i) else none
        | none => match args with
          | [a, .Name y _] => if x = "isinstance" then
              if dbg y || !glK sc y || (G.fns.lookup y).isSome then none else match tyOf y, trE n sc a with
                | some t, some u => some (.isi u t)
                | _, _ => none
            else match bltOf x 2 (G.isOwn pos) with
              | some b => (trEs n sc args).map (.blt b)
              | none => none
          | [.Call (.Name r _) [a] [] _] => if x = "list" && r = "range" && glK sc r && !(G.fns.lookup r).isSome then (trE n sc a).map (.lrng (G.isOwn pos))
            else if x = "tuple" && r = "range" && glK sc r && !(G.fns.lookup r).isSome then (trE n sc a).map .trng
            else if x = "sorted" && r = "set" && glK sc r && !(G.fns.lookup r).isSome then (trE n sc a).map (.sst (G.isOwn pos))
            else if x = "len" && r = "set" && glK sc r && !(G.fns.lookup r).isSome then (trE n sc a).map .lns
            else match bltOf x 1 (G.isOwn pos) with
              | some b => (trEs n sc args).map (.blt b)
              | none => none
          | [.Call (.Name r _) [a, b] [] _] => if x = "list" && r = "range" && glK sc r && !(G.fns.lookup r).isSome then (match trE n sc a, trE n sc b with
              | some u, some w => some (.rgl false (G.isOwn pos) u w)
              | _, _ => none)
            else if x = "tuple" && r = "range" && glK sc r && !(G.fns.lookup r).isSome then (match trE n sc a, trE n sc b with
              | some u, some w => some (.rgl true false u w)
              | _, _ => none)
            else if x = "list" && r = "combinations" && glK sc r && G.cmb then (match rngOne G sc a with
              | some a' => (match trE n sc a', trE n sc b with
                | some u, some w => some (.cmr (G.isOwn pos) u w)
                | _, _ => none)
              | none => (match trE n sc a, trE n sc b with
                | some u, some w => some (.cmb (G.isOwn pos) u w)
                | _, _ => none))
            else match bltOf x 1 (G.isOwn pos) with
              | some b => (trEs n sc args).map (.blt b)
              | none => none
          | [.SetComp elt [⟨tg, iter, [], asy⟩, ⟨tg1, iter1, [], asy1⟩] scope _] => if asy = 0 && asy1 = 0 && x = "sorted" && blkC N sc scope (ownOf N scope) then
              match trI n sc tg iter, trTg N (relab scope sc) (celK scope) n tg, trI n (relab scope sc) tg1 iter1, trTg N (relab scope sc) (celK scope) n tg1, trE n (relab scope sc) elt with
              | some it, some t, some it1, some t1, some u => if tgIn ((ownOf N scope).map (·.2)) t && tgIn (tgSlots t1) t1 && (tgSlots t1).all (((ownOf N scope).map (·.2)).contains ·) then
                  some (.ssc (G.isOwn pos) u t it t1 it1 ((ownOf N scope).map (·.2)) (tgSlots t1))
                else none
              | _, _, _, _, _ => none
            else none
          | [] => none
          | _ => match bltOf x args.length (G.isOwn pos) with
            | some b => (trEs n sc args).map (.blt b)
            | none => none
      | .Attribute o m apos, [] => match args with
        | [a] => if attrOk o && (apos.endLine == pos.line) then if m = "index" then match trE n sc o, trE n sc a with
              | some x, some y => if G.isOwn pos then some (.lix x y) else some (.tix x y)
              | _, _ => none
            else match mtOf m, trE n sc o, trEs n sc [a] with
            | some t, some x, some ys => some (.mth t x ys)
            | _, _, _ => none
          else none
        | _ => none
      | _, _ => none
    | .Subscript a sl pos => match sl with
      | .Slice lo hi st _ => match lo, hi, st with
        | none, none, some (.UnaryOp .USub (.Constant (.int 1) _ _) _) => (trE n sc a).map (.rev (G.isOwn pos))
        | lo, hi, none => match trE n sc a, trP n sc lo, trP n sc hi with
          | some x, some l, some h => some (.slc (G.isOwn pos) x l h)
          | _, _, _ => none
        | _, _, _ => none
      | b => if ixOk b then match trE n sc a, trE n sc b with
          | some x, some y => some (.idx x y)
          | _, _ => none
        else none
    | .ListComp elt gens scope pos => match gens with
      | [⟨tg, iter, ifs, asy⟩] => if asy = 0 && blkC N sc scope (ownOf N scope) then
          match trI n sc tg iter, trTg N (relab scope sc) (celK scope) n tg, trE n (relab scope sc) elt with
          | some it, some t, some x => if tgIn ((ownOf N scope).map (·.2)) t then match ifs with
              | [] => some (.lc (G.isOwn pos) x t it [] ((ownOf N scope).map (·.2)))
              | [c] => match trT n (relab scope sc) c with
                | some c => some (.lc (G.isOwn pos) x t it [c] ((ownOf N scope).map (·.2)))
                | none => none
              | _ => none
            else none
          | _, _, _ => none
        else none
      | [⟨tg, iter, ifs, asy⟩, ⟨tg1, iter1, ifs1, asy1⟩] => if asy = 0 && asy1 = 0 && blkC N sc scope (ownOf N scope) then
          match trI n sc tg iter, trTg N (relab scope sc) (celK scope) n tg, trTs n (relab scope sc) ifs, trI n (relab scope sc) tg1 iter1, trTg N (relab scope sc) (celK scope) n tg1, trTs n (relab scope sc) ifs1, trE n (relab scope sc) elt with
          | some it, some t, some cs, some it1, some t1, some cs1, some x => if tgIn ((ownOf N scope).map (·.2)) t && tgIn (tgSlots t1) t1 && (tgSlots t1).all (((ownOf N scope).map (·.2)).contains ·) then
              some (.lc2 (G.isOwn pos) x t it cs t1 it1 cs1 ((ownOf N scope).map (·.2)) (tgSlots t1))
            else none
          | _, _, _, _, _, _, _ => none
        else none
      | _ => none
    | _ => none
def trTs : Nat → Scope → List Expr → Option (List T')
  | 0, _, _ => none
  | n + 1, sc, es => match es with
    | [] => some []
    | [c] => match trT n sc c with
      | some c => some [c]
      | none => none
    | _ => none
def trEs : Nat → Scope → List Expr → Option (List X')
  | 0, _, _ => none
  | n + 1, sc, es => match es with
    | [] => some []
    | e :: r => match trE n sc e, trEs n sc r with
      | some x, some xs => some (x :: xs)
      | _, _ => none
def trP : Nat → Scope → Option Expr → Option P'
  | 0, _, _ => none
  | n + 1, sc, o => match o with
    | none => some .no
    | some e => (trE n sc e).map .ex
def trT : Nat → Scope → Expr → Option T'
  | 0, _, _ => none
  | n + 1, sc, e => match e with
    | .UnaryOp .Not a _ => (trT n sc a).map .not
    | .BoolOp op vs pos => match vs with
      | [] => none
      | [a] => trT n sc a
      | a :: b :: r => match trT n sc a, trT n sc (.BoolOp op (b :: r) pos) with
        | some x, some y => match op with
          | .And => some (.and x y)
          | .Or => some (.or x y)
        | _, _ => none
    | .Compare _ _ _ _ => (trE n sc e).map .bv
    | e => if truOk e then (trE n sc e).map .val else none
def trI : Nat → Scope → Expr → Expr → Option I'
  | 0, _, _, _ => none
  | n + 1, sc, tg, e => match e with
    | .Call (.Name x p) args [] pos => if x = "range" then
        if dbg x || !glK sc x || (G.fns.lookup x).isSome then none else match args with
        | [a] => (trE n sc a).map .rng
        | [a, b] => match trE n sc a, trE n sc b with
          | some x, some y => some (.rng2 x y)
          | _, _ => none
        | _ => none
      else if x = "zip" then
        if dbg x || !glK sc x || (G.fns.lookup x).isSome || !isTup tg then none else match args with
        | [a, b] => match trE n sc a, trE n sc b with
          | some x, some y => some (.zip x y)
          | _, _ => none
        | _ => none
      else if x = "enumerate" then
        if dbg x || !glK sc x || (G.fns.lookup x).isSome || !isTup tg then none else match args with
        | [a] => (trE n sc a).map .enm
        | _ => none
      else (trE n sc (.Call (.Name x p) args [] pos)).map .seq
    | e => (trE n sc e).map .seq
end
mutual
def trS : Nat → Scope → Stmt → Option S'
  | 0, _, _ => none
  | n + 1, sc, st => match st with
    | .Assign tgs e pos => match tgs with
      | [.Name x p] => match trTg N sc allK n (.Name x p), trE G N n sc e with
        | some (.nm i), some y => match e with
          | .ListComp _ _ scope cpos => if locK sc x && (p.line == cpos.line) && !(scope.names.any fun (m, k) => m == x && (k == .local || k == .cell)) then some (.set i y) else if celL sc x then some (.set i y) else none
          | .SetComp _ _ _ _ => none
          | .DictComp _ _ _ _ _ => none
          | _ => some (.set i y)
        | _, _ => none
      | [.Tuple es k p] => match e with
        | .Name _ _ => match trTg N sc allK n (.Tuple es k p), trE G N n sc e with
          | some t, some y => some (.asg t y)
          | _, _ => none
        | .Call _ _ _ _ => match trTg N sc allK n (.Tuple es k p), trE G N n sc e with
          | some t, some y => some (.asg t y)
          | _, _ => none
        | .Subscript _ _ _ => match trTg N sc allK n (.Tuple es k p), trE G N n sc e with
          | some t, some y => some (.asg t y)
          | _, _ => none
        | _ => none
      | [.Subscript o i p] => match e with
        | .ListComp _ _ _ _ => none
        | _ => match trE G N n sc e, trE G N n sc o, trE G N n sc i with
          | some y, some r, some k => if ixOk i then some (.sto r k y) else none
          | _, _, _ => none
      | _ => none
    | .Expr e _ => match e with
      | .Call f as ks p => (trE G N n sc (.Call f as ks p)).map .expr
      | _ => none
    | .Return (some e) _ => (trE G N n sc e).map .ret
    | .If t a b _ => match trT G N n sc t, trSs n sc a, trSs n sc b with
      | some t, some a, some b => some (.ife t a b)
      | _, _, _ => none
    | .For tg it body orelse _ => match orelse with
      | [] => match trTg N sc allK n tg, trI G N n sc tg it, trSs n sc body with
        | some t, some i, some b => some (.frr t i b)
        | _, _, _ => none
      | _ => none
    | .While t body orelse _ => match orelse with
      | [] => match trT G N n sc t, trSs n sc body with
        | some t, some b => some (.whl t b)
        | _, _ => none
      | _ => none
    | .Break _ => some .brk
    | .Continue _ => some .cnt
    | .Pass _ => some .pass
    | .Raise _ _ _ => some .nev
    | _ => none
def trSs : Nat → Scope → List Stmt → Option (List S')
  | 0, _, _ => none
  | n + 1, sc, l => match l with
    | [] => some []
    | s :: r => match trS n sc s, trSs n sc r with
      | some x, some xs => some (x :: xs)
      | _, _ => none
end
end
end Pu

namespace Pu
open PySem PySem.Spec PyProof.Rows L2

def bltNames : List Str := ["len", "all", "any", "abs", "int", "list", "tuple", "sorted", "sum", "min", "max", "isinstance", "bool", "str", "dict", "range", "zip", "enumerate", "set"]
structure Good (CX : CXT) (G : Gi) (N : List Str) (F : Nat → List D → M D) (E : XK) (k : Nat) (cl : Bool) (sc : Scope) (X : Cx) : Prop where
  hN : X.N = N
  nd : N.Nodup
  hsc : X.env.scope = sc
  calm : X.calm = true
  room : Room k X.A
  pas : Passes CX X E
  own : PassesOwn (model X.prog X.w) X.A X.env X.xe
  fn : cl = true → ∀ x, X.fn x = true
  kind : cl = true → sc.kind = .function
  fns : ∀ x i, G.fns.lookup x = some i → ∃ f fd ps n, X.mg x = some (.ref f) ∧ PySem.W.keepIn X.K (.ref f) = true ∧ Binds X.K fd ps [] ∧ FnOk X.prog X.w X.K X.mg X.base CX k f fd ps (spM X.K X.mg n (F i)) ∧ G.ar[i]? = some n
  blt : ∀ x, x ∈ bltNames → G.fns.lookup x = none → X.mg x = none
  cst : ∀ x d, G.cst.lookup x = some d → ∃ v u, X.mg x = some u ∧ RelV v u ∧ ∀ as H, Rep X.K as H d v
  hE0 : ∀ l H s e s', CX l H s E0 e s' → False
  cmb : G.cmb = true → X.mg "combinations" = some (.type "itertools.combinations")
section
variable {CX : CXT} {G : Gi} {N : List Str} {F : Nat → List D → M D} {E : XK} {k : Nat} {cl : Bool} {sc : Scope} {X : Cx} {fk : Str → Bool}
theorem Good.blk (g : Good CX G N F E k cl sc X) (scope : Scope) (s : Shared) (H : Hp) (C : Addr) (cls : List (Str × Addr)) (fp : List Addr) :
    Good CX G N F E0 k false (relab scope sc) (X.blk s H scope (compEnvC scope cls C X.env) fp) where
  hN := g.hN
  nd := g.nd
  hsc := by
    have := g.hsc
    subst this
    rfl
  calm := g.calm
  room := g.room
  pas := fun pins σ H s e s' _ h => (g.hE0 _ _ _ _ _ h).elim
  own := PassesOwn.never
  fn := fun h => by cases h
  kind := fun h => by cases h
  fns := g.fns
  blt := g.blt
  cst := g.cst
  hE0 := g.hE0
  cmb := g.cmb
theorem ixOf_ok : ∀ {N : List Str} {x : Str} {i : Nat}, ixOf N x = some i → N[i]? = some x
  | [], _, _, h => by cases h
  | y :: r, x, i, h => by
    unfold ixOf at h
    by_cases e : y = x
    · rw [if_pos e] at h; cases h; subst e; rfl
    · rw [if_neg e] at h
      cases q : ixOf r x with
      | none => rw [q] at h; cases h
      | some j =>
      rw [q] at h; cases h
      simpa using ixOf_ok q
theorem vis_ok {sc : Scope} {x : Str} (h : visK sc x = true) : Vis sc x := by
  unfold visK at h
  split at h
  · exact .inl (by assumption)
  · exact .inr (.inl (by assumption))
  · exact .inr (.inr (by assumption))
  · cases h
theorem gl_ok (g : Good CX G N F E k cl sc X) {x : Str} (h : glK sc x = true) : Gl X x := by
  unfold glK at h
  split at h
  · have := g.hsc
    show X.env.scope.names.lookup x = some .globalImplicit
    rw [this]; assumption
  · cases h
theorem dbg_ok {x : Str} (h : dbg x = false) : (x == ("__debug__" : Str)) = false ∧ (x == ("__classdict__" : Str)) = false ∧ x ≠ "__name__" := by
  unfold dbg at h
  rw [Bool.or_eq_false_iff, Bool.or_eq_false_iff] at h
  exact ⟨h.1.1, h.1.2, fun e => by rw [e] at h; exact absurd h.2 (by decide)⟩
theorem notStar {n : Nat} {e : Expr} {p : X'} (h : trE G N n sc e = some p) (r : List Expr) (env : Env) : starEach (e :: r) env = (false, eval e env) :: starEach r env := by
  cases n with
  | zero => simp only [trE] at h; cases h
  | succ n => cases e <;> first | rfl | (simp only [trE] at h; cases h)
theorem notStars : ∀ {n : Nat} {es : List Expr} {ps : List X'}, trEs G N n sc es = some ps → ∀ (pos : Pos) (env : Env), (backTo pos (starEach es env)).any (·.1) = false
  | 0, _, _, h => by simp only [trEs] at h; cases h
  | n + 1, [], ps, h => fun _ _ => rfl
  | n + 1, e :: r, ps, h => fun pos env => by
    simp only [trEs] at h
    split at h
    · rename_i x xs h1 h2
      rw [notStar h1]
      show ((backTo pos (starEach r env)).any (·.1)) = false
      exact notStars h2 pos env
    · cases h
theorem evEs_len : ∀ (ps : List X') (ρ : Env') (S S' : Sto) (ds : List D), evEs F ps ρ S = .ok ds S' → ds.length = ps.length
  | [], ρ, S, S', ds, h => by
    simp only [evEs, mret] at h; cases h; rfl
  | p :: ps, ρ, S, S', ds, h => by
    cases h1 : evE F p ρ S with
    | bad => simp only [evEs, mbind, h1, R.bind] at h; cases h
    | exc c fs S1 => simp only [evEs, mbind, h1, R.bind] at h; cases h
    | ok d S1 =>
      cases h2 : evEs F ps ρ S1 with
      | bad => simp only [evEs, mbind, h1, R.bind, h2] at h; cases h
      | exc c fs S2 => simp only [evEs, mbind, h1, R.bind, h2] at h; cases h
      | ok ds' S2 =>
        simp only [evEs, mbind, h1, R.bind, h2, mret] at h
        cases h
        simp [evEs_len ps ρ _ _ ds' h2]
theorem trEs_len : ∀ {n : Nat} {es : List Expr} {ps : List X'}, trEs G N n sc es = some ps → ps.length = es.length
  | 0, _, _, h => by simp only [trEs] at h; cases h
  | n + 1, [], ps, h => by simp only [trEs] at h; cases h; rfl
  | n + 1, e :: r, ps, h => by
    simp only [trEs] at h
    split at h
    · rename_i x xs h1 h2
      cases h
      simp [trEs_len h2]
    · cases h
theorem noFold {n : Nat} {e : Expr} {p : X'} (h : trE G N n sc e = some p) (env : Env) (x : Value) : foldedSetIterable e env x = pure x := by
  cases n with
  | zero => simp only [trE] at h; cases h
  | succ n => cases e <;> first | rfl | (simp only [trE] at h; cases h)
theorem asg_one {n : Nat} {e : Expr} {t : Tg} (h : trTg N sc fk n e = some t) (r : List Expr) (env : Env) : assignEach (e :: r) env = (false, assign e env) :: assignEach r env := by
  cases n with
  | zero => simp only [trTg] at h; cases h
  | succ n => cases e <;> first | rfl | (simp only [trTg] at h; cases h)
theorem asg_each : ∀ {n : Nat} {es : List Expr} {ts : List Tg}, trTgs N sc fk n es = some ts → ∀ env : Env, (assignEach es env).length = es.length ∧ (assignEach es env).findIdx? (·.1) = none
  | 0, _, _, h => by simp only [trTgs] at h; cases h
  | n + 1, [], ts, h => fun _ => ⟨rfl, rfl⟩
  | n + 1, e :: r, ts, h => fun env => by
    simp only [trTgs] at h
    split at h
    · rename_i t ts' h1 h2
      obtain ⟨h3, h4⟩ := asg_each h2 env
      rw [asg_one h1]
      refine ⟨by simp [h3], ?_⟩
      rw [List.findIdx?_cons, h4]
      rfl
    · cases h
theorem tg_ok : ∀ (n : Nat), (∀ (tg : Expr) (t : Tg), Good CX G N F E k cl sc X → (∀ x, fk x = true → X.fn x = true) → trTg N sc fk n tg = some t → PG X tg (gM X.K t)) ∧ (∀ (tgs : List Expr) (ts : List Tg), Good CX G N F E k cl sc X → (∀ x, fk x = true → X.fn x = true) → trTgs N sc fk n tgs = some ts → PGs X tgs (gsM X.K ts) ∧ tgs.length = ts.length)
  | 0 => ⟨fun _ _ _ _ h => (by simp only [trTg] at h; cases h), fun _ _ _ _ h => (by simp only [trTgs] at h; cases h)⟩
  | n + 1 => by
    obtain ⟨ih1, ih2⟩ := tg_ok n
    refine ⟨fun tg t g hfk h => ?_, fun tgs ts g hfk h => ?_⟩
    · have hn : X.N.Nodup := by rw [g.hN]; exact g.nd
      cases tg with
      | Tuple es kk pos =>
        simp only [trTg] at h
        cases q : trTgs N sc fk n es with
        | none => rw [q] at h; cases h
        | some ts =>
          rw [q] at h; cases h
          obtain ⟨h1, h2⟩ := ih2 es ts g hfk q
          obtain ⟨h3, h4⟩ := asg_each q X.env
          exact PG_tup_ok (pg_tup g.calm h1 h3 h4) h2
      | Name x pos =>
        simp only [trTg] at h
        split at h
        · rename_i hl
          cases q : ixOf N x with
          | none => rw [q] at h; cases h
          | some i =>
            rw [q] at h; cases h
            exact mg_nm hn (by rw [g.hN]; exact ixOf_ok q) (.inl (by rw [g.hsc]; exact hl)) (.inr (by rw [g.hsc]; exact hl))
        · rename_i hl
          split at h
          · rename_i hc
            cases q : ixOf N x with
            | none => rw [q] at h; cases h
            | some i =>
              rw [q] at h; cases h
              exact mg_nm hn (by rw [g.hN]; exact ixOf_ok q) (.inr (by rw [g.hsc]; exact hl)) (.inl (hfk x hc))
          · cases h
        · cases h
      | _ => simp only [trTg] at h; cases h
    · cases tgs with
      | nil => simp only [trTgs] at h; cases h; exact ⟨mgs_nil, rfl⟩
      | cons e r =>
        simp only [trTgs] at h
        split at h
        · rename_i t ts' h1 h2
          cases h
          obtain ⟨h3, h4⟩ := ih2 r ts' g hfk h2
          have h5 := ih1 e t g hfk h1
          have h6 : (assignEach (e :: r) X.env).map (·.2) = assign e X.env :: (assignEach r X.env).map (·.2) := by rw [asg_one h1]; rfl
          exact ⟨PGs_cons_ok h5 h3 (pgs_cons h5 h3 h6), by simp [h4]⟩
        · cases h
end
end Pu

namespace Pu
open PySem PySem.Spec PyProof.Rows L2

def BltOk (x : Str) (b : Bi) : Prop := x ∈ bltNames ∧
  ((∃ id, bootBuiltins x = some (.builtin id) ∧ ∀ (X : Cx) (mg : Str → Option Value) (E : XK), X.calm = true → X.A.units + 65 < cLine → CallR X (.builtin id) (rDs X.K mg E (bltM b))) ∨
   (∃ T, bootBuiltins x = some (.type T) ∧ ∀ (X : Cx) (mg : Str → Option Value) (E : XK), X.calm = true → X.A.units + 65 < cLine → CallR X (.type T) (rDs X.K mg E (bltM b))))
theorem blt_ok {x : Str} {n : Nat} {own : Bool} {b : Bi} (h : bltOf x n own = some b) : BltOk x b := by
  unfold bltOf at h
  split at h
  · split at h
    · rename_i e; subst e; cases h; exact ⟨by decide +kernel, .inl ⟨"len", by decide +kernel, fun X mg E c hu => cr_len'⟩⟩
    · split at h
      · rename_i e; subst e; cases h; exact ⟨by decide +kernel, .inl ⟨"all", by decide +kernel, fun X mg E c hu => cr_all' c⟩⟩
      · split at h
        · rename_i e; subst e; cases h; exact ⟨by decide +kernel, .inl ⟨"any", by decide +kernel, fun X mg E c hu => cr_any' c⟩⟩
        · split at h
          · rename_i e; subst e; cases h; exact ⟨by decide +kernel, .inl ⟨"abs", by decide +kernel, fun X mg E c hu => cr_abs'⟩⟩
          · split at h
            · rename_i e; subst e; cases h; exact ⟨by decide +kernel, .inr ⟨"int", by decide +kernel, fun X mg E c hu => cr_int'⟩⟩
            · split at h
              · rename_i e; subst e; cases h; exact ⟨by decide +kernel, .inr ⟨"list", by decide +kernel, fun X mg E c hu => cr_list' own⟩⟩
              · split at h
                · rename_i e; subst e; cases h; refine ⟨by decide +kernel, .inr ⟨"tuple", by decide +kernel, fun X mg E c hu => ?_⟩⟩; cases own with
                  | true => exact cr_tupleP'
                  | false => exact cr_tuple'
                · split at h
                  · rename_i e; subst e; cases h; exact ⟨by decide +kernel, .inl ⟨"sorted", by decide +kernel, fun X mg E c hu => cr_sorted' hu own⟩⟩
                  · split at h
                    · rename_i e; subst e; cases h; exact ⟨by decide +kernel, .inl ⟨"sum", by decide +kernel, fun X mg E c hu => cr_sum' c⟩⟩
                    · split at h
                      · rename_i e; subst e; cases h; exact ⟨by decide +kernel, .inl ⟨"min", by decide +kernel, fun X mg E c hu => cr_min1' hu c⟩⟩
                      · split at h
                        · rename_i e; subst e; cases h; exact ⟨by decide +kernel, .inl ⟨"max", by decide +kernel, fun X mg E c hu => cr_max1' c⟩⟩
                        · cases h
  · split at h
    · split at h
      · rename_i e; subst e; cases h; exact ⟨by decide +kernel, .inl ⟨"min", by decide +kernel, fun X mg E c hu => cr_min2' c⟩⟩
      · split at h
        · rename_i e; subst e; cases h; exact ⟨by decide +kernel, .inl ⟨"max", by decide +kernel, fun X mg E c hu => cr_max2' c⟩⟩
        · cases h
    · cases h
theorem ty_ok {y : Str} {t : Ty} (h : tyOf y = some t) : y ∈ bltNames ∧ bootBuiltins y = some (.type (tyName t)) := by
  unfold tyOf at h
  split at h
  · rename_i e; subst e; cases h; exact ⟨by decide +kernel, by decide +kernel⟩
  · split at h
    · rename_i e; subst e; cases h; exact ⟨by decide +kernel, by decide +kernel⟩
    · split at h
      · rename_i e; subst e; cases h; exact ⟨by decide +kernel, by decide +kernel⟩
      · split at h
        · rename_i e; subst e; cases h; exact ⟨by decide +kernel, by decide +kernel⟩
        · split at h
          · rename_i e; subst e; cases h; exact ⟨by decide +kernel, by decide +kernel⟩
          · split at h
            · rename_i e; subst e; cases h; exact ⟨by decide +kernel, by decide +kernel⟩
            · cases h
theorem ix_plain {b : Expr} (h : ixOk b = true) : PlainIx b := by
  cases b <;> first | (simp only [ixOk] at h; cases h; done) | exact fun _ _ => rfl
theorem tru_plain {a : Expr} (h : truOk a = true) (env : Env) : ∀ whole, isTrue a env whole = (do let v ← whole; standAt a.pos; holding [v] (truthy v)) := by
  cases a <;> first | (simp only [truOk] at h; cases h; done) | exact fun _ => rfl
theorem rngOne_ok {G : Gi} {sc : Scope} {e a : Expr} (h : rngOne G sc e = some a) : ∃ p pos, e = .Call (.Name "range" p) [a] [] pos ∧ glK sc "range" = true ∧ G.fns.lookup ("range" : Str) = none := by
  unfold rngOne at h
  split at h
  · rename_i r p a' pos
    by_cases hc : (r = "range" && glK sc r && !(G.fns.lookup r).isSome) = true
    · rw [if_pos hc] at h
      cases h
      rw [Bool.and_eq_true, Bool.and_eq_true] at hc
      obtain ⟨⟨c1, c2⟩, c3⟩ := hc
      have c1 := of_decide_eq_true c1
      subst c1
      exact ⟨_, _, rfl, c2, by simpa using c3⟩
    · rw [if_neg hc] at h; cases h
  · cases h
theorem attr_plain {o : Expr} (h : attrOk o = true) (m : Str) (env : Env) : attributeBase o m env (eval o env) = eval o env := by
  cases o <;> first | (simp only [attrOk] at h; cases h; done) | rfl
section
variable {CX : CXT} {G : Gi} {N : List Str} {F : Nat → List D → M D} {k : Nat}
structure TrOk (CX : CXT) (G : Gi) (N : List Str) (F : Nat → List D → M D) (k n : Nat) : Prop where
  e : ∀ sc cl E X, Good CX G N F E k cl sc X → ∀ e p, trE G N n sc e = some p → ME X X.mg E e (evE F p)
  es : ∀ sc cl E X, Good CX G N F E k cl sc X → ∀ es ps, trEs G N n sc es = some ps → MA X X.mg E es (evEs F ps)
  p : ∀ sc cl E X, Good CX G N F E k cl sc X → ∀ o p, trP G N n sc o = some p → MO X X.mg E o (evP F p)
  t : ∀ sc cl E X, Good CX G N F E k cl sc X → ∀ e p, trT G N n sc e = some p → MT X X.mg E e (evT F p)
  w : ∀ sc cl E X, Good CX G N F E k cl sc X → ∀ op vs pos p, trT G N n sc (.BoolOp op vs pos) = some p → MW X X.mg E (.BoolOp op vs pos) (evT F p)
  i : ∀ sc cl E X, Good CX G N F E k cl sc X → ∀ tg e p, trI G N n sc tg e = some p → MI X X.mg E tg e (evI F p)
  ts : ∀ sc cl E X, Good CX G N F E k cl sc X → ∀ es ps, trTs G N n sc es = some ps → PTs X es (tB' X.K X.mg E (evTs F ps))
theorem noFoldI {n : Nat} {sc : Scope} {tg e : Expr} {p : I'} (h1 : trI G N n sc tg e = some p) (env : Env) (y : Value) : foldedSetIterable e env y = pure y := by
  cases n with
  | zero => simp only [trI] at h1; cases h1
  | succ n => cases e <;> first | rfl | (simp only [trI] at h1; cases n <;> (simp only [trE] at h1; cases h1))
theorem units_ok {A : Around} {k : Nat} (r : Room k A) : A.units + 65 < cLine := by have := r.un; omega
theorem tr_call {n : Nat} (ih : TrOk CX G N F k n) {sc : Scope} {cl : Bool} {E : XK} {X : Cx} (g : Good CX G N F E k cl sc X) {x : Str} {p pos : Pos} {args : List Expr} {b : Bi} {xs : List X'} (hd : dbg x = false) (hgl : glK sc x = true) (hf : G.fns.lookup x = none)
    (hb : BltOk x b) (ht : trEs G N n sc args = some xs) (hne : args ≠ []) : ME X X.mg E (.Call (.Name x p) args [] pos) (evE F (.blt b xs)) := by
  obtain ⟨hm, h⟩ := hb
  obtain ⟨d1, d2, d3⟩ := dbg_ok hd
  cases args with
  | nil => exact absurd rfl hne
  | cons e es =>
    cases n with
    | zero => simp only [trEs] at ht; cases ht
    | succ n =>
      have ht0 := ht
      simp only [trEs] at ht
      split at ht
      · rename_i y ys h1 h2
        cases ht
        have ha := ih.es sc cl E X g _ _ ht0
        rcases h with ⟨id, hv, hc⟩ | ⟨T, hv, hc⟩
        · exact me_callB (hc X X.mg E g.calm (units_ok g.room)) (gl_ok g hgl) (g.blt x hm hf) hv ha d3 d1 (notStar h1 _ _) (notStars h2 _ _)
        · exact me_callT (hc X X.mg E g.calm (units_ok g.room)) (gl_ok g hgl) (g.blt x hm hf) hv ha d3 d1 (notStar h1 _ _) (notStars h2 _ _)
      · cases ht
theorem tr_ok (CX : CXT) (G : Gi) (N : List Str) (F : Nat → List D → M D) (k : Nat) : ∀ n, TrOk CX G N F k n
  | 0 => ⟨fun _ _ _ _ _ _ _ h => (by simp only [trE] at h; cases h), fun _ _ _ _ _ _ _ h => (by simp only [trEs] at h; cases h), fun _ _ _ _ _ _ _ h => (by simp only [trP] at h; cases h),
      fun _ _ _ _ _ _ _ h => (by simp only [trT] at h; cases h), fun _ _ _ _ _ _ _ _ _ h => (by simp only [trT] at h; cases h), fun _ _ _ _ _ _ _ _ h => (by simp only [trI] at h; cases h), fun _ _ _ _ _ _ _ h => (by simp only [trTs] at h; cases h)⟩
  | n + 1 => by
    have ih := tr_ok CX G N F k n
    have hw : ∀ sc cl E X, Good CX G N F E k cl sc X → ∀ op vs pos p, trT G N (n + 1) sc (.BoolOp op vs pos) = some p → MW X X.mg E (.BoolOp op vs pos) (evT F p) := by
      intro sc cl E X g op vs pos p h
      cases vs with
      | nil => simp only [trT] at h; cases h
      | cons a r =>
        cases r with
        | nil =>
          simp only [trT] at h
          have ha := ih.t sc cl E X g a p h
          cases op with
          | And => exact pw_and1 ha
          | Or => exact pw_or1 ha
        | cons b r =>
          simp only [trT] at h
          split at h
          · rename_i x y h1 h2
            have ha := ih.t sc cl E X g a x h1
            have hb := ih.w sc cl E X g op (b :: r) pos y h2
            cases op with
            | And => cases h; exact mw_and ha hb
            | Or => cases h; exact mw_or ha hb
          · cases h
    refine ⟨?_, ?_, ?_, ?_, hw, ?_, ?_⟩
    · -- expressions
      intro sc cl E X g e p h
      have hu := units_ok g.room
      cases e with
      | Name x pos =>
        simp only [trE] at h
        split at h
        · cases h
        · rename_i hd
          obtain ⟨d1, d2, d3⟩ := dbg_ok (Bool.eq_false_iff.mpr hd)
          split at h
          · rename_i hv
            cases q : ixOf N x with
            | none => rw [q] at h; cases h
            | some i =>
              rw [q] at h; cases h
              exact me_var (by rw [g.hN]; exact ixOf_ok q) (by rw [g.hsc]; exact vis_ok hv) d1 d2
          · split at h
            · rename_i hgl
              cases q : G.cst.lookup x with
              | none => rw [q] at h; cases h
              | some d =>
                rw [q] at h; cases h
                obtain ⟨v, u, h1, h2, h3⟩ := g.cst x d q
                exact me_glob (gl_ok g hgl) h1 h2 h3 d1
            · cases h
      | Constant c kk pos =>
        cases c <;> simp only [trE] at h <;> first | (cases h; done) | skip
        · cases h; exact me_non
        · cases h; exact me_bl
        · cases h; exact me_int
        · cases h; exact me_str
      | BinOp a op b pos =>
        simp only [trE] at h
        split at h
        · rename_i x y h1 h2
          have ha := ih.e sc cl E X g a x h1
          have hb := ih.e sc cl E X g b y h2
          cases op <;> simp only at h <;> first | (cases h; done) | skip
          · cases h; exact me_op (or_cat _) ha hb
          · cases h; exact me_op or_sub ha hb
          · cases h; exact me_op (or_rep _) ha hb
          · cases h; exact me_op or_mod ha hb
          · cases h; exact me_op or_pow ha hb
          · cases h; exact me_op or_fdiv ha hb
        · cases h
      | UnaryOp op a pos =>
        cases op <;> simp only [trE] at h <;> first | (cases h; done) | skip
        · cases q : trE G N n sc a with
          | none => rw [q] at h; cases h
          | some x => rw [q] at h; cases h; exact me_not (ih.e sc cl E X g a x q)
        · cases q : trE G N n sc a with
          | none => rw [q] at h; cases h
          | some x => rw [q] at h; cases h; exact me_neg (ih.e sc cl E X g a x q)
      | BoolOp op vs pos =>
        cases vs with
        | nil => simp only [trE] at h; cases h
        | cons a r =>
          cases r with
          | nil => simp only [trE] at h; exact me_one (ih.e sc cl E X g a p h)
          | cons b r =>
            simp only [trE] at h
            split at h
            · rename_i x y h1 h2
              have ha := ih.e sc cl E X g a x h1
              have hb := ih.e sc cl E X g _ y h2
              cases op with
              | And => cases h; exact me_and ha hb
              | Or => cases h; exact me_or ha hb
            · cases h
      | Compare a ops cs pos =>
        simp only [trE] at h
        split at h
        · split at h
          · cases h
          · rename_i hm
            split at h
            · rename_i x y h1 h2
              cases h
              exact me_cmp hu (ih.e sc cl E X g _ _ h1) (ih.e sc cl E X g _ _ h2) (Bool.eq_false_iff.mpr hm)
            · cases h
        · split at h
          · cases h
          · rename_i hm
            split at h
            · rename_i x y z h1 h2 h3
              cases h
              exact me_chn hu (ih.e sc cl E X g _ _ h1) (ih.e sc cl E X g _ _ h2) (ih.e sc cl E X g _ _ h3) (Bool.eq_false_iff.mpr hm)
            · cases h
        · cases h
      | IfExp t a b pos =>
        simp only [trE] at h
        split at h
        · rename_i x y z h1 h2 h3
          cases h
          exact me_ife (ih.t sc cl E X g _ _ h1) (ih.e sc cl E X g _ _ h2) (ih.e sc cl E X g _ _ h3)
        · cases h
      | Tuple es kk pos =>
        simp only [trE] at h
        cases q : trEs G N n sc es with
        | none => rw [q] at h; cases h
        | some xs => rw [q] at h; cases h; exact me_tup (ih.es sc cl E X g _ _ q)
      | List es pos =>
        simp only [trE] at h
        cases q : trEs G N n sc es with
        | none => rw [q] at h; cases h
        | some xs => rw [q] at h; cases h; exact me_lst _ (ih.es sc cl E X g _ _ q)
      | Call f args kws pos =>
        cases kws with
        | cons a r => cases f <;> simp only [trE] at h <;> cases h
        | nil =>
          cases f with
          | Name x p0 =>
            simp only [trE] at h
            split at h
            · cases h
            · rename_i hdg
              rw [Bool.or_eq_true, not_or, Bool.not_eq_true, Bool.not_eq_true, Bool.not_eq_false'] at hdg
              obtain ⟨hd, hgl⟩ := hdg
              obtain ⟨d1, d2, d3⟩ := dbg_ok hd
              split at h
              · -- a def of the text
                rename_i i hi
                cases args with
                | nil => cases h
                | cons e es =>
                  simp only at h
                  split at h
                  · rename_i har
                    cases q : trEs G N n sc (e :: es) with
                    | none => rw [q] at h; cases h
                    | some xs =>
                      rw [q] at h; cases h
                      obtain ⟨f, fd, ps, m, hm, hk, hb, hF, hr⟩ := g.fns x i hi
                      rw [har] at hr
                      have hm' : (e :: es).length = m := Option.some.inj hr
                      have hlen := trEs_len q
                      have hst : (∃ y, trE G N (n - 1) sc e = some y) ∧ ∃ ys, trEs G N (n - 1) sc es = some ys := by
                        cases n with
                        | zero => simp only [trEs] at q; cases q
                        | succ n =>
                          simp only [trEs] at q
                          split at q
                          · rename_i y ys h1 h2; exact ⟨⟨y, h1⟩, ys, h2⟩
                          · cases q
                      obtain ⟨⟨y, hy⟩, ys, hys⟩ := hst
                      exact me_call hF g.room (gl_ok g hgl) hm hk hb g.pas (ih.es sc cl E X g _ _ q) hm'.symm (fun ρ S ds S' hh => by rw [evEs_len xs ρ S S' ds hh, hlen]) d1 (notStar hy _ _) (notStars hys _ _)
                  · cases h
              · -- a built-in
                rename_i hf
                split at h
                · rename_i a y p2
                  split at h
                  · rename_i e; subst e
                    split at h
                    · cases h
                    · rename_i hy
                      rw [Bool.or_eq_true, Bool.or_eq_true, not_or, not_or, Bool.not_eq_true, Bool.not_eq_true, Bool.not_eq_false', Bool.not_eq_true] at hy
                      obtain ⟨⟨y1, y2⟩, y3⟩ := hy
                      obtain ⟨z1, z2, z3⟩ := dbg_ok y1
                      split at h
                      · rename_i t u ht ha
                        cases h
                        obtain ⟨t1, t2⟩ := ty_ok ht
                        exact me_isi (gl_ok g hgl) (g.blt _ (by decide +kernel) hf) (by decide +kernel) (gl_ok g y2) (g.blt _ t1 (Option.not_isSome_iff_eq_none.mp (by simp [y3]))) t2 z3 z1 (ih.e sc cl E X g _ _ ha) d3 d1 (fun r => notStar ha r _) rfl
                      · cases h
                  · split at h
                    · rename_i b hb
                      cases q : trEs G N n sc [a, .Name y p2] with
                      | none => rw [q] at h; cases h
                      | some xs => rw [q] at h; cases h; exact tr_call ih g hd hgl hf (blt_ok hb) q (by simp)
                    · cases h
                · rename_i r p1 a p2
                  split at h
                  · rename_i hc
                    rw [Bool.and_eq_true, Bool.and_eq_true, Bool.and_eq_true] at hc
                    obtain ⟨⟨⟨c1, c2⟩, c3⟩, c4⟩ := hc
                    have c1 := of_decide_eq_true c1
                    have c2 := of_decide_eq_true c2
                    subst c1; subst c2
                    cases q : trE G N n sc a with
                    | none => rw [q] at h; cases h
                    | some u =>
                      rw [q] at h; cases h
                      exact me_lrng (x := "list") (y := "range") _ g.calm (gl_ok g hgl) (g.blt _ (by decide +kernel) hf) (gl_ok g c3) (g.blt _ (by decide +kernel) (by simpa using c4)) (ih.e sc cl E X g _ _ q) (notStar q _ _)
                  · split at h
                    · rename_i hc
                      rw [Bool.and_eq_true, Bool.and_eq_true, Bool.and_eq_true] at hc
                      obtain ⟨⟨⟨c1, c2⟩, c3⟩, c4⟩ := hc
                      have c1 := of_decide_eq_true c1
                      have c2 := of_decide_eq_true c2
                      subst c1; subst c2
                      cases q : trE G N n sc a with
                      | none => rw [q] at h; cases h
                      | some u =>
                        rw [q] at h; cases h
                        exact me_trng g.calm (gl_ok g hgl) (g.blt _ (by decide +kernel) hf) (gl_ok g c3) (g.blt _ (by decide +kernel) (by simpa using c4)) (ih.e sc cl E X g _ _ q) (notStar q _ _)
                    · split at h
                      · rename_i hc
                        rw [Bool.and_eq_true, Bool.and_eq_true, Bool.and_eq_true] at hc
                        obtain ⟨⟨⟨c1, c2⟩, c3⟩, c4⟩ := hc
                        have c1 := of_decide_eq_true c1
                        have c2 := of_decide_eq_true c2
                        subst c1; subst c2
                        cases q : trE G N n sc a with
                        | none => rw [q] at h; cases h
                        | some u =>
                          rw [q] at h; cases h
                          exact me_sst _ g.calm (gl_ok g hgl) (g.blt _ (by decide +kernel) hf) (gl_ok g c3) (g.blt _ (by decide +kernel) (by simpa using c4)) (ih.e sc cl E X g _ _ q) (notStar q _ _)
                      · split at h
                        · rename_i hc
                          rw [Bool.and_eq_true, Bool.and_eq_true, Bool.and_eq_true] at hc
                          obtain ⟨⟨⟨c1, c2⟩, c3⟩, c4⟩ := hc
                          have c1 := of_decide_eq_true c1
                          have c2 := of_decide_eq_true c2
                          subst c1; subst c2
                          cases q : trE G N n sc a with
                          | none => rw [q] at h; cases h
                          | some u =>
                            rw [q] at h; cases h
                            exact me_lns g.calm (gl_ok g hgl) (g.blt _ (by decide +kernel) hf) (gl_ok g c3) (g.blt _ (by decide +kernel) (by simpa using c4)) (ih.e sc cl E X g _ _ q) (notStar q _ _)
                        · split at h
                          · rename_i b hb
                            cases q : trEs G N n sc [.Call (.Name r p1) [a] [] p2] with
                            | none => rw [q] at h; cases h
                            | some xs => rw [q] at h; cases h; exact tr_call ih g hd hgl hf (blt_ok hb) q (by simp)
                          · cases h
                · rename_i r p1 a b p2
                  split at h
                  · rename_i hc
                    rw [Bool.and_eq_true, Bool.and_eq_true, Bool.and_eq_true] at hc
                    obtain ⟨⟨⟨c1, c2⟩, c3⟩, c4⟩ := hc
                    have c1 := of_decide_eq_true c1
                    have c2 := of_decide_eq_true c2
                    subst c1; subst c2
                    split at h
                    · rename_i u w q1 q2
                      cases h
                      exact me_rglL _ g.calm (gl_ok g hgl) (g.blt _ (by decide +kernel) hf) (gl_ok g c3) (g.blt _ (by decide +kernel) (by simpa using c4)) (ih.e sc cl E X g _ _ q1) (ih.e sc cl E X g _ _ q2) (notStar q1 _ _) (notStar q2 _ _)
                    · cases h
                  · split at h
                    · rename_i hc
                      rw [Bool.and_eq_true, Bool.and_eq_true, Bool.and_eq_true] at hc
                      obtain ⟨⟨⟨c1, c2⟩, c3⟩, c4⟩ := hc
                      have c1 := of_decide_eq_true c1
                      have c2 := of_decide_eq_true c2
                      subst c1; subst c2
                      split at h
                      · rename_i u w q1 q2
                        cases h
                        exact me_rglT _ g.calm (gl_ok g hgl) (g.blt _ (by decide +kernel) hf) (gl_ok g c3) (g.blt _ (by decide +kernel) (by simpa using c4)) (ih.e sc cl E X g _ _ q1) (ih.e sc cl E X g _ _ q2) (notStar q1 _ _) (notStar q2 _ _)
                      · cases h
                    · split at h
                      · rename_i hc
                        rw [Bool.and_eq_true, Bool.and_eq_true, Bool.and_eq_true] at hc
                        obtain ⟨⟨⟨c1, c2⟩, c3⟩, c4⟩ := hc
                        have c1 := of_decide_eq_true c1
                        have c2 := of_decide_eq_true c2
                        subst c1; subst c2
                        split at h
                        · rename_i a' hr
                          obtain ⟨p3, p4, rfl, hr2, hr3⟩ := rngOne_ok hr
                          split at h
                          · rename_i u w q1 q2
                            cases h
                            exact me_cmr _ g.calm (gl_ok g hgl) (g.blt _ (by decide +kernel) hf) (gl_ok g c3) (g.cmb c4) (gl_ok g hr2) (g.blt _ (by decide +kernel) hr3) (ih.e sc cl E X g _ _ q1) (ih.e sc cl E X g _ _ q2) (notStar q1 _ _) (notStar q2 _ _)
                          · cases h
                        · split at h
                          · rename_i u w q1 q2
                            cases h
                            exact me_cmb _ g.calm (gl_ok g hgl) (g.blt _ (by decide +kernel) hf) (gl_ok g c3) (g.cmb c4) (ih.e sc cl E X g _ _ q1) (ih.e sc cl E X g _ _ q2) (notStar q1 _ _) (notStar q2 _ _)
                          · cases h
                      · split at h
                        · rename_i b' hb
                          cases q : trEs G N n sc [.Call (.Name r p1) [a, b] [] p2] with
                          | none => rw [q] at h; cases h
                          | some xs => rw [q] at h; cases h; exact tr_call ih g hd hgl hf (blt_ok hb) q (by simp)
                        · cases h
                · rename_i elt tg iter asy tg1 iter1 asy1 scope p2
                  split at h
                  · rename_i hc
                    rw [Bool.and_eq_true, Bool.and_eq_true, Bool.and_eq_true] at hc
                    obtain ⟨⟨⟨c0, c1⟩, c3⟩, c2⟩ := hc
                    have c0 := of_decide_eq_true c0
                    have c1 := of_decide_eq_true c1
                    have c3 := of_decide_eq_true c3
                    subst c0; subst c1; subst c3
                    split at h
                    · rename_i it t it1 t1 u h1 h2 h4 h5 h7
                      split at h
                      · rename_i hti
                        cases h
                        rw [Bool.and_eq_true, Bool.and_eq_true] at hti
                        obtain ⟨⟨w1, w2⟩, w3⟩ := hti
                        have hb := fun s H C cls fp => g.blk scope s H C cls fp
                        have hok : BlkOk X.N X.env.scope scope (ownOf N scope) := by rw [g.hN, g.hsc]; exact blkOk_by c2
                        have hN : X.N.Nodup := by rw [g.hN]; exact g.nd
                        exact me_ssc _ g.calm hN (gl_ok g hgl) (g.blt _ (by decide +kernel) hf) (ih.i sc cl E X g tg iter it h1) hok (fun i hi => by have := List.all_eq_true.mp w3 i hi; simpa using this) (fun s H C cls fp => (tg_ok n).1 tg t (hb s H C cls fp) (fun _ hx => hx) h2)
                          (fun s H C cls fp => ih.i _ _ _ _ (hb s H C cls fp) tg1 iter1 it1 h4) (fun s H C cls fp => (tg_ok n).1 tg1 t1 (hb s H C cls fp) (fun _ hx => hx) h5) (fun s H C cls fp => ih.e _ _ _ _ (hb s H C cls fp) elt u h7) w1 w2 (fun y => noFoldI h1 X.env y) (fun env y => noFoldI h4 env y)
                      · cases h
                    · cases h
                  · cases h
                · cases h
                · rename_i hne
                  split at h
                  · rename_i b hb
                    cases q : trEs G N n sc args with
                    | none => rw [q] at h; cases h
                    | some xs => rw [q] at h; cases h; exact tr_call ih g hd hgl hf (blt_ok hb) q (by assumption)
                  · cases h
          | Attribute o m apos =>
            simp only [trE] at h
            split at h
            · rename_i a
              split at h
              · rename_i hc
                rw [Bool.and_eq_true] at hc
                obtain ⟨c1, c2⟩ := hc
                split at h
                · rename_i em
                  subst em
                  split at h
                  · rename_i x y h2 h3
                    have s1 : starEach [a] X.env = (false, eval a X.env) :: starEach [] X.env := notStar h3 _ _
                    split at h
                    · cases h
                      exact me_lix hu (ih.e sc cl E X g _ _ h2) (ih.e sc cl E X g _ _ h3) (attr_plain c1 _ _) (by rw [s1]; rfl) c2 s1 rfl
                    cases h
                    exact me_tix (ih.e sc cl E X g _ _ h2) (ih.e sc cl E X g _ _ h3) (attr_plain c1 _ _) (by rw [s1]; rfl) c2 s1 rfl
                  · cases h
                split at h
                · rename_i t x ys h1 h2 h3
                  cases h
                  have hst : ∃ y, trE G N (n - 1) sc a = some y := by
                    cases n with
                    | zero => simp only [trEs] at h3; cases h3
                    | succ n =>
                      simp only [trEs] at h3
                      split at h3
                      · rename_i y ys h1 h2; exact ⟨y, h1⟩
                      · cases h3
                  obtain ⟨y, hy⟩ := hst
                  have s1 : starEach [a] X.env = (false, eval a X.env) :: starEach [] X.env := notStar hy _ _
                  have ho := ih.e sc cl E X g _ _ h2
                  have ha := ih.es sc cl E X g _ _ h3
                  have few : ((backTo pos (starEach [a] X.env)).all (fun x => !x.1) && (backToKw pos (keywordEach [] X.env)).all (fun x => x.1.isSome) && decide ([a].length + ([] : List Keyword).length + (if ([] : List Keyword).isEmpty then 0 else 1) < 30)) = true := by
                    rw [s1]; rfl
                  unfold mtOf at h1
                  split at h1
                  · rename_i e; subst e; cases h1
                    exact me_mth PySem.F.slot_list_append PySem.F.type_list_append mr_append ho ha (attr_plain c1 _ _) few c2 s1 rfl
                  · split at h1
                    · rename_i e; subst e; cases h1
                      exact me_mth PySem.F.slot_list_extend PySem.F.type_list_extend mr_extend ho ha (attr_plain c1 _ _) few c2 s1 rfl
                    · split at h1
                      · rename_i e; subst e; cases h1
                        exact me_mth PySem.F.slot_list_pop PySem.F.type_list_pop mr_popAt ho ha (attr_plain c1 _ _) few c2 s1 rfl
                      · cases h1
                · cases h
              · cases h
            · cases h
          | _ => simp only [trE] at h; cases h
      | Subscript a sl pos =>
        simp only [trE] at h
        split at h
        · rename_i lo hi st p2
          split at h
          · cases q : trE G N n sc a with
            | none => rw [q] at h; cases h
            | some x => rw [q] at h; cases h; exact me_rev _ (ih.e sc cl E X g _ _ q)
          · split at h
            · rename_i x l hh h1 h2 h3
              cases h
              exact me_slc _ (ih.e sc cl E X g _ _ h1) (ih.p sc cl E X g _ _ h2) (ih.p sc cl E X g _ _ h3)
            · cases h
          · cases h
        · split at h
          · rename_i hix
            split at h
            · rename_i x y h1 h2
              cases h
              exact me_idx (ih.e sc cl E X g _ _ h1) (ih.e sc cl E X g _ _ h2) (ix_plain hix)
            · cases h
          · cases h
      | ListComp elt gens scope pos =>
        simp only [trE] at h
        split at h
        · rename_i tg iter ifs asy
          split at h
          · rename_i hc
            rw [Bool.and_eq_true] at hc
            obtain ⟨c1, c2⟩ := hc
            have c1 := of_decide_eq_true c1
            subst c1
            split at h
            · rename_i it t x h1 h2 h3
              split at h
              · rename_i hti
                have hit := ih.i sc cl E X g tg iter it h1
                have hb := fun s H C cls fp => g.blk scope s H C cls fp
                have hok : BlkOk X.N X.env.scope scope (ownOf N scope) := by rw [g.hN, g.hsc]; exact blkOk_by c2
                have hnf : ∀ y, foldedSetIterable iter X.env y = pure y := by
                  intro y
                  cases n with
                  | zero => simp only [trI] at h1; cases h1
                  | succ n => cases iter <;> first | rfl | (simp only [trI] at h1; cases n <;> (simp only [trE] at h1; cases h1))
                have hN : X.N.Nodup := by rw [g.hN]; exact g.nd
                split at h
                · cases h
                  exact me_lc _ g.calm hN hit hok (fun s H C cls fp => (tg_ok n).1 tg t (hb s H C cls fp) (fun _ hx => hx) h2) (fun s H C cls fp => mts_nil) (fun s H C cls fp => ih.e _ _ _ _ (hb s H C cls fp) elt x h3) hti hnf
                · rename_i c
                  split at h
                  · rename_i c' hc'
                    cases h
                    exact me_lc _ g.calm hN hit hok (fun s H C cls fp => (tg_ok n).1 tg t (hb s H C cls fp) (fun _ hx => hx) h2) (fun s H C cls fp => mts_one (ih.t _ _ _ _ (hb s H C cls fp) c c' hc')) (fun s H C cls fp => ih.e _ _ _ _ (hb s H C cls fp) elt x h3) hti hnf
                  · cases h
                · cases h
              · cases h
            · cases h
          · cases h
        · rename_i tg iter ifs asy tg1 iter1 ifs1 asy1
          split at h
          · rename_i hc
            rw [Bool.and_eq_true, Bool.and_eq_true] at hc
            obtain ⟨⟨c0, c1⟩, c2⟩ := hc
            have c0 := of_decide_eq_true c0
            have c1 := of_decide_eq_true c1
            subst c0; subst c1
            split at h
            · rename_i it t cs it1 t1 cs1 x h1 h2 h3 h4 h5 h6 h7
              split at h
              · rename_i hti
                cases h
                rw [Bool.and_eq_true, Bool.and_eq_true] at hti
                obtain ⟨⟨w1, w2⟩, w3⟩ := hti
                have hit := ih.i sc cl E X g tg iter it h1
                have hb := fun s H C cls fp => g.blk scope s H C cls fp
                have hok : BlkOk X.N X.env.scope scope (ownOf N scope) := by rw [g.hN, g.hsc]; exact blkOk_by c2
                have hN : X.N.Nodup := by rw [g.hN]; exact g.nd
                exact me_lc2 _ g.calm hN hit hok (fun i hi => by have := List.all_eq_true.mp w3 i hi; simpa using this) (fun s H C cls fp => (tg_ok n).1 tg t (hb s H C cls fp) (fun _ hx => hx) h2) (fun s H C cls fp => ih.ts _ _ _ _ (hb s H C cls fp) ifs cs h3)
                  (fun s H C cls fp => ih.i _ _ _ _ (hb s H C cls fp) tg1 iter1 it1 h4) (fun s H C cls fp => (tg_ok n).1 tg1 t1 (hb s H C cls fp) (fun _ hx => hx) h5) (fun s H C cls fp => ih.ts _ _ _ _ (hb s H C cls fp) ifs1 cs1 h6)
                  (fun s H C cls fp => ih.e _ _ _ _ (hb s H C cls fp) elt x h7) w1 w2 (fun y => noFoldI h1 X.env y) (fun env y => noFoldI h4 env y)
              · cases h
            · cases h
          · cases h
        · cases h
      | _ => simp only [trE] at h; cases h
    · -- arguments
      intro sc cl E X g es ps h
      cases es with
      | nil => simp only [trEs] at h; cases h; exact ma_nil
      | cons e r =>
        simp only [trEs] at h
        split at h
        · rename_i x xs h1 h2
          cases h
          exact ma_cons (ih.e sc cl E X g _ _ h1) (ih.es sc cl E X g _ _ h2) (notStar h1 _ _)
        · cases h
    · -- a slice's part
      intro sc cl E X g o p h
      cases o with
      | none => simp only [trP] at h; cases h; exact mo_none
      | some e =>
        simp only [trP] at h
        cases q : trE G N n sc e with
        | none => rw [q] at h; cases h
        | some x => rw [q] at h; cases h; exact mo_some (ih.e sc cl E X g _ _ q)
    · -- tests
      intro sc cl E X g e p h
      have hu := units_ok g.room
      have val : ∀ e p, truOk e = true → (if truOk e then (trE G N n sc e).map T'.val else none) = some p → MT X X.mg E e (evT F p) := fun e p ht h => by
        rw [if_pos ht] at h
        cases q : trE G N n sc e with
        | none => rw [q] at h; cases h
        | some x => rw [q] at h; cases h; exact mt_val (ih.e sc cl E X g _ _ q) (tru_plain ht _)
      cases e with
      | UnaryOp op a pos =>
        cases op <;> simp only [trT] at h <;> first | (simp only [truOk] at h; cases h; done) | skip
        cases q : trT G N n sc a with
        | none => rw [q] at h; cases h
        | some x => rw [q] at h; cases h; exact mt_not (ih.t sc cl E X g _ _ q)
      | BoolOp op vs pos => exact (hw sc cl E X g op vs pos p h).pt
      | Compare a ops cs pos =>
        simp only [trT] at h
        cases q : trE G N n sc (.Compare a ops cs pos) with
        | none => rw [q] at h; cases h
        | some x =>
          rw [q] at h; cases h
          cases n with
          | zero => simp only [trE] at q; cases q
          | succ n =>
            have ih' := tr_ok CX G N F k n
            simp only [trE] at q
            split at q
            · split at q
              · cases q
              · rename_i hm
                split at q
                · rename_i x y h1 h2
                  cases q
                  exact mt_cmp hu (ih'.e sc cl E X g _ _ h1) (ih'.e sc cl E X g _ _ h2) (Bool.eq_false_iff.mpr hm)
                · cases q
            · split at q
              · cases q
              · rename_i hm
                split at q
                · rename_i x y z h1 h2 h3
                  cases q
                  exact mt_chn hu (ih'.e sc cl E X g _ _ h1) (ih'.e sc cl E X g _ _ h2) (ih'.e sc cl E X g _ _ h3) (Bool.eq_false_iff.mpr hm)
                · cases q
            · cases q
      | _ => simp only [trT] at h; first | (simp only [truOk] at h; cases h; done) | exact val _ _ rfl h
    · -- what is walked
      intro sc cl E X g tg e p h
      have seq : ∀ e p, (trE G N n sc e).map I'.seq = some p → MI X X.mg E tg e (evI F p) := fun e p h => by
        cases q : trE G N n sc e with
        | none => rw [q] at h; cases h
        | some x => rw [q] at h; cases h; exact mi_seq (ih.e sc cl E X g _ _ q)
      simp only [trI] at h
      split at h
      · rename_i x p0 args pos
        split at h
        · rename_i e; subst e
          split at h
          · cases h
          · rename_i hc
            rw [Bool.or_eq_true, Bool.or_eq_true, not_or, not_or, Bool.not_eq_true, Bool.not_eq_true, Bool.not_eq_false', Bool.not_eq_true] at hc
            obtain ⟨⟨y1, y2⟩, y3⟩ := hc
            have hm := g.blt "range" (by decide +kernel) (Option.not_isSome_iff_eq_none.mp (by simp [y3]))
            split at h
            · rename_i a
              cases q : trE G N n sc a with
              | none => rw [q] at h; cases h
              | some x => rw [q] at h; cases h; exact mi_rng (gl_ok g y2) hm (ih.e sc cl E X g _ _ q) (notStar q _ _)
            · rename_i a b
              split at h
              · rename_i x y h1 h2
                cases h
                exact mi_rng2 (gl_ok g y2) hm (ih.e sc cl E X g _ _ h1) (ih.e sc cl E X g _ _ h2) (by rw [notStar h1, notStar h2]; rfl) (notStar h2 _ _)
              · cases h
            · cases h
        · split at h
          · rename_i e; subst e
            split at h
            · cases h
            · rename_i hc
              rw [Bool.or_eq_true, Bool.or_eq_true, Bool.or_eq_true, not_or, not_or, not_or, Bool.not_eq_true, Bool.not_eq_true, Bool.not_eq_false', Bool.not_eq_true, Bool.not_eq_true, Bool.not_eq_false'] at hc
              obtain ⟨⟨⟨y1, y2⟩, y3⟩, y4⟩ := hc
              have hm := g.blt "zip" (by decide +kernel) (Option.not_isSome_iff_eq_none.mp (by simp [y3]))
              split at h
              · rename_i a b
                split at h
                · rename_i x y h1 h2
                  cases h
                  cases tg <;> first | (simp only [isTup] at y4; cases y4; done) | skip
                  exact mi_zip (gl_ok g y2) hm (ih.e sc cl E X g _ _ h1) (ih.e sc cl E X g _ _ h2) (notStar h1 _ _) (notStar h2 _ _) (by rw [notStar h2]; rfl)
                · cases h
              · cases h
          · split at h
            · rename_i e; subst e
              split at h
              · cases h
              · rename_i hc
                rw [Bool.or_eq_true, Bool.or_eq_true, Bool.or_eq_true, not_or, not_or, not_or, Bool.not_eq_true, Bool.not_eq_true, Bool.not_eq_false', Bool.not_eq_true, Bool.not_eq_true, Bool.not_eq_false'] at hc
                obtain ⟨⟨⟨y1, y2⟩, y3⟩, y4⟩ := hc
                have hm := g.blt "enumerate" (by decide +kernel) (Option.not_isSome_iff_eq_none.mp (by simp [y3]))
                split at h
                · rename_i a
                  cases q : trE G N n sc a with
                  | none => rw [q] at h; cases h
                  | some x =>
                    rw [q] at h; cases h
                    cases tg <;> first | (simp only [isTup] at y4; cases y4; done) | skip
                    exact mi_enm (gl_ok g y2) hm (ih.e sc cl E X g _ _ q) (notStar q _ _)
                · cases h
            · exact seq _ _ h
      · exact seq _ _ h
    · -- a comprehension's tests
      intro sc cl E X g es ps h
      simp only [trTs] at h
      split at h
      · cases h; exact mts_nil
      · split at h
        · rename_i c hc
          cases h
          exact mts_one (ih.t sc cl E X g _ _ hc)
        · cases h
      · cases h
end
end Pu

namespace Pu
open PySem PySem.Spec PyProof.Rows L2
section
variable {CX : CXT} {G : Gi} {N : List Str} {F : Nat → List D → M D} {k : Nat}
theorem noSwap {n : Nat} {sc : Scope} {e : Expr} {p : X'} (h : trE G N n sc e = some p) (hl : ∀ a b c d, e ≠ .ListComp a b c d) (t : Option Expr) (l : Nat) (env : Env) : swapsWith e t l env = pure false := by
  cases n with
  | zero => simp only [trE] at h; cases h
  | succ n =>
    cases e <;> first
      | rfl
      | exact absurd rfl (hl _ _ _ _)
      | (simp only [trE] at h; cases h)
structure TsOk (CX : CXT) (G : Gi) (N : List Str) (F : Nat → List D → M D) (k n : Nat) : Prop where
  s : ∀ sc E X, Good CX G N F E k true sc X → ∀ st p, trS G N n sc st = some p → MS X X.mg E st (evS F p)
  ss : ∀ sc E X, Good CX G N F E k true sc X → ∀ st p, trSs G N n sc st = some p → MSs X X.mg E st (evSs F p)
theorem ts_ok (CX : CXT) (G : Gi) (N : List Str) (F : Nat → List D → M D) (k : Nat) : ∀ n, TsOk CX G N F k n
  | 0 => ⟨fun _ _ _ _ _ _ h => (by simp only [trS] at h; cases h), fun _ _ _ _ _ _ h => (by simp only [trSs] at h; cases h)⟩
  | n + 1 => by
    have ih := ts_ok CX G N F k n
    have ie := tr_ok CX G N F k n
    refine ⟨?_, ?_⟩
    · intro sc E X g st p h
      have hN : X.N.Nodup := by rw [g.hN]; exact g.nd
      have name : ∀ (x : Str) (ps : Pos) (i : Nat), trTg N sc allK n (.Name x ps) = some (.nm i) → X.N[i]? = some x ∧ Loc X.env.scope x := fun x ps i h => by
        cases n with
        | zero => simp only [trTg] at h; cases h
        | succ n =>
          simp only [trTg] at h
          split at h
          · rename_i hl
            cases q : ixOf N x with
            | none => rw [q] at h; cases h
            | some j => rw [q] at h; cases h; exact ⟨by rw [g.hN]; exact ixOf_ok q, .inl (by rw [g.hsc]; exact hl)⟩
          · rename_i hl
            simp only [allK, if_true] at h
            cases q : ixOf N x with
            | none => rw [q] at h; cases h
            | some j => rw [q] at h; cases h; exact ⟨by rw [g.hN]; exact ixOf_ok q, .inr (by rw [g.hsc]; exact hl)⟩
          · cases h
      cases st with
      | Assign tgs e pos =>
        simp only [trS] at h
        split at h
        · rename_i x ps
          split at h
          · rename_i i y h1 h2
            obtain ⟨hi, hx⟩ := name x ps i h1
            have he := ie.e sc true E X g e y h2
            have plain : (∀ a b c d, e ≠ .ListComp a b c d) → MS X X.mg E (.Assign [.Name x ps] e pos) (evS F (.set i y)) := fun hl =>
              ms_set hN hi hx he (noSwap h2 hl _ _ _) (.inl (g.fn rfl x))
            cases e with
            | ListComp elt gens scope cpos =>
              simp only at h
              split at h
              · rename_i hc
                cases h
                rw [Bool.and_eq_true, Bool.and_eq_true] at hc
                obtain ⟨⟨c1, c2⟩, c3⟩ := hc
                have c1' : sc.names.lookup x = some .local := by unfold locK at c1; split at c1 <;> first | assumption | cases c1
                have c3' : (scope.names.any fun (m, k) => m == x && (k == .local || k == .cell)) = false := by simpa using c3
                have hsw : ∀ gs, swapsWith (.ListComp elt gs scope cpos) (some (.Name x ps)) pos.line X.env = pure true := fun gs =>
                  sw_true (by rw [g.hsc]; exact g.kind rfl) (by rw [g.hsc]; exact c1') c2 c3'
                cases n with
                | zero => simp only [trE] at h2; cases h2
                | succ n =>
                  have ie := tr_ok CX G N F k n
                  simp only [trE] at h2
                  split at h2
                  · rename_i tg iter ifs asy
                    split at h2
                    · rename_i hc
                      rw [Bool.and_eq_true] at hc
                      obtain ⟨d1, d2⟩ := hc
                      have d1 := of_decide_eq_true d1
                      subst d1
                      split at h2
                      · rename_i it t x' h1' h2' h3'
                        split at h2
                        · rename_i hti
                          have hit := ie.i sc true E X g tg iter it h1'
                          have hb := fun s H C cls fp => g.blk scope s H C cls fp
                          have hok : BlkOk X.N X.env.scope scope (ownOf N scope) := by rw [g.hN, g.hsc]; exact blkOk_by d2
                          have hnf : ∀ y, foldedSetIterable iter X.env y = pure y := by
                            intro y
                            cases n with
                            | zero => simp only [trI] at h1'; cases h1'
                            | succ n => cases iter <;> first | rfl | (simp only [trI] at h1'; cases n <;> (simp only [trE] at h1'; cases h1'))
                          split at h2
                          · cases h2
                            exact ms_setLc _ g.calm hN hi (by rw [g.hsc]; exact c1') (hsw _) hit hok (fun s H C cls fp => (tg_ok n).1 tg t (hb s H C cls fp) (fun _ hx => hx) h2') (fun s H C cls fp => mts_nil) (fun s H C cls fp => ie.e _ _ _ _ (hb s H C cls fp) elt x' h3') hti hnf
                          · rename_i c
                            split at h2
                            · rename_i c' hc'
                              cases h2
                              exact ms_setLc _ g.calm hN hi (by rw [g.hsc]; exact c1') (hsw _) hit hok (fun s H C cls fp => (tg_ok n).1 tg t (hb s H C cls fp) (fun _ hx => hx) h2') (fun s H C cls fp => mts_one (ie.t _ _ _ _ (hb s H C cls fp) c c' hc')) (fun s H C cls fp => ie.e _ _ _ _ (hb s H C cls fp) elt x' h3') hti hnf
                            · cases h2
                          · cases h2
                        · cases h2
                      · cases h2
                    · cases h2
                  · rename_i tg iter ifs asy tg1 iter1 ifs1 asy1
                    split at h2
                    · rename_i hc
                      rw [Bool.and_eq_true, Bool.and_eq_true] at hc
                      obtain ⟨⟨d0, d1⟩, d2⟩ := hc
                      have d0 := of_decide_eq_true d0
                      have d1 := of_decide_eq_true d1
                      subst d0; subst d1
                      split at h2
                      · rename_i it t cs it1 t1 cs1 x' k1 k2 k3 k4 k5 k6 k7
                        split at h2
                        · rename_i hti
                          cases h2
                          rw [Bool.and_eq_true, Bool.and_eq_true] at hti
                          obtain ⟨⟨w1, w2⟩, w3⟩ := hti
                          have hb := fun s H C cls fp => g.blk scope s H C cls fp
                          have hok : BlkOk X.N X.env.scope scope (ownOf N scope) := by rw [g.hN, g.hsc]; exact blkOk_by d2
                          exact ms_setLc2 _ g.calm hN hi (by rw [g.hsc]; exact c1') (hsw _) (ie.i sc true E X g tg iter it k1) hok (fun i hi => by have := List.all_eq_true.mp w3 i hi; simpa using this) (fun s H C cls fp => (tg_ok n).1 tg t (hb s H C cls fp) (fun _ hx => hx) k2) (fun s H C cls fp => ie.ts _ _ _ _ (hb s H C cls fp) ifs cs k3)
                            (fun s H C cls fp => ie.i _ _ _ _ (hb s H C cls fp) tg1 iter1 it1 k4) (fun s H C cls fp => (tg_ok n).1 tg1 t1 (hb s H C cls fp) (fun _ hx => hx) k5) (fun s H C cls fp => ie.ts _ _ _ _ (hb s H C cls fp) ifs1 cs1 k6)
                            (fun s H C cls fp => ie.e _ _ _ _ (hb s H C cls fp) elt x' k7) w1 w2 (fun y => noFoldI k1 X.env y) (fun env y => noFoldI k4 env y)
                        · cases h2
                      · cases h2
                    · cases h2
                  · cases h2
              · split at h
                · rename_i hc2
                  cases h
                  have c1' : sc.names.lookup x = some .cell := by unfold celL at hc2; split at hc2 <;> first | assumption | cases hc2
                  have hsw : swapsWith (.ListComp elt gens scope cpos) (some (.Name x ps)) pos.line X.env = pure false := by
                    show pure (X.env.blockKind == .function && X.env.kindOf x == some .local && ps.line == cpos.line && !(scope.names.any fun (n, k) => n == x && (k == .local || k == .cell))) = pure false
                    have : X.env.kindOf x = some .cell := by
                      show X.env.scope.names.lookup x = _
                      rw [g.hsc]; exact c1'
                    rw [this]
                    congr 1
                    simp
                  exact ms_set hN hi hx he hsw (.inl (g.fn rfl x))
                · cases h
            | SetComp a b c d => simp only at h; cases h
            | DictComp a b c d e => simp only at h; cases h
            | _ =>
              simp only at h
              cases h
              exact plain (fun _ _ _ _ z => by cases z)
          · cases h
        · rename_i es kk ps
          have tup : ∀ t y, trTg N sc allK n (.Tuple es kk ps) = some t → trE G N n sc e = some y → (∀ a b c d, e ≠ .ListComp a b c d) → swappedStores [.Tuple es kk ps] e X.env = pure none → MS X X.mg E (.Assign [.Tuple es kk ps] e pos) (evS F (.asg t y)) := fun t y h1 h2 hl hsw =>
            ms_asg (ie.e sc true E X g e y h2) ((tg_ok n).1 _ t g (fun x _ => g.fn rfl x) h1) (by show swapsWith e (some (.Tuple es kk ps)) pos.line X.env = pure false; exact noSwap h2 hl _ _ _) hsw (by rw [asg_one h1]; rfl)
          cases e with
          | Name x p2 =>
            simp only at h
            split at h
            · rename_i t y h1 h2; cases h; exact tup t y h1 h2 (fun _ _ _ _ z => by cases z) rfl
            · cases h
          | Call f as ks p2 =>
            simp only at h
            split at h
            · rename_i t y h1 h2; cases h; exact tup t y h1 h2 (fun _ _ _ _ z => by cases z) rfl
            · cases h
          | Subscript a b p2 =>
            simp only at h
            split at h
            · rename_i t y h1 h2; cases h; exact tup t y h1 h2 (fun _ _ _ _ z => by cases z) rfl
            · cases h
          | _ => simp only at h; cases h
        · rename_i o i ps
          have sto : (∀ a b c d, e ≠ .ListComp a b c d) → (match trE G N n sc e, trE G N n sc o, trE G N n sc i with
              | some y, some r, some k => if ixOk i then some (S'.sto r k y) else none
              | _, _, _ => none) = some p → MS X X.mg E (.Assign [.Subscript o i ps] e pos) (evS F p) := fun hl h => by
            split at h
            · rename_i y r k' h1 h2 h3
              split at h
              · rename_i hix
                cases h
                have ho := ie.e sc true E X g o r h2
                have hi := ie.e sc true E X g i k' h3
                have hsw : swappedStores [.Subscript o i ps] e X.env = pure none := by cases e <;> rfl
                refine ms_sto (ie.e sc true E X g e y h1) ho hi (by show swapsWith e (some (.Subscript o i ps)) pos.line X.env = pure false; exact noSwap h1 hl _ _ _) hsw rfl fun t ht => pg_sub ho hi ht ?_
                intro v
                cases i <;> first | (simp only [ixOk] at hix; cases hix; done) | rfl
              · cases h
            · cases h
          cases e with
          | ListComp a b c d => simp only at h; cases h
          | _ => exact sto (fun _ _ _ _ z => by cases z) h
        · cases h
      | Expr e pos =>
        simp only [trS] at h
        split at h
        · rename_i f as ks p2
          cases q : trE G N n sc (.Call f as ks p2) with
          | none => rw [q] at h; cases h
          | some x => rw [q] at h; cases h; exact ms_expr (ie.e sc true E X g _ _ q) (noSwap q (fun _ _ _ _ z => by cases z) _ _ _)
        · cases h
      | Return e pos =>
        cases e with
        | none => simp only [trS] at h; cases h
        | some e =>
          simp only [trS] at h
          cases q : trE G N n sc e with
          | none => rw [q] at h; cases h
          | some x => rw [q] at h; cases h; exact ms_ret (ie.e sc true E X g _ _ q)
      | If t a b pos =>
        simp only [trS] at h
        split at h
        · rename_i t' a' b' h1 h2 h3
          cases h
          exact ms_ife (ie.t sc true E X g _ _ h1) (ih.ss sc E X g _ _ h2) (ih.ss sc E X g _ _ h3)
        · cases h
      | While t body orelse pos =>
        simp only [trS] at h
        split at h
        · split at h
          · rename_i t' b h1 h2
            cases h
            exact ms_whl 65536 g.own (ie.t sc true E X g _ _ h1) (ih.ss sc E X g _ _ h2)
          · cases h
        · cases h
      | For tg it body orelse pos =>
        simp only [trS] at h
        split at h
        · split at h
          · rename_i t i b h1 h2 h3
            cases h
            have hnf : ∀ y, foldedSetIterable it X.env y = pure y := by
              intro y
              cases n with
              | zero => simp only [trI] at h2; cases h2
              | succ n => cases it <;> first | rfl | (simp only [trI] at h2; cases n <;> (simp only [trE] at h2; cases h2))
            exact ms_for g.own g.calm (ie.i sc true E X g _ _ _ h2) ((tg_ok n).1 tg t g (fun x _ => g.fn rfl x) h1) (ih.ss sc E X g _ _ h3) hnf
          · cases h
        · cases h
      | Break pos => simp only [trS] at h; cases h; exact ms_brk
      | Continue pos => simp only [trS] at h; cases h; exact ms_cnt
      | Pass pos => simp only [trS] at h; cases h; exact ms_pass
      | Raise a b pos => simp only [trS] at h; cases h; exact ms_nev
      | _ => simp only [trS] at h; cases h
    · intro sc E X g st p h
      cases st with
      | nil => simp only [trSs] at h; cases h; exact mss_nil
      | cons s r =>
        simp only [trSs] at h
        split at h
        · rename_i x xs h1 h2
          cases h
          exact mss_cons (ih.s sc E X g _ _ h1) (ih.ss sc E X g _ _ h2)
        · cases h
end
end Pu

namespace Pu
open PySem PySem.Spec PyProof.Rows L2

/-- a def of the text: its name, its place in the top's list, its parameters, all its names by slot -/
structure FnD where
  name : Str
  st : Stmt
  ps : List Str
  N : List Str
def fnScB (N ps : List Str) (sc : Scope) : Bool :=
  (match sc.kind with | .function => true | _ => false) && !sc.isCoroutine && !sc.isGenerator && decide N.Nodup && decide (N.take ps.length = ps) &&
    ps.all (fun x => match sc.names.lookup x with | some .local => true | some .cell => true | _ => false) && sc.names.all fun y => match y.2 with | .free => false | _ => true
theorem fnSc_ok {N ps : List Str} {sc : Scope} (h : fnScB N ps sc = true) : FnScope N ps sc := by
  unfold fnScB at h
  simp only [Bool.and_eq_true, List.all_eq_true, decide_eq_true_eq, Bool.not_eq_true'] at h
  obtain ⟨⟨⟨⟨⟨⟨h1, h2⟩, h3⟩, h4⟩, h5⟩, h6⟩, h7⟩ := h
  refine ⟨?_, h2, h3, h4, h5, fun x hx => ?_, fun y hy e => ?_⟩
  · split at h1
    · assumption
    · cases h1
  · have q := h6 x hx
    split at q
    · exact .inl (by assumption)
    · exact .inr (by assumption)
    · cases q
  · have q := h7 y hy
    rw [e] at q; cases q
def fuel : Nat := 60
def bodyOf (G : Gi) (d : FnD) : Option (List S') := trSs G d.N fuel (defScope d.st) (defBody d.st)
def mkFn (G : Gi) (d : FnD) : Fn' := ⟨d.N.length, (bodyOf G d).getD []⟩
def okFn (G : Gi) (d : FnD) : Bool := fnScB d.N d.ps (defScope d.st) && (bodyOf G d).isSome
def okTab (G : Gi) (tab : List FnD) : Bool := tab.all (okFn G) && G.fns.all fun (x, i) => match tab[i]? with
  | some d => decide (d.name = x) && decide (G.ar[i]? = some d.ps.length)
  | none => false
/-- what the head says of the text's functions and names -/
structure HeadOk (K : PySem.W.Frag) (mg : Str → Option Value) (G : Gi) (tab : List FnD) : Prop where
  fn : ∀ (i : Nat) (d : FnD), tab[i]? = some d → ∃ f fd, mg d.name = some (.ref f) ∧ Fun K d.name d.name d.st f fd ∧ Binds K fd d.ps []
  blt : ∀ x, x ∈ bltNames → G.fns.lookup x = none → mg x = none
  cst : ∀ x d, G.cst.lookup x = some d → ∃ v u, mg x = some u ∧ RelV v u ∧ ∀ as H, Rep K as H d v
  cmb : G.cmb = true → mg "combinations" = some (.type "itertools.combinations")
theorem lookup_mem {κ β : Type} [BEq κ] [LawfulBEq κ] : ∀ {l : List (κ × β)} {x : κ} {b : β}, l.lookup x = some b → (x, b) ∈ l
  | [], _, _, h => by cases h
  | (y, c) :: r, x, b, h => by
    rw [List.lookup_cons] at h
    split at h
    · rename_i e
      cases h
      rw [eq_of_beq e]; exact List.mem_cons_self
    · exact List.mem_cons_of_mem _ (lookup_mem h)
theorem envR_start {K : PySem.W.Frag} {as : List Addr} {H : Hp} {N : List Str} {vs : List V} {ds : List D} (r : Reps K as H ds vs) : EnvR K as H (L2.start N vs) (envOf N.length ds) := by
  have hl := r.length
  refine ⟨by simp [L2.start, envOf, hl], fun i d h => ?_⟩
  unfold envOf at h
  unfold L2.start
  by_cases hi : i < ds.length
  · rw [List.getElem?_append_left (by simpa using hi), List.getElem?_map] at h
    cases q : ds[i]? with
    | none => rw [q] at h; cases h
    | some e =>
      rw [q] at h; cases h
      obtain ⟨v, h1, h2⟩ := r.get q
      exact ⟨v, by rw [List.getElem?_append_left (by simpa [hl] using hi), List.getElem?_map, h1]; rfl, h2⟩
  · rw [List.getElem?_append_right (by simpa using Nat.le_of_not_lt hi)] at h
    rw [List.getElem?_replicate] at h
    split at h <;> cases h
section
variable {P : Program} {w : World} {K : PySem.W.Frag} {mg : Str → Option Value} {base : Heap} {G : Gi} {tab : List FnD}
theorem all_ok (hd : HeadOk K mg G tab) (ht : okTab G tab = true) : ∀ (k i : Nat) (d : FnD) (f : Addr) (fd : FuncData), tab[i]? = some d → mg d.name = some (.ref f) → Fun K d.name d.name d.st f fd → Binds K fd d.ps [] →
    FnOk P w K mg base CX0 k f fd d.ps (spM K mg d.ps.length (runF (tab.map (mkFn G)) k i)) := by
  have ht2 := ht
  unfold okTab at ht2
  rw [Bool.and_eq_true, List.all_eq_true, List.all_eq_true] at ht2
  obtain ⟨okF, okN⟩ := ht2
  intro k
  induction k with
  | zero =>
    intro i d f fd hi hm hF hB
    refine ⟨fun vs H Q E h => h.1, fun A outer s H args us vs Q E _ _ _ _ h => ?_⟩
    obtain ⟨_, as, S, ds, _, _, fin⟩ := h
    exact fin.elim
  | succ k ih =>
    intro i d f fd hi hm hF hB
    have ok := okF d (List.mem_of_getElem? hi)
    unfold okFn at ok
    rw [Bool.and_eq_true] at ok
    obtain ⟨ok1, ok2⟩ := ok
    have S := fnSc_ok ok1
    obtain ⟨body, hb⟩ := Option.isSome_iff_exists.mp ok2
    refine hF.ok S (fun vs H Q E h => h.1) fun cdv A outer s H vs Q E hr h => ?_
    have good : Good CX0 G d.N (runF (tab.map (mkFn G)) k) E k true (defScope d.st) (cxOf CX0 P w K mg base d.N d.name (defScope d.st) f cdv A outer s H E).nox :=
      { hN := rfl, nd := S.nd, hsc := rfl, calm := rfl, room := hr, pas := fun _ _ _ _ _ _ _ h => h.elim, own := PassesOwn.never, fn := fun _ _ => rfl, kind := fun _ => S.kind,
        fns := fun x j hx => by
          have q := okN (x, j) (lookup_mem hx)
          dsimp only at q
          split at q
          · rename_i d' hd'
            rw [Bool.and_eq_true] at q
            have q1 := of_decide_eq_true q.1
            have q2 := of_decide_eq_true q.2
            subst q1
            obtain ⟨f', fd', h1, h2, h3⟩ := hd.fn j d' hd'
            exact ⟨f', fd', d'.ps, d'.ps.length, h1, h2.kp, h3, ih j d' f' fd' hd' h1 h2 h3, q2⟩
          · cases q
        blt := hd.blt, cst := hd.cst, cmb := hd.cmb, hE0 := fun _ _ _ _ _ h => h.elim }
    refine ⟨_, (ts_ok CX0 G d.N (runF (tab.map (mkFn G)) k) k fuel).ss _ _ _ good (defBody d.st) body hb, ?_⟩
    obtain ⟨hl, as, S0, ds, sim, rs, fin⟩ := h
    refine ⟨as, S0, envOf d.N.length ds, sim, envR_start rs, ?_⟩
    have hrun : runF (tab.map (mkFn G)) (k + 1) i ds S0 = runB (runF (tab.map (mkFn G)) k) ⟨d.N.length, body⟩ ds S0 := by
      simp only [runF, List.getElem?_map, hi, Option.map_some, mkFn, hb, Option.getD_some]
    rw [hrun] at fin
    unfold runB at fin
    cases hq : evSs (runF (tab.map (mkFn G)) k) body (envOf d.N.length ds) S0 with
    | bad => simp only [mbind, hq, R.bind] at fin; exact fin.elim
    | exc c fs S1 => simp only [mbind, hq, R.bind] at fin; exact fin
    | ok fl S1 =>
      simp only [mbind, hq, R.bind] at fin
      cases fl with
      | nx ρ => exact fun as1 H1 σ1 e1 sim1 _ => fin as1 H1 .non e1 sim1 rfl
      | rt v => exact fun as1 H1 x e1 sim1 r1 => fin as1 H1 x e1 sim1 r1
      | bk ρ => exact fin.elim
      | ct ρ => exact fin.elim
/-- the law's own promise -/
def spLaw (K : PySem.W.Frag) : Sp := fun vs H Q _ => ∃ (a : Addr) (ns : List Int), vs = [.ref a] ∧ FrL K H a (ns.map V.int) ∧ ns.length ≤ 63 ∧ ∀ H', Q (.bl true) H'
theorem frl_of {H : Hp} {a : Addr} {xs : List V} (o : Only H) (h : SqL K H a xs) : FrL K H a xs := by
  rcases h with (h | ⟨ob, h⟩) | h
  · rcases o a with z | ⟨_, _, z⟩
    · rw [z] at h; cases h
    · rw [z] at h; cases h
  · exact .inl ⟨ob, h⟩
  · exact .inr h
theorem law_ok (hd : HeadOk K mg G tab) (ht : okTab G tab = true) {k i : Nat} {d : FnD} {f : Addr} {fd : FuncData} (hi : tab[i]? = some d) (hm : mg d.name = some (.ref f)) (hF : Fun K d.name d.name d.st f fd) (hB : Binds K fd d.ps []) (hp : d.ps.length = 1)
    (hrun : ∀ ns : List Int, ns.length ≤ 63 → ∃ S', runF (tab.map (mkFn G)) k i [.fr (ns.map D.int)] [] = .ok (.bl true) S') : FnOk P w K mg base CX0 k f fd d.ps (spLaw K) :=
  (all_ok hd ht k i d f fd hi hm hF hB).imp fun vs H Q E h => by
    obtain ⟨a, ns, rfl, hS, hl, q⟩ := h
    obtain ⟨S', hr⟩ := hrun ns hl
    refine ⟨hp.symm, [], [], [.fr (ns.map D.int)], ⟨rfl, fun i j a h => by simp at h, fun i a o h => by simp at h⟩, Reps.one ⟨a, _, rfl, hS, Reps.of_ints ns⟩, ?_⟩
    rw [hr]
    intro as' H' b _ _ r
    have r : b = .bl true := r
    subst r
    exact q H'
end
end Pu

namespace Pu
open PySem PySem.Spec PyProof.Rows L2

/-! ## the small language without a store: what a body's own lists are is told by its slots, and the stream of draws goes along -/
structure Strm where
  ns : List Int
  c : Int
  k : Int
  c0 : 0 ≤ c
  k0 : 0 ≤ k
  len : ns.length ≤ 63
def strOb (σ : Strm) : Ob := .lst [.fz (σ.ns.map D.int), .int σ.c, .int σ.k]
inductive PR (α : Type) where
  | ok (a : α) (σ : Strm)
  | exc (c : Str) (fs : List (Str × D)) (σ : Strm)
  | bad
abbrev PM (α : Type) := Strm → PR α
def PR.bind {α β : Type} : PR α → (α → PM β) → PR β
  | .ok a σ, f => f a σ
  | .exc c fs σ, _ => .exc c fs σ
  | .bad, _ => .bad
def pret {α : Type} (a : α) : PM α := fun σ => .ok a σ
def pbad {α : Type} : PM α := fun _ => .bad
def pbind {α β : Type} (m : PM α) (f : α → PM β) : PM β := fun σ => (m σ).bind f
def pnox {α : Type} (m : PM α) : PM α := fun σ => match m σ with
  | .exc _ _ _ => .bad
  | r => r
theorem pret_ap {α : Type} (a : α) (σ : Strm) : pret a σ = .ok a σ := rfl
theorem pbad_ap {α : Type} (σ : Strm) : (pbad σ : PR α) = .bad := rfl
theorem pbind_ap {α β : Type} (m : PM α) (f : α → PM β) (σ : Strm) : pbind m f σ = (m σ).bind f := rfl
theorem pok {α β : Type} (a : α) (σ : Strm) (f : α → PM β) : (PR.ok a σ).bind f = f a σ := rfl
/-- v: data; o: a list of the body's own; b: a list that is read only; s: the stream -/
inductive W where
  | v (d : D)
  | o (xs : List D)
  | b (xs : List D)
  | s
/-- to be read -/
def W.rd : W → Option D
  | .v d => some d
  | .o xs => some (.fz xs)
  | .b xs => some (.fz xs)
  | .s => none
/-- to be put into data -/
def W.val : W → Option D
  | .v d => some d
  | _ => none
/-- to be handed to a def -/
def W.arg : W → W
  | .o xs => .b xs
  | w => w
abbrev Env2 := List (Option W)
def lift (m : M D) : PM W := fun σ => match m [] with
  | .ok (.ref 0) [.lst xs] => .ok (.o xs) σ
  | .ok d [] => .ok (.v d) σ
  | _ => .bad
def rd1 (g : D → M D) (x : W) : PM W := match x.rd with
  | some d => lift (g d)
  | none => pbad
def rd2 (g : D → D → M D) (x y : W) : PM W := match x.rd, y.rd with
  | some d, some e => lift (g d e)
  | _, _ => pbad
def rds (g : List D → M D) (xs : List W) : PM W := match mapO W.rd xs with
  | some ds => lift (g ds)
  | none => pbad
def vals (g : List D → M D) (xs : List W) : PM W := match mapO W.val xs with
  | some ds => lift (g ds)
  | none => pbad
def blW (x : W) : PM Bool := match x with
  | .v (.bl t) => pret t
  | _ => pbad
def truW (x : W) : PM Bool := match x.rd with
  | some d => fun σ => match truM d [] with
    | .ok b [] => .ok b σ
    | _ => .bad
  | none => pbad
def isiW (t : Ty) (x : W) : PM W := match x.rd with
  | some d => match isK t d [] with
    | some b => pret (.v (.bl b))
    | none => pbad
  | none => pbad
def intW (x : W) : PM (Option Int) := match x with
  | .v (.int i) => pret (some i)
  | _ => pbad
mutual
def tgSetW : Tg → D → Env2 → Option Env2
  | .nm i, d, ρ => some (ρ.set i (some (.v d)))
  | .tp ts, .tup ds, ρ => tgSetsW ts ds ρ
  | .tp ts, .ptp ds, ρ => tgSetsW ts ds ρ
  | .tp _, _, _ => none
def tgSetsW : List Tg → List D → Env2 → Option Env2
  | [], [], ρ => some ρ
  | t :: ts, d :: ds, ρ => (tgSetW t d ρ).bind fun ρ' => tgSetsW ts ds ρ'
  | _, _, _ => none
end
def wipeW (ρ : Env2) : List Nat → Env2
  | [] => ρ
  | i :: r => (wipeW ρ r).set i none
def pvLc (elt : Env2 → PM W) (ifs : Env2 → PM Bool) (tg : Tg) (ρ : Env2) : List D → PM (List D)
  | [] => pret []
  | d :: r => match tgSetW tg d ρ with
    | none => pbad
    | some ρ' => pbind (ifs ρ') fun b => if b then pbind (elt ρ') fun y => match y.val with
        | some y => pbind (pvLc elt ifs tg ρ r) fun ys => pret (y :: ys)
        | none => pbad
      else pvLc elt ifs tg ρ r
def pvLc2 (elt : Env2 → PM W) (ifs : Env2 → PM Bool) (tg : Tg) (ρ : Env2) (it1 : Env2 → PM (List D)) (ifs1 : Env2 → PM Bool) (tg1 : Tg) (ws1 : List Nat) : List D → PM (List D)
  | [] => pret []
  | d :: r => match tgSetW tg d ρ with
    | none => pbad
    | some ρ' => pbind (ifs ρ') fun b => if b then pbind (it1 ρ') fun items => pbind (pvLc elt ifs1 tg1 (wipeW ρ' ws1) items) fun ys => pbind (pvLc2 elt ifs tg ρ it1 ifs1 tg1 ws1 r) fun zs => pret (ys ++ zs)
      else pvLc2 elt ifs tg ρ it1 ifs1 tg1 ws1 r
inductive Fl2 where
  | nx (ρ : Env2)
  | rt (w : W)
  | bk (ρ : Env2)
  | ct (ρ : Env2)
section
open Classical in
/-- a slot stays as it is -/
noncomputable def stays (g : Option Nat) (ρ ρ' : Env2) : Bool := match g with
  | none => true
  | some i => decide (ρ'[i]? = ρ[i]?)
end
noncomputable def pvFor (body : Env2 → PM Fl2) (tg : Tg) (g : Option Nat) : List D → Env2 → PM Fl2
  | [], ρ => pret (.nx ρ)
  | d :: r, ρ => match tgSetW tg d ρ with
    | none => pbad
    | some ρ' => pbind (body ρ') fun fl => match fl with
      | .nx ρ2 => if stays g ρ ρ2 then pvFor body tg g r ρ2 else pbad
      | .ct ρ2 => if stays g ρ ρ2 then pvFor body tg g r ρ2 else pbad
      | .bk ρ2 => pret (.nx ρ2)
      | .rt w => pret (.rt w)
def pvWhl (test : Env2 → PM Bool) (body : Env2 → PM Fl2) : Nat → Env2 → PM Fl2
  | 0, _ => pbad
  | n + 1, ρ => pbind (test ρ) fun b => if b then pbind (body ρ) fun fl => match fl with
      | .nx ρ2 => pvWhl test body n ρ2
      | .ct ρ2 => pvWhl test body n ρ2
      | .bk ρ2 => pret (.nx ρ2)
      | .rt w => pret (.rt w)
    else pret (.nx ρ)
def zipD (d e : D) : Option (List D) := match d, e with
  | .tup xs, .tup ys => if xs.length ≤ line then some (List.zipWith (fun a b => .tup [a, b]) xs ys) else none
  | .ptp xs, .tup ys => if xs.length ≤ line then some (List.zipWith (fun a b => .tup [a, b]) xs ys) else none
  | .tup _, _ => none
  | _, .tup _ => none
  | _, _ => match lstOf d [], lstOf e [] with
    | some xs, some ys => if xs.length ≤ line then some (List.zipWith (fun a b => .tup [a, b]) xs ys) else none
    | _, _ => none
def enmD (d : D) : Option (List D) := match d with
  | .tup xs => some (xs.mapIdx fun i d => .tup [.int i, d])
  | .ptp xs => some (xs.mapIdx fun i d => .tup [.int i, d])
  | _ => none
def ofOW {α : Type} (o : Option α) : PM α := match o with
  | some a => pret a
  | none => pbad
mutual
def asgTg (i : Nat) : Tg → Bool
  | .nm j => i == j
  | .tp ts => asgTgs i ts
def asgTgs (i : Nat) : List Tg → Bool
  | [] => false
  | t :: ts => asgTg i t || asgTgs i ts
end
mutual
/-- may the slot be stored to? -/
def asgS (i : Nat) : S' → Bool
  | .set j _ => i == j
  | .asg t _ => asgTg i t
  | .ife _ a b => asgSs i a || asgSs i b
  | .frr t _ body => asgTg i t || asgSs i body
  | .whl _ body => asgSs i body
  | _ => false
def asgSs (i : Nat) : List S' → Bool
  | [] => false
  | s :: r => asgS i s || asgSs i r
end
def grdOk : I' → Tg → List S' → Bool
  | .seq (.var i), t, body => !asgTg i t && !asgSs i body
  | _, _, _ => true
/-- the slot of the body's own list that is walked -/
def grd : I' → Option Nat
  | .seq (.var i) => some i
  | _ => none
noncomputable section
open Classical in
def chkP {α : Type} (p : Prop) (m : PM α) : PM α := if p then m else pbad
theorem chkP_pos {α : Type} {p : Prop} {m : PM α} (h : p) : chkP p m = m := if_pos h
def varW (ρ : Env2) (j : Nat) : PM W := match ρ[j]? with
  | some (some (.o xs)) => pret (W.b xs)
  | some (some w) => pret w
  | _ => pbad
/-- the body's own list goes from one slot to another -/
def movW (ρ : Env2) (i j : Nat) (other : PM Fl2) : PM Fl2 := match ρ[j]? with
  | some (some (.o xs)) => if i = j then pbad else pret (.nx ((ρ.set j none).set i (some (.o xs))))
  | _ => other
theorem movW_other {ρ : Env2} {i j : Nat} {x : PM Fl2} (hn : ¬ ∃ xs, ρ[j]? = some (some (.o xs))) : movW ρ i j x = x := by
  unfold movW
  cases h : ρ[j]? with
  | none => rfl
  | some o => cases o with
    | none => rfl
    | some w => cases w with
      | o xs => exact absurd ⟨xs, h⟩ hn
      | _ => rfl
theorem movW_own {ρ : Env2} {i j : Nat} {x : PM Fl2} {xs : List D} (h : ρ[j]? = some (some (.o xs))) (hij : i ≠ j) : movW ρ i j x = pret (.nx ((ρ.set j none).set i (some (.o xs)))) := by
  unfold movW
  rw [h]
  exact if_neg hij
theorem movW_same {ρ : Env2} {j : Nat} {x : PM Fl2} {xs : List D} (h : ρ[j]? = some (some (.o xs))) : movW ρ j j x = pbad := by
  unfold movW
  rw [h]
  exact if_pos rfl
variable (F : Nat → List W → PM W)
mutual
def pvE : X' → (Env2 → PM W)
  | .var i => fun ρ => match ρ[i]? with
    | some (some (.o xs)) => pret (.b xs)
    | some (some w) => pret w
    | _ => pbad
  | .cst d => fun _ => pret (.v d)
  | .bin op a b => fun ρ => pbind (pvE a ρ) fun x => pbind (pvE b ρ) fun y => rd2 (binM op) x y
  | .neg a => fun ρ => pbind (pvE a ρ) fun x => rd1 negM x
  | .cmp op a b => fun ρ => pbind (pvE a ρ) fun x => pbind (pvE b ρ) fun y => rd2 (cmpM op) x y
  | .chn o1 o2 a b c => fun ρ => pbind (pvE a ρ) fun x => pbind (pvE b ρ) fun y => pbind (rd2 (cmpM o1) x y) fun k => pbind (blW k) fun t =>
      if t then pbind (pvE c ρ) fun z => rd2 (cmpM o2) y z else pret (.v (.bl false))
  | .and a b => fun ρ => pbind (pvE a ρ) fun x => pbind (blW x) fun t => if t then pvE b ρ else pret (.v (.bl false))
  | .or a b => fun ρ => pbind (pvE a ρ) fun x => pbind (blW x) fun t => if t then pret (.v (.bl true)) else pvE b ρ
  | .not a => fun ρ => pbind (pvE a ρ) fun x => pbind (blW x) fun t => pret (.v (.bl (!t)))
  | .ife t a b => fun ρ => pbind (pvT t ρ) fun k => if k then pvE a ρ else pvE b ρ
  | .tup es => fun ρ => pbind (pvEs es ρ) (vals newT)
  | .lst own es => fun ρ => pbind (pvEs es ρ) (vals (newL own))
  | .cat own a b => fun ρ => pbind (pvE a ρ) fun x => pbind (pvE b ρ) fun y => rd2 (catM own) x y
  | .rep own a b => fun ρ => pbind (pvE a ρ) fun x => pbind (pvE b ρ) fun y => rd2 (repM own) x y
  | .call f es => fun ρ => pbind (pvEs es ρ) fun xs => F f (xs.map W.arg)
  | .blt b es => fun ρ => pbind (pvEs es ρ) (rds (bltM b))
  | .isi a t => fun ρ => pbind (pvE a ρ) (isiW t)
  | .idx a b => fun ρ => pbind (pvE a ρ) fun x => pbind (pvE b ρ) fun y => rd2 idxM x y
  | .slc own a lo hi => fun ρ => pbind (pvE a ρ) fun x => pbind (pvP lo ρ) fun l => pbind (pvP hi ρ) fun h => rd1 (fun d => slcP own d l h) x
  | .rev own a => fun ρ => pbind (pvE a ρ) (rd1 (revM own))
  | .mth _ _ _ => fun _ => pbad
  | .lc own elt tg it ifs ws => fun ρ => pbind (pvI it ρ) fun items => pbind (pnox (pvLc (pvE elt) (pvTs ifs) tg (wipeW ρ ws) items)) fun ys => pret (if own then .o ys else .v (.fz ys))
  | .lrng own a => fun ρ => pbind (pvE a ρ) (rd1 fun x => match x with
    | .int j => chk (-4611686018427387904 ≤ j) (newL own ((List.range j.toNat).map fun (k : Nat) => D.int (k : Int)))
    | _ => mbad)
  | .trng a => fun ρ => pbind (pvE a ρ) (rd1 trngM)
  | .rgl tup own a b => fun ρ => pbind (pvE a ρ) fun x => pbind (pvE b ρ) fun y => rd2 (rglM tup own) x y
  | .tix a b => fun ρ => pbind (pvE a ρ) fun x => match x with
    | .v (.ptp xs) => pbind (pvE b ρ) fun y => rd2 tixM (.v (.ptp xs)) y
    | _ => pbad
  | .lix a b => fun ρ => pbind (pvE a ρ) fun x => match x.rd with
    | some d => match lstOf d [] with
      | some _ => pbind (pvE b ρ) fun y => rd2 lixM x y
      | none => pbad
    | none => pbad
  | .lc2 own elt tg it ifs tg1 it1 ifs1 ws ws1 => fun ρ => pbind (pvI it ρ) fun items => pbind (pnox (pvLc2 (pvE elt) (pvTs ifs) tg (wipeW ρ ws) (pvI it1) (pvTs ifs1) tg1 ws1 items)) fun ys =>
      if ys.length ≤ line then pret (if own then .o ys else .v (.fz ys)) else pbad
  | .sst own a => fun ρ => pbind (pvE a ρ) (rd1 (sstM own))
  | .lns a => fun ρ => pbind (pvE a ρ) (rd1 lnsM)
  | .cmb own a b => fun ρ => pbind (pvE a ρ) fun x => pbind (pvE b ρ) fun y => rd2 (cmbM own) x y
  | .cmr own a b => fun ρ => pbind (pvE a ρ) fun x => match x with
    | .v (.int j) => pbind (pvE b ρ) fun y => rd1 (cmrM own j) y
    | _ => pbad
  | .ssc own elt tg it tg1 it1 ws ws1 => fun ρ => pbind (pvI it ρ) fun items => pbind (pnox (pvLc2 (pvE elt) (fun _ => pret true) tg (wipeW ρ ws) (pvI it1) (fun _ => pret true) tg1 ws1 items)) fun ys =>
      match setD ys with
      | some zs => if ys.length ≤ line then pret (if own then .o zs else .v (.fz zs)) else pbad
      | none => pbad
def pvEs : List X' → (Env2 → PM (List W))
  | [] => fun _ => pret []
  | e :: es => fun ρ => pbind (pvE e ρ) fun x => pbind (pvEs es ρ) fun xs => pret (x :: xs)
def pvT : T' → (Env2 → PM Bool)
  | .and a b => fun ρ => pbind (pvT a ρ) fun t => if t then pvT b ρ else pret false
  | .or a b => fun ρ => pbind (pvT a ρ) fun t => if t then pret true else pvT b ρ
  | .not a => fun ρ => pbind (pvT a ρ) fun t => pret (!t)
  | .val e => fun ρ => pbind (pvE e ρ) truW
  | .bv e => fun ρ => pbind (pvE e ρ) blW
def pvTs : List T' → (Env2 → PM Bool)
  | [] => fun _ => pret true
  | e :: es => fun ρ => pbind (pvT e ρ) fun t => if t then pvTs es ρ else pret false
def pvP : P' → (Env2 → PM (Option Int))
  | .no => fun _ => pret none
  | .ex e => fun ρ => pbind (pvE e ρ) intW
def pvI : I' → (Env2 → PM (List D))
  | .seq e => fun ρ => pbind (pvE e ρ) fun x => match x.rd with
    | some d => ofOW (seqOf d [])
    | none => pbad
  | .zip a b => fun ρ => pbind (pvE a ρ) fun x => pbind (pvE b ρ) fun y => match x.rd, y.rd with
    | some d, some e => ofOW (zipD d e)
    | _, _ => pbad
  | .enm a => fun ρ => pbind (pvE a ρ) fun x => match x.rd with
    | some d => ofOW (enmD d)
    | none => pbad
  | .rng a => fun ρ => pbind (pvE a ρ) fun x => match x with
    | .v (.int j) => chkP (-4611686018427387904 ≤ j ∧ j ≤ 16777216) (pret ((List.range j.toNat).map fun (k : Nat) => D.int (0 + (k : Int))))
    | _ => pbad
  | .rng2 a b => fun ρ => pbind (pvE a ρ) fun x => pbind (pvE b ρ) fun y => match x, y with
    | .v (.int i), .v (.int j) => chkP (-4611686018427387904 ≤ i ∧ i < 4611686018427387904 ∧ -4611686018427387904 ≤ j ∧ j < 4611686018427387904 ∧ j - i ≤ 16777216) (pret ((List.range (j - i).toNat).map fun (k : Nat) => D.int (i + (k : Int))))
    | _, _ => pbad
end
/-- what a for statement walks: no list that may be changed meanwhile, but by its own slot -/
def W.nob : W → Option D
  | .v d => some d
  | .o xs => some (.fz xs)
  | _ => none
def pvIS : I' → (Env2 → PM (List D))
  | .seq e => fun ρ => match e with
    | .var i => match ρ[i]? with
      | some (some (.o xs)) => pret xs
      | some (some (.b xs)) => pret xs
      | some (some (.v d)) => ofOW (seqOf d [])
      | _ => pbad
    | e => pbind (pvE F e ρ) fun x => match x.nob with
      | some d => ofOW (seqOf d [])
      | none => pbad
  | .zip a b => fun ρ => pbind (pvE F a ρ) fun x => pbind (pvE F b ρ) fun y => match x.nob, y.nob with
    | some d, some e => ofOW (zipD d e)
    | _, _ => pbad
  | it => pvI F it
/-- x = xs.pop(k), xs the body's own -/
def popW (ρ : Env2) (j : Nat) (k : W) : PM (D × Env2) := match ρ[j]?, k with
  | some (some (.o xs)), .v (.int k) => match ixN xs.length k with
    | some m => match xs[m]? with
      | some y => pret (y, ρ.set j (some (.o (xs.eraseIdx m))))
      | none => pbad
    | none => pbad
  | _, _ => pbad
/-- the slot holds a list of the body's own -/
def mthW {α : Type} (ρ : Env2) (j : Nat) (m : PM α) : PM α := match ρ[j]? with
  | some (some (.o _)) => m
  | _ => pbad
theorem mthW_own {α : Type} {ρ : Env2} {j : Nat} {m : PM α} {xs : List D} (h : ρ[j]? = some (some (.o xs))) : mthW ρ j m = m := by
  unfold mthW
  rw [h]
theorem mthW_bad {α : Type} {ρ : Env2} {j : Nat} {m : PM α} (h : ¬ ∃ xs, ρ[j]? = some (some (.o xs))) : mthW ρ j m = pbad := by
  unfold mthW
  cases q : ρ[j]? with
  | none => rfl
  | some o => cases o with
    | none => rfl
    | some w => cases w with
      | o xs => exact absurd ⟨xs, q⟩ h
      | _ => rfl
/-- what was taken out of a list of the body's own goes into another one -/
def pushW (ρ : Env2) (i j : Nat) (d : D) : PM Fl2 := match ρ[j]? with
  | some (some (.o xs)) => if xs.length < line then pret (.nx (ρ.set j (some (.o (xs ++ [d]))))) else pbad
  | _ => pbad
theorem pushW_bad {ρ : Env2} {i j : Nat} {d : D} (h : ¬ ∃ xs, ρ[j]? = some (some (.o xs))) : pushW ρ i j d = pbad := by
  unfold pushW
  cases q : ρ[j]? with
  | none => rfl
  | some o => cases o with
    | none => rfl
    | some w => cases w with
      | o xs => exact absurd ⟨xs, q⟩ h
      | _ => rfl
mutual
def pvS : S' → (Env2 → PM Fl2)
  | .set i e => fun ρ => match e with
    | .mth .popAt (.var j) [k] => mthW ρ j (pbind (pvE F k ρ) fun k => pbind (popW ρ j k) fun p => pret (.nx (p.2.set i (some (.v p.1)))))
    | .var j => movW ρ i j (pbind (varW ρ j) fun w => match w with
      | .b _ => pbad
      | w => pret (.nx (ρ.set i (some w))))
    | e => pbind (pvE F e ρ) fun w => match w with
      | .b _ => pbad
      | w => pret (.nx (ρ.set i (some w)))
  | .asg t e => fun ρ => match e with
    | .mth .popAt (.var j) [k] => mthW ρ j (pbind (pvE F k ρ) fun k => pbind (popW ρ j k) fun p => match tgSetW t p.1 p.2 with
      | some ρ' => pret (.nx ρ')
      | none => pbad)
    | e => pbind (pvE F e ρ) fun w => match w.val with
      | some d => match tgSetW t d ρ with
        | some ρ' => pret (.nx ρ')
        | none => pbad
      | none => pbad
  | .sto o i e => fun ρ => match o with
    | .var j => mthW ρ j (pbind (pvE F e ρ) fun x => pbind (pvE F i ρ) fun k => match ρ[j]?, k, x.val with
      | some (some (.o xs)), .v (.int k), some d => match ixN xs.length k with
        | some m => pret (.nx (ρ.set j (some (.o (xs.set m d)))))
        | none => pbad
      | _, _, _ => pbad)
    | _ => pbad
  | .expr e => fun ρ => match e with
    | .mth .append (.var j) [.mth .popAt (.var i) [k]] => mthW ρ j (mthW ρ i (pbind (pvE F k ρ) fun k => pbind (popW ρ i k) fun p => pushW p.2 i j p.1))
    | .mth .append (.var j) [e] => mthW ρ j (pbind (pvE F e ρ) fun x => match ρ[j]?, x.val with
      | some (some (.o xs)), some d => if xs.length < line then pret (.nx (ρ.set j (some (.o (xs ++ [d]))))) else pbad
      | _, _ => pbad)
    | .mth .extend (.var j) [e] => mthW ρ j (pbind (pvE F e ρ) fun x => match ρ[j]?, x.rd with
      | some (some (.o xs)), some d => match tlsOf d [] with
        | some ys => if xs.length + ys.length ≤ line then pret (.nx (ρ.set j (some (.o (xs ++ ys))))) else pbad
        | none => pbad
      | _, _ => pbad)
    | .mth .popAt (.var j) [k] => mthW ρ j (pbind (pvE F k ρ) fun k => pbind (popW ρ j k) fun p => pret (.nx p.2))
    | e => pbind (pvE F e ρ) fun _ => pret (.nx ρ)
  | .ret e => fun ρ => match e with
    | .var j => match ρ[j]? with
      | some (some (.b _)) => pbad
      | some (some w) => pret (.rt w)
      | _ => pbad
    | e => pbind (pvE F e ρ) fun w => match w with
      | .b _ => pbad
      | w => pret (.rt w)
  | .ife t a b => fun ρ => pbind (pvT F t ρ) fun k => if k then pvSs a ρ else pvSs b ρ
  | .frr t it body => fun ρ => if grdOk it t body then pbind (pvIS F it ρ) fun items => pvFor (pvSs body) t (grd it) items ρ else pbad
  | .whl t body => fun ρ => pvWhl (pvT F t) (pvSs body) 65536 ρ
  | .brk => fun ρ => pret (.bk ρ)
  | .cnt => fun ρ => pret (.ct ρ)
  | .pass => fun ρ => pret (.nx ρ)
  | .nev => fun _ => pbad
def pvSs : List S' → (Env2 → PM Fl2)
  | [] => fun ρ => pret (.nx ρ)
  | s :: r => fun ρ => pbind (pvS s ρ) fun fl => match fl with
    | .nx ρ' => pvSs r ρ'
    | f => pret f
end
def envW (n : Nat) (ws : List W) : Env2 := ws.map some ++ List.replicate (n - ws.length) none
def pvB (f : Fn') (ws : List W) : PM W := pbind (pvSs F f.body (envW f.slots ws)) fun fl => match fl with
  | .nx _ => pret (.v .non)
  | .rt w => pret w
  | _ => pbad
end
/-- the text's functions, k calls deep; gs: those that are told otherwise -/
noncomputable def pvF (gs : Nat → Option (List W → PM W)) (tab : List Fn') : Nat → Nat → List W → PM W
  | 0, _, _ => pbad
  | k + 1, f, ws => match gs f with
    | some g => g ws
    | none => match tab[f]? with
      | some fn => pvB (pvF gs tab k) fn ws
      | none => pbad
end Pu

namespace Pu
open PySem PySem.Spec PyProof.Rows L2

/-! ## primitives see the same in a store where lists are told by their places -/
def Vw (S : Sto) (d' d : D) : Prop := d' = d ∨ ∃ xs j, d' = .fz xs ∧ d = .ref j ∧ j ≠ 0 ∧ S[j]? = some (.lst xs)
def LiftOk (S : Sto) (r0 r : R D) : Prop := match r0 with
  | .ok (.ref 0) [.lst xs] => r = .ok (.ref S.length) (S ++ [.lst xs])
  | .ok d [] => r = .ok d S
  | _ => True
def Snd1 (g : D → M D) : Prop := ∀ S d' d, Vw S d' d → LiftOk S (g d' []) (g d S)
def Snd2 (g : D → D → M D) : Prop := ∀ S d' d e' e, Vw S d' d → Vw S e' e → LiftOk S (g d' e' []) (g d e S)
inductive Vws (S : Sto) : List D → List D → Prop
  | nil : Vws S [] []
  | cons {d' d : D} {ds' ds : List D} : Vw S d' d → Vws S ds' ds → Vws S (d' :: ds') (d :: ds)
def SndL (g : List D → M D) : Prop := ∀ S ds' ds, Vws S ds' ds → LiftOk S (g ds' []) (g ds S)
def Ind (m : M D) : Prop := ∀ S, LiftOk S (m []) (m S)
theorem lo_bad {S : Sto} {r : R D} : LiftOk S .bad r := trivial
theorem lo_same {S : Sto} {d : D} : LiftOk S (.ok d []) (.ok d S) := by
  unfold LiftOk
  split
  · rename_i h; cases h
  · rename_i h; cases h; rfl
  · trivial
theorem ind_ret (d : D) : Ind (mret d) := fun S => lo_same
theorem ind_bad : Ind mbad := fun S => trivial
theorem ind_chk {p : Prop} {m : M D} (h : Ind m) : Ind (chk p m) := fun S => by
  by_cases hp : p
  · rw [chk_pos hp]; exact h S
  · rw [chk_neg hp]; trivial
theorem ind_newT (xs : List D) : Ind (newT xs) := fun S => by
  unfold newT
  by_cases h : xs.length ≤ line
  · rw [if_pos h, if_pos h]; exact lo_same
  · rw [if_neg h]; trivial
theorem ind_newU (own : Bool) (xs : List D) : Ind (newU own xs) := fun S => by
  unfold newU
  cases own with
  | true => rfl
  | false => exact lo_same
theorem ind_newL (own : Bool) (xs : List D) : Ind (newL own xs) := fun S => by
  unfold newL
  by_cases h : xs.length ≤ line
  · rw [if_pos h, if_pos h]
    cases own with
    | true => rfl
    | false => exact lo_same
  · rw [if_neg h]; trivial
theorem vw_refl (S : Sto) (d : D) : Vw S d d := .inl rfl
theorem lst_nil {d : D} {xs : List D} (h : lstOf d [] = some xs) (S : Sto) : lstOf d S = some xs := by
  cases d <;> simp only [lstOf] at h ⊢ <;> first | exact h | (simp at h)
theorem lst_vw {S : Sto} {d' d : D} {xs : List D} (v : Vw S d' d) (h : lstOf d' [] = some xs) : lstOf d S = some xs := by
  rcases v with rfl | ⟨ys, j, rfl, rfl, _, hj⟩
  · exact lst_nil h S
  · simp only [lstOf] at h ⊢
    cases h; rw [hj]
theorem tls_vw {S : Sto} {d' d : D} {xs : List D} (v : Vw S d' d) (h : tlsOf d' [] = some xs) : tlsOf d S = some xs := by
  rcases v with rfl | ⟨ys, j, rfl, rfl, _, hj⟩
  · cases d' <;> simp only [tlsOf] at h ⊢ <;> first | exact h | (simp at h)
  · simp only [tlsOf] at h ⊢
    cases h; rw [hj]
theorem seq_vw {S : Sto} {d' d : D} {xs : List D} (v : Vw S d' d) (h : seqOf d' [] = some xs) : seqOf d S = some xs := by
  rcases v with rfl | ⟨ys, j, rfl, rfl, _, hj⟩
  · cases d' <;> simp only [seqOf] at h ⊢ <;> first | exact h | exact lst_nil h S
  · simp only [seqOf, lstOf] at h ⊢
    cases h; rw [hj]
mutual
theorem py_mono {f g : Nat → Option PyData} (hfg : ∀ i q, f i = some q → g i = some q) : ∀ {d : D} {p : PyData}, toPyG f d = some p → toPyG g d = some p
  | .non, _, h => h
  | .bl _, _, h => h
  | .int _, _, h => h
  | .str _, _, h => h
  | .ref i, p, h => hfg i p h
  | .tup xs, p, h => by
    simp only [toPyG] at h ⊢
    cases q : toPysG f xs with
    | none => rw [q] at h; cases h
    | some ps => rw [q] at h; cases h; rw [pys_mono hfg q]; rfl
  | .ptp xs, p, h => by
    simp only [toPyG] at h ⊢
    cases q : toPysG f xs with
    | none => rw [q] at h; cases h
    | some ps => rw [q] at h; cases h; rw [pys_mono hfg q]; rfl
  | .fz xs, p, h => by
    simp only [toPyG] at h ⊢
    cases q : toPysG f xs with
    | none => rw [q] at h; cases h
    | some ps => rw [q] at h; cases h; rw [pys_mono hfg q]; rfl
  | .fr xs, p, h => by
    simp only [toPyG] at h ⊢
    cases q : toPysG f xs with
    | none => rw [q] at h; cases h
    | some ps => rw [q] at h; cases h; rw [pys_mono hfg q]; rfl
theorem pys_mono {f g : Nat → Option PyData} (hfg : ∀ i q, f i = some q → g i = some q) : ∀ {ds : List D} {ps : List PyData}, toPysG f ds = some ps → toPysG g ds = some ps
  | [], _, h => h
  | d :: ds, ps, h => by
    simp only [toPysG] at h ⊢
    cases q1 : toPyG f d with
    | none => simp [q1] at h
    | some p =>
      cases q2 : toPysG f ds with
      | none => simp [q1, q2] at h
      | some ps' =>
        simp only [q1, q2] at h
        rw [py_mono hfg q1, pys_mono hfg q2]
        exact h
end
theorem deref_nil (i : Nat) : deref [] i = none := by simp [deref]
theorem py_vw {S : Sto} {d' d : D} {p : PyData} (v : Vw S d' d) (h : toPy [] d' = some p) : toPy S d = some p := by
  rcases v with rfl | ⟨ys, j, rfl, rfl, _, hj⟩
  · exact py_mono (fun i q e => by rw [deref_nil] at e; cases e) h
  · unfold toPy at h ⊢
    simp only [toPyG] at h ⊢
    unfold deref
    rw [hj]
    have e : (deref [] : Nat → Option PyData) = fun _ => none := funext deref_nil
    rw [e] at h
    exact h
theorem snd_ind2 {g : D → D → M D} (h : ∀ d e, Ind (g d e)) (h1 : ∀ xs e, g (.fz xs) e [] = .bad) (h2 : ∀ xs d, g d (.fz xs) [] = .bad) : Snd2 g := fun S d' d e' e v w => by
  rcases v with rfl | ⟨xs, j, rfl, rfl, _, _⟩
  · rcases w with rfl | ⟨xs, j, rfl, rfl, _, _⟩
    · exact h _ _ S
    · rw [h2]; trivial
  · rw [h1]; trivial
theorem snd_bin (op : Operator) : Snd2 (binM op) := by
  refine snd_ind2 (fun d e S => ?_) (fun xs e => ?_) (fun xs d => ?_)
  · unfold binM
    split <;> first | exact ind_ret _ S | exact ind_chk (ind_ret _) S | trivial
  · cases op <;> cases e <;> rfl
  · cases op <;> cases d <;> rfl
theorem snd_neg : Snd1 negM := fun S d' d v => by
  rcases v with rfl | ⟨xs, j, rfl, rfl, _, _⟩
  · unfold negM
    split <;> first | exact ind_ret _ S | trivial
  · trivial
theorem snd_eq (neg : Bool) : Snd2 (eqM neg) := fun S d' d e' e v w => by
  unfold eqM
  cases h1 : toPy [] d' with
  | none => trivial
  | some p =>
    cases h2 : toPy [] e' with
    | none => trivial
    | some q =>
      rw [py_vw v h1, py_vw w h2]
      dsimp only
      by_cases hc : (SeqAt.shaped p && SeqAt.shaped q) = true
      · rw [if_pos hc, if_pos hc]; exact lo_same
      · rw [if_neg hc]; trivial
theorem snd_lt : Snd2 ltM := by
  refine snd_ind2 (fun d e S => ?_) (fun xs e => ?_) (fun xs d => ?_)
  · unfold ltM
    split
    · exact lo_same
    · split
      · exact lo_same
      · trivial
    · trivial
  · cases e <;> rfl
  · cases d <;> rfl
theorem snd_is (neg : Bool) : Snd2 (isM neg) := fun S d' d e' e v w => by
  unfold isM
  rcases w with rfl | ⟨xs, j, rfl, rfl, _, _⟩
  · cases e' <;> first | trivial | skip
    · rcases v with rfl | ⟨xs, j, rfl, rfl, _, _⟩
      · exact lo_same
      · exact lo_same
    · rcases v with rfl | ⟨xs, j, rfl, rfl, _, _⟩
      · cases d' <;> first | trivial | exact lo_same
      · trivial
  · trivial
theorem snd_deep (neg : Bool) : Snd2 (inDeep neg) := fun S d' d e' e v w => by
  unfold inDeep
  cases h1 : toPy [] d' with
  | none => trivial
  | some p =>
    cases h2 : toPy [] e' with
    | none => trivial
    | some q =>
      rw [py_vw v h1, py_vw w h2]
      cases q <;> first | trivial | skip
      · rename_i qs
        dsimp only
        by_cases hc : (SeqAt.shaped p && SeqAt.shaped (.list qs)) = true
        · rw [if_pos hc, if_pos hc]; exact lo_same
        · rw [if_neg hc]; trivial
      · rename_i qs
        dsimp only
        by_cases hc : (SeqAt.shaped p && SeqAt.shaped (.tuple qs)) = true
        · rw [if_pos hc, if_pos hc]; exact lo_same
        · rw [if_neg hc]; trivial
theorem inM_other {neg : Bool} {d e : D} {S : Sto} (h1 : ∀ xs, e ≠ .tup xs) (h2 : ∀ xs, e ≠ .ptp xs) : inM neg d e S = inDeep neg d e S := by
  cases e <;> first | rfl | exact absurd rfl (h1 _) | exact absurd rfl (h2 _)
theorem flat_vw {S : Sto} {d' d : D} (v : Vw S d' d) (h : flatD d' = true) : d' = d := by
  rcases v with rfl | ⟨xs, j, rfl, rfl, _, _⟩
  · rfl
  · cases h
theorem snd_in (neg : Bool) : Snd2 (inM neg) := fun S d' d e' e v w => by
  have tup : ∀ xs : List D, e' = e → LiftOk S (if flatD d' && xs.all flatD then .ok (.bl (if neg then !xs.any fun y => eqF y d' else xs.any fun y => eqF y d')) [] else inDeep neg d' e' [])
      (if flatD d && xs.all flatD then .ok (.bl (if neg then !xs.any fun y => eqF y d else xs.any fun y => eqF y d)) S else inDeep neg d e S) := fun xs he => by
    subst he
    by_cases hc : (flatD d' && xs.all flatD) = true
    · have hf := (Bool.and_eq_true _ _ ▸ hc).1
      have e := flat_vw v hf
      subst e
      rw [if_pos hc, if_pos hc]; exact lo_same
    · have hc2 : ¬ (flatD d && xs.all flatD) = true := fun h => by
        have hf := (Bool.and_eq_true _ _ ▸ h).1
        rcases v with rfl | ⟨_, j, _, rfl, _⟩
        · exact hc h
        · cases hf
      rw [if_neg hc, if_neg hc2]
      exact snd_deep neg S d' d e' e' v (vw_refl S e')
  by_cases n1 : ∃ xs, e' = .tup xs
  · obtain ⟨xs, rfl⟩ := n1
    have : .tup xs = e := by
      rcases w with h | ⟨ys, j, h, _⟩
      · exact h
      · cases h
    subst this
    exact tup xs rfl
  · by_cases n2 : ∃ xs, e' = .ptp xs
    · obtain ⟨xs, rfl⟩ := n2
      have : .ptp xs = e := by
        rcases w with h | ⟨ys, j, h, _⟩
        · exact h
        · cases h
      subst this
      exact tup xs rfl
    · have m1 : ∀ xs, e ≠ .tup xs := fun xs he => by
        rcases w with rfl | ⟨ys, j, rfl, rfl, _, _⟩
        · exact n1 ⟨xs, he⟩
        · cases he
      have m2 : ∀ xs, e ≠ .ptp xs := fun xs he => by
        rcases w with rfl | ⟨ys, j, rfl, rfl, _, _⟩
        · exact n2 ⟨xs, he⟩
        · cases he
      rw [inM_other (fun xs h => n1 ⟨xs, h⟩) (fun xs h => n2 ⟨xs, h⟩), inM_other m1 m2]
      exact snd_deep neg S d' d e' e v w
theorem cmp_eq {d e : D} (h : ¬ ((∃ i, d = .int i) ∧ ∃ j, e = .int j)) : cmpM .Eq d e = eqM false d e := by
  cases d <;> cases e <;> first | rfl | exact absurd ⟨⟨_, rfl⟩, _, rfl⟩ h
theorem cmp_ne {d e : D} (h : ¬ ((∃ i, d = .int i) ∧ ∃ j, e = .int j)) : cmpM .NotEq d e = eqM true d e := by
  cases d <;> cases e <;> first | rfl | exact absurd ⟨⟨_, rfl⟩, _, rfl⟩ h
theorem snd_eqC (op : CmpOp) (neg : Bool) (f : Int → Int → Bool) (h1 : ∀ i j, cmpM op (.int i) (.int j) = mret (.bl (f i j))) (h2 : ∀ d e, ¬ ((∃ i, d = .int i) ∧ ∃ j, e = .int j) → cmpM op d e = eqM neg d e) : Snd2 (cmpM op) := by
  intro S d' d e' e v w
  by_cases h : (∃ i, d' = .int i) ∧ ∃ j, e' = .int j
  · obtain ⟨⟨i, rfl⟩, j, rfl⟩ := h
    have g1 := flat_vw v rfl
    have g2 := flat_vw w rfl
    subst g1; subst g2
    rw [h1]
    exact lo_same
  · have h' : ¬ ((∃ i, d = .int i) ∧ ∃ j, e = .int j) := fun ⟨⟨i, hi⟩, j, hj⟩ => by
      subst hi; subst hj
      rcases v with rfl | ⟨_, _, _, z, _⟩
      · rcases w with rfl | ⟨_, _, _, z, _⟩
        · exact h ⟨⟨_, rfl⟩, _, rfl⟩
        · cases z
      · cases z
    rw [h2 _ _ h, h2 _ _ h']
    exact snd_eq neg S d' d e' e v w
theorem snd_cmp (op : CmpOp) : Snd2 (cmpM op) := by
  intro S d' d e' e v w
  cases op with
  | Lt => exact snd_lt S d' d e' e v w
  | In => exact snd_in false S d' d e' e v w
  | NotIn => exact snd_in true S d' d e' e v w
  | Is => exact snd_is false S d' d e' e v w
  | IsNot => exact snd_is true S d' d e' e v w
  | Eq => exact snd_eqC .Eq false (fun i j => decide (i = j)) (fun _ _ => rfl) (fun _ _ h => cmp_eq h) S d' d e' e v w
  | NotEq => exact snd_eqC .NotEq true (fun i j => !decide (i = j)) (fun _ _ => rfl) (fun _ _ h => cmp_ne h) S d' d e' e v w
  | LtE =>
    refine snd_ind2 (fun d e S => ?_) (fun xs e => ?_) (fun xs d => ?_) S d' d e' e v w
    · cases d <;> cases e <;> first | exact lo_same | trivial
    · cases e <;> rfl
    · cases d <;> rfl
  | Gt =>
    refine snd_ind2 (fun d e S => ?_) (fun xs e => ?_) (fun xs d => ?_) S d' d e' e v w
    · cases d <;> cases e <;> first | exact lo_same | trivial
    · cases e <;> rfl
    · cases d <;> rfl
  | GtE =>
    refine snd_ind2 (fun d e S => ?_) (fun xs e => ?_) (fun xs d => ?_) S d' d e' e v w
    · cases d <;> cases e <;> first | exact lo_same | trivial
    · cases e <;> rfl
    · cases d <;> rfl
/-! ## catenation, repetition, places, slices, built-ins -/
theorem snd_lst2 {g : D → D → M D} {own : Bool} : True := trivial
theorem tls_seq {d : D} {xs : List D} {S : Sto} (h : tlsOf d S = some xs) : (∃ ys, d = .fz ys) ∨ ∃ j, d = .ref j := by
  cases d <;> simp only [tlsOf] at h <;> first | (cases h; done) | exact .inl ⟨_, rfl⟩ | exact .inr ⟨_, rfl⟩
theorem cat_lst {own : Bool} {d e : D} {S : Sto} (h1 : (∃ ys, d = .fz ys) ∨ ∃ j, d = .ref j) : catM own d e S = (match tlsOf d S, tlsOf e S with
    | some xs, some ys => newL own (xs ++ ys) S
    | _, _ => .bad) := by
  rcases h1 with ⟨ys, rfl⟩ | ⟨j, rfl⟩ <;> cases e <;> rfl
theorem ind_catP (own : Bool) (d e : D) (xs ys : List D) : Ind (catP own d e xs ys) := fun S => by
  unfold catP
  by_cases h : xs.length + ys.length ≤ line
  · rw [if_pos h, if_pos h]; exact lo_same
  · rw [if_neg h]; trivial
theorem snd_cat (own : Bool) : Snd2 (catM own) := fun S d' d e' e v w => by
  by_cases h1 : (∃ ys, d' = .fz ys) ∨ ∃ j, d' = .ref j
  · have h2 : (∃ ys, d = .fz ys) ∨ ∃ j, d = .ref j := by
      rcases v with rfl | ⟨_, j, _, rfl, _⟩
      · exact h1
      · exact .inr ⟨_, rfl⟩
    rw [cat_lst h1, cat_lst h2]
    cases q1 : tlsOf d' [] with
    | none => trivial
    | some xs =>
      cases q2 : tlsOf e' [] with
      | none => trivial
      | some ys =>
        rw [tls_vw v q1, tls_vw w q2]
        exact ind_newL own _ S
  · have hd : d' = d := by
      rcases v with rfl | ⟨_, _, rfl, _⟩
      · rfl
      · exact absurd (.inl ⟨_, rfl⟩) h1
    subst hd
    by_cases h3 : (∃ ys, e' = .fz ys) ∨ ∃ j, e' = .ref j
    · have : catM own d' e' [] = .bad := by
        rcases h3 with ⟨ys, rfl⟩ | ⟨j, rfl⟩ <;> cases d' <;> first | rfl | exact absurd (.inl ⟨_, rfl⟩) h1 | exact absurd (.inr ⟨_, rfl⟩) h1
      rw [this]; trivial
    · have he : e' = e := by
        rcases w with rfl | ⟨_, _, rfl, _⟩
        · rfl
        · exact absurd (.inl ⟨_, rfl⟩) h3
      subst he
      cases d' <;> cases e' <;> first | trivial | exact lo_same | exact absurd (.inl ⟨_, rfl⟩) h1 | exact absurd (.inr ⟨_, rfl⟩) h1 | exact ind_catP _ _ _ _ _ S | skip
      · rename_i x y
        show LiftOk S (if x.length + y.length ≤ line then .ok (.str (x ++ y)) [] else .bad) (if x.length + y.length ≤ line then .ok (.str (x ++ y)) S else .bad)
        split
        · exact lo_same
        · trivial
      · rename_i xs ys
        cases own with
        | false => exact ind_newT _ S
        | true => exact ind_catP _ _ _ _ _ S
theorem rep_lst {own : Bool} {d e : D} {S : Sto} (h1 : (∃ ys, d = .fz ys) ∨ ∃ j, d = .ref j) : repM own d e S = (match e with
    | .int k => (match tlsOf d S with
      | some xs => chk (0 ≤ k ∧ k < 9223372036854775808) (newL own (List.replicate k.toNat xs).flatten) S
      | none => .bad)
    | _ => .bad) := by
  rcases h1 with ⟨ys, rfl⟩ | ⟨j, rfl⟩ <;> cases e <;> rfl
theorem snd_rep (own : Bool) : Snd2 (repM own) := fun S d' d e' e v w => by
  by_cases h1 : (∃ ys, d' = .fz ys) ∨ ∃ j, d' = .ref j
  · have h2 : (∃ ys, d = .fz ys) ∨ ∃ j, d = .ref j := by
      rcases v with rfl | ⟨_, j, _, rfl, _⟩
      · exact h1
      · exact .inr ⟨_, rfl⟩
    rw [rep_lst h1, rep_lst h2]
    cases e' <;> first | trivial | skip
    have := flat_vw w rfl
    subst this
    dsimp only
    cases q1 : tlsOf d' [] with
    | none => trivial
    | some xs =>
      rw [tls_vw v q1]
      exact ind_chk (ind_newL own _) S
  · have hd : d' = d := by
      rcases v with rfl | ⟨_, _, rfl, _⟩
      · rfl
      · exact absurd (.inl ⟨_, rfl⟩) h1
    subst hd
    by_cases hk : ∃ k, e' = .int k
    · obtain ⟨k, rfl⟩ := hk
      have := flat_vw w rfl
      subst this
      cases d' <;> first | trivial | exact absurd (.inl ⟨_, rfl⟩) h1 | exact absurd (.inr ⟨_, rfl⟩) h1 | skip
      · exact ind_chk (ind_ret _) S
      · rename_i xs
        show LiftOk S (if xs ≠ [] ∧ 2 ≤ k ∧ k ≤ 1000 ∧ xs.length ≤ 1000 then .ok (.tup (List.replicate k.toNat xs).flatten) [] else .bad) (if xs ≠ [] ∧ 2 ≤ k ∧ k ≤ 1000 ∧ xs.length ≤ 1000 then .ok (.tup (List.replicate k.toNat xs).flatten) S else .bad)
        split
        · exact lo_same
        · trivial
    · have : repM own d' e' [] = .bad := by
        cases d' <;> cases e' <;> first | rfl | exact absurd ⟨_, rfl⟩ hk
      rw [this]; trivial
theorem snd_idx : Snd2 idxM := fun S d' d e' e v w => by
  unfold idxM
  cases e' <;> first | trivial | skip
  have := flat_vw w rfl
  subst this
  dsimp only
  cases q : seqOf d' [] with
  | none => trivial
  | some xs =>
    rw [seq_vw v q]
    dsimp only
    split
    · exact lo_same
    · trivial
theorem snd_tix : Snd2 tixM := fun S d' d e' e v w => by
  unfold tixM
  rcases v with rfl | ⟨_, _, rfl, _⟩
  · cases d' <;> first | trivial | skip
    dsimp only
    split
    · rename_i hc
      have := flat_vw w (Bool.and_eq_true _ _ ▸ hc).1
      subst this
      rw [if_pos hc]
      split
      · exact lo_same
      · trivial
    · trivial
  · trivial
theorem snd_lix : Snd2 lixM := fun S d' d e' e v w => by
  unfold lixM
  cases h1 : toPy [] d' with
  | none => trivial
  | some p =>
    cases h2 : toPy [] e' with
    | none => cases p <;> trivial
    | some q =>
      rw [py_vw v h1, py_vw w h2]
      cases p <;> first | trivial | skip
      dsimp only
      split
      · split
        · exact lo_same
        · trivial
      · trivial
theorem snd_slc (own : Bool) (lo hi : Option Int) : Snd1 (fun d => slcP own d lo hi) := fun S d' d v => by
  rcases v with rfl | ⟨xs, j, rfl, rfl, _, hj⟩
  · cases d' <;> first | trivial | exact lo_same | exact ind_newU own _ S | skip
  · show LiftOk S (newU own (cutD xs lo hi) []) (slcP own (.ref j) lo hi S)
    have : slcP own (.ref j) lo hi S = newU own (cutD xs lo hi) S := by
      simp only [slcP, lstOf, hj]
    rw [this]
    exact ind_newU own _ S
theorem snd_rev (own : Bool) : Snd1 (revM own) := fun S d' d v => by
  rcases v with rfl | ⟨xs, j, rfl, rfl, _, hj⟩
  · cases d' <;> first | trivial | exact lo_same | exact ind_newU own _ S | skip
  · show LiftOk S (newU own xs.reverse []) (revM own (.ref j) S)
    have : revM own (.ref j) S = newU own xs.reverse S := by
      simp only [revM, lstOf, hj]
    rw [this]
    exact ind_newU own _ S
theorem ind_setM (own : Bool) (xs : List D) (S : Sto) : LiftOk S (setM own xs []) (setM own xs S) := by
  unfold setM
  cases setD xs with
  | none => trivial
  | some ys => exact ind_newU own ys S
theorem snd_sst (own : Bool) : Snd1 (sstM own) := fun S d' d v => by
  rcases v with rfl | ⟨xs, j, rfl, rfl, _, hj⟩
  · cases d' <;> first | trivial | exact ind_setM own _ S | skip
  · show LiftOk S (setM own xs []) (sstM own (.ref j) S)
    have : sstM own (.ref j) S = setM own xs S := by
      simp only [sstM, seqOf, lstOf, hj]
    rw [this]
    exact ind_setM own _ S
theorem snd_lns : Snd1 lnsM := fun S d' d v => by
  show LiftOk S (match (seqOf d' []).bind asInts with | some ns => if ns.length < 64 then .ok (.int (dedI ns).length) [] else .bad | none => .bad) (match (seqOf d S).bind asInts with | some ns => if ns.length < 64 then .ok (.int (dedI ns).length) S else .bad | none => .bad)
  rcases v with rfl | ⟨xs, j, rfl, rfl, _, hj⟩
  · cases q : (seqOf d' []).bind asInts with
    | none => trivial
    | some ns =>
      have : (seqOf d' S).bind asInts = some ns := by
        cases d' <;> first | exact q | (simp [seqOf, lstOf] at q)
      rw [this]
      dsimp only
      split
      · exact lo_same
      · trivial
  · have : seqOf (.ref j) S = some xs := by simp only [seqOf, lstOf, hj]
    rw [this]
    show LiftOk S (match (some xs).bind asInts with | some ns => if ns.length < 64 then .ok (.int (dedI ns).length) [] else .bad | none => .bad) _
    cases q : (some xs).bind asInts with
    | none => trivial
    | some ns =>
      dsimp only
      split
      · exact lo_same
      · trivial
theorem vws_one {S : Sto} {ds' ds : List D} (h : Vws S ds' ds) : (∃ d' d, ds' = [d'] ∧ ds = [d] ∧ Vw S d' d) ∨ ((∀ d, ds' ≠ [d])) := by
  cases h with
  | nil => exact .inr (by simp)
  | cons h t => cases t with
    | nil => exact .inl ⟨_, _, rfl, rfl, h⟩
    | cons h2 t2 => exact .inr (by simp)
/-- of one argument -/
theorem sndL_one {g : List D → M D} (h1 : Snd1 fun d => g [d]) (h2 : ∀ ds, (∀ d, ds ≠ [d]) → g ds [] = .bad) : SndL g := fun S ds' ds v => by
  rcases vws_one v with ⟨d', d, rfl, rfl, h⟩ | h
  · exact h1 S d' d h
  · rw [h2 _ h]; trivial
theorem ne_one {g : List D → M D} (hb : g [] [] = .bad) (hc : ∀ a b r, g (a :: b :: r) [] = .bad) : ∀ ds, (∀ d, ds ≠ [d]) → g ds [] = .bad
  | [], _ => hb
  | [d], h => absurd rfl (h d)
  | a :: b :: r, _ => hc a b r
theorem snd_len : SndL lenM := sndL_one (fun S d' d v => by
  by_cases hs : ∃ x, d' = .str x
  · obtain ⟨x, rfl⟩ := hs
    have := flat_vw v rfl
    subst this
    show LiftOk S (if x.length ≤ line then .ok (.int x.length) [] else .bad) (if x.length ≤ line then .ok (.int x.length) S else .bad)
    split
    · exact lo_same
    · trivial
  · have e1 : ∀ (d : D) (S : Sto), (¬ ∃ x, d = .str x) → lenM [d] S = (match seqOf d S with | some xs => .ok (.int xs.length) S | none => .bad) := fun d S h => by
      cases d <;> first | rfl | exact absurd ⟨_, rfl⟩ h
    have hs2 : ¬ ∃ x, d = .str x := fun ⟨x, hx⟩ => by
      subst hx
      rcases v with rfl | ⟨_, _, _, z, _⟩
      · exact hs ⟨_, rfl⟩
      · cases z
    show LiftOk S (lenM [d'] []) (lenM [d] S)
    rw [e1 _ _ hs, e1 _ _ hs2]
    cases q : seqOf d' [] with
    | none => trivial
    | some xs => rw [seq_vw v q]; exact lo_same) (ne_one rfl fun a _ _ => by cases a <;> rfl)
theorem bind_lst {α : Type} {S : Sto} {d' d : D} {f : List D → Option α} {a : α} (v : Vw S d' d) (h : (lstOf d' []).bind f = some a) : (lstOf d S).bind f = some a := by
  obtain ⟨xs, h1, h2⟩ := Option.bind_eq_some_iff.mp h
  rw [lst_vw v h1]; exact h2
theorem snd_all : SndL allM := sndL_one (fun S d' d v => by
  show LiftOk S (match (lstOf d' []).bind asBools with | some bs => .ok (.bl (bs.all id)) [] | none => .bad) (match (lstOf d S).bind asBools with | some bs => .ok (.bl (bs.all id)) S | none => .bad)
  cases q : (lstOf d' []).bind asBools with
  | none => trivial
  | some bs => rw [bind_lst v q]; exact lo_same) (ne_one rfl fun _ _ _ => rfl)
theorem snd_any : SndL anyM := sndL_one (fun S d' d v => by
  show LiftOk S (match (lstOf d' []).bind asBools with | some bs => .ok (.bl (bs.any id)) [] | none => .bad) (match (lstOf d S).bind asBools with | some bs => .ok (.bl (bs.any id)) S | none => .bad)
  cases q : (lstOf d' []).bind asBools with
  | none => trivial
  | some bs => rw [bind_lst v q]; exact lo_same) (ne_one rfl fun _ _ _ => rfl)
theorem snd_sum : SndL sumM := sndL_one (fun S d' d v => by
  show LiftOk S (match lstInts d' [] with | some ns => .ok (.int ns.sum) [] | none => .bad) (match lstInts d S with | some ns => .ok (.int ns.sum) S | none => .bad)
  unfold lstInts
  cases q : (lstOf d' []).bind asInts with
  | none => trivial
  | some bs => rw [bind_lst v q]; exact lo_same) (ne_one rfl fun _ _ _ => rfl)
theorem snd_min1 : SndL min1M := sndL_one (fun S d' d v => by
  show LiftOk S (match (lstInts d' []).bind leastI with | some n => .ok (.int n) [] | none => match seqOf d' [] with | some xs => (match xs[bestAt xs]? with | some y => chk (minOk xs) (mret y) [] | none => .bad) | none => .bad) (match (lstInts d S).bind leastI with | some n => .ok (.int n) S | none => match seqOf d S with | some xs => (match xs[bestAt xs]? with | some y => chk (minOk xs) (mret y) S | none => .bad) | none => .bad)
  have key : seqOf d' [] ≠ none → lstInts d S = lstInts d' [] := fun hn => by
    unfold lstInts
    cases q : lstOf d' [] with
    | some xs => rw [lst_vw v q]
    | none =>
      rcases v with rfl | ⟨ys, j, rfl, rfl, _, hj⟩
      · cases d' <;> first | rfl | (exact absurd q hn) | (simp only [lstOf] at q; exact absurd q (by simp))
      · simp [lstOf] at q
  cases h : seqOf d' [] with
  | none =>
    have e : lstInts d' [] = none := by
      unfold lstInts
      cases q : lstOf d' [] with
      | none => rfl
      | some xs =>
        have : seqOf d' [] = some xs := by cases d' <;> first | exact q | cases q
        rw [h] at this; cases this
    rw [e]; trivial
  | some xs =>
    rw [key (by rw [h]; simp), seq_vw v h]
    cases (lstInts d' []).bind leastI with
    | some n => exact lo_same
    | none =>
      dsimp only
      cases xs[bestAt xs]? with
      | none => trivial
      | some y =>
        dsimp only
        by_cases c : minOk xs
        · rw [chk_pos c]; exact lo_same
        · have : ∀ T, (chk (minOk xs) (mret y) : M D) T = .bad := fun T => by unfold chk; rw [if_neg c]; rfl
          rw [this]; trivial) (ne_one rfl fun _ _ _ => rfl)
theorem snd_max1 : SndL max1M := sndL_one (fun S d' d v => by
  show LiftOk S (match (lstInts d' []).bind mostI with | some n => .ok (.int n) [] | none => .bad) (match (lstInts d S).bind mostI with | some n => .ok (.int n) S | none => .bad)
  unfold lstInts
  cases q : (lstOf d' []).bind asInts with
  | none => trivial
  | some bs =>
    rw [bind_lst v q]
    dsimp only [Option.bind_some]
    split
    · exact lo_same
    · trivial) (ne_one rfl fun _ _ _ => rfl)
theorem snd_abs : SndL absM := sndL_one (fun S d' d v => by
  rcases v with rfl | ⟨xs, j, rfl, rfl, _, _⟩
  · cases d' <;> first | trivial | exact lo_same
  · trivial) (ne_one rfl fun a _ _ => by cases a <;> rfl)
theorem snd_int : SndL intM := sndL_one (fun S d' d v => by
  rcases v with rfl | ⟨xs, j, rfl, rfl, _, _⟩
  · cases d' <;> first | trivial | exact lo_same
  · trivial) (ne_one rfl fun a _ _ => by cases a <;> rfl)
theorem snd_list (own : Bool) : SndL (listM own) := sndL_one (fun S d' d v => by
  show LiftOk S (match seqOf d' [] with | some xs => newU own xs [] | none => .bad) (match seqOf d S with | some xs => newU own xs S | none => .bad)
  cases q : seqOf d' [] with
  | none => trivial
  | some xs => rw [seq_vw v q]; exact ind_newU own _ S) (ne_one rfl fun _ _ _ => rfl)
theorem snd_tuple : SndL tupleM := sndL_one (fun S d' d v => by
  show LiftOk S (match seqOf d' [] with | some xs => .ok (.tup xs) [] | none => .bad) (match seqOf d S with | some xs => .ok (.tup xs) S | none => .bad)
  cases q : seqOf d' [] with
  | none => trivial
  | some xs => rw [seq_vw v q]; exact lo_same) (ne_one rfl fun _ _ _ => rfl)
theorem snd_tupleP : SndL tuplePM := sndL_one (fun S d' d v => by
  have e1 : ∀ (d : D) (S : Sto), (¬ ∃ x, d = .ptp x) → tuplePM [d] S = (match lstOf d S with | some xs => .ok (.ptp xs) S | none => .bad) := fun d S h => by
    cases d <;> first | rfl | exact absurd ⟨_, rfl⟩ h
  by_cases hs : ∃ x, d' = .ptp x
  · obtain ⟨x, rfl⟩ := hs
    rcases v with h | ⟨_, _, h, _⟩
    · subst h; exact lo_same
    · cases h
  · have hs2 : ¬ ∃ x, d = .ptp x := fun ⟨x, hx⟩ => by
      subst hx
      rcases v with rfl | ⟨_, _, _, z, _⟩
      · exact hs ⟨_, rfl⟩
      · cases z
    show LiftOk S (tuplePM [d'] []) (tuplePM [d] S)
    rw [e1 _ _ hs, e1 _ _ hs2]
    cases q : lstOf d' [] with
    | none => trivial
    | some xs => rw [lst_vw v q]; exact lo_same) (ne_one rfl fun a _ _ => by cases a <;> rfl)
theorem asPairs_ints : ∀ {xs : List D} {ps : List (Int × Int)}, asPairs xs = some ps → ∀ ns, asInts xs = some ns → ps = []
  | [], ps, h, _, _ => by simp only [asPairs] at h; cases h; rfl
  | d :: r, ps, h, ns, h2 => by
    cases d <;> simp only [asInts] at h2 <;> first | (cases h2; done) | skip
    simp only [asPairs] at h; cases h
theorem snd_sorted (own : Bool) : SndL (sortedM own) := sndL_one (fun S d' d v => by
  show LiftOk S (match (seqOf d' []).bind asInts with
    | some ns => newU own ((sortI ns).map D.int) []
    | none => match (lstOf d' []).bind asPairs with
      | some ps => newU own ((sortP ps).map pairOf) []
      | none => match lstOf d' [] with
        | some xs => chk (sortOk xs) (newU own (sortD xs)) []
        | none => .bad) (match (seqOf d S).bind asInts with
    | some ns => newU own ((sortI ns).map D.int) S
    | none => match (lstOf d S).bind asPairs with
      | some ps => newU own ((sortP ps).map pairOf) S
      | none => match lstOf d S with
        | some xs => chk (sortOk xs) (newU own (sortD xs)) S
        | none => .bad)
  cases q : seqOf d' [] with
  | none =>
    have q2 : lstOf d' [] = none := by
      cases d' <;> first | rfl | exact q
    rw [q2]; trivial
  | some xs =>
    rw [seq_vw v q]
    dsimp only [Option.bind_some]
    cases hi : asInts xs with
    | some ns => exact ind_newU own _ S
    | none =>
      dsimp only
      cases q2 : lstOf d' [] with
      | none => trivial
      | some ys =>
        rw [lst_vw v q2]
        dsimp only [Option.bind_some]
        cases hp : asPairs ys with
        | some ps => exact ind_newU own _ S
        | none => exact ind_chk (ind_newU own _) S) (ne_one rfl fun _ _ _ => rfl)
theorem snd_min2 : SndL min2M := fun S ds' ds v => by
  cases v with
  | nil => trivial
  | cons h t => cases t with
    | nil => rename_i a b; cases a <;> trivial
    | cons h2 t2 => cases t2 with
      | cons h3 t3 => rename_i a b c d e f g i; cases a <;> cases c <;> trivial
      | nil =>
        rename_i a b c d
        cases a <;> first | trivial | skip
        cases c <;> first | trivial | skip
        have g1 := flat_vw h rfl
        have g2 := flat_vw h2 rfl
        subst g1; subst g2
        exact lo_same
theorem snd_max2 : SndL max2M := fun S ds' ds v => by
  cases v with
  | nil => trivial
  | cons h t => cases t with
    | nil => rename_i a b; cases a <;> trivial
    | cons h2 t2 => cases t2 with
      | cons h3 t3 => rename_i a b c d e f g i; cases a <;> cases c <;> trivial
      | nil =>
        rename_i a b c d
        cases a <;> first | trivial | skip
        cases c <;> first | trivial | skip
        have g1 := flat_vw h rfl
        have g2 := flat_vw h2 rfl
        subst g1; subst g2
        exact lo_same
theorem snd_blt (b : Bi) : SndL (bltM b) := by
  cases b with
  | len => exact snd_len
  | all => exact snd_all
  | any => exact snd_any
  | abs => exact snd_abs
  | int => exact snd_int
  | list own => exact snd_list own
  | tuple => exact snd_tuple
  | tupleP => exact snd_tupleP
  | sorted own => exact snd_sorted own
  | sum => exact snd_sum
  | min1 => exact snd_min1
  | max1 => exact snd_max1
  | min2 => exact snd_min2
  | max2 => exact snd_max2
theorem isK_vw {S : Sto} {d' d : D} {t : Ty} {b : Bool} (v : Vw S d' d) (h : isK t d' [] = some b) : isK t d S = some b := by
  rcases v with rfl | ⟨xs, j, rfl, rfl, _, hj⟩
  · cases d' <;> first | exact h | (simp [isK] at h)
  · simp only [isK, hj]
    cases t <;> exact h
theorem tru_vw {S : Sto} {d' d : D} {b : Bool} {S0 : Sto} (v : Vw S d' d) (h : truM d' [] = .ok b S0) : truM d S = .ok b S := by
  have e1 : ∀ (d : D) (S : Sto), flatD d = false → truM d S = (match seqOf d S with | some xs => .ok (!xs.isEmpty) S | none => .bad) := fun d S h => by
    cases d <;> first | rfl | (simp [flatD] at h)
  by_cases hf : flatD d' = true
  · have := flat_vw v hf
    subst this
    cases d' <;> first | (simp [flatD] at hf; done) | skip
    · cases h; rfl
    · cases h; rfl
    · cases h; rfl
    · rename_i x
      simp only [truM] at h ⊢
      split at h
      · rename_i hl; cases h; rw [if_pos hl]
      · cases h
  · have hf' := Bool.eq_false_iff.mpr hf
    have hf2 : flatD d = false := by
      rcases v with rfl | ⟨xs, j, rfl, rfl, _, hj⟩
      · exact hf'
      · rfl
    rw [e1 _ _ hf'] at h
    rw [e1 _ _ hf2]
    cases q : seqOf d' [] with
    | none => rw [q] at h; cases h
    | some xs => rw [q] at h; cases h; rw [seq_vw v q]
theorem snd_trng : Snd1 trngM := fun S d' d v => by
  rcases v with rfl | ⟨xs, j, rfl, rfl, _, _⟩
  · cases d' <;> first | trivial | exact ind_chk (ind_newT _) S
  · trivial
theorem ind_cmbL (own : Bool) (xs : List D) (r : Int) : Ind (cmbL own xs r) := by
  unfold cmbL
  refine ind_chk ?_
  cases Cmb.allC xs.length r.toNat with
  | some L => exact ind_newL own _
  | none => exact fun S => trivial
noncomputable def cmbO (own : Bool) (o : Option (List D)) (e : D) (S : Sto) : R D := match o, e with
  | some xs, .int r => cmbL own xs r S
  | _, _ => .bad
theorem cmbM_eq {own : Bool} {d e : D} {S : Sto} : cmbM own d e S = cmbO own (seqOf d S) e S := by
  unfold cmbM cmbO
  cases seqOf d S <;> cases e <;> rfl
theorem snd_cmb (own : Bool) : Snd2 (cmbM own) := fun S d' d e' e v w => by
  rw [cmbM_eq, cmbM_eq]
  have key : ∀ (xs : List D) (e' e : D), Vw S e' e → LiftOk S (cmbO own (some xs) e' []) (cmbO own (some xs) e S) := fun xs e' e w => by
    rcases w with rfl | ⟨ys, j, rfl, rfl, _, _⟩
    · cases e' <;> first | trivial | exact ind_cmbL own _ _ S
    · trivial
  rcases v with rfl | ⟨xs, j, rfl, rfl, _, hj⟩
  · have q : ∀ T : Sto, seqOf d' T = seqOf d' [] ∨ seqOf d' [] = none := fun T => by cases d' <;> simp [seqOf, lstOf]
    rcases q S with q | q
    · rw [q]
      cases hq : seqOf d' [] with
      | none => trivial
      | some xs => exact key xs e' e w
    · rw [q]; trivial
  · have : seqOf (.ref j) S = some xs := by simp only [seqOf, lstOf, hj]
    rw [this]
    exact key xs e' e w
theorem snd_cmr (own : Bool) (j : Int) : Snd1 (cmrM own j) := fun S d' d v => by
  rcases v with rfl | ⟨xs, i, rfl, rfl, _, _⟩
  · cases d' <;> first | trivial | exact ind_chk (ind_cmbL own _ _) S
  · trivial
theorem snd_rgl (tup own : Bool) : Snd2 (rglM tup own) := by
  refine snd_ind2 (fun d e S => ?_) (fun xs e => ?_) (fun xs d => ?_)
  · cases d <;> cases e <;> first | trivial | skip
    refine ind_chk ?_ S
    cases tup with
    | true => exact ind_newT _
    | false => exact ind_newL own _
  · cases e <;> rfl
  · cases d <;> rfl
end Pu

namespace Pu
open PySem PySem.Spec PyProof.Rows L2

/-! ## what holds between the two -/
/-- the stream at 0 may go on, what lies below N else stays -/
def Fr (N : Nat) (S S' : Sto) : Prop := S.length ≤ S'.length ∧ ∀ i, 0 < i → i < N → S'[i]? = S[i]?
theorem Fr.refl (N : Nat) (S : Sto) : Fr N S S := ⟨Nat.le_refl _, fun _ _ _ => rfl⟩
theorem Fr.trans {N : Nat} {S S1 S2 : Sto} (a : Fr N S S1) (b : Fr N S1 S2) : Fr N S S2 := ⟨Nat.le_trans a.1 b.1, fun i h0 h => (b.2 i h0 h).trans (a.2 i h0 h)⟩
theorem Fr.weak {N N' : Nat} {S S' : Sto} (a : Fr N' S S') (h : N ≤ N') : Fr N S S' := ⟨a.1, fun i h0 hi => a.2 i h0 (Nat.lt_of_lt_of_le hi h)⟩
def Ag {α β : Type} (N : Nat) (Rel : Sto → α → β → Prop) (S : Sto) : PR α → R β → Prop
  | .ok a σ', r => ∃ b S', r = .ok b S' ∧ Fr N S S' ∧ S'[0]? = some (strOb σ') ∧ Rel S' a b
  | .exc c fs σ', r => ∃ S', r = .exc c fs S' ∧ Fr N S S' ∧ S'[0]? = some (strOb σ')
  | .bad, _ => True
section
variable {α β γ δ : Type} {N N' : Nat} {Rel : Sto → α → β → Prop} {Rel' : Sto → γ → δ → Prop} {S S0 : Sto}
theorem Ag.weak {p : PR α} {r : R β} (h : Ag N' Rel S p r) (hn : N ≤ N') : Ag N Rel S p r := by
  cases p with
  | ok a σ => obtain ⟨b, S', e, f, s, q⟩ := h; exact ⟨b, S', e, f.weak hn, s, q⟩
  | exc c fs σ => obtain ⟨S', e, f, s⟩ := h; exact ⟨S', e, f.weak hn, s⟩
  | bad => trivial
theorem Ag.pre {p : PR α} {r : R β} (f0 : Fr N S0 S) (h : Ag N Rel S p r) : Ag N Rel S0 p r := by
  cases p with
  | ok a σ => obtain ⟨b, S', e, f, s, q⟩ := h; exact ⟨b, S', e, f0.trans f, s, q⟩
  | exc c fs σ => obtain ⟨S', e, f, s⟩ := h; exact ⟨S', e, f0.trans f, s⟩
  | bad => trivial
theorem Ag.bind {p : PR α} {r : R β} {f : α → PM γ} {g : β → M δ} (h : Ag N Rel S p r) (hf : ∀ a b S1 σ1, Fr N S S1 → S1[0]? = some (strOb σ1) → Rel S1 a b → Ag N Rel' S1 (f a σ1) (g b S1)) : Ag N Rel' S (p.bind f) (r.bind g) := by
  cases p with
  | ok a σ =>
    obtain ⟨b, S', rfl, fr, s, q⟩ := h
    exact (hf a b S' σ fr s q).pre fr
  | exc c fs σ => obtain ⟨S', rfl, fr, s⟩ := h; exact ⟨S', rfl, fr, s⟩
  | bad => trivial
theorem Ag.ret {a : α} {b : β} {σ : Strm} (s : S[0]? = some (strOb σ)) (q : Rel S a b) : Ag N Rel S (.ok a σ) (.ok b S) := ⟨b, S, rfl, .refl _ _, s, q⟩
theorem Ag.imp {Rel2 : Sto → α → β → Prop} {p : PR α} {r : R β} (h : Ag N Rel S p r) (f : ∀ S a b, Rel S a b → Rel2 S a b) : Ag N Rel2 S p r := by
  cases p with
  | ok a σ => obtain ⟨b, S', e, fr, s, q⟩ := h; exact ⟨b, S', e, fr, s, f _ _ _ q⟩
  | exc c fs σ => exact h
  | bad => trivial
end
/-- a result; a list of the caller's own stands at B0 or behind -/
def ResOk (B0 : Nat) (S : Sto) (w : W) (d : D) : Prop := match w with
  | .v d' => d' = d
  | .o xs => ∃ j, d = .ref j ∧ B0 ≤ j ∧ j ≠ 0 ∧ S[j]? = some (.lst xs)
  | .b xs => ∃ j, d = .ref j ∧ j ≠ 0 ∧ S[j]? = some (.lst xs)
  | .s => d = .ref 0
def ResOks (B0 : Nat) (S : Sto) : List W → List D → Prop
  | [], [] => True
  | w :: ws, d :: ds => ResOk B0 S w d ∧ ResOks B0 S ws ds
  | _, _ => False
def SlotOk (B : Nat) (S : Sto) (w : W) (d : D) : Prop := match w with
  | .v d' => d' = d
  | .o xs => ∃ j, d = .ref j ∧ B ≤ j ∧ S[j]? = some (.lst xs)
  | .b xs => ∃ j, d = .ref j ∧ j ≠ 0 ∧ j < B ∧ S[j]? = some (.lst xs)
  | .s => d = .ref 0
structure Mx (B : Nat) (ρ2 : Env2) (ρ : Env') (S : Sto) : Prop where
  len : ρ.length = ρ2.length
  base : 1 ≤ B ∧ B ≤ S.length
  slot : ∀ (i : Nat) (w : W), ρ2[i]? = some (some w) → ∃ d : D, ρ[i]? = some (some d) ∧ SlotOk B S w d
  inj : ∀ (i k : Nat) (xs ys : List D) (j : Nat), ρ2[i]? = some (some (.o xs)) → ρ2[k]? = some (some (.o ys)) → ρ[i]? = some (some (.ref j)) → ρ[k]? = some (some (.ref j)) → i = k
theorem lt_of_get {S : Sto} {j : Nat} {o : Ob} (h : S[j]? = some o) : j < S.length := (List.getElem?_eq_some_iff.mp h).1
section
variable {B B0 : Nat} {ρ2 : Env2} {ρ : Env'} {S S1 : Sto} {w : W} {d : D}
theorem ResOk.step (h : ResOk B0 S w d) (f : Fr S.length S S1) : ResOk B0 S1 w d := by
  cases w with
  | v d' => exact h
  | o xs => obtain ⟨j, e, h1, h2, h3⟩ := h; exact ⟨j, e, h1, h2, by rw [f.2 j (Nat.pos_of_ne_zero h2) (lt_of_get h3)]; exact h3⟩
  | b xs => obtain ⟨j, e, h2, h3⟩ := h; exact ⟨j, e, h2, by rw [f.2 j (Nat.pos_of_ne_zero h2) (lt_of_get h3)]; exact h3⟩
  | s => exact h
theorem ResOks.step : ∀ {ws : List W} {ds : List D}, ResOks B0 S ws ds → Fr S.length S S1 → ResOks B0 S1 ws ds
  | [], [], _, _ => trivial
  | _ :: _, _ :: _, h, f => ⟨h.1.step f, ResOks.step h.2 f⟩
  | [], _ :: _, h, _ => h.elim
  | _ :: _, [], h, _ => h.elim
theorem SlotOk.stepN {N : Nat} (h : SlotOk B S w d) (f : Fr N S S1) (hB : 1 ≤ B) (hN : ∀ xs j, w = .o xs ∨ w = .b xs → d = .ref j → j < N) : SlotOk B S1 w d := by
  cases w with
  | v d' => exact h
  | o xs => obtain ⟨j, e, h1, h3⟩ := h; exact ⟨j, e, h1, by rw [f.2 j (by omega) (hN xs j (.inl rfl) e)]; exact h3⟩
  | b xs => obtain ⟨j, e, h2, h4, h3⟩ := h; exact ⟨j, e, h2, h4, by rw [f.2 j (Nat.pos_of_ne_zero h2) (hN xs j (.inr rfl) e)]; exact h3⟩
  | s => exact h
theorem Mx.step (m : Mx B ρ2 ρ S) (f : Fr S.length S S1) : Mx B ρ2 ρ S1 :=
  ⟨m.len, ⟨m.base.1, Nat.le_trans m.base.2 f.1⟩, fun i w h => by
    obtain ⟨d, h1, h2⟩ := m.slot i w h
    refine ⟨d, h1, h2.stepN f m.base.1 fun xs j hw hd => ?_⟩
    rcases hw with rfl | rfl
    · obtain ⟨j', e, _, h4⟩ := h2
      rw [hd] at e; cases e
      exact lt_of_get h4
    · obtain ⟨j', e, _, _, h4⟩ := h2
      rw [hd] at e; cases e
      exact lt_of_get h4, m.inj⟩
theorem ResOk.vw {d' : D} (h : ResOk B0 S w d) (r : w.rd = some d') : Vw S d' d := by
  cases w with
  | v d1 => cases r; exact .inl h
  | o xs => cases r; obtain ⟨j, e, _, h2, h3⟩ := h; exact .inr ⟨xs, j, rfl, e, h2, h3⟩
  | b xs => cases r; obtain ⟨j, e, h2, h3⟩ := h; exact .inr ⟨xs, j, rfl, e, h2, h3⟩
  | s => cases r
theorem ResOks.vws : ∀ {ws : List W} {ds ds' : List D}, ResOks B0 S ws ds → mapO W.rd ws = some ds' → Vws S ds' ds
  | [], [], ds', _, r => by simp only [mapO] at r; cases r; exact .nil
  | w :: ws, d :: ds, ds', h, r => by
    simp only [mapO] at r
    split at r
    · rename_i b bs h1 h2
      cases r
      exact .cons (h.1.vw h1) (ResOks.vws h.2 h2)
    · cases r
  | [], _ :: _, _, h, _ => h.elim
  | _ :: _, [], _, h, _ => h.elim
theorem ResOks.vals : ∀ {ws : List W} {ds ds' : List D}, ResOks B0 S ws ds → mapO W.val ws = some ds' → ds' = ds
  | [], [], ds', _, r => by simp only [mapO] at r; cases r; rfl
  | w :: ws, d :: ds, ds', h, r => by
    simp only [mapO] at r
    split at r
    · rename_i b bs h1 h2
      cases r
      have e := ResOks.vals h.2 h2
      cases w <;> simp only [W.val] at h1 <;> first | (cases h1; done) | skip
      cases h1
      have h0 : b = d := h.1
      rw [h0, e]
    · cases r
  | [], _ :: _, _, h, _ => h.elim
  | _ :: _, [], _, h, _ => h.elim
theorem ResOk.val {d' : D} (h : ResOk B0 S w d) (r : w.val = some d') : d' = d := by
  cases w <;> simp only [W.val] at r <;> first | (cases r; done) | skip
  cases r; exact h
end
section
variable {B0 N : Nat} {S : Sto} {σ : Strm}
/-- what a primitive gives -/
theorem lift_ag {m : M D} {r : R D} (hB : B0 ≤ S.length) (h1 : 1 ≤ S.length) (hN : N ≤ S.length) (s : S[0]? = some (strOb σ)) (h : LiftOk S (m []) r) : Ag N (ResOk B0) S (lift m σ) r := by
  unfold lift
  unfold LiftOk at h
  split
  · rename_i xs e
    rw [e] at h
    have h : r = .ok (.ref S.length) (S ++ [.lst xs]) := h
    subst h
    refine ⟨_, _, rfl, ⟨by simp, fun i h0 hi => List.getElem?_append_left (by omega)⟩, ?_, S.length, rfl, hB, by omega, by simp⟩
    rw [List.getElem?_append_left (by omega)]; exact s
  · rename_i d hne e
    rw [e] at h
    split at h
    · rename_i he; cases he
    · rename_i he; cases he; subst h
      exact .ret s rfl
    · rename_i h1 h2; exact absurd rfl (h2 _)
  · trivial
theorem rd1_ag {g : D → M D} {x : W} {d : D} (hg : Snd1 g) (hB : B0 ≤ S.length) (h1 : 1 ≤ S.length) (hN : N ≤ S.length) (s : S[0]? = some (strOb σ)) (r : ResOk B0 S x d) : Ag N (ResOk B0) S (rd1 g x σ) (g d S) := by
  unfold rd1
  cases q : x.rd with
  | none => trivial
  | some d' => exact lift_ag hB h1 hN s (hg S d' d (r.vw q))
theorem rd2_ag {g : D → D → M D} {x y : W} {d e : D} (hg : Snd2 g) (hB : B0 ≤ S.length) (h1 : 1 ≤ S.length) (hN : N ≤ S.length) (s : S[0]? = some (strOb σ)) (r : ResOk B0 S x d) (r2 : ResOk B0 S y e) : Ag N (ResOk B0) S (rd2 g x y σ) (g d e S) := by
  unfold rd2
  cases q : x.rd with
  | none => trivial
  | some d' =>
    cases q2 : y.rd with
    | none => trivial
    | some e' => exact lift_ag hB h1 hN s (hg S d' d e' e (r.vw q) (r2.vw q2))
theorem rds_ag {g : List D → M D} {xs : List W} {ds : List D} (hg : SndL g) (hB : B0 ≤ S.length) (h1 : 1 ≤ S.length) (hN : N ≤ S.length) (s : S[0]? = some (strOb σ)) (r : ResOks B0 S xs ds) : Ag N (ResOk B0) S (rds g xs σ) (g ds S) := by
  unfold rds
  cases q : mapO W.rd xs with
  | none => trivial
  | some ds' => exact lift_ag hB h1 hN s (hg S ds' ds (r.vws q))
theorem vals_ag {g : List D → M D} {xs : List W} {ds : List D} (hg : ∀ ds, Ind (g ds)) (hB : B0 ≤ S.length) (h1 : 1 ≤ S.length) (hN : N ≤ S.length) (s : S[0]? = some (strOb σ)) (r : ResOks B0 S xs ds) : Ag N (ResOk B0) S (vals g xs σ) (g ds S) := by
  unfold vals
  cases q : mapO W.val xs with
  | none => trivial
  | some ds' =>
    have := r.vals q
    subst this
    exact lift_ag hB h1 hN s (hg _ S)
abbrev RelB (_ : Sto) (a b : Bool) : Prop := a = b
abbrev RelO' (_ : Sto) (a b : Option Int) : Prop := a = b
theorem bl_ag {x : W} {d : D} (s : S[0]? = some (strOb σ)) (r : ResOk B0 S x d) : Ag N RelB S (blW x σ) (blM d S) := by
  unfold blW
  split
  · have r : D.bl _ = d := r
    subst r
    exact .ret s rfl
  · trivial
theorem tru_ag {x : W} {d : D} (s : S[0]? = some (strOb σ)) (r : ResOk B0 S x d) : Ag N RelB S (truW x σ) (truM d S) := by
  unfold truW
  cases q : x.rd with
  | none => trivial
  | some d' =>
    dsimp only
    split
    · rename_i b e
      rw [tru_vw (r.vw q) e]
      exact .ret s rfl
    · trivial
theorem int_ag {x : W} {d : D} (s : S[0]? = some (strOb σ)) (r : ResOk B0 S x d) : Ag N RelO' S (intW x σ) (intO d S) := by
  unfold intW
  split
  · have r : D.int _ = d := r
    subst r
    exact .ret s rfl
  · trivial
end

/-! ## targets -/
theorem rho_set {B : Nat} {ρ2 : Env2} {ρ : Env'} {S : Sto} (m : Mx B ρ2 ρ S) (i : Nat) (d : D) : Mx B (ρ2.set i (some (.v d))) (ρ.set i (some d)) S := by
  refine ⟨by simp [m.len], m.base, fun k w h => ?_, fun k l xs ys j h1 h2 h3 h4 => ?_⟩
  · by_cases e : i = k
    · subst e
      have hl : i < ρ2.length := by simpa using (List.getElem?_eq_some_iff.mp h).1
      rw [List.getElem?_set_self hl] at h
      cases h
      exact ⟨d, by rw [List.getElem?_set_self (by rw [m.len]; exact hl)], rfl⟩
    · rw [List.getElem?_set_ne e] at h
      obtain ⟨d', h1, h2⟩ := m.slot k w h
      exact ⟨d', by rw [List.getElem?_set_ne e]; exact h1, h2⟩
  · have ne : ∀ {k : Nat} {xs : List D}, (ρ2.set i (some (.v d)))[k]? = some (some (.o xs)) → i ≠ k := fun {k xs} h e => by
      subst e
      have hl : i < ρ2.length := by simpa using (List.getElem?_eq_some_iff.mp h).1
      rw [List.getElem?_set_self hl] at h
      cases h
    have n1 := ne h1
    have n2 := ne h2
    rw [List.getElem?_set_ne n1] at h1 h3
    rw [List.getElem?_set_ne n2] at h2 h4
    exact m.inj k l xs ys j h1 h2 h3 h4
theorem rho_none {B : Nat} {ρ2 : Env2} {ρ : Env'} {S : Sto} (m : Mx B ρ2 ρ S) (i : Nat) : Mx B (ρ2.set i none) (ρ.set i none) S := by
  have back : ∀ {k : Nat} {w : W}, (ρ2.set i none)[k]? = some (some w) → i ≠ k ∧ ρ2[k]? = some (some w) := fun {k w} h => by
    have ne : i ≠ k := fun e => by
      subst e
      have hl : i < ρ2.length := by simpa using (List.getElem?_eq_some_iff.mp h).1
      rw [List.getElem?_set_self hl] at h
      cases h
    exact ⟨ne, by rw [List.getElem?_set_ne ne] at h; exact h⟩
  refine ⟨by simp [m.len], m.base, fun k w h => ?_, fun k l xs ys j h1 h2 h3 h4 => ?_⟩
  · obtain ⟨ne, h'⟩ := back h
    obtain ⟨d', h1, h2⟩ := m.slot k w h'
    exact ⟨d', by rw [List.getElem?_set_ne ne]; exact h1, h2⟩
  · obtain ⟨n1, q1⟩ := back h1
    obtain ⟨n2, q2⟩ := back h2
    rw [List.getElem?_set_ne n1] at h3
    rw [List.getElem?_set_ne n2] at h4
    exact m.inj k l xs ys j q1 q2 h3 h4
theorem rho_wipe {B : Nat} {ρ2 : Env2} {ρ : Env'} {S : Sto} (m : Mx B ρ2 ρ S) : ∀ ws : List Nat, Mx B (wipeW ρ2 ws) (wipeE ρ ws) S
  | [] => m
  | i :: r => by
    have := rho_none (rho_wipe m r) i
    exact this
mutual
theorem tg_mt {B : Nat} {S : Sto} : ∀ {t : Tg} {d : D} {ρ2 ρ2' : Env2} {ρ : Env'}, Mx B ρ2 ρ S → tgSetW t d ρ2 = some ρ2' → ∃ ρ', tgSet t d ρ = some ρ' ∧ Mx B ρ2' ρ' S
  | .nm i, d, ρ2, ρ2', ρ, m, h => by
    simp only [tgSetW] at h; cases h
    exact ⟨_, by simp only [tgSet], rho_set m i d⟩
  | .tp ts, d, ρ2, ρ2', ρ, m, h => by
    cases d <;> simp only [tgSetW] at h <;> first | (cases h; done) | skip
    · obtain ⟨ρ', h1, h2⟩ := tgs_mt m h
      exact ⟨ρ', by simp only [tgSet]; exact h1, h2⟩
    · obtain ⟨ρ', h1, h2⟩ := tgs_mt m h
      exact ⟨ρ', by simp only [tgSet]; exact h1, h2⟩
theorem tgs_mt {B : Nat} {S : Sto} : ∀ {ts : List Tg} {ds : List D} {ρ2 ρ2' : Env2} {ρ : Env'}, Mx B ρ2 ρ S → tgSetsW ts ds ρ2 = some ρ2' → ∃ ρ', tgSets ts ds ρ = some ρ' ∧ Mx B ρ2' ρ' S
  | [], [], ρ2, ρ2', ρ, m, h => by
    simp only [tgSetsW] at h; cases h
    exact ⟨ρ, by simp only [tgSets], m⟩
  | t :: ts, d :: ds, ρ2, ρ2', ρ, m, h => by
    simp only [tgSetsW] at h
    cases q : tgSetW t d ρ2 with
    | none => rw [q] at h; cases h
    | some ρ3 =>
      rw [q] at h
      have h : tgSetsW ts ds ρ3 = some ρ2' := h
      obtain ⟨ρ1, h1, m1⟩ := tg_mt m q
      obtain ⟨ρ', h2, m2⟩ := tgs_mt m1 h
      exact ⟨ρ', by simp only [tgSets, h1, Option.bind_some, h2], m2⟩
  | [], _ :: _, _, _, _, _, h => by simp only [tgSetsW] at h; cases h
  | _ :: _, [], _, _, _, _, h => by simp only [tgSetsW] at h; cases h
end
end Pu

namespace Pu
open PySem PySem.Spec PyProof.Rows L2

/-! ## what is walked -/
def SrcIs (P : Nat → Prop) (S : Sto) (items : List D) (src : Src) : Prop := items.length ≤ src.n ∧ ∀ S' : Sto, (∀ j, P j → S'[j]? = S[j]?) → ∀ i, src.nxt i S' = some items[i]?
def RelI (S : Sto) (items : List D) (src : Src) : Prop := ∃ P : Nat → Prop, (∀ j, P j → 0 < j ∧ j < S.length) ∧ SrcIs P S items src
/-- where a value's list stands -/
def At (d : D) (j : Nat) : Prop := d = .ref j
theorem lst_at {d : D} {xs : List D} {S S' : Sto} (h : lstOf d S = some xs) (hk : ∀ j, At d j → S'[j]? = S[j]?) : lstOf d S' = some xs := by
  cases d <;> simp only [lstOf] at h ⊢ <;> first | exact h | skip
  rename_i j
  rw [hk j rfl]; exact h
theorem src_of {S : Sto} {d' d : D} {xs : List D} (v : Vw S d' d) (h : seqOf d' [] = some xs) : ∃ src, srcOf d S = some src ∧ SrcIs (At d) S xs src := by
  have hs := seq_vw v h
  cases d with
  | tup ys => simp only [seqOf] at hs; cases hs; exact ⟨_, rfl, Nat.le_refl _, fun S' _ i => rfl⟩
  | ptp ys => simp only [seqOf] at hs; cases hs; exact ⟨_, rfl, Nat.le_refl _, fun S' _ i => rfl⟩
  | fz ys => simp only [seqOf, lstOf] at hs; cases hs; exact ⟨_, rfl, Nat.le_refl _, fun S' _ i => rfl⟩
  | fr ys => simp only [seqOf, lstOf] at hs; cases hs; exact ⟨_, rfl, Nat.le_refl _, fun S' _ i => rfl⟩
  | ref j =>
    simp only [seqOf, lstOf] at hs
    cases q : S[j]? with
    | none => rw [q] at hs; cases hs
    | some o =>
      rw [q] at hs
      cases o <;> simp only at hs <;> first | (cases hs; done) | skip
      cases hs
      refine ⟨⟨xs.length, fun i S' => match S'[j]? with | some (.lst ys) => some ys[i]? | _ => none⟩, by simp only [srcOf, q] <;> rfl, Nat.le_refl _, fun S' hk i => ?_⟩
      show (match S'[j]? with | some (.lst ys) => some ys[i]? | _ => none) = _
      rw [hk j rfl, q]
  | _ => cases hs
theorem zipWith_get (xs ys : List D) (i : Nat) : (List.zipWith (fun a b => D.tup [a, b]) xs ys)[i]? = pairD xs[i]? ys[i]? := by
  rw [List.getElem?_zipWith]
  cases xs[i]? <;> cases ys[i]? <;> rfl
theorem zip_of {S : Sto} {d' d e' e : D} {xs : List D} (v : Vw S d' d) (w : Vw S e' e) (h : zipD d' e' = some xs) : ∃ src, zipOf d e S = some src ∧ src.n ≤ line ∧ SrcIs (fun j => At d j ∨ At e j) S xs src := by
  have tups : ∀ (ys zs : List D), xs = List.zipWith (fun a b => .tup [a, b]) ys zs → SrcIs (fun j => At d j ∨ At e j) S xs ⟨ys.length, fun i _ => some (pairD ys[i]? zs[i]?)⟩ := fun ys zs hx => by
    subst hx
    exact ⟨by simp; omega, fun S' _ i => by rw [zipWith_get]⟩
  unfold zipD at h
  split at h
  · split at h
    · rename_i hn
      cases h
      rcases v with rfl | ⟨_, _, z, _⟩
      · rcases w with rfl | ⟨_, _, z, _⟩
        · exact ⟨_, rfl, hn, tups _ _ rfl⟩
        · cases z
      · cases z
    · cases h
  · split at h
    · rename_i hn
      cases h
      rcases v with rfl | ⟨_, _, z, _⟩
      · rcases w with rfl | ⟨_, _, z, _⟩
        · exact ⟨_, rfl, hn, tups _ _ rfl⟩
        · cases z
      · cases z
    · cases h
  · cases h
  · cases h
  · split at h
    · rename_i ys zs h1 h2
      split at h
      · rename_i hn
        cases h
        have n1 : ∀ a, d ≠ .tup a := fun a ha => by
          subst ha
          rcases v with rfl | ⟨_, _, _, z, _⟩
          · cases h1
          · cases z
        have n2 : ∀ a, e ≠ .tup a := fun a ha => by
          subst ha
          rcases w with rfl | ⟨_, _, _, z, _⟩
          · cases h2
          · cases z
        have n3 : ∀ a, d ≠ .ptp a := fun a ha => by
          subst ha
          rcases v with rfl | ⟨_, _, _, z, _⟩
          · cases h1
          · cases z
        have g1 := lst_vw v h1
        have g2 := lst_vw w h2
        refine ⟨⟨ys.length, fun i S' => match lstOf d S', lstOf e S' with | some us, some vs => some (pairD us[i]? vs[i]?) | _, _ => none⟩, ?_, hn, ?_, ?_⟩
        · unfold zipOf
          split
          · exact absurd rfl (n1 _)
          · exact absurd rfl (n3 _)
          · exact absurd rfl (n1 _)
          · exact absurd rfl (n2 _)
          · simp only [g1, g2] <;> rfl
        · simp; omega
        · intro S' hk i
          show (match lstOf d S', lstOf e S' with | some us, some vs => some (pairD us[i]? vs[i]?) | _, _ => none) = _
          rw [lst_at g1 fun j hj => hk j (.inl hj), lst_at g2 fun j hj => hk j (.inr hj)]
          rw [zipWith_get]
      · cases h
    · cases h
theorem enm_of {S : Sto} {d' d : D} {xs : List D} (v : Vw S d' d) (h : enmD d' = some xs) : ∃ src, enmOf d = some src ∧ SrcIs (fun _ => False) S xs src := by
  have go : ∀ ys : List D, SrcIs (fun _ => False) S (ys.mapIdx fun i d => .tup [.int i, d]) ⟨ys.length, fun i _ => some ((ys[i]?).map fun d => .tup [.int i, d])⟩ := fun ys => by
    refine ⟨by simp, fun S' _ i => ?_⟩
    rw [List.getElem?_mapIdx]
  unfold enmD at h
  split at h
  · cases h
    rcases v with rfl | ⟨_, _, z, _⟩
    · exact ⟨_, rfl, go _⟩
    · cases z
  · cases h
    rcases v with rfl | ⟨_, _, z, _⟩
    · exact ⟨_, rfl, go _⟩
    · cases z
  · cases h
theorem rng_of {S : Sto} (lo : Int) (n : Nat) : SrcIs (fun _ => False) S ((List.range n).map fun (k : Nat) => D.int (lo + (k : Int))) (rngOf lo n) := by
  refine ⟨by simp [rngOf], fun S' _ i => ?_⟩
  show some (if i < n then some (D.int (lo + i)) else none) = _
  by_cases h : i < n
  · rw [if_pos h]; simp [h]
  · rw [if_neg h, List.getElem?_eq_none (by simp; omega)]

/-! ## comprehensions -/
theorem fr_src {P : Nat → Prop} {S0 S S1 : Sto} (hP : ∀ j, P j → 0 < j ∧ j < S0.length) (k : ∀ j, P j → S[j]? = S0[j]?) (hl : S0.length ≤ S.length) (f : Fr S.length S S1) : ∀ j, P j → S1[j]? = S0[j]? := fun j hj =>
  (f.2 j (hP j hj).1 (Nat.lt_of_lt_of_le (hP j hj).2 hl)).trans (k j hj)
section
variable {B B0 : Nat} {elt2 : Env2 → PM W} {ifs2 : Env2 → PM Bool} {elt : Env' → M D} {ifs : Env' → M Bool} {tg : Tg} {ρ2 : Env2} {ρ : Env'}
/-- what is shown of an expression -/
def OkE (B : Nat) (e2 : Env2 → PM W) (e : Env' → M D) : Prop := ∀ ρ2 ρ S σ, Mx B ρ2 ρ S → S[0]? = some (strOb σ) → ∀ B0, B0 ≤ S.length → Ag S.length (ResOk B0) S (e2 ρ2 σ) (e ρ S)
def OkT (B : Nat) (e2 : Env2 → PM Bool) (e : Env' → M Bool) : Prop := ∀ ρ2 ρ S σ, Mx B ρ2 ρ S → S[0]? = some (strOb σ) → Ag S.length RelB S (e2 ρ2 σ) (e ρ S)
def OkI (B : Nat) (e2 : Env2 → PM (List D)) (e : Env' → M Src) : Prop := ∀ ρ2 ρ S σ, Mx B ρ2 ρ S → S[0]? = some (strOb σ) → Ag S.length RelI S (e2 ρ2 σ) (e ρ S)
theorem lc_ag (he : OkE B elt2 elt) (hi : OkT B ifs2 ifs) {P : Nat → Prop} {S0 : Sto} {items : List D} {src : Src} (hP : ∀ j, P j → 0 < j ∧ j < S0.length) (hs : SrcIs P S0 items src) :
    ∀ (rest : List D) (i n : Nat) (acc : List D) (S : Sto) (σ : Strm), rest = items.drop i → items.length ≤ i + n → S0.length ≤ S.length → (∀ j, P j → S[j]? = S0[j]?) → Mx B ρ2 ρ S → S[0]? = some (strOb σ) →
      Ag S.length (fun _ ys ds => ds = acc ++ ys) S (pvLc elt2 ifs2 tg ρ2 rest σ) (lcLoop elt ifs tg src n i ρ acc S) := by
  intro rest
  induction rest with
  | nil =>
    intro i n acc S σ hr hn hl hk m s
    have hnx : src.nxt i S = some none := by
      rw [hs.2 S hk i, List.getElem?_eq_none]
      have := congrArg List.length hr
      simp at this; omega
    unfold lcLoop
    simp only [hnx]
    exact .ret s (by simp)
  | cons d rest ih =>
    intro i n acc S σ hr hn hl hk m s
    have hi' : i < items.length := by
      have := congrArg List.length hr
      simp at this; omega
    have hd : items[i]? = some d := by
      have h := congrArg (fun l => l[0]?) hr
      simp at h
      exact h.symm
    have hnx : src.nxt i S = some (some d) := by rw [hs.2 S hk i, hd]
    have hrest : rest = items.drop (i + 1) := by
      have h := congrArg List.tail hr
      simpa using h
    cases n with
    | zero => omega
    | succ n =>
      unfold lcLoop pvLc
      simp only [hnx]
      cases ht : tgSetW tg d ρ2 with
      | none => trivial
      | some ρ2' =>
        obtain ⟨ρ', ht', m'⟩ := tg_mt m ht
        simp only [ht']
        refine (hi ρ2' ρ' S σ m' s).bind ?_
        rintro b _ S1 σ1 f1 s1 rfl
        have m1 := m.step f1
        cases b with
        | false =>
          simp only [Bool.false_eq_true, if_false]
          exact (ih (i + 1) n acc S1 σ1 hrest (by omega) (Nat.le_trans hl f1.1) (fr_src hP hk hl f1) m1 s1).weak f1.1
        | true =>
          simp only [if_true]
          refine ((he ρ2' ρ' S1 σ1 (m'.step f1) s1 0 (Nat.zero_le _)).weak f1.1).bind ?_
          rintro y y' S2 σ2 f2 s2 r2
          cases hy : y.val with
          | none => trivial
          | some y1 =>
            have := r2.val hy
            subst this
            have f12 := f1.trans f2
            have m2 := m.step f12
            have hk2 := fr_src hP hk hl f12
            have q := (ih (i + 1) n (acc ++ [y1]) S2 σ2 hrest (by omega) (Nat.le_trans hl f12.1) hk2 m2 s2).weak f12.1
            dsimp only
            cases hp : pvLc elt2 ifs2 tg ρ2 rest σ2 with
            | bad => simp only [pbind, hp]; trivial
            | exc c fs σ3 => simp only [pbind, hp]; rw [hp] at q; exact q
            | ok ys σ3 =>
              simp only [pbind, hp]
              rw [hp] at q
              obtain ⟨ds, S3, e3, f3, s3, q3⟩ := q
              exact ⟨ds, S3, e3, f3, s3, by rw [q3]; simp⟩
end
end Pu

namespace Pu
open PySem PySem.Spec PyProof.Rows L2
section
variable {B : Nat} {elt2 : Env2 → PM W} {ifs2 : Env2 → PM Bool} {elt : Env' → M D} {ifs : Env' → M Bool} {tg : Tg}
theorem lcC_ok (he : OkE B elt2 elt) (hi : OkT B ifs2 ifs) {P : Nat → Prop} {S0 : Sto} {items : List D} {src : Src} (hP : ∀ j, P j → 0 < j ∧ j < S0.length) (hs : SrcIs P S0 items src) {ρ2 : Env2} {ρ : Env'} :
    ∀ (rest : List D) (i n : Nat) (acc : List D) (S : Sto) (σ : Strm) (ys : List D) (σ' : Strm), rest = items.drop i → items.length ≤ i + n → S0.length ≤ S.length → (∀ j, P j → S[j]? = S0[j]?) → Mx B ρ2 ρ S → S[0]? = some (strOb σ) →
      pvLc elt2 ifs2 tg ρ2 rest σ = .ok ys σ' → acc.length + ys.length ≤ line → ∃ S', lcLoopC elt ifs tg src n i ρ acc S = .ok (acc ++ ys) S' ∧ Fr S.length S S' ∧ S'[0]? = some (strOb σ') := by
  intro rest
  induction rest with
  | nil =>
    intro i n acc S σ ys σ' hr hn hl hk m s hp hb
    have hnx : src.nxt i S = some none := by
      rw [hs.2 S hk i, List.getElem?_eq_none]
      have := congrArg List.length hr
      simp at this; omega
    unfold lcLoopC
    simp only [hnx]
    simp only [pvLc, pret] at hp
    cases hp
    exact ⟨S, by simp, .refl _ _, s⟩
  | cons d rest ih =>
    intro i n acc S σ ys σ' hr hn hl hk m s hp hb
    have hi' : i < items.length := by
      have := congrArg List.length hr
      simp at this; omega
    have hd : items[i]? = some d := by
      have h := congrArg (fun l => l[0]?) hr
      simp at h
      exact h.symm
    have hnx : src.nxt i S = some (some d) := by rw [hs.2 S hk i, hd]
    have hrest : rest = items.drop (i + 1) := by
      have h := congrArg List.tail hr
      simpa using h
    cases n with
    | zero => omega
    | succ n =>
      unfold pvLc at hp
      unfold lcLoopC
      simp only [hnx]
      cases ht : tgSetW tg d ρ2 with
      | none => rw [ht] at hp; cases hp
      | some ρ2' =>
        obtain ⟨ρ', ht', m'⟩ := tg_mt m ht
        simp only [ht', ht] at hp ⊢
        have hA := hi ρ2' ρ' S σ m' s
        cases hp1 : ifs2 ρ2' σ with
        | bad => simp only [pbind, hp1, PR.bind] at hp; cases hp
        | exc c fs σ1 => simp only [pbind, hp1, PR.bind] at hp; cases hp
        | ok b σ1 =>
          rw [hp1] at hA
          obtain ⟨b', S1, e1, f1, s1, rfl⟩ := hA
          simp only [pbind, hp1, PR.bind] at hp
          simp only [e1, R.bind]
          have m1 := m.step f1
          cases b with
          | false =>
            simp only [Bool.false_eq_true, if_false] at hp ⊢
            obtain ⟨S2, e2, f2, s2⟩ := ih (i + 1) n acc S1 σ1 ys σ' hrest (by omega) (Nat.le_trans hl f1.1) (fr_src hP hk hl f1) m1 s1 hp hb
            exact ⟨S2, e2, f1.trans (f2.weak f1.1), s2⟩
          | true =>
            simp only [if_true] at hp ⊢
            have hE := he ρ2' ρ' S1 σ1 (m'.step f1) s1 0 (Nat.zero_le _)
            cases hp2 : elt2 ρ2' σ1 with
            | bad => simp only [pbind, hp2, PR.bind] at hp; cases hp
            | exc c fs σ2 => simp only [pbind, hp2, PR.bind] at hp; cases hp
            | ok y σ2 =>
              rw [hp2] at hE
              obtain ⟨y', S2, e2, f2, s2, r2⟩ := hE
              simp only [pbind, hp2, PR.bind] at hp
              cases hy : y.val with
              | none => rw [hy] at hp; cases hp
              | some y1 =>
                have := r2.val hy
                subst this
                simp only [hy] at hp
                cases hp3 : pvLc elt2 ifs2 tg ρ2 rest σ2 with
                | bad => simp only [pbind, hp3, PR.bind] at hp; cases hp
                | exc c fs σ3 => simp only [pbind, hp3, PR.bind] at hp; cases hp
                | ok zs σ3 =>
                  simp only [pbind, hp3, PR.bind, pret] at hp
                  cases hp
                  have f12 := f1.trans (f2.weak f1.1)
                  simp only [mbind, e2, R.bind]
                  have hlt : acc.length < line := by simp at hb; omega
                  rw [if_pos hlt]
                  obtain ⟨S3, e3, f3, s3⟩ := ih (i + 1) n (acc ++ [y1]) S2 σ2 zs _ hrest (by omega) (Nat.le_trans hl f12.1) (fr_src hP hk hl f12) (m.step f12) s2 hp3 (by simp at hb ⊢; omega)
                  exact ⟨S3, by rw [e3]; simp, f12.trans (f3.weak f12.1), s3⟩
variable {it1 : Env2 → PM (List D)} {jt1 : Env' → M Src} {ifs21 : Env2 → PM Bool} {ifs1 : Env' → M Bool} {tg1 : Tg} {ws1 : List Nat}
theorem lc2_ok (he : OkE B elt2 elt) (hi : OkT B ifs2 ifs) (hit : OkI B it1 jt1) (hi1 : OkT B ifs21 ifs1) {P : Nat → Prop} {S0 : Sto} {items : List D} {src : Src} (hP : ∀ j, P j → 0 < j ∧ j < S0.length) (hs : SrcIs P S0 items src) {ρ2 : Env2} {ρ : Env'} :
    ∀ (rest : List D) (i n : Nat) (acc : List D) (S : Sto) (σ : Strm) (ys : List D) (σ' : Strm), rest = items.drop i → items.length ≤ i + n → S0.length ≤ S.length → (∀ j, P j → S[j]? = S0[j]?) → Mx B ρ2 ρ S → S[0]? = some (strOb σ) →
      pvLc2 elt2 ifs2 tg ρ2 it1 ifs21 tg1 ws1 rest σ = .ok ys σ' → acc.length + ys.length ≤ line → ∃ S', lcLoop2 elt ifs tg src jt1 ifs1 tg1 ws1 n i ρ acc S = .ok (acc ++ ys) S' ∧ Fr S.length S S' ∧ S'[0]? = some (strOb σ') := by
  intro rest
  induction rest with
  | nil =>
    intro i n acc S σ ys σ' hr hn hl hk m s hp hb
    have hnx : src.nxt i S = some none := by
      rw [hs.2 S hk i, List.getElem?_eq_none]
      have := congrArg List.length hr
      simp at this; omega
    unfold lcLoop2
    simp only [hnx]
    simp only [pvLc2, pret] at hp
    cases hp
    exact ⟨S, by simp, .refl _ _, s⟩
  | cons d rest ih =>
    intro i n acc S σ ys σ' hr hn hl hk m s hp hb
    have hi' : i < items.length := by
      have := congrArg List.length hr
      simp at this; omega
    have hd : items[i]? = some d := by
      have h := congrArg (fun l => l[0]?) hr
      simp at h
      exact h.symm
    have hnx : src.nxt i S = some (some d) := by rw [hs.2 S hk i, hd]
    have hrest : rest = items.drop (i + 1) := by
      have h := congrArg List.tail hr
      simpa using h
    cases n with
    | zero => omega
    | succ n =>
      unfold pvLc2 at hp
      unfold lcLoop2
      simp only [hnx]
      cases ht : tgSetW tg d ρ2 with
      | none => rw [ht] at hp; cases hp
      | some ρ2' =>
        obtain ⟨ρ', ht', m'⟩ := tg_mt m ht
        simp only [ht', ht] at hp ⊢
        have hA := hi ρ2' ρ' S σ m' s
        cases hp1 : ifs2 ρ2' σ with
        | bad => simp only [pbind, hp1, PR.bind] at hp; cases hp
        | exc c fs σ1 => simp only [pbind, hp1, PR.bind] at hp; cases hp
        | ok b σ1 =>
          rw [hp1] at hA
          obtain ⟨b', S1, e1, f1, s1, rfl⟩ := hA
          simp only [pbind, hp1, PR.bind] at hp
          simp only [e1, R.bind]
          have m1 := m.step f1
          cases b with
          | false =>
            simp only [Bool.false_eq_true, if_false] at hp ⊢
            obtain ⟨S2, e2, f2, s2⟩ := ih (i + 1) n acc S1 σ1 ys σ' hrest (by omega) (Nat.le_trans hl f1.1) (fr_src hP hk hl f1) m1 s1 hp hb
            exact ⟨S2, e2, f1.trans (f2.weak f1.1), s2⟩
          | true =>
            simp only [if_true] at hp ⊢
            have m1' := m'.step f1
            have hE := hit ρ2' ρ' S1 σ1 m1' s1
            cases hp2 : it1 ρ2' σ1 with
            | bad => simp only [pbind, hp2, PR.bind] at hp; cases hp
            | exc c fs σ2 => simp only [pbind, hp2, PR.bind] at hp; cases hp
            | ok items1 σ2 =>
              rw [hp2] at hE
              obtain ⟨src1, S2, e2, f2, s2, P1, hP1, hs1⟩ := hE
              simp only [pbind, hp2, PR.bind] at hp
              cases hp3 : pvLc elt2 ifs21 tg1 (wipeW ρ2' ws1) items1 σ2 with
              | bad => simp only [pbind, hp3, PR.bind] at hp; cases hp
              | exc c fs σ3 => simp only [pbind, hp3, PR.bind] at hp; cases hp
              | ok ys1 σ3 =>
                simp only [pbind, hp3, PR.bind] at hp
                cases hp4 : pvLc2 elt2 ifs2 tg ρ2 it1 ifs21 tg1 ws1 rest σ3 with
                | bad => simp only [pbind, hp4, PR.bind] at hp; cases hp
                | exc c fs σ4 => simp only [pbind, hp4, PR.bind] at hp; cases hp
                | ok zs σ4 =>
                  simp only [pbind, hp4, PR.bind, pret] at hp
                  cases hp
                  have f12 := f1.trans (f2.weak f1.1)
                  simp only [mbind, e2, R.bind]
                  obtain ⟨S3, e3, f3, s3⟩ := lcC_ok he hi1 hP1 hs1 items1 0 src1.n acc S2 σ2 ys1 σ3 (by simp) (by have := hs1.1; omega) (Nat.le_refl _) (fun _ _ => rfl) (rho_wipe (m1'.step f2) ws1) s2 hp3 (by simp at hb; omega)
                  simp only [e3]
                  have f123 := f12.trans (f3.weak f12.1)
                  obtain ⟨S4, e4, f4, s4⟩ := ih (i + 1) n (acc ++ ys1) S3 σ3 zs _ hrest (by omega) (Nat.le_trans hl f123.1) (fr_src hP hk hl f123) (m.step f123) s3 hp4 (by simp at hb ⊢; omega)
                  exact ⟨S4, by rw [e4]; simp, f123.trans (f4.weak f123.1), s4⟩
end
/-- the text's functions -/
def SimF (F2 : Nat → List W → PM W) (F : Nat → List D → M D) : Prop := ∀ f ws σ S ds B0, B0 ≤ S.length → 1 ≤ S.length → S[0]? = some (strOb σ) → ResOks 0 S ws ds → Ag S.length (fun S (w : W) d => ResOk B0 S w d ∧ ∀ xs, w ≠ W.b xs) S (F2 f (ws.map W.arg) σ) (F f ds S)
section
variable {F2 : Nat → List W → PM W} {F : Nat → List D → M D} {B : Nat}
theorem Mx.one {ρ2 : Env2} {ρ : Env'} {S : Sto} (m : Mx B ρ2 ρ S) : 1 ≤ S.length := Nat.le_trans m.base.1 m.base.2
theorem ResOk.low {B0 : Nat} {S : Sto} {w : W} {d : D} (h : ResOk B0 S w d) : ResOk 0 S w d := by
  cases w with
  | o xs => obtain ⟨j, e, _, h2, h3⟩ := h; exact ⟨j, e, Nat.zero_le _, h2, h3⟩
  | _ => exact h
theorem at_lt {B0 : Nat} {S : Sto} {w : W} {d d' : D} {j : Nat} (h : ResOk B0 S w d) (hj : At d j) (q : w.rd = some d') (hd : ∀ k, d' ≠ .ref k := by intro k e; cases e) : 0 < j ∧ j < S.length := by
  have hj : d = .ref j := hj
  subst hj
  cases w with
  | v d1 => cases q; exact absurd h (hd j)
  | o xs => obtain ⟨k, e, _, h2, h3⟩ := h; cases e; exact ⟨Nat.pos_of_ne_zero h2, lt_of_get h3⟩
  | b xs => obtain ⟨k, e, h2, h3⟩ := h; cases e; exact ⟨Nat.pos_of_ne_zero h2, lt_of_get h3⟩
  | s => cases q
theorem nob_rd {w : W} {d : D} (h : w.nob = some d) : w.rd = some d := by
  cases w <;> simp only [W.nob] at h <;> first | (cases h; done) | exact h
theorem Ag.then {α β γ δ : Type} {Rel : Sto → α → β → Prop} {Rel' : Sto → γ → δ → Prop} {S : Sto} {p : PR α} {r : R β} {f : α → PM γ} {g : β → M δ} (h : Ag S.length Rel S p r) (hf : ∀ a b S1 σ1, Fr S.length S S1 → S1[0]? = some (strOb σ1) → Rel S1 a b → Ag S1.length Rel' S1 (f a σ1) (g b S1)) : Ag S.length Rel' S (p.bind f) (r.bind g) :=
  h.bind fun a b S1 σ1 f1 s1 q => (hf a b S1 σ1 f1 s1 q).weak f1.1
theorem Ag.nox {α β : Type} {Rel : Sto → α → β → Prop} {S : Sto} {N : Nat} {p : PM α} {m : M β} {σ : Strm} (h : Ag N Rel S (p σ) (m S)) : Ag N Rel S (pnox p σ) (Pu.nox m S) := by
  unfold pnox Pu.nox
  cases hp : p σ with
  | bad => trivial
  | exc c fs σ1 => trivial
  | ok a σ1 =>
    rw [hp] at h
    obtain ⟨b, S', e, f, s, q⟩ := h
    rw [e]
    exact ⟨b, S', rfl, f, s, q⟩
abbrev RelI' (S : Sto) (items : List D) (src : Src) : Prop := RelI S items src
theorem own_ag {B0 : Nat} {S : Sto} {σ : Strm} {own : Bool} {ys : List D} (hB : B0 ≤ S.length) (h1 : 1 ≤ S.length) (s : S[0]? = some (strOb σ)) : Ag S.length (ResOk B0) S (pret (if own then W.o ys else .v (.fz ys)) σ) (newU own ys S) := by
  cases own with
  | true =>
    refine ⟨_, _, rfl, ⟨by simp, fun i h0 hi => List.getElem?_append_left hi⟩, ?_, S.length, rfl, hB, by omega, by simp⟩
    rw [List.getElem?_append_left (by omega)]; exact s
  | false => exact .ret s rfl
/-- the step of two expressions and a primitive -/
theorem two_ag {B0 : Nat} {S : Sto} {σ : Strm} {a2 b2 : Env2 → PM W} {a b : Env' → M D} {g : D → D → M D} (ha : OkE B a2 a) (hb : OkE B b2 b) (hg : Snd2 g) {ρ2 : Env2} {ρ : Env'} (m : Mx B ρ2 ρ S) (s : S[0]? = some (strOb σ)) (hB : B0 ≤ S.length) :
    Ag S.length (ResOk B0) S (pbind (a2 ρ2) (fun x => pbind (b2 ρ2) fun y => rd2 g x y) σ) (mbind (a ρ) (fun x => mbind (b ρ) fun y => g x y) S) := by
  refine (ha ρ2 ρ S σ m s B0 hB).then fun x d S1 σ1 f1 s1 r1 => ?_
  have hB1 := Nat.le_trans hB f1.1
  refine (hb ρ2 ρ S1 σ1 (m.step f1) s1 B0 hB1).then fun y e S2 σ2 f2 s2 r2 => ?_
  exact rd2_ag hg (Nat.le_trans hB1 f2.1) ((m.step f1).step f2).one (Nat.le_refl _) s2 (r1.step f2) r2
mutual
theorem simE (hF : SimF F2 F) : ∀ e : X', OkE B (pvE F2 e) (evE F e)
  | .var i => fun ρ2 ρ S σ m s B0 hB => by
    show Ag S.length (ResOk B0) S ((match ρ2[i]? with | some (some (.o xs)) => pret (W.b xs) | some (some w) => pret w | _ => pbad) σ) (varM i ρ S)
    cases h : ρ2[i]? with
    | none => trivial
    | some o =>
      cases o with
      | none => trivial
      | some w =>
        obtain ⟨d, h1, h2⟩ := m.slot i w h
        have hv : varM i ρ S = .ok d S := by unfold varM; rw [h1]
        rw [hv]
        cases w with
        | v d' => exact .ret s h2
        | o xs => obtain ⟨j, e, h3, h4⟩ := h2; exact .ret s ⟨j, e, by have := m.base.1; omega, h4⟩
        | b xs => obtain ⟨j, e, h3, _, h4⟩ := h2; exact .ret s ⟨j, e, h3, h4⟩
        | s => exact .ret s h2
  | .cst d => fun ρ2 ρ S σ m s B0 hB => .ret s rfl
  | .bin op a b => fun ρ2 ρ S σ m s B0 hB => two_ag (simE hF a) (simE hF b) (snd_bin op) m s hB
  | .neg a => fun ρ2 ρ S σ m s B0 hB => (simE hF a ρ2 ρ S σ m s B0 hB).then fun x d S1 σ1 f1 s1 r1 => rd1_ag snd_neg (Nat.le_trans hB f1.1) (m.step f1).one (Nat.le_refl _) s1 r1
  | .cmp op a b => fun ρ2 ρ S σ m s B0 hB => two_ag (simE hF a) (simE hF b) (snd_cmp op) m s hB
  | .chn o1 o2 a b c => fun ρ2 ρ S σ m s B0 hB => by
    refine (simE hF a ρ2 ρ S σ m s B0 hB).then fun x d S1 σ1 f1 s1 r1 => ?_
    have hB1 := Nat.le_trans hB f1.1
    have m1 := m.step f1
    refine (simE hF b ρ2 ρ S1 σ1 m1 s1 B0 hB1).then fun y e S2 σ2 f2 s2 r2 => ?_
    have hB2 := Nat.le_trans hB1 f2.1
    have m2 := m1.step f2
    refine (rd2_ag (snd_cmp o1) hB2 m2.one (Nat.le_refl _) s2 (r1.step f2) r2).then fun k k' S3 σ3 f3 s3 r3 => ?_
    have hB3 := Nat.le_trans hB2 f3.1
    have m3 := m2.step f3
    refine (bl_ag s3 r3).then ?_
    rintro t _ S4 σ4 f4 s4 rfl
    have hB4 := Nat.le_trans hB3 f4.1
    have m4 := m3.step f4
    cases t with
    | false => exact .ret s4 rfl
    | true =>
      refine (simE hF c ρ2 ρ S4 σ4 m4 s4 B0 hB4).then fun z z' S5 σ5 f5 s5 r5 => ?_
      exact rd2_ag (snd_cmp o2) (Nat.le_trans hB4 f5.1) (m4.step f5).one (Nat.le_refl _) s5 (((r2.step f3).step f4).step f5) r5
  | .and a b => fun ρ2 ρ S σ m s B0 hB => by
    refine (simE hF a ρ2 ρ S σ m s B0 hB).then fun x d S1 σ1 f1 s1 r1 => (bl_ag s1 r1).then ?_
    rintro t _ S2 σ2 f2 s2 rfl
    cases t with
    | false => exact .ret s2 rfl
    | true => exact simE hF b ρ2 ρ S2 σ2 ((m.step f1).step f2) s2 B0 (Nat.le_trans (Nat.le_trans hB f1.1) f2.1)
  | .or a b => fun ρ2 ρ S σ m s B0 hB => by
    refine (simE hF a ρ2 ρ S σ m s B0 hB).then fun x d S1 σ1 f1 s1 r1 => (bl_ag s1 r1).then ?_
    rintro t _ S2 σ2 f2 s2 rfl
    cases t with
    | true => exact .ret s2 rfl
    | false => exact simE hF b ρ2 ρ S2 σ2 ((m.step f1).step f2) s2 B0 (Nat.le_trans (Nat.le_trans hB f1.1) f2.1)
  | .not a => fun ρ2 ρ S σ m s B0 hB => by
    refine (simE hF a ρ2 ρ S σ m s B0 hB).then fun x d S1 σ1 f1 s1 r1 => (bl_ag s1 r1).then ?_
    rintro t _ S2 σ2 f2 s2 rfl
    exact .ret s2 rfl
  | .ife t a b => fun ρ2 ρ S σ m s B0 hB => by
    refine (simT hF t ρ2 ρ S σ m s).then ?_
    rintro k _ S1 σ1 f1 s1 rfl
    have hB1 := Nat.le_trans hB f1.1
    cases k with
    | true => exact simE hF a ρ2 ρ S1 σ1 (m.step f1) s1 B0 hB1
    | false => exact simE hF b ρ2 ρ S1 σ1 (m.step f1) s1 B0 hB1
  | .tup es => fun ρ2 ρ S σ m s B0 hB => (simEs hF es ρ2 ρ S σ m s B0 hB).then fun xs ds S1 σ1 f1 s1 r1 => vals_ag ind_newT (Nat.le_trans hB f1.1) (m.step f1).one (Nat.le_refl _) s1 r1
  | .lst own es => fun ρ2 ρ S σ m s B0 hB => (simEs hF es ρ2 ρ S σ m s B0 hB).then fun xs ds S1 σ1 f1 s1 r1 => vals_ag (ind_newL own) (Nat.le_trans hB f1.1) (m.step f1).one (Nat.le_refl _) s1 r1
  | .cat own a b => fun ρ2 ρ S σ m s B0 hB => two_ag (simE hF a) (simE hF b) (snd_cat own) m s hB
  | .rep own a b => fun ρ2 ρ S σ m s B0 hB => two_ag (simE hF a) (simE hF b) (snd_rep own) m s hB
  | .call f es => fun ρ2 ρ S σ m s B0 hB => (simEs hF es ρ2 ρ S σ m s 0 (Nat.zero_le _)).then fun xs ds S1 σ1 f1 s1 r1 => (hF f xs σ1 S1 ds B0 (Nat.le_trans hB f1.1) (m.step f1).one s1 r1).imp fun _ _ _ q => q.1
  | .blt b es => fun ρ2 ρ S σ m s B0 hB => (simEs hF es ρ2 ρ S σ m s B0 hB).then fun xs ds S1 σ1 f1 s1 r1 => rds_ag (snd_blt b) (Nat.le_trans hB f1.1) (m.step f1).one (Nat.le_refl _) s1 r1
  | .isi a t => fun ρ2 ρ S σ m s B0 hB => (simE hF a ρ2 ρ S σ m s B0 hB).then fun x d S1 σ1 f1 s1 r1 => by
    unfold isiW
    cases q : x.rd with
    | none => trivial
    | some d' =>
      dsimp only
      cases h : isK t d' [] with
      | none => trivial
      | some b =>
        show Ag S1.length (ResOk B0) S1 _ (match isK t d S1 with | some b => .ok (.bl b) S1 | none => .bad)
        rw [isK_vw (r1.vw q) h]
        exact .ret s1 rfl
  | .idx a b => fun ρ2 ρ S σ m s B0 hB => two_ag (simE hF a) (simE hF b) snd_idx m s hB
  | .slc own a lo hi => fun ρ2 ρ S σ m s B0 hB => by
    refine (simE hF a ρ2 ρ S σ m s B0 hB).then fun x d S1 σ1 f1 s1 r1 => ?_
    have hB1 := Nat.le_trans hB f1.1
    have m1 := m.step f1
    refine (simP hF lo ρ2 ρ S1 σ1 m1 s1).then ?_
    rintro l _ S2 σ2 f2 s2 rfl
    have m2 := m1.step f2
    refine (simP hF hi ρ2 ρ S2 σ2 m2 s2).then ?_
    rintro h _ S3 σ3 f3 s3 rfl
    exact rd1_ag (snd_slc own l h) (Nat.le_trans (Nat.le_trans hB1 f2.1) f3.1) (m2.step f3).one (Nat.le_refl _) s3 ((r1.step f2).step f3)
  | .rev own a => fun ρ2 ρ S σ m s B0 hB => (simE hF a ρ2 ρ S σ m s B0 hB).then fun x d S1 σ1 f1 s1 r1 => rd1_ag (snd_rev own) (Nat.le_trans hB f1.1) (m.step f1).one (Nat.le_refl _) s1 r1
  | .mth _ _ _ => fun ρ2 ρ S σ m s B0 hB => trivial
  | .lc own elt tg it ifs ws => fun ρ2 ρ S σ m s B0 hB => by
    refine (simI hF it ρ2 ρ S σ m s).then fun items src S1 σ1 f1 s1 r1 => ?_
    have hB1 := Nat.le_trans hB f1.1
    have m1 := m.step f1
    obtain ⟨P, hP, hs⟩ := r1
    refine (Ag.nox (lc_ag (B := B) (simE hF elt) (simTs hF ifs) hP hs items 0 src.n [] S1 σ1 (by simp) (by have := hs.1; omega) (Nat.le_refl _) (fun _ _ => rfl) (rho_wipe m1 ws) s1)).then fun ys ds S2 σ2 f2 s2 r2 => ?_
    have r2 : ds = [] ++ ys := r2
    subst r2
    exact own_ag (Nat.le_trans hB1 f2.1) (m1.step f2).one s2
  | .lrng own a => fun ρ2 ρ S σ m s B0 hB => (simE hF a ρ2 ρ S σ m s B0 hB).then fun x d S1 σ1 f1 s1 r1 => by
    refine rd1_ag (g := fun x => match x with
      | .int j => chk (-4611686018427387904 ≤ j) (newL own ((List.range j.toNat).map fun (k : Nat) => D.int (k : Int)))
      | _ => mbad) (fun S d' d v => ?_) (Nat.le_trans hB f1.1) (m.step f1).one (Nat.le_refl _) s1 r1
    cases d' <;> first | trivial | skip
    have := flat_vw v rfl
    subst this
    exact ind_chk (ind_newL own _) S
  | .trng a => fun ρ2 ρ S σ m s B0 hB => (simE hF a ρ2 ρ S σ m s B0 hB).then fun x d S1 σ1 f1 s1 r1 => rd1_ag snd_trng (Nat.le_trans hB f1.1) (m.step f1).one (Nat.le_refl _) s1 r1
  | .rgl tup own a b => fun ρ2 ρ S σ m s B0 hB => two_ag (simE hF a) (simE hF b) (snd_rgl tup own) m s hB
  | .cmb own a b => fun ρ2 ρ S σ m s B0 hB => by
    refine (simE hF a ρ2 ρ S σ m s B0 hB).then fun x d S1 σ1 f1 s1 r1 => ?_
    refine (simE hF b ρ2 ρ S1 σ1 (m.step f1) s1 B0 (Nat.le_trans hB f1.1)).then fun y e S2 σ2 f2 s2 r2 => ?_
    exact rd2_ag (snd_cmb own) (Nat.le_trans (Nat.le_trans hB f1.1) f2.1) ((m.step f1).step f2).one (Nat.le_refl _) s2 (r1.step f2) r2
  | .cmr own a b => fun ρ2 ρ S σ m s B0 hB => by
    refine (simE hF a ρ2 ρ S σ m s B0 hB).then fun x d S1 σ1 f1 s1 r1 => ?_
    cases x with
    | v d' =>
      have r1 : d' = d := r1
      subst r1
      cases d' <;> first | trivial | skip
      rename_i j
      refine (simE hF b ρ2 ρ S1 σ1 (m.step f1) s1 B0 (Nat.le_trans hB f1.1)).then fun y e S2 σ2 f2 s2 r2 => ?_
      exact rd1_ag (snd_cmr own j) (Nat.le_trans (Nat.le_trans hB f1.1) f2.1) ((m.step f1).step f2).one (Nat.le_refl _) s2 r2
    | _ => trivial
  | .tix a b => fun ρ2 ρ S σ m s B0 hB => by
    refine (simE hF a ρ2 ρ S σ m s B0 hB).then fun x d S1 σ1 f1 s1 r1 => ?_
    cases x with
    | v d' =>
      have r1 : d' = d := r1
      subst r1
      cases d' <;> first | trivial | skip
      rename_i xs
      refine (simE hF b ρ2 ρ S1 σ1 (m.step f1) s1 B0 (Nat.le_trans hB f1.1)).then fun y e S2 σ2 f2 s2 r2 => ?_
      exact rd2_ag snd_tix (Nat.le_trans (Nat.le_trans hB f1.1) f2.1) ((m.step f1).step f2).one (Nat.le_refl _) s2 (show ResOk B0 S2 (.v (.ptp xs)) (.ptp xs) from rfl) r2
    | _ => trivial
  | .lix a b => fun ρ2 ρ S σ m s B0 hB => by
    refine (simE hF a ρ2 ρ S σ m s B0 hB).then fun x d S1 σ1 f1 s1 r1 => ?_
    try dsimp only
    cases q : x.rd with
    | none => trivial
    | some d' =>
      dsimp only
      cases h : lstOf d' [] with
      | none => trivial
      | some ys =>
        rw [lst_vw (r1.vw q) h]
        dsimp only
        refine (simE hF b ρ2 ρ S1 σ1 (m.step f1) s1 B0 (Nat.le_trans hB f1.1)).then fun y e S2 σ2 f2 s2 r2 => ?_
        exact rd2_ag snd_lix (Nat.le_trans (Nat.le_trans hB f1.1) f2.1) ((m.step f1).step f2).one (Nat.le_refl _) s2 (r1.step f2) r2
  | .sst own a => fun ρ2 ρ S σ m s B0 hB => (simE hF a ρ2 ρ S σ m s B0 hB).then fun x d S1 σ1 f1 s1 r1 => rd1_ag (snd_sst own) (Nat.le_trans hB f1.1) (m.step f1).one (Nat.le_refl _) s1 r1
  | .lns a => fun ρ2 ρ S σ m s B0 hB => (simE hF a ρ2 ρ S σ m s B0 hB).then fun x d S1 σ1 f1 s1 r1 => rd1_ag snd_lns (Nat.le_trans hB f1.1) (m.step f1).one (Nat.le_refl _) s1 r1
  | .ssc own elt tg it tg1 it1 ws ws1 => fun ρ2 ρ S σ m s B0 hB => by
    refine (simI hF it ρ2 ρ S σ m s).then fun items src S1 σ1 f1 s1 r1 => ?_
    have hB1 := Nat.le_trans hB f1.1
    have m1 := m.step f1
    obtain ⟨P, hP, hs⟩ := r1
    show Ag S1.length (ResOk B0) S1 ((pnox (pvLc2 (pvE F2 elt) (fun _ => pret true) tg (wipeW ρ2 ws) (pvI F2 it1) (fun _ => pret true) tg1 ws1 items) σ1).bind fun ys => match setD ys with | some zs => if ys.length ≤ line then pret (if own then W.o zs else .v (.fz zs)) else pbad | none => pbad)
      ((nox (lcLoop2 (evE F elt) (fun _ => mret true) tg src (evI F it1) (fun _ => mret true) tg1 ws1 src.n 0 (wipeE ρ ws) []) S1).bind fun xs => setM own xs)
    unfold pnox
    cases hp : pvLc2 (pvE F2 elt) (fun _ => pret true) tg (wipeW ρ2 ws) (pvI F2 it1) (fun _ => pret true) tg1 ws1 items σ1 with
    | bad => trivial
    | exc c fs σ2 => trivial
    | ok ys σ2 =>
      show Ag S1.length (ResOk B0) S1 ((match setD ys with | some zs => if ys.length ≤ line then pret (if own then W.o zs else .v (.fz zs)) else pbad | none => pbad) σ2) _
      cases hd : setD ys with
      | none => trivial
      | some zs =>
        by_cases hl : ys.length ≤ line
        · obtain ⟨S2, e2, f2, s2⟩ := lc2_ok (simE hF elt) (simTs hF []) (simI hF it1) (simTs hF []) hP hs items 0 src.n [] S1 σ1 ys σ2 (by simp) (by have := hs.1; omega) (Nat.le_refl _) (fun _ _ => rfl) (rho_wipe m1 ws) s1 hp (by simpa using hl)
          have e2 : lcLoop2 (evE F elt) (fun _ => mret true) tg src (evI F it1) (fun _ => mret true) tg1 ws1 src.n 0 (wipeE ρ ws) [] S1 = .ok ys S2 := e2
          rw [show (nox (lcLoop2 (evE F elt) (fun _ => mret true) tg src (evI F it1) (fun _ => mret true) tg1 ws1 src.n 0 (wipeE ρ ws) []) S1) = .ok ys S2 by unfold nox; rw [e2]]
          show Ag S1.length (ResOk B0) S1 ((if ys.length ≤ line then pret (if own then W.o zs else .v (.fz zs)) else pbad) σ2) (setM own ys S2)
          rw [if_pos hl]
          have e3 : setM own ys S2 = newU own zs S2 := by unfold setM; rw [hd]
          rw [e3]
          exact ((own_ag (Nat.le_trans hB1 f2.1) (m1.step f2).one s2).weak f2.1).pre f2
        · show Ag S1.length (ResOk B0) S1 ((if ys.length ≤ line then pret (if own then W.o zs else .v (.fz zs)) else pbad) σ2) _
          rw [if_neg hl]; trivial
  | .lc2 own elt tg it ifs tg1 it1 ifs1 ws ws1 => fun ρ2 ρ S σ m s B0 hB => by
    refine (simI hF it ρ2 ρ S σ m s).then fun items src S1 σ1 f1 s1 r1 => ?_
    have hB1 := Nat.le_trans hB f1.1
    have m1 := m.step f1
    obtain ⟨P, hP, hs⟩ := r1
    show Ag S1.length (ResOk B0) S1 ((pnox (pvLc2 (pvE F2 elt) (pvTs F2 ifs) tg (wipeW ρ2 ws) (pvI F2 it1) (pvTs F2 ifs1) tg1 ws1 items) σ1).bind fun ys => if ys.length ≤ line then pret (if own then W.o ys else .v (.fz ys)) else pbad)
      ((nox (lcLoop2 (evE F elt) (evTs F ifs) tg src (evI F it1) (evTs F ifs1) tg1 ws1 src.n 0 (wipeE ρ ws) []) S1).bind fun xs => newL own xs)
    unfold pnox
    cases hp : pvLc2 (pvE F2 elt) (pvTs F2 ifs) tg (wipeW ρ2 ws) (pvI F2 it1) (pvTs F2 ifs1) tg1 ws1 items σ1 with
    | bad => trivial
    | exc c fs σ2 => trivial
    | ok ys σ2 =>
      by_cases hl : ys.length ≤ line
      · obtain ⟨S2, e2, f2, s2⟩ := lc2_ok (simE hF elt) (simTs hF ifs) (simI hF it1) (simTs hF ifs1) hP hs items 0 src.n [] S1 σ1 ys σ2 (by simp) (by have := hs.1; omega) (Nat.le_refl _) (fun _ _ => rfl) (rho_wipe m1 ws) s1 hp (by simpa using hl)
        rw [show (nox (lcLoop2 (evE F elt) (evTs F ifs) tg src (evI F it1) (evTs F ifs1) tg1 ws1 src.n 0 (wipeE ρ ws) []) S1) = .ok ys S2 by unfold nox; rw [e2]; rfl]
        show Ag S1.length (ResOk B0) S1 ((if ys.length ≤ line then pret (if own then W.o ys else .v (.fz ys)) else pbad) σ2) (newL own ys S2)
        rw [if_pos hl]
        have e3 : newL own ys S2 = newU own ys S2 := by unfold newL newU; rw [if_pos hl]
        rw [e3]
        exact ((own_ag (Nat.le_trans hB1 f2.1) (m1.step f2).one s2).weak f2.1).pre f2
      · show Ag S1.length (ResOk B0) S1 ((if ys.length ≤ line then pret (if own then W.o ys else .v (.fz ys)) else pbad) σ2) _
        rw [if_neg hl]; trivial
theorem simEs (hF : SimF F2 F) : ∀ (es : List X') (ρ2 : Env2) (ρ : Env') (S : Sto) (σ : Strm), Mx B ρ2 ρ S → S[0]? = some (strOb σ) → ∀ B0, B0 ≤ S.length → Ag S.length (ResOks B0) S (pvEs F2 es ρ2 σ) (evEs F es ρ S)
  | [], ρ2, ρ, S, σ, m, s, B0, hB => .ret s trivial
  | e :: es, ρ2, ρ, S, σ, m, s, B0, hB => by
    refine (simE hF e ρ2 ρ S σ m s B0 hB).then fun x d S1 σ1 f1 s1 r1 => ?_
    refine (simEs hF es ρ2 ρ S1 σ1 (m.step f1) s1 B0 (Nat.le_trans hB f1.1)).then fun xs ds S2 σ2 f2 s2 r2 => ?_
    exact .ret s2 ⟨r1.step f2, r2⟩
theorem simT (hF : SimF F2 F) : ∀ t : T', OkT B (pvT F2 t) (evT F t)
  | .and a b => fun ρ2 ρ S σ m s => by
    refine (simT hF a ρ2 ρ S σ m s).then ?_
    rintro t _ S1 σ1 f1 s1 rfl
    cases t with
    | false => exact .ret s1 rfl
    | true => exact simT hF b ρ2 ρ S1 σ1 (m.step f1) s1
  | .or a b => fun ρ2 ρ S σ m s => by
    refine (simT hF a ρ2 ρ S σ m s).then ?_
    rintro t _ S1 σ1 f1 s1 rfl
    cases t with
    | true => exact .ret s1 rfl
    | false => exact simT hF b ρ2 ρ S1 σ1 (m.step f1) s1
  | .not a => fun ρ2 ρ S σ m s => by
    refine (simT hF a ρ2 ρ S σ m s).then ?_
    rintro t _ S1 σ1 f1 s1 rfl
    exact .ret s1 rfl
  | .val e => fun ρ2 ρ S σ m s => (simE hF e ρ2 ρ S σ m s 0 (Nat.zero_le _)).then fun x d S1 σ1 f1 s1 r1 => tru_ag s1 r1
  | .bv e => fun ρ2 ρ S σ m s => (simE hF e ρ2 ρ S σ m s 0 (Nat.zero_le _)).then fun x d S1 σ1 f1 s1 r1 => bl_ag s1 r1
theorem simTs (hF : SimF F2 F) : ∀ ts : List T', OkT B (pvTs F2 ts) (evTs F ts)
  | [] => fun ρ2 ρ S σ m s => .ret s rfl
  | t :: ts => fun ρ2 ρ S σ m s => by
    refine (simT hF t ρ2 ρ S σ m s).then ?_
    rintro b _ S1 σ1 f1 s1 rfl
    cases b with
    | false => exact .ret s1 rfl
    | true => exact simTs hF ts ρ2 ρ S1 σ1 (m.step f1) s1
theorem simP (hF : SimF F2 F) : ∀ (p : P') (ρ2 : Env2) (ρ : Env') (S : Sto) (σ : Strm), Mx B ρ2 ρ S → S[0]? = some (strOb σ) → Ag S.length RelO' S (pvP F2 p ρ2 σ) (evP F p ρ S)
  | .no, ρ2, ρ, S, σ, m, s => .ret s rfl
  | .ex e, ρ2, ρ, S, σ, m, s => (simE hF e ρ2 ρ S σ m s 0 (Nat.zero_le _)).then fun x d S1 σ1 f1 s1 r1 => int_ag s1 r1
theorem simI (hF : SimF F2 F) : ∀ it : I', OkI B (pvI F2 it) (evI F it)
  | .seq e => fun ρ2 ρ S σ m s => (simE hF e ρ2 ρ S σ m s 0 (Nat.zero_le _)).then fun x d S1 σ1 f1 s1 r1 => by
    try dsimp only
    cases q : x.rd with
    | none => trivial
    | some d' =>
      dsimp only
      cases h : seqOf d' [] with
      | none => trivial
      | some xs =>
        obtain ⟨src, h1, h2⟩ := src_of (r1.vw q) h
        rw [h1]
        exact .ret s1 ⟨At d, fun j hj => at_lt r1 hj q (fun k e => by subst e; cases h), h2⟩
  | .zip a b => fun ρ2 ρ S σ m s => by
    refine (simE hF a ρ2 ρ S σ m s 0 (Nat.zero_le _)).then fun x d S1 σ1 f1 s1 r1 => ?_
    refine (simE hF b ρ2 ρ S1 σ1 (m.step f1) s1 0 (Nat.zero_le _)).then fun y e S2 σ2 f2 s2 r2 => ?_
    try dsimp only
    cases q : x.rd with
    | none => trivial
    | some d' =>
      cases q2 : y.rd with
      | none => trivial
      | some e' =>
        dsimp only
        cases h : zipD d' e' with
        | none => trivial
        | some xs =>
          have r1' := r1.step f2
          obtain ⟨src, h1, h2, h3⟩ := zip_of (r1'.vw q) (r2.vw q2) h
          rw [h1]
          dsimp only
          rw [if_pos h2]
          exact .ret s2 ⟨_, fun j hj => hj.elim (fun hj => at_lt r1' hj q (fun k e => by subst e; cases e' <;> cases h)) fun hj => at_lt r2 hj q2 (fun k e => by subst e; cases d' <;> first | (cases h; done) | (simp [zipD, lstOf] at h)), h3⟩
  | .enm a => fun ρ2 ρ S σ m s => (simE hF a ρ2 ρ S σ m s 0 (Nat.zero_le _)).then fun x d S1 σ1 f1 s1 r1 => by
    try dsimp only
    cases q : x.rd with
    | none => trivial
    | some d' =>
      dsimp only
      cases h : enmD d' with
      | none => trivial
      | some xs =>
        obtain ⟨src, h1, h2⟩ := enm_of (r1.vw q) h
        rw [h1]
        exact .ret s1 ⟨_, fun j hj => hj.elim, h2⟩
  | .rng a => fun ρ2 ρ S σ m s => (simE hF a ρ2 ρ S σ m s 0 (Nat.zero_le _)).then fun x d S1 σ1 f1 s1 r1 => by
    cases x with
    | v d' =>
      have r1 : d' = d := r1
      subst r1
      cases d' <;> first | trivial | skip
      rename_i j
      show Ag S1.length RelI S1 (chkP (-4611686018427387904 ≤ j ∧ j ≤ 16777216) (pret ((List.range j.toNat).map fun (k : Nat) => D.int (0 + (k : Int)))) σ1) (chk (-4611686018427387904 ≤ j ∧ j ≤ 16777216) (mret (rngOf 0 j.toNat)) S1)
      by_cases hp : -4611686018427387904 ≤ j ∧ j ≤ 16777216
      · rw [chkP_pos hp, chk_pos hp]
        exact .ret s1 ⟨_, fun j hj => hj.elim, rng_of 0 _⟩
      · rw [show chkP (-4611686018427387904 ≤ j ∧ j ≤ 16777216) (pret ((List.range j.toNat).map fun (k : Nat) => D.int (0 + (k : Int)))) = pbad from if_neg hp]
        trivial
    | _ => trivial
  | .rng2 a b => fun ρ2 ρ S σ m s => by
    refine (simE hF a ρ2 ρ S σ m s 0 (Nat.zero_le _)).then fun x d S1 σ1 f1 s1 r1 => ?_
    refine (simE hF b ρ2 ρ S1 σ1 (m.step f1) s1 0 (Nat.zero_le _)).then fun y e S2 σ2 f2 s2 r2 => ?_
    cases x with
    | v d' =>
      have r1 : d' = d := r1
      subst r1
      cases y with
      | v e' =>
        have r2 : e' = e := r2
        subst r2
        cases d' <;> first | (cases e' <;> trivial) | skip
        cases e' <;> first | trivial | skip
        rename_i i j
        show Ag S2.length RelI S2 (chkP (-4611686018427387904 ≤ i ∧ i < 4611686018427387904 ∧ -4611686018427387904 ≤ j ∧ j < 4611686018427387904 ∧ j - i ≤ 16777216) (pret ((List.range (j - i).toNat).map fun (k : Nat) => D.int (i + (k : Int)))) σ2) (chk (-4611686018427387904 ≤ i ∧ i < 4611686018427387904 ∧ -4611686018427387904 ≤ j ∧ j < 4611686018427387904 ∧ j - i ≤ 16777216) (mret (rngOf i (j - i).toNat)) S2)
        by_cases hp : -4611686018427387904 ≤ i ∧ i < 4611686018427387904 ∧ -4611686018427387904 ≤ j ∧ j < 4611686018427387904 ∧ j - i ≤ 16777216
        · rw [chkP_pos hp, chk_pos hp]
          exact .ret s2 ⟨_, fun j hj => hj.elim, rng_of i _⟩
        · rw [show chkP (-4611686018427387904 ≤ i ∧ i < 4611686018427387904 ∧ -4611686018427387904 ≤ j ∧ j < 4611686018427387904 ∧ j - i ≤ 16777216) (pret ((List.range (j - i).toNat).map fun (k : Nat) => D.int (i + (k : Int)))) = pbad from if_neg hp]
          trivial
      | _ => cases d' <;> trivial
    | _ => trivial
end
end
end Pu

namespace Pu
open PySem PySem.Spec PyProof.Rows L2

/-! ## a slot that no statement stores to stays -/
def flEnv : Fl → Option Env'
  | .nx ρ => some ρ
  | .bk ρ => some ρ
  | .ct ρ => some ρ
  | .rt _ => none
mutual
theorem tg_keep {i : Nat} : ∀ {t : Tg} {d : D} {ρ ρ' : Env'}, asgTg i t = false → tgSet t d ρ = some ρ' → ρ'[i]? = ρ[i]?
  | .nm j, d, ρ, ρ', h, e => by
    simp only [asgTg, beq_eq_false_iff_ne, ne_eq] at h
    simp only [tgSet] at e; cases e
    exact List.getElem?_set_ne (fun q => h q.symm)
  | .tp ts, d, ρ, ρ', h, e => by
    simp only [asgTg] at h
    cases d <;> simp only [tgSet] at e <;> first | (cases e; done) | exact tgs_keep h e
theorem tgs_keep {i : Nat} : ∀ {ts : List Tg} {ds : List D} {ρ ρ' : Env'}, asgTgs i ts = false → tgSets ts ds ρ = some ρ' → ρ'[i]? = ρ[i]?
  | [], [], ρ, ρ', _, e => by simp only [tgSets] at e; cases e; rfl
  | t :: ts, d :: ds, ρ, ρ', h, e => by
    simp only [asgTgs, Bool.or_eq_false_iff] at h
    simp only [tgSets] at e
    cases q : tgSet t d ρ with
    | none => rw [q] at e; cases e
    | some ρ1 =>
      rw [q] at e
      exact (tgs_keep h.2 e).trans (tg_keep h.1 q)
  | [], _ :: _, _, _, _, e => by simp only [tgSets] at e; cases e
  | _ :: _, [], _, _, _, e => by simp only [tgSets] at e; cases e
end
def Keeps (i : Nat) (m : Env' → M Fl) : Prop := ∀ ρ S fl S' ρ', m ρ S = .ok fl S' → flEnv fl = some ρ' → ρ'[i]? = ρ[i]?
theorem keeps_for {i : Nat} {body : Env' → M Fl} {tg : Tg} {src : Src} (ht : asgTg i tg = false) (hb : Keeps i body) : ∀ n k, Keeps i (forLoop body tg src n k) := by
  intro n
  induction n with
  | zero =>
    intro k ρ S fl S' ρ' h e
    unfold forLoop at h
    split at h
    · cases h
    · cases h; cases e; rfl
    · cases h
  | succ n ih =>
    intro k ρ S fl S' ρ' h e
    unfold forLoop at h
    split at h
    · cases h
    · cases h; cases e; rfl
    · rename_i d hd
      dsimp only at h
      cases q : tgSet tg d ρ with
      | none => rw [q] at h; cases h
      | some ρ1 =>
        rw [q] at h
        dsimp only at h
        have k1 := tg_keep ht q
        cases hm : body ρ1 S with
        | bad => rw [hm] at h; cases h
        | exc c fs S1 => rw [hm] at h; cases h
        | ok f S1 =>
          rw [hm] at h
          simp only [R.bind] at h
          cases f with
          | nx ρ2 => exact ((ih (k + 1) ρ2 S1 fl S' ρ' h e).trans (hb ρ1 S _ S1 ρ2 hm rfl)).trans k1
          | ct ρ2 => exact ((ih (k + 1) ρ2 S1 fl S' ρ' h e).trans (hb ρ1 S _ S1 ρ2 hm rfl)).trans k1
          | bk ρ2 => cases h; cases e; exact (hb ρ1 S _ _ _ hm rfl).trans k1
          | rt d => cases h; cases e
theorem keeps_whl {i : Nat} {test : Env' → M Bool} {body : Env' → M Fl} (hb : Keeps i body) : ∀ n, Keeps i (whlLoop test body n) := by
  intro n
  induction n with
  | zero => intro ρ S fl S' ρ' h e; cases h
  | succ n ih =>
    intro ρ S fl S' ρ' h e
    unfold whlLoop at h
    cases ht : test ρ S with
    | bad => simp only [mbind, ht, R.bind] at h; cases h
    | exc c fs S1 => simp only [mbind, ht, R.bind] at h; cases h
    | ok b S1 =>
      simp only [mbind, ht, R.bind] at h
      cases b with
      | false => cases h; cases e; rfl
      | true =>
        simp only [if_true] at h
        cases hm : body ρ S1 with
        | bad => simp only [mbind, hm, R.bind] at h; cases h
        | exc c fs S2 => simp only [mbind, hm, R.bind] at h; cases h
        | ok f S2 =>
          simp only [mbind, hm, R.bind] at h
          cases f with
          | nx ρ2 => exact (ih ρ2 S2 fl S' ρ' h e).trans (hb ρ S1 _ S2 ρ2 hm rfl)
          | ct ρ2 => exact (ih ρ2 S2 fl S' ρ' h e).trans (hb ρ S1 _ S2 ρ2 hm rfl)
          | bk ρ2 => cases h; cases e; exact hb ρ S1 _ _ _ hm rfl
          | rt d => cases h; cases e
theorem keeps_bind {α : Type} {i : Nat} {m : Env' → M α} {f : Env' → α → M Fl} (h : ∀ a, Keeps i (fun ρ => f ρ a)) : Keeps i (fun ρ => mbind (m ρ) (f ρ)) := by
  intro ρ S fl S' ρ' e q
  simp only [mbind] at e
  cases hm : m ρ S with
  | bad => rw [hm] at e; cases e
  | exc c fs S1 => rw [hm] at e; cases e
  | ok a S1 => rw [hm] at e; exact h a ρ S1 fl S' ρ' e q
theorem keeps_nx {i : Nat} : Keeps i (fun ρ => mret (.nx ρ)) := fun ρ S fl S' ρ' e q => by cases e; cases q; rfl
section
variable {F : Nat → List D → M D}
mutual
theorem keepS {i : Nat} : ∀ {s : S'}, asgS i s = false → Keeps i (evS F s)
  | .set j e, h => by
    simp only [asgS, beq_eq_false_iff_ne, ne_eq] at h
    refine keeps_bind (m := evE F e) (f := fun ρ x => mret (.nx (ρ.set j (some x)))) fun x ρ S fl S' ρ' e q => ?_
    cases e; cases q
    exact List.getElem?_set_ne (fun z => h z.symm)
  | .asg t e, h => by
    simp only [asgS] at h
    refine keeps_bind (m := evE F e) (f := fun ρ x => match tgSet t x ρ with | some ρ' => mret (.nx ρ') | none => mbad) fun x ρ S fl S' ρ' e q => ?_
    cases z : tgSet t x ρ with
    | none => simp only [z] at e; cases e
    | some ρ1 => simp only [z] at e; cases e; cases q; exact tg_keep h z
  | .sto o i' e, h => keeps_bind (m := evE F e) (f := fun ρ x => mbind (evE F o ρ) fun r => mbind (evE F i' ρ) fun k => mbind (stoM r k x) fun _ => mret (.nx ρ)) fun x =>
      keeps_bind (m := evE F o) (f := fun ρ r => mbind (evE F i' ρ) fun k => mbind (stoM r k x) fun _ => mret (.nx ρ)) fun r =>
        keeps_bind (m := evE F i') (f := fun ρ k => mbind (stoM r k x) fun _ => mret (.nx ρ)) fun k => keeps_bind (m := fun _ => stoM r k x) (f := fun ρ _ => mret (.nx ρ)) fun _ => keeps_nx
  | .expr e, h => keeps_bind (m := evE F e) (f := fun ρ _ => mret (.nx ρ)) fun _ => keeps_nx
  | .ret e, h => keeps_bind (m := evE F e) (f := fun ρ x => mret (.rt x)) fun x ρ S fl S' ρ' e q => by cases e; cases q
  | .ife t a b, h => by
    simp only [asgS, Bool.or_eq_false_iff] at h
    refine keeps_bind (m := evT F t) (f := fun ρ k => if k then evSs F a ρ else evSs F b ρ) fun k ρ S fl S' ρ' e q => ?_
    cases k with
    | true => exact keepSs h.1 ρ S fl S' ρ' e q
    | false => exact keepSs h.2 ρ S fl S' ρ' e q
  | .frr t it body, h => by
    simp only [asgS, Bool.or_eq_false_iff] at h
    exact keeps_bind (m := evI F it) (f := fun ρ src => forLoop (evSs F body) t src src.n 0 ρ) fun src => keeps_for h.1 (keepSs h.2) _ _
  | .whl t body, h => by
    simp only [asgS] at h
    exact keeps_whl (keepSs h) _
  | .brk, h => fun ρ S fl S' ρ' e q => by cases e; cases q; rfl
  | .cnt, h => fun ρ S fl S' ρ' e q => by cases e; cases q; rfl
  | .pass, h => fun ρ S fl S' ρ' e q => by cases e; cases q; rfl
  | .nev, h => fun ρ S fl S' ρ' e q => by cases e
theorem keepSs {i : Nat} : ∀ {ss : List S'}, asgSs i ss = false → Keeps i (evSs F ss)
  | [], h => keeps_nx
  | s :: r, h => fun ρ S fl S' ρ' e q => by
    simp only [asgSs, Bool.or_eq_false_iff] at h
    have e : (mbind (evS F s ρ) fun fl => match fl with | .nx ρ' => evSs F r ρ' | f => mret f) S = .ok fl S' := e
    simp only [mbind] at e
    cases hm : evS F s ρ S with
    | bad => rw [hm] at e; cases e
    | exc c fs S1 => rw [hm] at e; cases e
    | ok f S1 =>
      rw [hm] at e
      simp only [R.bind] at e
      cases f with
      | nx ρ1 => exact (keepSs h.2 ρ1 S1 fl S' ρ' e q).trans (keepS h.1 ρ S _ S1 ρ1 hm rfl)
      | bk ρ1 => cases e; cases q; exact keepS h.1 ρ S _ _ _ hm rfl
      | ct ρ1 => cases e; cases q; exact keepS h.1 ρ S _ _ _ hm rfl
      | rt d => cases e; cases q
end
end

/-! ## a step of a body -/
def Own (ρ2 : Env2) (ρ : Env') (j : Nat) : Prop := ∃ (k : Nat) (xs : List D), ρ2[k]? = some (some (.o xs)) ∧ ρ[k]? = some (some (.ref j))
structure Stp (B : Nat) (ρ2 : Env2) (ρ : Env') (S : Sto) (ρ2' : Env2) (ρ' : Env') (S' : Sto) : Prop where
  mx : Mx B ρ2' ρ' S'
  own : ∀ j, Own ρ2' ρ' j → Own ρ2 ρ j ∨ S.length ≤ j
  len : S.length ≤ S'.length
  fr : ∀ j, 0 < j → j < S.length → ¬ Own ρ2 ρ j → S'[j]? = S[j]?
section
variable {B : Nat} {ρ2 ρ21 ρ22 : Env2} {ρ ρ1 ρ'' : Env'} {S S1 S2 : Sto}
theorem Stp.refl (m : Mx B ρ2 ρ S) : Stp B ρ2 ρ S ρ2 ρ S := ⟨m, fun _ h => .inl h, Nat.le_refl _, fun _ _ _ _ => rfl⟩
theorem Stp.trans (a : Stp B ρ2 ρ S ρ21 ρ1 S1) (b : Stp B ρ21 ρ1 S1 ρ22 ρ'' S2) : Stp B ρ2 ρ S ρ22 ρ'' S2 :=
  ⟨b.mx, fun j h => by
    rcases b.own j h with h | h
    · exact a.own j h
    · exact .inr (Nat.le_trans a.len h), Nat.le_trans a.len b.len, fun j h0 hl hn => by
    have h1 := a.fr j h0 hl hn
    refine (b.fr j h0 (Nat.lt_of_lt_of_le hl a.len) fun ho => ?_).trans h1
    rcases a.own j ho with h | h
    · exact hn h
    · omega⟩
theorem Stp.frB (a : Stp B ρ2 ρ S ρ21 ρ1 S1) (m : Mx B ρ2 ρ S) : Fr B S S1 := ⟨a.len, fun i h0 hi => a.fr i h0 (Nat.lt_of_lt_of_le hi m.base.2) fun ⟨k, xs, h1, h2⟩ => by
  obtain ⟨d, h3, j, e, h4, _⟩ := m.slot k _ h1
  rw [h2] at h3; cases h3; cases e; omega⟩
theorem own_lt (m : Mx B ρ2 ρ S) {j : Nat} (h : Own ρ2 ρ j) : B ≤ j ∧ j < S.length := by
  obtain ⟨k, xs, h1, h2⟩ := h
  obtain ⟨d, h3, j', e, h4, h5⟩ := m.slot k _ h1
  rw [h2] at h3; cases h3; cases e
  exact ⟨h4, lt_of_get h5⟩
/-- an expression was evaluated -/
theorem Stp.expr (m : Mx B ρ2 ρ S) (f : Fr S.length S S1) : Stp B ρ2 ρ S ρ2 ρ S1 := ⟨m.step f, fun _ h => .inl h, f.1, fun j h0 hl _ => f.2 j h0 hl⟩
theorem Stp.set (m : Mx B ρ2 ρ S) (f : Fr S.length S S1) {w : W} {d : D} (hb : ∀ xs, w ≠ W.b xs) (r : ResOk S.length S1 w d) (i : Nat) : Stp B ρ2 ρ S (ρ2.set i (some w)) (ρ.set i (some d)) S1 := by
  have m1 := m.step f
  have at_i : ∀ {k : Nat} {w' : W}, (ρ2.set i (some w))[k]? = some (some w') → (k = i ∧ w' = w ∧ (ρ.set i (some d))[k]? = some (some d)) ∨ (k ≠ i ∧ ρ2[k]? = some (some w') ∧ (ρ.set i (some d))[k]? = ρ[k]?) := fun {k w'} h => by
    by_cases e : k = i
    · subst e
      have hl : k < ρ2.length := by simpa using (List.getElem?_eq_some_iff.mp h).1
      rw [List.getElem?_set_self hl] at h
      cases h
      exact .inl ⟨rfl, rfl, by rw [List.getElem?_set_self (by rw [m.len]; exact hl)]⟩
    · rw [List.getElem?_set_ne (fun z => e z.symm)] at h
      exact .inr ⟨e, h, List.getElem?_set_ne (fun z => e z.symm)⟩
  have old : ∀ {k : Nat} {xs : List D} {j : Nat}, ρ2[k]? = some (some (.o xs)) → ρ[k]? = some (some (.ref j)) → j < S.length := fun {k xs j} h1 h2 => (own_lt m ⟨k, xs, h1, h2⟩).2
  have new : ∀ {xs : List D} {j : Nat}, w = .o xs → d = .ref j → S.length ≤ j := fun {xs j} h1 h2 => by
    subst h1; obtain ⟨j', e, h3, _⟩ := r; rw [h2] at e; cases e; exact h3
  refine ⟨⟨by simp [m.len], m1.base, fun k w' h => ?_, fun k l xs ys j h1 h2 h3 h4 => ?_⟩, fun j ⟨k, xs, h1, h2⟩ => ?_, f.1, fun j h0 hl _ => f.2 j h0 hl⟩
  · rcases at_i h with ⟨rfl, rfl, e⟩ | ⟨ne, h', e⟩
    · refine ⟨d, e, ?_⟩
      cases w' with
      | v d' => exact r
      | o xs => obtain ⟨j, e, h3, h4, h5⟩ := r; exact ⟨j, e, Nat.le_trans m.base.2 h3, h5⟩
      | b xs => exact absurd rfl (hb xs)
      | s => exact r
    · obtain ⟨d', h1, h2⟩ := m1.slot k w' h'
      exact ⟨d', by rw [e]; exact h1, h2⟩
  · rcases at_i h1 with ⟨rfl, e1, q1⟩ | ⟨n1, e1, q1⟩
    · rcases at_i h2 with ⟨rfl, e2, q2⟩ | ⟨n2, e2, q2⟩
      · rfl
      · rw [q1] at h3; rw [q2] at h4
        have := old e2 h4
        have := new e1.symm (by cases h3; rfl)
        omega
    · rcases at_i h2 with ⟨rfl, e2, q2⟩ | ⟨n2, e2, q2⟩
      · rw [q1] at h3; rw [q2] at h4
        have := old e1 h3
        have := new e2.symm (by cases h4; rfl)
        omega
      · rw [q1] at h3; rw [q2] at h4
        exact m.inj k l xs ys j e1 e2 h3 h4
  · rcases at_i h1 with ⟨rfl, e1, q1⟩ | ⟨n1, e1, q1⟩
    · rw [q1] at h2
      exact .inr (new e1.symm (by cases h2; rfl))
    · rw [q1] at h2
      exact .inl ⟨k, xs, e1, h2⟩
/-- the body's own list goes from one slot to another -/
theorem Stp.move (m : Mx B ρ2 ρ S) {i j r : Nat} {xs : List D} (h2 : ρ2[j]? = some (some (.o xs))) (h1 : ρ[j]? = some (some (.ref r))) (hij : i ≠ j) : Stp B ρ2 ρ S ((ρ2.set j none).set i (some (.o xs))) (ρ.set i (some (.ref r))) S := by
  have at_i : ∀ {k : Nat} {w' : W}, ((ρ2.set j none).set i (some (.o xs)))[k]? = some (some w') → (k = i ∧ w' = .o xs ∧ (ρ.set i (some (.ref r)))[k]? = some (some (.ref r))) ∨ (k ≠ i ∧ k ≠ j ∧ ρ2[k]? = some (some w') ∧ (ρ.set i (some (.ref r)))[k]? = ρ[k]?) := fun {k w'} h => by
    by_cases e : k = i
    · subst e
      have hl : k < ρ2.length := by simpa using (List.getElem?_eq_some_iff.mp h).1
      rw [List.getElem?_set_self (by simpa using hl)] at h
      cases h
      exact .inl ⟨rfl, rfl, by rw [List.getElem?_set_self (by rw [m.len]; exact hl)]⟩
    · rw [List.getElem?_set_ne (fun z => e z.symm)] at h
      by_cases e2 : k = j
      · subst e2
        have hl : k < ρ2.length := by simpa using (List.getElem?_eq_some_iff.mp h).1
        rw [List.getElem?_set_self hl] at h
        cases h
      · rw [List.getElem?_set_ne (fun z => e2 z.symm)] at h
        exact .inr ⟨e, e2, h, List.getElem?_set_ne (fun z => e z.symm)⟩
  refine ⟨⟨by simp [m.len], m.base, fun k w' h => ?_, fun k l us vs q h3 h4 h5 h6 => ?_⟩, fun q ⟨k, us, h3, h4⟩ => ?_, Nat.le_refl _, fun _ _ _ _ => rfl⟩
  · rcases at_i h with ⟨rfl, rfl, e⟩ | ⟨_, _, h', e⟩
    · obtain ⟨d, q1, q2⟩ := m.slot j _ h2
      rw [h1] at q1; cases q1
      exact ⟨_, e, q2⟩
    · obtain ⟨d', q1, q2⟩ := m.slot k w' h'
      exact ⟨d', by rw [e]; exact q1, q2⟩
  · rcases at_i h3 with ⟨rfl, e1, q1⟩ | ⟨n1, n1', e1, q1⟩
    · rcases at_i h4 with ⟨rfl, e2, q2⟩ | ⟨n2, n2', e2, q2⟩
      · rfl
      · rw [q1] at h5; rw [q2] at h6; cases h5
        exact absurd (m.inj l j vs xs r e2 h2 h6 h1) n2'
    · rcases at_i h4 with ⟨rfl, e2, q2⟩ | ⟨n2, n2', e2, q2⟩
      · rw [q1] at h5; rw [q2] at h6; cases h6
        exact absurd (m.inj k j us xs r e1 h2 h5 h1) n1'
      · rw [q1] at h5; rw [q2] at h6
        exact m.inj k l us vs q e1 e2 h5 h6
  · rcases at_i h3 with ⟨rfl, e1, q1⟩ | ⟨n1, n1', e1, q1⟩
    · rw [q1] at h4; cases h4
      exact .inl ⟨j, xs, h2, h1⟩
    · rw [q1] at h4
      exact .inl ⟨k, us, e1, h4⟩
/-- the body's own list at a slot is changed -/
theorem Stp.mut (m : Mx B ρ2 ρ S) {i r : Nat} {xs : List D} (h2 : ρ2[i]? = some (some (.o xs))) (h1 : ρ[i]? = some (some (.ref r))) (ys : List D) : Stp B ρ2 ρ S (ρ2.set i (some (.o ys))) ρ (S.set r (.lst ys)) := by
  have hr := own_lt m ⟨i, xs, h2, h1⟩
  have hil : i < ρ2.length := (List.getElem?_eq_some_iff.mp h2).1
  have at_i : ∀ {k : Nat} {w' : W}, (ρ2.set i (some (.o ys)))[k]? = some (some w') → (k = i ∧ w' = .o ys) ∨ (k ≠ i ∧ ρ2[k]? = some (some w')) := fun {k w'} h => by
    by_cases e : k = i
    · subst e
      rw [List.getElem?_set_self hil] at h
      cases h
      exact .inl ⟨rfl, rfl⟩
    · rw [List.getElem?_set_ne (fun z => e z.symm)] at h
      exact .inr ⟨e, h⟩
  have back : ∀ {k : Nat} {zs : List D}, (ρ2.set i (some (.o ys)))[k]? = some (some (.o zs)) → ∃ us, ρ2[k]? = some (some (.o us)) := fun {k zs} h => by
    rcases at_i h with ⟨rfl, _⟩ | ⟨_, h⟩
    · exact ⟨xs, h2⟩
    · exact ⟨zs, h⟩
  refine ⟨⟨by simp [m.len], ⟨m.base.1, by rw [List.length_set]; exact m.base.2⟩, fun k w' h => ?_, fun k l us vs j h3 h4 h5 h6 => ?_⟩, fun j ⟨k, us, h3, h4⟩ => ?_, by rw [List.length_set]; exact Nat.le_refl _, fun j h0 hl hn => ?_⟩
  · rcases at_i h with ⟨rfl, rfl⟩ | ⟨ne, h'⟩
    · exact ⟨_, h1, r, rfl, hr.1, List.getElem?_set_self hr.2⟩
    · obtain ⟨d', q1, q2⟩ := m.slot k w' h'
      refine ⟨d', q1, ?_⟩
      cases w' with
      | v d1 => exact q2
      | o us =>
        obtain ⟨j, e, q3, q4⟩ := q2
        subst e
        have : r ≠ j := fun z => ne (m.inj k i us xs j h' h2 q1 (by rw [← z]; exact h1))
        exact ⟨j, rfl, q3, by rw [List.getElem?_set_ne this]; exact q4⟩
      | b us =>
        obtain ⟨j, e, q3, q5, q4⟩ := q2
        have : r ≠ j := by omega
        exact ⟨j, e, q3, q5, by rw [List.getElem?_set_ne this]; exact q4⟩
      | s => exact q2
  · obtain ⟨us', q1⟩ := back h3
    obtain ⟨vs', q2⟩ := back h4
    exact m.inj k l us' vs' j q1 q2 h5 h6
  · obtain ⟨us', q1⟩ := back h3
    exact .inl ⟨k, us', q1, h4⟩
  · have : r ≠ j := fun z => hn ⟨i, xs, h2, by rw [← z]; exact h1⟩
    exact List.getElem?_set_ne this
mutual
theorem tg_own {j : Nat} : ∀ {t : Tg} {d : D} {ρ2 ρ2' : Env2} {ρ ρ' : Env'}, ρ.length = ρ2.length → tgSetW t d ρ2 = some ρ2' → tgSet t d ρ = some ρ' → (Own ρ2' ρ' j → Own ρ2 ρ j) ∧ ρ'.length = ρ2'.length
  | .nm i, d, ρ2, ρ2', ρ, ρ', hl, h2, h1 => by
    simp only [tgSetW] at h2; cases h2
    simp only [tgSet] at h1; cases h1
    refine ⟨fun ⟨k, xs, q1, q2⟩ => ?_, by simp [hl]⟩
    by_cases e : k = i
    · subst e
      have hl : k < ρ2.length := by simpa using (List.getElem?_eq_some_iff.mp q1).1
      rw [List.getElem?_set_self hl] at q1
      cases q1
    · rw [List.getElem?_set_ne (fun z => e z.symm)] at q1 q2
      exact ⟨k, xs, q1, q2⟩
  | .tp ts, d, ρ2, ρ2', ρ, ρ', hl, h2, h1 => by
    cases d <;> simp only [tgSetW] at h2 <;> first | (cases h2; done) | skip
    · simp only [tgSet] at h1; exact tgs_own hl h2 h1
    · simp only [tgSet] at h1; exact tgs_own hl h2 h1
theorem tgs_own {j : Nat} : ∀ {ts : List Tg} {ds : List D} {ρ2 ρ2' : Env2} {ρ ρ' : Env'}, ρ.length = ρ2.length → tgSetsW ts ds ρ2 = some ρ2' → tgSets ts ds ρ = some ρ' → (Own ρ2' ρ' j → Own ρ2 ρ j) ∧ ρ'.length = ρ2'.length
  | [], [], ρ2, ρ2', ρ, ρ', hl, h2, h1 => by
    simp only [tgSetsW] at h2; cases h2
    simp only [tgSets] at h1; cases h1
    exact ⟨id, hl⟩
  | t :: ts, d :: ds, ρ2, ρ2', ρ, ρ', hl, h2, h1 => by
    simp only [tgSetsW] at h2
    simp only [tgSets] at h1
    cases q2 : tgSetW t d ρ2 with
    | none => rw [q2] at h2; cases h2
    | some ρ3 =>
      cases q1 : tgSet t d ρ with
      | none => rw [q1] at h1; cases h1
      | some ρ4 =>
        rw [q2] at h2; rw [q1] at h1
        obtain ⟨a1, a2⟩ := tg_own (j := j) hl q2 q1
        obtain ⟨b1, b2⟩ := tgs_own (j := j) a2 h2 h1
        exact ⟨fun h => a1 (b1 h), b2⟩
  | [], _ :: _, _, _, _, _, _, h, _ => by simp only [tgSetsW] at h; cases h
  | _ :: _, [], _, _, _, _, _, h, _ => by simp only [tgSetsW] at h; cases h
end
theorem Stp.tg (m : Mx B ρ2 ρ S) {t : Tg} {d : D} {ρ2' : Env2} (h : tgSetW t d ρ2 = some ρ2') : ∃ ρ', tgSet t d ρ = some ρ' ∧ Stp B ρ2 ρ S ρ2' ρ' S := by
  obtain ⟨ρ', h1, h2⟩ := tg_mt m h
  exact ⟨ρ', h1, h2, fun j q => .inl ((tg_own m.len h h1).1 q), Nat.le_refl _, fun _ _ _ _ => rfl⟩
end
end Pu

namespace Pu
open PySem PySem.Spec PyProof.Rows L2
def RelFl (B : Nat) (ρ2 : Env2) (ρ : Env') (S : Sto) : Sto → Fl2 → Fl → Prop
  | S', .nx ρ2', .nx ρ' => Stp B ρ2 ρ S ρ2' ρ' S'
  | S', .bk ρ2', .bk ρ' => Stp B ρ2 ρ S ρ2' ρ' S'
  | S', .ct ρ2', .ct ρ' => Stp B ρ2 ρ S ρ2' ρ' S'
  | S', .rt w, .rt d => ResOk B S' w d ∧ ∀ xs, w ≠ W.b xs
  | _, _, _ => False
theorem RelFl.after {B : Nat} {ρ2 ρ21 : Env2} {ρ ρ1 : Env'} {S S1 S' : Sto} {a : Fl2} {b : Fl} (st : Stp B ρ2 ρ S ρ21 ρ1 S1) (h : RelFl B ρ21 ρ1 S1 S' a b) : RelFl B ρ2 ρ S S' a b := by
  cases a <;> cases b <;> first | exact h.elim | exact st.trans h | exact h
def OkS (B : Nat) (m2 : Env2 → PM Fl2) (m : Env' → M Fl) : Prop := ∀ ρ2 ρ S σ, Mx B ρ2 ρ S → S[0]? = some (strOb σ) → Ag B (RelFl B ρ2 ρ S) S (m2 ρ2 σ) (m ρ S)
theorem Ag.bindN {α β γ δ : Type} {N : Nat} {Rel : Sto → α → β → Prop} {Rel' : Sto → γ → δ → Prop} {S : Sto} {p : PR α} {r : R β} {f : α → PM γ} {g : β → M δ} (hN : N ≤ S.length) (h : Ag S.length Rel S p r) (hf : ∀ a b S1 σ1, Fr S.length S S1 → S1[0]? = some (strOb σ1) → Rel S1 a b → Ag N Rel' S1 (f a σ1) (g b S1)) : Ag N Rel' S (p.bind f) (r.bind g) := by
  cases p with
  | ok a σ => obtain ⟨b, S', rfl, fr, s, q⟩ := h; exact (hf a b S' σ fr s q).pre (fr.weak hN)
  | exc c fs σ => obtain ⟨S', rfl, fr, s⟩ := h; exact ⟨S', rfl, fr.weak hN, s⟩
  | bad => trivial
theorem stays_ok {i : Nat} {ρ ρ' : Env2} (h : stays (some i) ρ ρ' = true) : ρ'[i]? = ρ[i]? := by
  unfold stays at h
  simpa using h
theorem stays_of {i : Nat} {ρ ρ' : Env2} (h : ρ'[i]? = ρ[i]?) : stays (some i) ρ ρ' = true := by
  unfold stays
  simpa using h
section
variable {B : Nat}
/-! ## loops -/
theorem for_ag {body2 : Env2 → PM Fl2} {body : Env' → M Fl} {tg : Tg} {g : Option Nat} (hb : OkS B body2 body) (hkp : ∀ i, g = some i → asgTg i tg = false ∧ Keeps i body) {P : Nat → Prop} {S0 : Sto} {ρ20 : Env2} {ρ0 : Env'} {items : List D} {src : Src} (m0 : Mx B ρ20 ρ0 S0)
    (hs : SrcIs P S0 items src) (hP : (∀ j, P j → 0 < j ∧ j < S0.length ∧ ¬ Own ρ20 ρ0 j) ∨ ∃ (i r : Nat) (xs : List D), g = some i ∧ (∀ j, P j → j = r) ∧ ρ20[i]? = some (some (.o xs)) ∧ ρ0[i]? = some (some (.ref r))) :
    ∀ (rest : List D) (i n : Nat) (S : Sto) (σ : Strm) (ρ2 : Env2) (ρ : Env'), rest = items.drop i → items.length ≤ i + n → Stp B ρ20 ρ0 S0 ρ2 ρ S → (∀ k, g = some k → ρ2[k]? = ρ20[k]? ∧ ρ[k]? = ρ0[k]?) → S[0]? = some (strOb σ) →
      Ag B (RelFl B ρ20 ρ0 S0) S (pvFor body2 tg g rest ρ2 σ) (forLoop body tg src n i ρ S) := by
  have hk : ∀ (S : Sto) (ρ2 : Env2) (ρ : Env'), Stp B ρ20 ρ0 S0 ρ2 ρ S → (∀ k, g = some k → ρ2[k]? = ρ20[k]? ∧ ρ[k]? = ρ0[k]?) → ∀ j, P j → S[j]? = S0[j]? := fun S ρ2 ρ st hg j hj => by
    rcases hP with h | ⟨k, r, xs, h1, h2, h3, h4⟩
    · obtain ⟨a, b, c⟩ := h j hj
      exact st.fr j a b c
    · have := h2 j hj
      subst this
      obtain ⟨g1, g2⟩ := hg k h1
      obtain ⟨d, q1, r', e, _, q2⟩ := st.mx.slot k _ (g1.trans h3)
      rw [g2, h4] at q1; cases q1; cases e
      obtain ⟨d, q1, r', e, _, q3⟩ := m0.slot k _ h3
      rw [h4] at q1; cases q1; cases e
      rw [q2, q3]
  intro rest
  induction rest with
  | nil =>
    intro i n S σ ρ2 ρ hr hn st hg s
    have hnx : src.nxt i S = some none := by
      rw [hs.2 S (hk S ρ2 ρ st hg) i, List.getElem?_eq_none]
      have := congrArg List.length hr
      simp at this; omega
    unfold forLoop
    simp only [hnx]
    exact .ret s st
  | cons d rest ih =>
    intro i n S σ ρ2 ρ hr hn st hg s
    have hi' : i < items.length := by
      have := congrArg List.length hr
      simp at this; omega
    have hd : items[i]? = some d := by
      have h := congrArg (fun l => l[0]?) hr
      simp at h
      exact h.symm
    have hnx : src.nxt i S = some (some d) := by rw [hs.2 S (hk S ρ2 ρ st hg) i, hd]
    have hrest : rest = items.drop (i + 1) := by
      have h := congrArg List.tail hr
      simpa using h
    cases n with
    | zero => omega
    | succ n =>
      unfold forLoop pvFor
      simp only [hnx]
      cases ht : tgSetW tg d ρ2 with
      | none => trivial
      | some ρ2' =>
        obtain ⟨ρ', ht', st'⟩ := Stp.tg st.mx ht
        simp only [ht']
        -- the body, and what it kept
        have hB := hb ρ2' ρ' S σ st'.mx s
        have next : ∀ (ρ22 : Env2) (ρ1 : Env') (S1 : Sto) (σ1 : Strm) (fl : Fl), flEnv fl = some ρ1 → body ρ' S = .ok fl S1 → Stp B ρ2' ρ' S ρ22 ρ1 S1 → S1[0]? = some (strOb σ1) → Ag B (RelFl B ρ20 ρ0 S0) S1 ((if stays g ρ2 ρ22 then pvFor body2 tg g rest ρ22 else pbad) σ1) (forLoop body tg src n (i + 1) ρ1 S1) := fun ρ22 ρ1 S1 σ1 fl hfl hbd st1 s1 => by
          by_cases hst : stays g ρ2 ρ22 = true
          · rw [if_pos hst]
            refine ih (i + 1) n S1 σ1 ρ22 ρ1 hrest (by omega) ((st.trans st').trans st1) (fun k hk' => ?_) s1
            obtain ⟨g1, g2⟩ := hg k hk'
            obtain ⟨q1, q2⟩ := hkp k hk'
            subst hk'
            have hst := stays_ok hst
            exact ⟨hst.trans g1, ((q2 ρ' S fl S1 ρ1 hbd hfl).trans (tg_keep q1 ht')).trans g2⟩
          · rw [if_neg hst]; trivial
        cases hp : body2 ρ2' σ with
        | bad => simp only [pbind, hp, PR.bind]; trivial
        | exc c fs σ1 =>
          rw [hp] at hB
          obtain ⟨S1, e1, f1, s1⟩ := hB
          simp only [pbind, hp, PR.bind, e1, R.bind]
          exact ⟨S1, rfl, f1, s1⟩
        | ok fl2 σ1 =>
          rw [hp] at hB
          obtain ⟨fl, S1, e1, f1, s1, rel⟩ := hB
          simp only [pbind, hp, PR.bind, e1, R.bind]
          refine Ag.pre f1 ?_
          cases fl2 <;> cases fl <;> first | exact rel.elim | skip
          · exact next _ _ S1 σ1 _ rfl e1 rel s1
          · exact .ret s1 rel
          · exact .ret s1 ((st.trans st').trans rel)
          · exact next _ _ S1 σ1 _ rfl e1 rel s1
theorem whl_ag {test2 : Env2 → PM Bool} {body2 : Env2 → PM Fl2} {test : Env' → M Bool} {body : Env' → M Fl} (ht : OkT B test2 test) (hb : OkS B body2 body) : ∀ n, OkS B (pvWhl test2 body2 n) (whlLoop test body n) := by
  intro n
  induction n with
  | zero => intro ρ2 ρ S σ m s; trivial
  | succ n ih =>
    intro ρ2 ρ S σ m s
    refine Ag.bindN m.base.2 (ht ρ2 ρ S σ m s) ?_
    rintro b _ S1 σ1 f1 s1 rfl
    have st1 := Stp.expr m f1
    cases b with
    | false => exact .ret s1 st1
    | true =>
      refine (hb ρ2 ρ S1 σ1 st1.mx s1).bind fun fl2 fl S2 σ2 f2 s2 rel => ?_
      cases fl2 <;> cases fl <;> first | exact rel.elim | skip
      · have st2 : Stp B ρ2 ρ S _ _ S2 := st1.trans rel
        exact (ih _ _ S2 σ2 st2.mx s2).imp fun _ _ _ q => q.after st2
      · exact .ret s2 rel
      · exact .ret s2 (show Stp B ρ2 ρ S _ _ S2 from st1.trans rel)
      · have st2 : Stp B ρ2 ρ S _ _ S2 := st1.trans rel
        exact (ih _ _ S2 σ2 st2.mx s2).imp fun _ _ _ q => q.after st2
end
section
variable {F2 : Nat → List W → PM W} {F : Nat → List D → M D} {B : Nat}
/-! ## what a for statement walks -/
def RelIT (g : Option Nat) (ρ2 : Env2) (ρ : Env') (S : Sto) (items : List D) (src : Src) : Prop := ∃ P : Nat → Prop, SrcIs P S items src ∧ ((∀ j, P j → 0 < j ∧ j < S.length ∧ ¬ Own ρ2 ρ j) ∨ ∃ (i r : Nat) (xs : List D), g = some i ∧ (∀ j, P j → j = r) ∧ ρ2[i]? = some (some (.o xs)) ∧ ρ[i]? = some (some (.ref r)))
/-- a fresh list or data -/
theorem nob_at {S0 S : Sto} {ρ2 : Env2} {ρ : Env'} {w : W} {d d' : D} {j : Nat} (m : Mx B ρ2 ρ S0) (h : ResOk S0.length S w d) (hj : At d j) (q : w.nob = some d') (hd : ∀ k, d' ≠ .ref k) : 0 < j ∧ j < S.length ∧ ¬ Own ρ2 ρ j := by
  have a := at_lt h hj (nob_rd q) hd
  refine ⟨a.1, a.2, fun o => ?_⟩
  have := (own_lt m o).2
  have hj : d = .ref j := hj
  subst hj
  cases w with
  | v d1 => cases q; exact absurd h (hd j)
  | o xs => obtain ⟨k, e, h1, _⟩ := h; cases e; omega
  | b xs => cases q
  | s => cases q
theorem simIS (hF : SimF F2 F) (it : I') (ρ2 : Env2) (ρ : Env') (S : Sto) (σ : Strm) (m : Mx B ρ2 ρ S) (s : S[0]? = some (strOb σ)) : Ag S.length (RelIT (grd it) ρ2 ρ) S (pvIS F2 it ρ2 σ) (evI F it ρ S) := by
  have seq : ∀ e : X', (∀ i, e ≠ .var i) → it = .seq e → Ag S.length (RelIT (grd it) ρ2 ρ) S ((pbind (pvE F2 e ρ2) fun x => match x.nob with | some d => ofOW (seqOf d []) | none => pbad) σ) (evI F (.seq e) ρ S) := fun e he hit => by
    refine (simE hF e ρ2 ρ S σ m s S.length (Nat.le_refl _)).then fun x d S1 σ1 f1 s1 r1 => ?_
    try dsimp only
    cases q : x.nob with
    | none => trivial
    | some d' =>
      try dsimp only
      cases h : seqOf d' [] with
      | none => trivial
      | some xs =>
        obtain ⟨src, h1, h2⟩ := src_of (r1.vw (nob_rd q)) h
        rw [h1]
        exact .ret s1 ⟨At d, h2, .inl fun j hj => nob_at m r1 hj q (fun k e => by subst e; cases h)⟩
  cases it with
  | seq e =>
    by_cases hv : ∃ i, e = .var i
    · obtain ⟨i, rfl⟩ := hv
      show Ag S.length (RelIT (some i) ρ2 ρ) S ((match ρ2[i]? with | some (some (.o xs)) => pret xs | some (some (.b xs)) => pret xs | some (some (.v d)) => ofOW (seqOf d []) | _ => pbad) σ) ((varM i ρ S).bind fun x S => match srcOf x S with | some src => .ok src S | none => .bad)
      cases h : ρ2[i]? with
      | none => trivial
      | some o =>
        cases o with
        | none => trivial
        | some w =>
          obtain ⟨d, h1, h2⟩ := m.slot i w h
          have hv : varM i ρ S = .ok d S := by unfold varM; rw [h1]
          rw [hv]
          cases w with
          | v d' =>
            have h2 : d' = d := h2
            subst h2
            try dsimp only
            cases hq : seqOf d' [] with
            | none => trivial
            | some xs =>
              obtain ⟨src, g1, g2⟩ := src_of (vw_refl S d') hq
              simp only [R.bind, g1]
              exact .ret s ⟨At d', g2, .inl fun j hj => by have hj : d' = .ref j := hj; subst hj; cases hq⟩
          | o xs =>
            obtain ⟨r, e, h3, h4⟩ := h2
            subst e
            have hr : r ≠ 0 := by have := m.base.1; omega
            obtain ⟨src, g1, g2⟩ := src_of (d' := .fz xs) (d := .ref r) (S := S) (xs := xs) (.inr ⟨xs, r, rfl, rfl, hr, h4⟩) rfl
            simp only [R.bind, g1]
            exact .ret s ⟨At (.ref r), g2, .inr ⟨i, r, xs, rfl, fun j hj => by have hj : D.ref r = .ref j := hj; cases hj; rfl, h, h1⟩⟩
          | b xs =>
            obtain ⟨r, e, hr, h3, h4⟩ := h2
            subst e
            obtain ⟨src, g1, g2⟩ := src_of (d' := .fz xs) (d := .ref r) (S := S) (xs := xs) (.inr ⟨xs, r, rfl, rfl, hr, h4⟩) rfl
            simp only [R.bind, g1]
            refine .ret s ⟨At (.ref r), g2, .inl fun j hj => ?_⟩
            have hj : D.ref r = .ref j := hj
            cases hj
            exact ⟨Nat.pos_of_ne_zero hr, lt_of_get h4, fun o => by have := (own_lt m o).1; omega⟩
          | s => trivial
    · have he : ∀ i, e ≠ .var i := fun i h => hv ⟨i, h⟩
      have : pvIS F2 (.seq e) ρ2 = pbind (pvE F2 e ρ2) fun x => match x.nob with | some d => ofOW (seqOf d []) | none => pbad := by
        cases e <;> first | rfl | exact absurd rfl (he _)
      rw [this]
      exact seq e he rfl
  | zip a b =>
    refine (simE hF a ρ2 ρ S σ m s S.length (Nat.le_refl _)).then fun x d S1 σ1 f1 s1 r1 => ?_
    refine (simE hF b ρ2 ρ S1 σ1 (m.step f1) s1 S.length f1.1).then fun y e S2 σ2 f2 s2 r2 => ?_
    try dsimp only
    cases q : x.nob with
    | none => trivial
    | some d' =>
      cases q2 : y.nob with
      | none => trivial
      | some e' =>
        try dsimp only
        cases h : zipD d' e' with
        | none => trivial
        | some xs =>
          have r1' := r1.step f2
          obtain ⟨src, h1, h2, h3⟩ := zip_of (r1'.vw (nob_rd q)) (r2.vw (nob_rd q2)) h
          rw [h1]
          try dsimp only
          rw [if_pos h2]
          exact .ret s2 ⟨_, h3, .inl fun j hj => hj.elim (fun hj => nob_at m r1' hj q (fun k e => by subst e; cases e' <;> cases h)) fun hj => nob_at m r2 hj q2 (fun k e => by subst e; cases d' <;> first | (cases h; done) | (simp [zipD, lstOf] at h))⟩
  | enm a =>
    refine (simE hF a ρ2 ρ S σ m s 0 (Nat.zero_le _)).then fun x d S1 σ1 f1 s1 r1 => ?_
    try dsimp only
    cases q : x.rd with
    | none => trivial
    | some d' =>
      try dsimp only
      cases h : enmD d' with
      | none => trivial
      | some xs =>
        obtain ⟨src, h1, h2⟩ := enm_of (r1.vw q) h
        rw [h1]
        exact .ret s1 ⟨_, h2, .inl fun j hj => hj.elim⟩
  | rng a =>
    refine (simE hF a ρ2 ρ S σ m s 0 (Nat.zero_le _)).then fun x d S1 σ1 f1 s1 r1 => ?_
    cases x with
    | v d' =>
      have r1 : d' = d := r1
      subst r1
      cases d' <;> first | trivial | skip
      rename_i j
      show Ag S1.length (RelIT none ρ2 ρ) S1 (chkP (-4611686018427387904 ≤ j ∧ j ≤ 16777216) (pret ((List.range j.toNat).map fun (k : Nat) => D.int (0 + (k : Int)))) σ1) (chk (-4611686018427387904 ≤ j ∧ j ≤ 16777216) (mret (rngOf 0 j.toNat)) S1)
      by_cases hp : -4611686018427387904 ≤ j ∧ j ≤ 16777216
      · rw [chkP_pos hp, chk_pos hp]
        exact .ret s1 ⟨_, rng_of 0 _, .inl fun j hj => hj.elim⟩
      · rw [show chkP (-4611686018427387904 ≤ j ∧ j ≤ 16777216) (pret ((List.range j.toNat).map fun (k : Nat) => D.int (0 + (k : Int)))) = pbad from if_neg hp]
        trivial
    | _ => trivial
  | rng2 a b =>
    refine (simE hF a ρ2 ρ S σ m s 0 (Nat.zero_le _)).then fun x d S1 σ1 f1 s1 r1 => ?_
    refine (simE hF b ρ2 ρ S1 σ1 (m.step f1) s1 0 (Nat.zero_le _)).then fun y e S2 σ2 f2 s2 r2 => ?_
    cases x with
    | v d' =>
      have r1 : d' = d := r1
      subst r1
      cases y with
      | v e' =>
        have r2 : e' = e := r2
        subst r2
        cases d' <;> first | (cases e' <;> trivial) | skip
        cases e' <;> first | trivial | skip
        rename_i i j
        show Ag S2.length (RelIT none ρ2 ρ) S2 (chkP (-4611686018427387904 ≤ i ∧ i < 4611686018427387904 ∧ -4611686018427387904 ≤ j ∧ j < 4611686018427387904 ∧ j - i ≤ 16777216) (pret ((List.range (j - i).toNat).map fun (k : Nat) => D.int (i + (k : Int)))) σ2) (chk (-4611686018427387904 ≤ i ∧ i < 4611686018427387904 ∧ -4611686018427387904 ≤ j ∧ j < 4611686018427387904 ∧ j - i ≤ 16777216) (mret (rngOf i (j - i).toNat)) S2)
        by_cases hp : -4611686018427387904 ≤ i ∧ i < 4611686018427387904 ∧ -4611686018427387904 ≤ j ∧ j < 4611686018427387904 ∧ j - i ≤ 16777216
        · rw [chkP_pos hp, chk_pos hp]
          exact .ret s2 ⟨_, rng_of i _, .inl fun j hj => hj.elim⟩
        · rw [show chkP (-4611686018427387904 ≤ i ∧ i < 4611686018427387904 ∧ -4611686018427387904 ≤ j ∧ j < 4611686018427387904 ∧ j - i ≤ 16777216) (pret ((List.range (j - i).toNat).map fun (k : Nat) => D.int (i + (k : Int)))) = pbad from if_neg hp]
          trivial
      | _ => cases d' <;> trivial
    | _ => trivial
end
end Pu

namespace Pu
open PySem PySem.Spec PyProof.Rows L2
section
variable {F2 : Nat → List W → PM W} {F : Nat → List D → M D} {B : Nat} {ρ2 : Env2} {ρ : Env'} {S : Sto} {σ : Strm}
theorem lst_has (m : Mx B ρ2 ρ S) {j : Nat} {xs : List D} (h : ρ2[j]? = some (some (.o xs))) : ∃ r, ρ[j]? = some (some (.ref r)) ∧ S[r]? = some (.lst xs) ∧ B ≤ r ∧ r < S.length := by
  obtain ⟨d, h1, r, e, h2, h3⟩ := m.slot j _ h
  subst e
  exact ⟨r, h1, h3, h2, lt_of_get h3⟩
/-- a method of the body's own list with one argument -/
theorem mth_ag {α β : Type} {Rel : Sto → α → β → Prop} (hF : SimF F2 F) {t : Mt} {j : Nat} {k : X'} {f : W → PM α} {g : D → M β} (m : Mx B ρ2 ρ S) (s : S[0]? = some (strOb σ))
    (h : ∀ (xs : List D) (r : Nat) (w : W) (d : D) (S1 : Sto) (σ1 : Strm), ρ2[j]? = some (some (.o xs)) → ρ[j]? = some (some (.ref r)) → S1[r]? = some (.lst xs) → B ≤ r → Fr S.length S S1 → S1[0]? = some (strOb σ1) → Mx B ρ2 ρ S1 → ResOk S.length S1 w d →
      Ag B Rel S1 (f w σ1) ((mthM t (.ref r) [d] S1).bind g)) :
    Ag B Rel S (mthW ρ2 j (pbind (pvE F2 k ρ2) f) σ) ((evE F (.mth t (.var j) [k]) ρ S).bind g) := by
  unfold mthW
  cases h2 : ρ2[j]? with
  | none => trivial
  | some o =>
    cases o with
    | none => trivial
    | some w =>
      cases w with
      | o xs =>
        obtain ⟨r, h1, h3, h4, h5⟩ := lst_has m h2
        have e : evE F (.mth t (.var j) [k]) ρ S = (evE F k ρ S).bind fun d S1 => mthM t (.ref r) [d] S1 := by
          show (varM j ρ S).bind (fun x S => match x with
            | .ref i => match S[i]? with
              | some (.lst _) => mbind (evEs F [k] ρ) (mthM t x) S
              | _ => .bad
            | _ => .bad) = _
          have hv : varM j ρ S = .ok (.ref r) S := by unfold varM; rw [h1]
          rw [hv]
          simp only [R.bind, h3]
          show ((evE F k ρ S).bind fun x => mbind (mret []) fun xs => mret (x :: xs)).bind (mthM t (.ref r)) = _
          cases evE F k ρ S <;> rfl
        rw [e]
        have he := simE (B := B) hF k ρ2 ρ S σ m s S.length (Nat.le_refl _)
        show Ag B Rel S ((pvE F2 k ρ2 σ).bind f) (((evE F k ρ S).bind fun d S1 => mthM t (.ref r) [d] S1).bind g)
        have e2 : ((evE F k ρ S).bind fun d S1 => mthM t (.ref r) [d] S1).bind g = (evE F k ρ S).bind fun d S1 => (mthM t (.ref r) [d] S1).bind g := by
          cases evE F k ρ S <;> rfl
        rw [e2]
        refine Ag.bindN m.base.2 he fun w d S1 σ1 f1 s1 r1 => ?_
        have m1 := m.step f1
        have h3' : S1[r]? = some (.lst xs) := by rw [f1.2 r (by have := m.base.1; omega) h5]; exact h3
        exact h xs r w d S1 σ1 h2 h1 h3' h4 f1 s1 m1 r1
      | _ => trivial
theorem str_set {r : Nat} {o : Ob} (s : S[0]? = some (strOb σ)) (hr : 1 ≤ r) : (S.set r o)[0]? = some (strOb σ) := by
  rw [List.getElem?_set_ne (by omega)]; exact s
theorem fr_set {r : Nat} {o : Ob} (hr : B ≤ r) : Fr B S (S.set r o) := ⟨by rw [List.length_set]; exact Nat.le_refl _, fun i _ hi => List.getElem?_set_ne (by omega)⟩
theorem pop_ag {α β : Type} {Rel : Sto → α → β → Prop} (hF : SimF F2 F) {j : Nat} {k : X'} {f : D × Env2 → PM α} {g : D → M β} (m : Mx B ρ2 ρ S) (s : S[0]? = some (strOb σ))
    (h : ∀ (d : D) (ρ2' : Env2) (S1 : Sto) (σ1 : Strm), Stp B ρ2 ρ S ρ2' ρ S1 → S1[0]? = some (strOb σ1) → Ag B Rel S1 (f (d, ρ2') σ1) (g d S1)) :
    Ag B Rel S (mthW ρ2 j (pbind (pvE F2 k ρ2) fun k => pbind (popW ρ2 j k) f) σ) ((evE F (.mth .popAt (.var j) [k]) ρ S).bind g) := by
  refine mth_ag hF m s fun xs r w d S1 σ1 h2 h1 h3 h4 f1 s1 m1 r1 => ?_
  have hB := m.base.1
  show Ag B Rel S1 ((popW ρ2 j w σ1).bind f) ((popAtM (.ref r) [d] S1).bind g)
  unfold popW
  rw [h2]
  cases w with
  | v d' =>
    have r1 : d' = d := r1
    subst r1
    cases d' <;> first | trivial | skip
    rename_i i
    dsimp only
    unfold popAtM
    simp only [h3]
    cases q : ixN xs.length i with
    | none => trivial
    | some a =>
      cases q2 : xs[a]? with
      | none => simp only [q2]; trivial
      | some y =>
        simp only [q2]
        have st := (Stp.expr m f1).trans (Stp.mut m1 h2 h1 (xs.eraseIdx a))
        have s2 : (S1.set r (Ob.lst (xs.eraseIdx a)))[0]? = some (strOb σ1) := str_set s1 (by omega)
        exact (h y _ _ σ1 st s2).pre (fr_set h4)
  | _ => trivial
mutual
theorem simS (hF : SimF F2 F) : ∀ st : S', OkS B (pvS F2 st) (evS F st)
  | .set i e => fun ρ2 ρ S σ m s => by
    have plain : Ag B (RelFl B ρ2 ρ S) S ((pbind (pvE F2 e ρ2) fun w => match w with | .b _ => pbad | w => pret (.nx (ρ2.set i (some w)))) σ) (evS F (.set i e) ρ S) := by
      refine Ag.bindN m.base.2 (simE (B := B) hF e ρ2 ρ S σ m s S.length (Nat.le_refl _)) fun w d S1 σ1 f1 s1 r1 => ?_
      cases w with
      | b xs => trivial
      | v d' => exact .ret s1 (Stp.set m f1 (by intro xs h; cases h) r1 i)
      | o xs => exact .ret s1 (Stp.set m f1 (by intro xs h; cases h) r1 i)
      | s => exact .ret s1 (Stp.set m f1 (by intro xs h; cases h) r1 i)
    simp only [pvS]
    split
    · rename_i j k
      refine pop_ag hF m s fun d ρ2' S1 σ1 st1 s1 => ?_
      exact .ret s1 (st1.trans (Stp.set st1.mx (Fr.refl _ _) (w := .v d) (d := d) (by intro xs h; cases h) rfl i))
    · rename_i j
      by_cases hx : ∃ xs, ρ2[j]? = some (some (.o xs))
      · obtain ⟨xs, hx⟩ := hx
        by_cases hij : i = j
        · subst hij
          rw [movW_same hx]; trivial
        · rw [movW_own hx hij]
          obtain ⟨d, h1, r, rfl, hB, hS⟩ := m.slot j _ hx
          have e : evS F (.set i (.var j)) ρ S = .ok (.nx (ρ.set i (some (.ref r)))) S := by
            show (mbind (varM j ρ) fun x => mret (Fl.nx (ρ.set i (some x)))) S = _
            simp only [mbind, varM, h1]
            rfl
          rw [e]
          exact .ret s (Stp.move m hx h1 hij)
      · rw [movW_other hx]
        exact plain
    · exact plain
  | .asg t e => fun ρ2 ρ S σ m s => by
    simp only [pvS]
    split
    · rename_i j k
      refine pop_ag hF m s fun d ρ2' S1 σ1 st1 s1 => ?_
      dsimp only
      cases h : tgSetW t d ρ2' with
      | none => trivial
      | some ρ3 =>
        obtain ⟨ρ', h1, st2⟩ := Stp.tg st1.mx h
        rw [h1]
        exact .ret s1 (st1.trans st2)
    · refine Ag.bindN m.base.2 (simE (B := B) hF e ρ2 ρ S σ m s S.length (Nat.le_refl _)) fun w d S1 σ1 f1 s1 r1 => ?_
      cases q : w.val with
      | none => trivial
      | some d' =>
        have := r1.val q
        subst this
        dsimp only
        cases h : tgSetW t d' ρ2 with
        | none => trivial
        | some ρ3 =>
          obtain ⟨ρ', h1, st2⟩ := Stp.tg (m.step f1) h
          rw [h1]
          exact .ret s1 ((Stp.expr m f1).trans st2)
  | .sto o i e => fun ρ2 ρ S σ m s => by
    simp only [pvS]
    split
    · rename_i j
      unfold mthW
      cases h2 : ρ2[j]? with
      | none => trivial
      | some o =>
        cases o with
        | none => trivial
        | some w =>
          cases w with
          | o xs =>
            obtain ⟨r, h1, h3, h4, h5⟩ := lst_has m h2
            dsimp only
            refine Ag.bindN m.base.2 (simE (B := B) hF e ρ2 ρ S σ m s S.length (Nat.le_refl _)) fun x d S1 σ1 f1 s1 r1 => ?_
            have m1 := m.step f1
            have hv : evE F (.var j) ρ S1 = .ok (.ref r) S1 := by show varM j ρ S1 = _; unfold varM; rw [h1]
            show Ag B (RelFl B ρ2 ρ S) S1 ((pvE F2 i ρ2 σ1).bind _) ((evE F (.var j) ρ S1).bind _)
            rw [hv]
            show Ag B (RelFl B ρ2 ρ S) S1 ((pvE F2 i ρ2 σ1).bind _) ((evE F i ρ S1).bind _)
            refine Ag.bindN m1.base.2 (simE (B := B) hF i ρ2 ρ S1 σ1 m1 s1 S1.length (Nat.le_refl _)) fun k d2 S2 σ2 f2 s2 r2 => ?_
            have m2 := m1.step f2
            have h3' : S2[r]? = some (.lst xs) := by
              obtain ⟨r', q1, q2, _⟩ := lst_has m2 h2
              rw [h1] at q1; cases q1; exact q2
            try dsimp only
            cases k with
            | v d2' =>
              have r2 : d2' = d2 := r2
              subst r2
              cases d2' <;> first | trivial | skip
              rename_i kk
              cases q : x.val with
              | none => trivial
              | some d' =>
                have := r1.val q
                subst this
                dsimp only
                cases q2 : ixN xs.length kk with
                | none => trivial
                | some a =>
                  dsimp only
                  have es : stoM (.ref r) (.int kk) d' S2 = .ok () (S2.set r (.lst (xs.set a d'))) := by
                    unfold stoM
                    simp only [h3', q2]
                  show Ag B (RelFl B ρ2 ρ S) S2 _ ((stoM (.ref r) (.int kk) d' S2).bind _)
                  rw [es]
                  have st := ((Stp.expr m f1).trans (Stp.expr m1 f2)).trans (Stp.mut m2 h2 h1 (xs.set a d'))
                  refine Ag.pre (fr_set (S := S2) (r := r) (o := .lst (xs.set a d')) h4) ?_
                  exact .ret (str_set s2 (by have := m.base.1; omega)) st
            | _ => trivial
          | _ => trivial
    · trivial
  | .expr e => fun ρ2 ρ S σ m s => by
    simp only [pvS]
    split
    · rename_i j i k
      by_cases hx : ∃ xs, ρ2[j]? = some (some (.o xs))
      · obtain ⟨xs, hx⟩ := hx
        rw [mthW_own hx]
        obtain ⟨r, h1, h3, h4, h5⟩ := lst_has m hx
        have e : evS F (.expr (.mth .append (.var j) [.mth .popAt (.var i) [k]])) ρ S = (evE F (.mth .popAt (.var i) [k]) ρ S).bind fun d S1 => (mthM .append (.ref r) [d] S1).bind fun _ S2 => .ok (.nx ρ) S2 := by
          show ((varM j ρ S).bind (fun x S => match x with
            | .ref i' => match S[i']? with
              | some (.lst _) => mbind (evEs F [.mth .popAt (.var i) [k]] ρ) (mthM .append x) S
              | _ => .bad
            | _ => .bad)).bind (fun _ S2 => R.ok (Fl.nx ρ) S2) = _
          have hv : varM j ρ S = .ok (.ref r) S := by unfold varM; rw [h1]
          rw [hv]
          simp only [R.bind, h3]
          show (((evE F (.mth .popAt (.var i) [k]) ρ S).bind fun x => mbind (mret []) fun xs => mret (x :: xs)).bind (mthM .append (.ref r))).bind _ = _
          cases evE F (.mth .popAt (.var i) [k]) ρ S <;> rfl
        rw [e]
        refine pop_ag hF m s fun d ρ2' S1 σ1 st s1 => ?_
        show Ag B (RelFl B ρ2 ρ S) S1 (pushW ρ2' i j d σ1) ((mthM .append (.ref r) [d] S1).bind fun _ S2 => R.ok (Fl.nx ρ) S2)
        by_cases hy : ∃ ys, ρ2'[j]? = some (some (.o ys))
        · obtain ⟨ys, hy⟩ := hy
          obtain ⟨r', g1, g3, g4, g5⟩ := lst_has st.mx hy
          rw [h1] at g1
          cases g1
          unfold pushW
          rw [hy]
          dsimp only
          by_cases hl : ys.length < line
          · rw [if_pos hl]
            have es : mthM .append (.ref r) [d] S1 = .ok .non (S1.set r (.lst (ys ++ [d]))) := by
              show appendM (.ref r) [d] S1 = _
              unfold appendM
              simp only [g3, if_pos hl]
            rw [es]
            refine Ag.pre (fr_set (S := S1) (r := r) (o := .lst (ys ++ [d])) g4) ?_
            exact .ret (str_set s1 (by have := m.base.1; omega)) (st.trans (Stp.mut st.mx hy h1 (ys ++ [d])))
          · rw [if_neg hl]; trivial
        · rw [pushW_bad hy]; trivial
      · rw [mthW_bad hx]; trivial
    · rename_i j e
      refine mth_ag hF (t := .append) m s fun xs r w d S1 σ1 h2 h1 h3 h4 f1 s1 m1 r1 => ?_
      rw [h2]
      cases q : w.val with
      | none => trivial
      | some d' =>
        have := r1.val q
        subst this
        dsimp only
        by_cases hl : xs.length < line
        · rw [if_pos hl]
          have es : mthM .append (.ref r) [d'] S1 = .ok .non (S1.set r (.lst (xs ++ [d']))) := by
            show appendM (.ref r) [d'] S1 = _
            unfold appendM
            simp only [h3, if_pos hl]
          rw [es]
          have st := (Stp.expr m f1).trans (Stp.mut m1 h2 h1 (xs ++ [d']))
          refine Ag.pre (fr_set (S := S1) (r := r) (o := .lst (xs ++ [d'])) h4) ?_
          exact .ret (str_set s1 (by have := m.base.1; omega)) st
        · rw [if_neg hl]; trivial
    · rename_i j e
      refine mth_ag hF (t := .extend) m s fun xs r w d S1 σ1 h2 h1 h3 h4 f1 s1 m1 r1 => ?_
      rw [h2]
      cases q : w.rd with
      | none => trivial
      | some d' =>
        dsimp only
        cases q2 : tlsOf d' [] with
        | none => trivial
        | some ys =>
          have q3 := tls_vw (r1.vw q) q2
          dsimp only
          by_cases hl : xs.length + ys.length ≤ line
          · rw [if_pos hl]
            have es : mthM .extend (.ref r) [d] S1 = .ok .non (S1.set r (.lst (xs ++ ys))) := by
              show extendM (.ref r) [d] S1 = _
              unfold extendM
              simp only [h3, q3, if_pos hl]
            rw [es]
            have st := (Stp.expr m f1).trans (Stp.mut m1 h2 h1 (xs ++ ys))
            refine Ag.pre (fr_set (S := S1) (r := r) (o := .lst (xs ++ ys)) h4) ?_
            exact .ret (str_set s1 (by have := m.base.1; omega)) st
          · rw [if_neg hl]; trivial
    · rename_i j k
      refine pop_ag hF m s fun d ρ2' S1 σ1 st1 s1 => ?_
      exact .ret s1 st1
    · refine Ag.bindN m.base.2 (simE (B := B) hF e ρ2 ρ S σ m s S.length (Nat.le_refl _)) fun w d S1 σ1 f1 s1 r1 => ?_
      exact .ret s1 (Stp.expr m f1)
  | .ret e => fun ρ2 ρ S σ m s => by
    simp only [pvS]
    split
    · rename_i j
      cases h2 : ρ2[j]? with
      | none => trivial
      | some o =>
        cases o with
        | none => trivial
        | some w =>
          obtain ⟨d, h1, h3⟩ := m.slot j w h2
          have hv : evE F (.var j) ρ S = .ok d S := by show varM j ρ S = _; unfold varM; rw [h1]
          show Ag B (RelFl B ρ2 ρ S) S _ ((evE F (.var j) ρ S).bind _)
          rw [hv]
          cases w with
          | b xs => trivial
          | v d' => exact .ret s ⟨h3, by intro xs h; cases h⟩
          | s => exact .ret s ⟨h3, by intro xs h; cases h⟩
          | o xs =>
            obtain ⟨r, e, h4, h5⟩ := h3
            exact .ret s ⟨⟨r, e, h4, by have := m.base.1; omega, h5⟩, by intro xs h; cases h⟩
    · refine Ag.bindN m.base.2 (simE (B := B) hF e ρ2 ρ S σ m s B m.base.2) fun w d S1 σ1 f1 s1 r1 => ?_
      cases w with
      | b xs => trivial
      | v d' => exact .ret s1 ⟨r1, by intro xs h; cases h⟩
      | s => exact .ret s1 ⟨r1, by intro xs h; cases h⟩
      | o xs => exact .ret s1 ⟨r1, by intro xs h; cases h⟩
  | .ife t a b => fun ρ2 ρ S σ m s => by
    refine Ag.bindN m.base.2 (simT (B := B) hF t ρ2 ρ S σ m s) ?_
    rintro k _ S1 σ1 f1 s1 rfl
    have st1 := Stp.expr m f1
    cases k with
    | true => exact (simSs hF a ρ2 ρ S1 σ1 st1.mx s1).imp fun _ _ _ q => q.after st1
    | false => exact (simSs hF b ρ2 ρ S1 σ1 st1.mx s1).imp fun _ _ _ q => q.after st1
  | .frr t it body => fun ρ2 ρ S σ m s => by
    simp only [pvS]
    by_cases hg : grdOk it t body = true
    · rw [if_pos hg]
      refine Ag.bindN m.base.2 (simIS hF it ρ2 ρ S σ m s) fun items src S1 σ1 f1 s1 r1 => ?_
      obtain ⟨P, hs, hP⟩ := r1
      have st1 := Stp.expr m f1
      refine (for_ag (simSs hF body) (fun i hi => ?_) st1.mx hs hP items 0 src.n S1 σ1 ρ2 ρ (by simp) (by have := hs.1; omega) (Stp.refl st1.mx) (fun k _ => ⟨rfl, rfl⟩) s1).imp fun _ _ _ q => q.after st1
      cases it <;> simp only [grd] at hi <;> first | (cases hi; done) | skip
      rename_i e
      cases e <;> simp only [grd] at hi <;> first | (cases hi; done) | skip
      cases hi
      simp only [grdOk, Bool.and_eq_true, Bool.not_eq_true'] at hg
      exact ⟨hg.1, keepSs hg.2⟩
    · rw [if_neg hg]; trivial
  | .whl t body => fun ρ2 ρ S σ m s => whl_ag (simT hF t) (simSs hF body) 65536 ρ2 ρ S σ m s
  | .brk => fun ρ2 ρ S σ m s => .ret s (Stp.refl m)
  | .cnt => fun ρ2 ρ S σ m s => .ret s (Stp.refl m)
  | .pass => fun ρ2 ρ S σ m s => .ret s (Stp.refl m)
  | .nev => fun ρ2 ρ S σ m s => trivial
theorem simSs (hF : SimF F2 F) : ∀ sts : List S', OkS B (pvSs F2 sts) (evSs F sts)
  | [] => fun ρ2 ρ S σ m s => .ret s (Stp.refl m)
  | st :: r => fun ρ2 ρ S σ m s => by
    refine (simS hF st ρ2 ρ S σ m s).bind fun fl2 fl S1 σ1 f1 s1 rel => ?_
    cases fl2 <;> cases fl <;> first | exact rel.elim | exact .ret s1 rel | skip
    have st1 : Stp B ρ2 ρ S _ _ S1 := rel
    exact (simSs hF r _ _ S1 σ1 st1.mx s1).imp fun _ _ _ q => q.after st1
end
end
end Pu

namespace Pu
open PySem PySem.Spec PyProof.Rows L2
theorem ResOks.len {B0 : Nat} {S : Sto} : ∀ {ws : List W} {ds : List D}, ResOks B0 S ws ds → ds.length = ws.length
  | [], [], _ => rfl
  | _ :: _, _ :: _, h => by simp [ResOks.len h.2]
  | [], _ :: _, h => h.elim
  | _ :: _, [], h => h.elim
theorem ResOks.get {B0 : Nat} {S : Sto} : ∀ {ws : List W} {ds : List D} {i : Nat} {w : W}, ResOks B0 S ws ds → ws[i]? = some w → ∃ d, ds[i]? = some d ∧ ResOk B0 S w d
  | [], [], _, _, _, h => by simp at h
  | w :: ws, d :: ds, 0, w', r, h => by simp at h; subst h; exact ⟨d, rfl, r.1⟩
  | w :: ws, d :: ds, i + 1, w', r, h => by
    obtain ⟨d', h1, h2⟩ := ResOks.get (i := i) r.2 (by simpa using h)
    exact ⟨d', by simpa using h1, h2⟩
  | [], _ :: _, _, _, h, _ => h.elim
  | _ :: _, [], _, _, h, _ => h.elim
theorem arg_not_own {w : W} {xs : List D} : w.arg ≠ .o xs := by cases w <;> simp [W.arg]
theorem env_mx {S : Sto} {ws : List W} {ds : List D} {n : Nat} (h1 : 1 ≤ S.length) (r : ResOks 0 S ws ds) : Mx S.length (envW n (ws.map W.arg)) (envOf n ds) S := by
  have hl := r.len
  have no : ∀ {k : Nat} {w : W}, (envW n (ws.map W.arg))[k]? = some (some w) → ∃ w', ws[k]? = some w' ∧ w = w'.arg := fun {k w} h => by
    unfold envW at h
    by_cases hk : k < ws.length
    · rw [List.getElem?_append_left (by simpa using hk), List.getElem?_map, List.getElem?_map, List.getElem?_eq_getElem hk] at h
      simp at h
      exact ⟨_, List.getElem?_eq_getElem hk, h.symm⟩
    · rw [List.getElem?_append_right (by simpa using Nat.le_of_not_lt hk), List.getElem?_replicate] at h
      split at h <;> cases h
  refine ⟨by simp [envOf, envW, hl], ⟨h1, Nat.le_refl _⟩, fun k w h => ?_, fun k l xs ys j h2 _ _ _ => ?_⟩
  · obtain ⟨w', h2, rfl⟩ := no h
    obtain ⟨d, h3, h4⟩ := r.get h2
    refine ⟨d, ?_, ?_⟩
    · unfold envOf
      rw [List.getElem?_append_left (by simpa using (List.getElem?_eq_some_iff.mp h3).1), List.getElem?_map, h3]
      rfl
    · cases w' with
      | v d' => exact h4
      | o xs => obtain ⟨j, e, _, q2, q3⟩ := h4; exact ⟨j, e, q2, lt_of_get q3, q3⟩
      | b xs => obtain ⟨j, e, q2, q3⟩ := h4; exact ⟨j, e, q2, lt_of_get q3, q3⟩
      | s => exact h4
  · obtain ⟨w', _, e⟩ := no h2
    exact absurd e.symm arg_not_own
theorem ResOk.mono {B B0 : Nat} {S : Sto} {w : W} {d : D} (h : ResOk B S w d) (hb : B0 ≤ B) : ResOk B0 S w d := by
  cases w with
  | o xs => obtain ⟨j, e, h1, h2⟩ := h; exact ⟨j, e, Nat.le_trans hb h1, h2⟩
  | _ => exact h
theorem body_ag {F2 : Nat → List W → PM W} {F : Nat → List D → M D} (hF : SimF F2 F) (fn : Fn') {ws : List W} {ds : List D} {S : Sto} {σ : Strm} {B0 : Nat} (hB : B0 ≤ S.length) (h1 : 1 ≤ S.length) (s : S[0]? = some (strOb σ)) (r : ResOks 0 S ws ds) :
    Ag S.length (fun S (w : W) d => ResOk B0 S w d ∧ ∀ xs, w ≠ W.b xs) S (pvB F2 fn (ws.map W.arg) σ) (runB F fn ds S) := by
  refine (simSs hF fn.body _ _ S σ (env_mx (n := fn.slots) h1 r) s).bind fun fl2 fl S1 σ1 f1 s1 rel => ?_
  cases fl2 <;> cases fl <;> first | exact rel.elim | trivial | skip
  · exact .ret s1 ⟨rfl, by intro xs h; cases h⟩
  · exact .ret s1 ⟨rel.1.mono hB, rel.2⟩
/-- those that are told otherwise do what is told -/
def GsOk (gs : Nat → Option (List W → PM W)) (tab : List Fn') : Prop := ∀ f g, gs f = some g → ∀ (k : Nat) (ws : List W) (σ : Strm) (S : Sto) (ds : List D) (B0 : Nat), B0 ≤ S.length → 1 ≤ S.length → S[0]? = some (strOb σ) → ResOks 0 S ws ds →
  Ag S.length (fun S (w : W) d => ResOk B0 S w d ∧ ∀ xs, w ≠ W.b xs) S (g (ws.map W.arg) σ) (runF tab (k + 1) f ds S)
theorem sim_fn {gs : Nat → Option (List W → PM W)} {tab : List Fn'} (hg : GsOk gs tab) : ∀ k, SimF (pvF gs tab k) (runF tab k)
  | 0 => fun f ws σ S ds B0 _ _ _ _ => trivial
  | k + 1 => fun f ws σ S ds B0 hB h1 s r => by
    show Ag S.length _ S ((match gs f with | some g => g (ws.map W.arg) | none => match tab[f]? with | some fn => pvB (pvF gs tab k) fn (ws.map W.arg) | none => pbad) σ) (runF tab (k + 1) f ds S)
    cases h : gs f with
    | some g => exact hg f g h k ws σ S ds B0 hB h1 s r
    | none =>
      cases q : tab[f]? with
      | none => trivial
      | some fn =>
        have e : runF tab (k + 1) f ds S = runB (runF tab k) fn ds S := by simp only [runF, q]
        rw [e]
        exact body_ag (sim_fn hg k) fn hB h1 s r
/-! ## the draws -/
def mixI (k c : Int) : Int := (((c * 48271 + k * 69621 + 11) % 2147483647) * 16807 + 13) % 2147483647 * 65537 + (c * 48271 + k * 69621 + 11) % 2147483647
/-- the script's number at k as it is read -/
def readI (ns : List Int) (k : Int) : Int := if k < ns.length then (let v : Int := (atI ns k).getD 0; if v < 0 then -v else v) else 7 + k
theorem read_nonneg {ns : List Int} {k : Int} (h : 0 ≤ k) : 0 ≤ readI ns k := by
  unfold readI
  dsimp only
  split
  · split <;> omega
  · omega
def cellI (ns : List Int) (k : Int) : Int := if readI ns k < 1000000000000000000 then mixI k (readI ns k) else readI ns k
theorem cell_nonneg {ns : List Int} {k : Int} (h : 0 ≤ k) : 0 ≤ cellI ns k := by
  unfold cellI
  have := read_nonneg (ns := ns) h
  split
  · unfold mixI; omega
  · exact this
/-- the number that stands there now -/
def Strm.cell (σ : Strm) : Int := if σ.c = 0 then cellI σ.ns σ.k else σ.c
def Strm.pos (σ : Strm) : Int := if σ.c = 0 then σ.k + 1 else σ.k
theorem Strm.cell_nn (σ : Strm) : 0 ≤ σ.cell := by
  unfold Strm.cell
  split
  · exact cell_nonneg σ.k0
  · exact σ.c0
def Strm.next (σ : Strm) (many : Nat) : Strm := ⟨σ.ns, σ.cell / many, σ.pos, Int.ediv_nonneg σ.cell_nn (by omega), by unfold Strm.pos; have := σ.k0; split <;> omega, σ.len⟩
def Strm.digit (σ : Strm) (many : Nat) : Int := σ.cell % many
theorem Strm.digit_lt (σ : Strm) {many : Nat} (h : 0 < many) : 0 ≤ σ.digit many ∧ σ.digit many < many := ⟨Int.emod_nonneg _ (by omega), Int.emod_lt_of_pos _ (by omega)⟩
def nextW (ws : List W) : PM W := fun σ => match ws with
  | [.s, .v (.int m)] => if 0 < m ∧ m < 1073741824 then .ok (.v (.int (σ.digit m.toNat))) (σ.next m.toNat) else .bad
  | _ => .bad
end Pu

namespace Pu
open PySem PySem.Spec PyProof.Rows L2
theorem atI_0 {α : Type} (a : α) (l : List α) : atI (a :: l) 0 = some a := by
  have := atI_nat (xs := a :: l) (j := 0) (v := a) rfl
  simpa using this
theorem atI_1 {α : Type} (a b : α) (l : List α) : atI (a :: b :: l) 1 = some b := by
  have := atI_nat (xs := a :: b :: l) (j := 1) (v := b) rfl
  simpa using this
theorem atI_2 {α : Type} (a b c : α) (l : List α) : atI (a :: b :: c :: l) 2 = some c := by
  have := atI_nat (xs := a :: b :: c :: l) (j := 2) (v := c) rfl
  simpa using this
theorem ixN_nat {n : Nat} {i : Int} (h0 : 0 ≤ i) (h1 : i < n) : ixN n i = some i.toNat := by
  unfold ixN; rw [if_pos h0, if_pos h1]
def fNext : Fn' := ⟨5, [(.ife (.bv (.cmp .Eq (.idx (.var 0) (.cst (.int 1))) (.cst (.int 0)))) [(.set 2 (.idx (.var 0) (.cst (.int 2)))), (.set 3 (.cat false (.cst (.int 7)) (.var 2))), (.ife (.bv (.cmp .Lt (.var 2) (.blt .len [(.idx (.var 0) (.cst (.int 0)))]))) [(.set 3 (.blt .abs [(.idx (.idx (.var 0) (.cst (.int 0))) (.var 2))]))] []), (.ife (.bv (.cmp .Lt (.var 3) (.bin .Pow (.cst (.int 10)) (.cst (.int 18))))) [(.set 3 (.bin .Mod (.blt .int [(.cat false (.cat false (.rep false (.var 3) (.cst (.int 48271))) (.rep false (.var 2) (.cst (.int 69621)))) (.cst (.int 11)))]) (.cst (.int 2147483647)))), (.set 3 (.cat false (.rep false (.bin .Mod (.blt .int [(.cat false (.rep false (.var 3) (.cst (.int 16807))) (.cst (.int 13)))]) (.cst (.int 2147483647))) (.cst (.int 65537))) (.var 3)))] []), (.sto (.var 0) (.cst (.int 1)) (.var 3)), (.sto (.var 0) (.cst (.int 2)) (.cat false (.var 2) (.cst (.int 1))))] []), (.set 4 (.bin .Mod (.blt .int [(.idx (.var 0) (.cst (.int 1)))]) (.var 1))), (.sto (.var 0) (.cst (.int 1)) (.bin .FloorDiv (.idx (.var 0) (.cst (.int 1))) (.var 1))), (.ret (.var 4))]⟩
theorem next_run {F : Nat → List D → M D} {S : Sto} {σ : Strm} {m : Int} (s : S[0]? = some (strOb σ)) (h1 : 0 < m) (h2 : m < 1073741824) :
    runB F fNext [.ref 0, .int m] S = .ok (.int (σ.digit m.toNat)) (S.set 0 (strOb (σ.next m.toNat))) := by
  have hl : 0 < S.length := (List.getElem?_eq_some_iff.mp s).1
  have hm : ((m.toNat : Nat) : Int) = m := by omega
  obtain ⟨ns, c, k, c0, k0, hn⟩ := σ
  have hs : S[0]? = some (.lst [.fz (ns.map D.int), .int c, .int k]) := s
  unfold Strm.digit Strm.next strOb Strm.cell Strm.pos
  simp only [hm]
  by_cases z : c = 0
  · subst z
    simp only [if_true]
    unfold cellI readI
    by_cases hkl : k < (ns.length : Int)
    · have hj : k.toNat < ns.length := by omega
      have hat1 : atI ns k = some ns[k.toNat] := by
        have := atI_nat (xs := ns) (j := k.toNat) (v := ns[k.toNat]) (List.getElem?_eq_getElem hj)
        rwa [show ((k.toNat : Nat) : Int) = k by omega] at this
      have hat : atI (ns.map D.int) k = some (.int ns[k.toNat]) := by
        have := atI_nat (xs := ns.map D.int) (j := k.toNat) (v := .int ns[k.toNat]) (by rw [List.getElem?_map, List.getElem?_eq_getElem hj]; rfl)
        rwa [show ((k.toNat : Nat) : Int) = k by omega] at this
      simp only [hkl, if_true, hat1, Option.getD_some]
      generalize ns[k.toNat] = v at hat hat1
      by_cases big : (if v < 0 then -v else v) < 1000000000000000000
      · simp [runB, fNext, envOf, evSs, evS, evE, evEs, evT, mbind_ap, mret_ap, bind_ok, varM, idxM, seqOf, lstOf, hs, atI_0, atI_1, atI_2, cmpM, blM, catM, ltM, bltM, lenM, absM, intM, repM, chk, hkl, hat, binM, chk, big, stoM, ixN, List.set_set, List.getElem?_set_self hl, h1, h2, mixI]
      · simp [runB, fNext, envOf, evSs, evS, evE, evEs, evT, mbind_ap, mret_ap, bind_ok, varM, idxM, seqOf, lstOf, hs, atI_0, atI_1, atI_2, cmpM, blM, catM, ltM, bltM, lenM, absM, intM, repM, chk, hkl, hat, binM, chk, big, stoM, ixN, List.set_set, List.getElem?_set_self hl, h1, h2, mixI]
    · simp only [hkl, if_false]
      by_cases big : 7 + k < 1000000000000000000
      · simp [runB, fNext, envOf, evSs, evS, evE, evEs, evT, mbind_ap, mret_ap, bind_ok, varM, idxM, seqOf, lstOf, hs, atI_0, atI_1, atI_2, cmpM, blM, catM, ltM, bltM, lenM, absM, intM, repM, chk, hkl, binM, chk, big, stoM, ixN, List.set_set, List.getElem?_set_self hl, h1, h2, mixI]
      · simp [runB, fNext, envOf, evSs, evS, evE, evEs, evT, mbind_ap, mret_ap, bind_ok, varM, idxM, seqOf, lstOf, hs, atI_0, atI_1, atI_2, cmpM, blM, catM, ltM, bltM, lenM, absM, intM, repM, chk, hkl, binM, chk, big, stoM, ixN, List.set_set, List.getElem?_set_self hl, h1, h2, mixI]
  · simp only [z, if_false]
    simp [runB, fNext, envOf, evSs, evS, evE, evEs, evT, mbind_ap, mret_ap, bind_ok, varM, idxM, seqOf, lstOf, hs, atI_0, atI_1, atI_2, cmpM, blM, z, bltM, intM, binM, chk, h1, h2, stoM, ixN, List.set_set]
theorem args_next {ws : List W} {m : Int} (h : ws.map W.arg = [.s, .v (.int m)]) : ws = [.s, .v (.int m)] := by
  match ws, h with
  | [a, b], h =>
    simp only [List.map_cons, List.map_nil, List.cons.injEq, and_true] at h
    obtain ⟨h1, h2⟩ := h
    cases a <;> simp only [W.arg] at h1 <;> first | (cases h1; done) | skip
    cases b <;> simp only [W.arg] at h2 <;> first | (cases h2; done) | skip
    cases h2; rfl
  | [], h => simp at h
  | [_], h => simp at h
  | _ :: _ :: _ :: _, h => simp at h
/-- the draw of the text's own def, told by the stream -/
theorem next_ag {tab : List Fn'} {f : Nat} (hf : tab[f]? = some fNext) (k : Nat) (ws : List W) (σ : Strm) (S : Sto) (ds : List D) (B0 : Nat) (hB : B0 ≤ S.length) (h1 : 1 ≤ S.length) (s : S[0]? = some (strOb σ)) (r : ResOks 0 S ws ds) :
    Ag S.length (fun S (w : W) d => ResOk B0 S w d ∧ ∀ xs, w ≠ W.b xs) S (nextW (ws.map W.arg) σ) (runF tab (k + 1) f ds S) := by
  unfold nextW
  split
  · rename_i m e
    have := args_next e
    subst this
    have hd : ds = [.ref 0, .int m] := by
      match ds, r with
      | [a, b], r =>
        obtain ⟨q1, q2, _⟩ := r
        have q1 : a = .ref 0 := q1
        have q2 : .int m = b := q2
        rw [q1, q2]
      | [], r => exact r.elim
      | [_], r => exact r.2.elim
      | _ :: _ :: _ :: _, r => exact r.2.2.elim
    subst hd
    by_cases hm : 0 < m ∧ m < 1073741824
    · rw [if_pos hm]
      have e2 : runF tab (k + 1) f [.ref 0, .int m] S = runB (runF tab k) fNext [.ref 0, .int m] S := by simp only [runF, hf]
      rw [e2, next_run s hm.1 hm.2]
      refine ⟨_, _, rfl, ⟨by simp, fun i h0 hi => List.getElem?_set_ne (by omega)⟩, ?_, rfl, by intro xs h; cases h⟩
      rw [List.getElem?_set_self (by omega)]
    · rw [if_neg hm]; trivial
  · trivial
/-- the stream is made: what the law's first statement does -/
def fStream : Fn' := ⟨1, [(.ret (.lst true [(.blt (.list false) [(.var 0)]), (.cst (.int 0)), (.cst (.int 0))]))]⟩
def strm0 (ns : List Int) (h : ns.length ≤ 63) : Strm := ⟨ns, 0, 0, Int.le_refl _, Int.le_refl _, h⟩
theorem line_val : line = 16777216 := rfl
theorem stream_run {tab : List Fn'} {f k : Nat} (hf : tab[f]? = some fStream) (ns : List Int) (h : ns.length ≤ 63) : runF tab (k + 1) f [.fr (ns.map D.int)] [] = .ok (.ref 0) [strOb (strm0 ns h)] := by
  simp only [runF, hf]
  simp [runB, fStream, envOf, evSs, evS, evE, evEs, mbind_ap, mret_ap, bind_ok, varM, bltM, listM, seqOf, lstOf, newU, newL, line_val, strOb, strm0]
/-- a law: its first statement makes the stream, the rest is told without a store -/
theorem law_run {gs : Nat → Option (List W → PM W)} {tab : List Fn'} {f fs k n : Nat} {rest : List S'} (hg : GsOk gs tab) (hf : tab[f]? = some ⟨n + 2, .set 1 (.call fs [.var 0]) :: rest⟩) (hs : tab[fs]? = some fStream) (ns : List Int) (h : ns.length ≤ 63) (σ' : Strm)
    (hr : pvSs (pvF gs tab (k + 1)) rest ([some (.v (.fr (ns.map D.int))), some .s] ++ List.replicate n none) (strm0 ns h) = .ok (.rt (.v (.bl true))) σ') :
    ∃ S', runF tab (k + 2) f [.fr (ns.map D.int)] [] = .ok (.bl true) S' := by
  have e0 : runF tab (k + 2) f [.fr (ns.map D.int)] [] = runB (runF tab (k + 1)) ⟨n + 2, .set 1 (.call fs [.var 0]) :: rest⟩ [.fr (ns.map D.int)] [] := by
    show (match tab[f]? with | some fn => runB (runF tab (k + 1)) fn [.fr (ns.map D.int)] | none => mbad) [] = _
    rw [hf]
  have hS : ([strOb (strm0 ns h)] : Sto)[0]? = some (strOb (strm0 ns h)) := rfl
  have m : Mx 1 ([some (.v (.fr (ns.map D.int))), some .s] ++ List.replicate n none) ([some (.fr (ns.map D.int)), some (.ref 0)] ++ List.replicate n none) [strOb (strm0 ns h)] := by
    have no : ∀ {k : Nat} {w : W}, ([some (W.v (.fr (ns.map D.int))), some .s] ++ List.replicate n none)[k]? = some (some w) → (k = 0 ∧ w = .v (.fr (ns.map D.int))) ∨ (k = 1 ∧ w = .s) := fun {k w} q => by
      match k, q with
      | 0, q => simp at q; exact .inl ⟨rfl, q.symm⟩
      | 1, q => simp at q; exact .inr ⟨rfl, q.symm⟩
      | k + 2, q =>
        simp [List.getElem?_replicate] at q
    refine ⟨by simp, ⟨Nat.le_refl _, Nat.le_refl _⟩, fun k w q => ?_, fun k l xs ys j q _ _ _ => ?_⟩
    · rcases no q with ⟨rfl, rfl⟩ | ⟨rfl, rfl⟩
      · exact ⟨_, rfl, rfl⟩
      · exact ⟨_, rfl, rfl⟩
    · rcases no q with ⟨_, z⟩ | ⟨_, z⟩ <;> cases z
  have ag := simSs (B := 1) (sim_fn hg (k + 1)) rest _ _ _ _ m hS
  rw [hr] at ag
  obtain ⟨fl, S', e1, _, _, rel⟩ := ag
  cases fl <;> first | exact rel.elim | skip
  rename_i d
  have hd : D.bl true = d := rel.1
  subst hd
  refine ⟨S', ?_⟩
  rw [e0]
  show (mbind (evSs (runF tab (k + 1)) (.set 1 (.call fs [.var 0]) :: rest) (envOf (n + 2) [.fr (ns.map D.int)])) _) [] = _
  have e2 : evSs (runF tab (k + 1)) (.set 1 (.call fs [.var 0]) :: rest) (envOf (n + 2) [.fr (ns.map D.int)]) [] = evSs (runF tab (k + 1)) rest ([some (.fr (ns.map D.int)), some (.ref 0)] ++ List.replicate n none) [strOb (strm0 ns h)] := by
    have e3 : evE (runF tab (k + 1)) (.call fs [.var 0]) (envOf (n + 2) [.fr (ns.map D.int)]) [] = .ok (.ref 0) [strOb (strm0 ns h)] := by
      show (mbind (evEs _ [.var 0] _) fun xs => runF tab (k + 1) fs xs) [] = _
      simp only [evEs, evE, mbind_ap, varM, envOf, List.map_cons, List.map_nil, List.cons_append, List.getElem?_cons_zero, bind_ok, mret_ap]
      exact stream_run hs ns h
    show ((mbind (evE (runF tab (k + 1)) (.call fs [.var 0]) (envOf (n + 2) [.fr (ns.map D.int)])) fun x => mret (Fl.nx ((envOf (n + 2) [.fr (ns.map D.int)]).set 1 (some x)))) []).bind _ = _
    simp only [mbind_ap, e3, bind_ok, mret_ap]
    have e4 : (envOf (n + 2) [D.fr (ns.map D.int)]).set 1 (some (.ref 0)) = [some (.fr (ns.map D.int)), some (.ref 0)] ++ List.replicate n none := by
      unfold envOf
      simp [List.replicate_succ]
    rw [e4]
  simp only [mbind_ap, e2, e1, bind_ok, mret_ap]
end Pu

namespace Pu
open PySem PySem.Spec PyProof.Rows L2
/-! ## steps of a run, one for each form -/
section
variable {F : Nat → List W → PM W} {ρ : Env2} {σ σ1 σ2 σ3 σ4 : Strm}
theorem e_var {i : Nat} {d : D} (h : ρ[i]? = some (some (.v d))) : pvE F (.var i) ρ σ = .ok (.v d) σ := by
  show (match ρ[i]? with | some (some (.o xs)) => pret (W.b xs) | some (some w) => pret w | _ => pbad) σ = _
  rw [h]; rfl
theorem e_vo {i : Nat} {xs : List D} (h : ρ[i]? = some (some (.o xs))) : pvE F (.var i) ρ σ = .ok (.b xs) σ := by
  show (match ρ[i]? with | some (some (.o xs)) => pret (W.b xs) | some (some w) => pret w | _ => pbad) σ = _
  rw [h]; rfl
theorem e_vb {i : Nat} {xs : List D} (h : ρ[i]? = some (some (.b xs))) : pvE F (.var i) ρ σ = .ok (.b xs) σ := by
  show (match ρ[i]? with | some (some (.o xs)) => pret (W.b xs) | some (some w) => pret w | _ => pbad) σ = _
  rw [h]; rfl
theorem e_vs {i : Nat} (h : ρ[i]? = some (some .s)) : pvE F (.var i) ρ σ = .ok .s σ := by
  show (match ρ[i]? with | some (some (.o xs)) => pret (W.b xs) | some (some w) => pret w | _ => pbad) σ = _
  rw [h]; rfl
theorem e_cst {d : D} : pvE F (.cst d) ρ σ = .ok (.v d) σ := rfl
theorem e_bin {op : Operator} {a b : X'} {x y w : W} (h1 : pvE F a ρ σ = .ok x σ1) (h2 : pvE F b ρ σ1 = .ok y σ2) (h3 : rd2 (binM op) x y σ2 = .ok w σ3) : pvE F (.bin op a b) ρ σ = .ok w σ3 := by
  show ((pvE F a ρ σ).bind fun x => pbind (pvE F b ρ) fun y => rd2 (binM op) x y) = _
  rw [h1]; show ((pvE F b ρ σ1).bind fun y => rd2 (binM op) x y) = _
  rw [h2]; exact h3
theorem e_cmp {op : CmpOp} {a b : X'} {x y w : W} (h1 : pvE F a ρ σ = .ok x σ1) (h2 : pvE F b ρ σ1 = .ok y σ2) (h3 : rd2 (cmpM op) x y σ2 = .ok w σ3) : pvE F (.cmp op a b) ρ σ = .ok w σ3 := by
  show ((pvE F a ρ σ).bind fun x => pbind (pvE F b ρ) fun y => rd2 (cmpM op) x y) = _
  rw [h1]; show ((pvE F b ρ σ1).bind fun y => rd2 (cmpM op) x y) = _
  rw [h2]; exact h3
theorem e_cat {own : Bool} {a b : X'} {x y w : W} (h1 : pvE F a ρ σ = .ok x σ1) (h2 : pvE F b ρ σ1 = .ok y σ2) (h3 : rd2 (catM own) x y σ2 = .ok w σ3) : pvE F (.cat own a b) ρ σ = .ok w σ3 := by
  show ((pvE F a ρ σ).bind fun x => pbind (pvE F b ρ) fun y => rd2 (catM own) x y) = _
  rw [h1]; show ((pvE F b ρ σ1).bind fun y => rd2 (catM own) x y) = _
  rw [h2]; exact h3
theorem e_rep {own : Bool} {a b : X'} {x y w : W} (h1 : pvE F a ρ σ = .ok x σ1) (h2 : pvE F b ρ σ1 = .ok y σ2) (h3 : rd2 (repM own) x y σ2 = .ok w σ3) : pvE F (.rep own a b) ρ σ = .ok w σ3 := by
  show ((pvE F a ρ σ).bind fun x => pbind (pvE F b ρ) fun y => rd2 (repM own) x y) = _
  rw [h1]; show ((pvE F b ρ σ1).bind fun y => rd2 (repM own) x y) = _
  rw [h2]; exact h3
theorem e_idx {a b : X'} {x y w : W} (h1 : pvE F a ρ σ = .ok x σ1) (h2 : pvE F b ρ σ1 = .ok y σ2) (h3 : rd2 idxM x y σ2 = .ok w σ3) : pvE F (.idx a b) ρ σ = .ok w σ3 := by
  show ((pvE F a ρ σ).bind fun x => pbind (pvE F b ρ) fun y => rd2 idxM x y) = _
  rw [h1]; show ((pvE F b ρ σ1).bind fun y => rd2 idxM x y) = _
  rw [h2]; exact h3
theorem e_rgl {t own : Bool} {a b : X'} {x y w : W} (h1 : pvE F a ρ σ = .ok x σ1) (h2 : pvE F b ρ σ1 = .ok y σ2) (h3 : rd2 (rglM t own) x y σ2 = .ok w σ3) : pvE F (.rgl t own a b) ρ σ = .ok w σ3 := by
  show ((pvE F a ρ σ).bind fun x => pbind (pvE F b ρ) fun y => rd2 (rglM t own) x y) = _
  rw [h1]; show ((pvE F b ρ σ1).bind fun y => rd2 (rglM t own) x y) = _
  rw [h2]; exact h3
theorem e_neg {a : X'} {x w : W} (h1 : pvE F a ρ σ = .ok x σ1) (h3 : rd1 negM x σ1 = .ok w σ2) : pvE F (.neg a) ρ σ = .ok w σ2 := by
  show ((pvE F a ρ σ).bind fun x => rd1 negM x) = _
  rw [h1]; exact h3
theorem e_rev {own : Bool} {a : X'} {x w : W} (h1 : pvE F a ρ σ = .ok x σ1) (h3 : rd1 (revM own) x σ1 = .ok w σ2) : pvE F (.rev own a) ρ σ = .ok w σ2 := by
  show ((pvE F a ρ σ).bind (rd1 (revM own))) = _
  rw [h1]; exact h3
theorem e_trng {a : X'} {x w : W} (h1 : pvE F a ρ σ = .ok x σ1) (h3 : rd1 trngM x σ1 = .ok w σ2) : pvE F (.trng a) ρ σ = .ok w σ2 := by
  show ((pvE F a ρ σ).bind (rd1 trngM)) = _
  rw [h1]; exact h3
theorem e_lrng {own : Bool} {a : X'} {n : Nat} (h1 : pvE F a ρ σ = .ok (.v (.int n)) σ1) (hn : n ≤ 16777216) : pvE F (.lrng own a) ρ σ = .ok (if own then .o ((List.range n).map fun (k : Nat) => D.int (k : Int)) else .v (.fz ((List.range n).map fun (k : Nat) => D.int (k : Int)))) σ1 := by
  show ((pvE F a ρ σ).bind (rd1 fun x => match x with | .int j => chk (-4611686018427387904 ≤ j) (newL own ((List.range j.toNat).map fun (k : Nat) => D.int (k : Int))) | _ => mbad)) = _
  rw [h1]
  show lift (chk (-4611686018427387904 ≤ (n : Int)) (newL own ((List.range ((n : Int)).toNat).map fun (k : Nat) => D.int (k : Int)))) σ1 = _
  rw [chk_pos (by omega), Int.toNat_natCast]
  have hl : ((List.range n).map fun (k : Nat) => D.int (k : Int)).length ≤ line := by simpa [line_val] using hn
  unfold lift newL
  rw [if_pos hl]
  cases own <;> rfl
theorem e_slc {own : Bool} {a : X'} {lo hi : P'} {x w : W} {l h : Option Int} (h1 : pvE F a ρ σ = .ok x σ1) (h2 : pvP F lo ρ σ1 = .ok l σ2) (h3 : pvP F hi ρ σ2 = .ok h σ3) (h4 : rd1 (fun d => slcP own d l h) x σ3 = .ok w σ4) : pvE F (.slc own a lo hi) ρ σ = .ok w σ4 := by
  show ((pvE F a ρ σ).bind fun x => pbind (pvP F lo ρ) fun l => pbind (pvP F hi ρ) fun h => rd1 (fun d => slcP own d l h) x) = _
  rw [h1]; show ((pvP F lo ρ σ1).bind fun l => pbind (pvP F hi ρ) fun h => rd1 (fun d => slcP own d l h) x) = _
  rw [h2]; show ((pvP F hi ρ σ2).bind fun h => rd1 (fun d => slcP own d l h) x) = _
  rw [h3]; exact h4
theorem p_no : pvP F .no ρ σ = .ok none σ := rfl
theorem p_ex {e : X'} {i : Int} (h : pvE F e ρ σ = .ok (.v (.int i)) σ1) : pvP F (.ex e) ρ σ = .ok (some i) σ1 := by
  show ((pvE F e ρ σ).bind intW) = _
  rw [h]; rfl
theorem e_chn {o1 o2 : CmpOp} {a b c : X'} {x y z : W} {p q : Bool} (h1 : pvE F a ρ σ = .ok x σ) (h2 : pvE F b ρ σ = .ok y σ) (h3 : pvE F c ρ σ = .ok z σ) (h4 : rd2 (cmpM o1) x y σ = .ok (.v (.bl p)) σ) (h5 : rd2 (cmpM o2) y z σ = .ok (.v (.bl q)) σ) : pvE F (.chn o1 o2 a b c) ρ σ = .ok (.v (.bl (p && q))) σ := by
  show ((pvE F a ρ σ).bind fun x => pbind (pvE F b ρ) fun y => pbind (rd2 (cmpM o1) x y) fun k => pbind (blW k) fun t => if t then pbind (pvE F c ρ) fun z => rd2 (cmpM o2) y z else pret (.v (.bl false))) = _
  rw [h1]; show ((pvE F b ρ σ).bind fun y => pbind (rd2 (cmpM o1) x y) fun k => pbind (blW k) fun t => if t then pbind (pvE F c ρ) fun z => rd2 (cmpM o2) y z else pret (.v (.bl false))) = _
  rw [h2]; show ((rd2 (cmpM o1) x y σ).bind fun k => pbind (blW k) fun t => if t then pbind (pvE F c ρ) fun z => rd2 (cmpM o2) y z else pret (.v (.bl false))) = _
  rw [h4]
  cases p with
  | false => rfl
  | true =>
    show ((pvE F c ρ σ).bind fun z => rd2 (cmpM o2) y z) = _
    rw [h3]; exact h5
theorem e_and {a b : X'} {p q : Bool} (h1 : pvE F a ρ σ = .ok (.v (.bl p)) σ) (h2 : p = true → pvE F b ρ σ = .ok (.v (.bl q)) σ) : pvE F (.and a b) ρ σ = .ok (.v (.bl (p && q))) σ := by
  show ((pvE F a ρ σ).bind fun x => pbind (blW x) fun t => if t then pvE F b ρ else pret (.v (.bl false))) = _
  rw [h1]
  cases p with
  | false => rfl
  | true => exact h2 rfl
theorem e_or {a b : X'} {p q : Bool} (h1 : pvE F a ρ σ = .ok (.v (.bl p)) σ) (h2 : p = false → pvE F b ρ σ = .ok (.v (.bl q)) σ) : pvE F (.or a b) ρ σ = .ok (.v (.bl (p || q))) σ := by
  show ((pvE F a ρ σ).bind fun x => pbind (blW x) fun t => if t then pret (.v (.bl true)) else pvE F b ρ) = _
  rw [h1]
  cases p with
  | true => rfl
  | false => exact h2 rfl
theorem e_not {a : X'} {p : Bool} (h1 : pvE F a ρ σ = .ok (.v (.bl p)) σ1) : pvE F (.not a) ρ σ = .ok (.v (.bl (!p))) σ1 := by
  show ((pvE F a ρ σ).bind fun x => pbind (blW x) fun t => pret (W.v (.bl (!t)))) = _
  rw [h1]; rfl
theorem e_ife {t : T'} {a b : X'} {p : Bool} {x y : D} (h1 : pvT F t ρ σ = .ok p σ) (h2 : p = true → pvE F a ρ σ = .ok (.v x) σ) (h3 : p = false → pvE F b ρ σ = .ok (.v y) σ) : pvE F (.ife t a b) ρ σ = .ok (.v (if p then x else y)) σ := by
  show ((pvT F t ρ σ).bind fun k => if k then pvE F a ρ else pvE F b ρ) = _
  rw [h1]
  cases p with
  | true => exact h2 rfl
  | false => exact h3 rfl
theorem es_nil : pvEs F [] ρ σ = .ok [] σ := rfl
theorem es_cons {e : X'} {es : List X'} {w : W} {ws : List W} (h1 : pvE F e ρ σ = .ok w σ1) (h2 : pvEs F es ρ σ1 = .ok ws σ2) : pvEs F (e :: es) ρ σ = .ok (w :: ws) σ2 := by
  show ((pvE F e ρ σ).bind fun x => pbind (pvEs F es ρ) fun xs => pret (x :: xs)) = _
  rw [h1]; show ((pvEs F es ρ σ1).bind fun xs => pret (w :: xs)) = _
  rw [h2]; rfl
theorem e_tup {es : List X'} {ws : List W} {w : W} (h1 : pvEs F es ρ σ = .ok ws σ1) (h2 : vals newT ws σ1 = .ok w σ2) : pvE F (.tup es) ρ σ = .ok w σ2 := by
  show ((pvEs F es ρ σ).bind (vals newT)) = _
  rw [h1]; exact h2
theorem e_lst {own : Bool} {es : List X'} {ws : List W} {w : W} (h1 : pvEs F es ρ σ = .ok ws σ1) (h2 : vals (newL own) ws σ1 = .ok w σ2) : pvE F (.lst own es) ρ σ = .ok w σ2 := by
  show ((pvEs F es ρ σ).bind (vals (newL own))) = _
  rw [h1]; exact h2
theorem e_call {f : Nat} {es : List X'} {ws : List W} {w : W} (h1 : pvEs F es ρ σ = .ok ws σ1) (h2 : F f (ws.map W.arg) σ1 = .ok w σ2) : pvE F (.call f es) ρ σ = .ok w σ2 := by
  show ((pvEs F es ρ σ).bind fun xs => F f (xs.map W.arg)) = _
  rw [h1]; exact h2
theorem e_blt {b : Bi} {es : List X'} {ws : List W} {w : W} (h1 : pvEs F es ρ σ = .ok ws σ1) (h2 : rds (bltM b) ws σ1 = .ok w σ2) : pvE F (.blt b es) ρ σ = .ok w σ2 := by
  show ((pvEs F es ρ σ).bind (rds (bltM b))) = _
  rw [h1]; exact h2
theorem e_isi {a : X'} {t : Ty} {x w : W} (h1 : pvE F a ρ σ = .ok x σ1) (h2 : isiW t x σ1 = .ok w σ2) : pvE F (.isi a t) ρ σ = .ok w σ2 := by
  show ((pvE F a ρ σ).bind (isiW t)) = _
  rw [h1]; exact h2
theorem e_lc {own : Bool} {elt : X'} {tg : Tg} {it : I'} {ifs : List T'} {ws : List Nat} {items ys : List D} (h1 : pvI F it ρ σ = .ok items σ1) (h2 : pvLc (pvE F elt) (pvTs F ifs) tg (wipeW ρ ws) items σ1 = .ok ys σ2) : pvE F (.lc own elt tg it ifs ws) ρ σ = .ok (if own then .o ys else .v (.fz ys)) σ2 := by
  show ((pvI F it ρ σ).bind fun items => pbind (pnox (pvLc (pvE F elt) (pvTs F ifs) tg (wipeW ρ ws) items)) fun ys => pret (if own then W.o ys else W.v (.fz ys))) = _
  rw [h1]; show ((pnox (pvLc (pvE F elt) (pvTs F ifs) tg (wipeW ρ ws) items) σ1).bind fun ys => pret (if own then W.o ys else W.v (.fz ys))) = _
  unfold pnox
  rw [h2]; rfl
theorem e_lcF {elt : X'} {tg : Tg} {it : I'} {ifs : List T'} {ws : List Nat} {items ys : List D} (h1 : pvI F it ρ σ = .ok items σ1) (h2 : pvLc (pvE F elt) (pvTs F ifs) tg (wipeW ρ ws) items σ1 = .ok ys σ2) : pvE F (.lc false elt tg it ifs ws) ρ σ = .ok (.v (.fz ys)) σ2 := e_lc h1 h2
theorem e_lcT {elt : X'} {tg : Tg} {it : I'} {ifs : List T'} {ws : List Nat} {items ys : List D} (h1 : pvI F it ρ σ = .ok items σ1) (h2 : pvLc (pvE F elt) (pvTs F ifs) tg (wipeW ρ ws) items σ1 = .ok ys σ2) : pvE F (.lc true elt tg it ifs ws) ρ σ = .ok (.o ys) σ2 := e_lc h1 h2
theorem e_lc2F {elt : X'} {tg tg1 : Tg} {it it1 : I'} {ifs ifs1 : List T'} {ws ws1 : List Nat} {items ys : List D} (h1 : pvI F it ρ σ = .ok items σ1) (h2 : pvLc2 (pvE F elt) (pvTs F ifs) tg (wipeW ρ ws) (pvI F it1) (pvTs F ifs1) tg1 ws1 items σ1 = .ok ys σ2) (h3 : ys.length ≤ line) : pvE F (.lc2 false elt tg it ifs tg1 it1 ifs1 ws ws1) ρ σ = .ok (.v (.fz ys)) σ2 := by
  show ((pvI F it ρ σ).bind fun items => pbind (pnox (pvLc2 (pvE F elt) (pvTs F ifs) tg (wipeW ρ ws) (pvI F it1) (pvTs F ifs1) tg1 ws1 items)) fun ys => if ys.length ≤ line then pret (if false then W.o ys else .v (.fz ys)) else pbad) = _
  rw [h1]; show ((pnox (pvLc2 (pvE F elt) (pvTs F ifs) tg (wipeW ρ ws) (pvI F it1) (pvTs F ifs1) tg1 ws1 items) σ1).bind fun ys => if ys.length ≤ line then pret (if false then W.o ys else .v (.fz ys)) else pbad) = _
  unfold pnox
  rw [h2]
  show (if ys.length ≤ line then pret (if false then W.o ys else .v (.fz ys)) else pbad) σ2 = _
  rw [if_pos h3]; rfl
theorem t_and {a b : T'} {p q : Bool} (h1 : pvT F a ρ σ = .ok p σ) (h2 : p = true → pvT F b ρ σ = .ok q σ) : pvT F (.and a b) ρ σ = .ok (p && q) σ := by
  show ((pvT F a ρ σ).bind fun t => if t then pvT F b ρ else pret false) = _
  rw [h1]
  cases p with
  | false => rfl
  | true => exact h2 rfl
theorem t_or {a b : T'} {p q : Bool} (h1 : pvT F a ρ σ = .ok p σ) (h2 : p = false → pvT F b ρ σ = .ok q σ) : pvT F (.or a b) ρ σ = .ok (p || q) σ := by
  show ((pvT F a ρ σ).bind fun t => if t then pret true else pvT F b ρ) = _
  rw [h1]
  cases p with
  | true => rfl
  | false => exact h2 rfl
theorem t_not {a : T'} {p : Bool} (h1 : pvT F a ρ σ = .ok p σ1) : pvT F (.not a) ρ σ = .ok (!p) σ1 := by
  show ((pvT F a ρ σ).bind fun t => pret (!t)) = _
  rw [h1]; rfl
theorem t_bv {e : X'} {p : Bool} (h1 : pvE F e ρ σ = .ok (.v (.bl p)) σ1) : pvT F (.bv e) ρ σ = .ok p σ1 := by
  show ((pvE F e ρ σ).bind blW) = _
  rw [h1]; rfl
theorem t_val {e : X'} {x : W} {p : Bool} (h1 : pvE F e ρ σ = .ok x σ1) (h2 : truW x σ1 = .ok p σ2) : pvT F (.val e) ρ σ = .ok p σ2 := by
  show ((pvE F e ρ σ).bind truW) = _
  rw [h1]; exact h2
theorem ts_nil : pvTs F [] ρ σ = .ok true σ := rfl
theorem ts_one {t : T'} {p : Bool} (h1 : pvT F t ρ σ = .ok p σ1) : pvTs F [t] ρ σ = .ok p σ1 := by
  show ((pvT F t ρ σ).bind fun t => if t then pret true else pret false) = _
  rw [h1]; cases p <;> rfl
theorem i_seq {e : X'} {x : W} {d : D} {xs : List D} (h1 : pvE F e ρ σ = .ok x σ1) (h2 : x.rd = some d) (h3 : seqOf d [] = some xs) : pvI F (.seq e) ρ σ = .ok xs σ1 := by
  show ((pvE F e ρ σ).bind fun x => match x.rd with | some d => ofOW (seqOf d []) | none => pbad) = _
  rw [h1]
  show (match x.rd with | some d => ofOW (seqOf d []) | none => pbad) σ1 = _
  rw [h2]; show ofOW (seqOf d []) σ1 = _
  rw [h3]; rfl
theorem i_zip {a b : X'} {x y : W} {d e : D} {xs : List D} (h1 : pvE F a ρ σ = .ok x σ1) (h2 : pvE F b ρ σ1 = .ok y σ2) (h3 : x.rd = some d) (h4 : y.rd = some e) (h5 : zipD d e = some xs) : pvI F (.zip a b) ρ σ = .ok xs σ2 := by
  have : pvI F (.zip a b) ρ = pbind (pvE F a ρ) fun x => pbind (pvE F b ρ) fun y => match x.rd, y.rd with | some d, some e => ofOW (zipD d e) | _, _ => pbad := rfl
  rw [this, pbind_ap, h1, pok, pbind_ap, h2, pok, h3, h4]
  show ofOW (zipD d e) σ2 = _
  rw [h5]; rfl
theorem i_enm {a : X'} {x : W} {d : D} {xs : List D} (h1 : pvE F a ρ σ = .ok x σ1) (h3 : x.rd = some d) (h5 : enmD d = some xs) : pvI F (.enm a) ρ σ = .ok xs σ1 := by
  have : pvI F (.enm a) ρ = pbind (pvE F a ρ) fun x => match x.rd with | some d => ofOW (enmD d) | none => pbad := rfl
  rw [this, pbind_ap, h1, pok, h3]
  show ofOW (enmD d) σ1 = _
  rw [h5]; rfl
theorem i_rng {a : X'} {n : Nat} (h1 : pvE F a ρ σ = .ok (.v (.int n)) σ1) (hn : n ≤ 16777216) : pvI F (.rng a) ρ σ = .ok ((List.range n).map fun (k : Nat) => D.int (0 + (k : Int))) σ1 := by
  show ((pvE F a ρ σ).bind fun x => match x with | .v (.int j) => chkP (-4611686018427387904 ≤ j ∧ j ≤ 16777216) (pret ((List.range j.toNat).map fun (k : Nat) => D.int (0 + (k : Int)))) | _ => pbad) = _
  rw [h1]
  show chkP (-4611686018427387904 ≤ (n : Int) ∧ (n : Int) ≤ 16777216) (pret ((List.range ((n : Int)).toNat).map fun (k : Nat) => D.int (0 + (k : Int)))) σ1 = _
  rw [chkP_pos ⟨by omega, by omega⟩, Int.toNat_natCast]; rfl
theorem i_rngI {a : X'} {n : Int} (h1 : pvE F a ρ σ = .ok (.v (.int n)) σ1) (hn : -1000000 ≤ n ∧ n ≤ 16777216) : pvI F (.rng a) ρ σ = .ok ((List.range n.toNat).map fun (k : Nat) => D.int (0 + (k : Int))) σ1 := by
  show ((pvE F a ρ σ).bind fun x => match x with | .v (.int j) => chkP (-4611686018427387904 ≤ j ∧ j ≤ 16777216) (pret ((List.range j.toNat).map fun (k : Nat) => D.int (0 + (k : Int)))) | _ => pbad) = _
  rw [h1]
  show chkP (-4611686018427387904 ≤ n ∧ n ≤ 16777216) (pret ((List.range n.toNat).map fun (k : Nat) => D.int (0 + (k : Int)))) σ1 = _
  rw [chkP_pos ⟨by omega, by omega⟩]; rfl
theorem i_rng2 {a b : X'} {i j : Int} (h1 : pvE F a ρ σ = .ok (.v (.int i)) σ1) (h2 : pvE F b ρ σ1 = .ok (.v (.int j)) σ2) (hn : -1000000 ≤ i ∧ i ≤ 1000000 ∧ -1000000 ≤ j ∧ j ≤ 1000000) : pvI F (.rng2 a b) ρ σ = .ok ((List.range (j - i).toNat).map fun (k : Nat) => D.int (i + (k : Int))) σ2 := by
  show ((pvE F a ρ σ).bind fun x => pbind (pvE F b ρ) fun y => match x, y with | .v (.int i), .v (.int j) => chkP (-4611686018427387904 ≤ i ∧ i < 4611686018427387904 ∧ -4611686018427387904 ≤ j ∧ j < 4611686018427387904 ∧ j - i ≤ 16777216) (pret ((List.range (j - i).toNat).map fun (k : Nat) => D.int (i + (k : Int)))) | _, _ => pbad) = _
  rw [h1]
  show ((pvE F b ρ σ1).bind fun y => match W.v (.int i), y with | .v (.int i), .v (.int j) => chkP (-4611686018427387904 ≤ i ∧ i < 4611686018427387904 ∧ -4611686018427387904 ≤ j ∧ j < 4611686018427387904 ∧ j - i ≤ 16777216) (pret ((List.range (j - i).toNat).map fun (k : Nat) => D.int (i + (k : Int)))) | _, _ => pbad) = _
  rw [h2]
  show chkP (-4611686018427387904 ≤ i ∧ i < 4611686018427387904 ∧ -4611686018427387904 ≤ j ∧ j < 4611686018427387904 ∧ j - i ≤ 16777216) (pret ((List.range (j - i).toNat).map fun (k : Nat) => D.int (i + (k : Int)))) σ2 = _
  rw [chkP_pos ⟨by omega, by omega, by omega, by omega, by omega⟩]; rfl
/-! ## comprehensions that change nothing -/
theorem lc_pure {α : Type} {elt : Env2 → PM W} {ifs : Env2 → PM Bool} {tg : Tg} {e : α → D} {p : α → Bool} {f : α → D} : ∀ {xs : List α},
    (∀ x ∈ xs, ∃ ρ', tgSetW tg (e x) ρ = some ρ' ∧ ifs ρ' σ = .ok (p x) σ ∧ (p x = true → elt ρ' σ = .ok (.v (f x)) σ)) → pvLc elt ifs tg ρ (xs.map e) σ = .ok ((xs.filter p).map f) σ
  | [], _ => rfl
  | x :: xs, h => by
    obtain ⟨ρ', h1, h2, h3⟩ := h x List.mem_cons_self
    have ih := lc_pure (elt := elt) (ifs := ifs) (tg := tg) (xs := xs) fun y hy => h y (List.mem_cons_of_mem _ hy)
    show (match tgSetW tg (e x) ρ with
      | none => pbad
      | some ρ' => pbind (ifs ρ') fun b => if b then pbind (elt ρ') fun y => match y.val with
          | some y => pbind (pvLc elt ifs tg ρ (xs.map e)) fun ys => pret (y :: ys)
          | none => pbad
        else pvLc elt ifs tg ρ (xs.map e)) σ = _
    rw [h1]
    show ((ifs ρ' σ).bind fun b => if b then pbind (elt ρ') fun y => match y.val with
          | some y => pbind (pvLc elt ifs tg ρ (xs.map e)) fun ys => pret (y :: ys)
          | none => pbad
        else pvLc elt ifs tg ρ (xs.map e)) = _
    rw [h2]
    cases hp : p x with
    | false =>
      rw [List.filter_cons_of_neg (by simp [hp])]
      exact ih
    | true =>
      rw [List.filter_cons_of_pos hp]
      show ((elt ρ' σ).bind fun y => match y.val with
          | some y => pbind (pvLc elt ifs tg ρ (xs.map e)) fun ys => pret (y :: ys)
          | none => pbad) = _
      rw [h3 hp]
      show ((pvLc elt ifs tg ρ (xs.map e) σ).bind fun ys => pret (f x :: ys)) = _
      rw [ih]; rfl
theorem lc_pure0 {α : Type} {elt : Env2 → PM W} {tg : Tg} {e : α → D} {f : α → D} {xs : List α} (h : ∀ x ∈ xs, ∃ ρ', tgSetW tg (e x) ρ = some ρ' ∧ elt ρ' σ = .ok (.v (f x)) σ) : pvLc elt (pvTs F []) tg ρ (xs.map e) σ = .ok (xs.map f) σ := by
  have := lc_pure (elt := elt) (ifs := pvTs F []) (tg := tg) (ρ := ρ) (σ := σ) (e := e) (p := fun _ => true) (f := f) (xs := xs) fun x hx => by
    obtain ⟨ρ', h1, h2⟩ := h x hx
    exact ⟨ρ', h1, rfl, fun _ => h2⟩
  rw [this]
  congr 2
  exact List.filter_eq_self.mpr fun _ _ => rfl
theorem lc2_pure {α β : Type} {elt : Env2 → PM W} {ifs1 : Env2 → PM Bool} {tg tg1 : Tg} {it1 : Env2 → PM (List D)} {ws1 : List Nat} {e : α → D} {g : α → List β} {e1 : α → β → D} {p : α → β → Bool} {f : α → β → D} : ∀ {xs : List α},
    (∀ x ∈ xs, ∃ ρ', tgSetW tg (e x) ρ = some ρ' ∧ it1 ρ' σ = .ok ((g x).map (e1 x)) σ ∧ ∀ y ∈ g x, ∃ ρ'', tgSetW tg1 (e1 x y) (wipeW ρ' ws1) = some ρ'' ∧ ifs1 ρ'' σ = .ok (p x y) σ ∧ (p x y = true → elt ρ'' σ = .ok (.v (f x y)) σ)) →
      pvLc2 elt (pvTs F []) tg ρ it1 ifs1 tg1 ws1 (xs.map e) σ = .ok (xs.flatMap fun x => ((g x).filter (p x)).map (f x)) σ
  | [], _ => rfl
  | x :: xs, h => by
    obtain ⟨ρ', h1, h2, h3⟩ := h x List.mem_cons_self
    have ih := lc2_pure (elt := elt) (ifs1 := ifs1) (tg := tg) (tg1 := tg1) (it1 := it1) (ws1 := ws1) (xs := xs) fun y hy => h y (List.mem_cons_of_mem _ hy)
    show (match tgSetW tg (e x) ρ with
      | none => pbad
      | some ρ' => pbind (pvTs F [] ρ') fun b => if b then pbind (it1 ρ') fun items => pbind (pvLc elt ifs1 tg1 (wipeW ρ' ws1) items) fun ys => pbind (pvLc2 elt (pvTs F []) tg ρ it1 ifs1 tg1 ws1 (xs.map e)) fun zs => pret (ys ++ zs)
        else pvLc2 elt (pvTs F []) tg ρ it1 ifs1 tg1 ws1 (xs.map e)) σ = _
    rw [h1]
    show ((it1 ρ' σ).bind fun items => pbind (pvLc elt ifs1 tg1 (wipeW ρ' ws1) items) fun ys => pbind (pvLc2 elt (pvTs F []) tg ρ it1 ifs1 tg1 ws1 (xs.map e)) fun zs => pret (ys ++ zs)) = _
    rw [h2]
    show ((pvLc elt ifs1 tg1 (wipeW ρ' ws1) ((g x).map (e1 x)) σ).bind fun ys => pbind (pvLc2 elt (pvTs F []) tg ρ it1 ifs1 tg1 ws1 (xs.map e)) fun zs => pret (ys ++ zs)) = _
    rw [lc_pure h3]
    show ((pvLc2 elt (pvTs F []) tg ρ it1 ifs1 tg1 ws1 (xs.map e) σ).bind fun zs => pret (((g x).filter (p x)).map (f x) ++ zs)) = _
    rw [ih]; rfl
/-! ## statements -/
theorem b_run {fn : Fn'} {ws : List W} {w : W} (h : pvSs F fn.body (envW fn.slots ws) σ = .ok (.rt w) σ1) : pvB F fn ws σ = .ok w σ1 := by
  show ((pvSs F fn.body (envW fn.slots ws) σ).bind fun fl => match fl with | .nx _ => pret (.v .non) | .rt w => pret w | _ => pbad) = _
  rw [h]; rfl
theorem b_end {fn : Fn'} {ws : List W} {ρ' : Env2} (h : pvSs F fn.body (envW fn.slots ws) σ = .ok (.nx ρ') σ1) : pvB F fn ws σ = .ok (.v .non) σ1 := by
  show ((pvSs F fn.body (envW fn.slots ws) σ).bind fun fl => match fl with | .nx _ => pret (.v .non) | .rt w => pret w | _ => pbad) = _
  rw [h]; rfl
theorem ss_nil : pvSs F [] ρ σ = .ok (.nx ρ) σ := rfl
theorem ss_nx {st : S'} {r : List S'} {ρ' : Env2} {x : PR Fl2} (h1 : pvS F st ρ σ = .ok (.nx ρ') σ1) (h2 : pvSs F r ρ' σ1 = x) : pvSs F (st :: r) ρ σ = x := by
  show ((pvS F st ρ σ).bind fun fl => match fl with | .nx ρ' => pvSs F r ρ' | f => pret f) = _
  rw [h1]; exact h2
theorem ss_rt {st : S'} {r : List S'} {w : W} (h1 : pvS F st ρ σ = .ok (.rt w) σ1) : pvSs F (st :: r) ρ σ = .ok (.rt w) σ1 := by
  show ((pvS F st ρ σ).bind fun fl => match fl with | .nx ρ' => pvSs F r ρ' | f => pret f) = _
  rw [h1]; rfl
def nbW : W → Bool
  | .b _ => false
  | _ => true
def noPop : X' → Bool
  | .mth _ _ _ => false
  | _ => true
def noVar : X' → Bool
  | .var _ => false
  | _ => true
theorem s_set {i : Nat} {e : X'} {w : W} (hp : noPop e = true) (h1 : pvE F e ρ σ = .ok w σ1) (hw : nbW w = true) : pvS F (.set i e) ρ σ = .ok (.nx (ρ.set i (some w))) σ1 := by
  have : pvS F (.set i e) ρ σ = (pbind (pvE F e ρ) fun w => match w with | .b _ => pbad | w => pret (.nx (ρ.set i (some w)))) σ := by
    cases e <;> first | rfl | (simp [noPop] at hp) | skip
    rename_i j
    show movW ρ i j (pbind (pvE F (.var j) ρ) fun w => match w with | .b _ => pbad | w => pret (.nx (ρ.set i (some w)))) σ = _
    by_cases hx : ∃ xs, ρ[j]? = some (some (.o xs))
    · obtain ⟨xs, hx⟩ := hx
      rw [e_vo hx] at h1
      cases h1
      simp [nbW] at hw
    · rw [movW_other hx]
  rw [this, pbind_ap, h1, pok]
  cases w <;> first | rfl | (simp [nbW] at hw)
/-- the body's own list goes from one slot to another -/
theorem s_mov {i j : Nat} {xs : List D} (hj : ρ[j]? = some (some (.o xs))) (hij : i ≠ j) : pvS F (.set i (.var j)) ρ σ = .ok (.nx ((ρ.set j none).set i (some (.o xs)))) σ := by
  show movW ρ i j _ σ = _
  rw [movW_own hj hij]; rfl
theorem s_asg {t : Tg} {e : X'} {d : D} {ρ' : Env2} (hp : noPop e = true) (h1 : pvE F e ρ σ = .ok (.v d) σ1) (h2 : tgSetW t d ρ = some ρ') : pvS F (.asg t e) ρ σ = .ok (.nx ρ') σ1 := by
  have : pvS F (.asg t e) ρ = pbind (pvE F e ρ) fun w => match w.val with | some d => (match tgSetW t d ρ with | some ρ' => pret (.nx ρ') | none => pbad) | none => pbad := by
    cases e <;> first | rfl | (simp [noPop] at hp)
  rw [this, pbind_ap, h1, pok]
  show (match tgSetW t d ρ with | some ρ' => pret (Fl2.nx ρ') | none => pbad) σ1 = _
  rw [h2]; rfl
theorem s_expr {e : X'} {w : W} (hp : noPop e = true) (h1 : pvE F e ρ σ = .ok w σ1) : pvS F (.expr e) ρ σ = .ok (.nx ρ) σ1 := by
  have : pvS F (.expr e) ρ = pbind (pvE F e ρ) fun _ => pret (.nx ρ) := by
    cases e <;> first | rfl | (simp [noPop] at hp)
  rw [this, pbind_ap, h1]; rfl
theorem s_app {j : Nat} {e : X'} {xs : List D} {d : D} (hj : ρ[j]? = some (some (.o xs))) (h1 : pvE F e ρ σ = .ok (.v d) σ1) (hl : xs.length < line) (hp : noPop e = true := by rfl) : pvS F (.expr (.mth .append (.var j) [e])) ρ σ = .ok (.nx (ρ.set j (some (.o (xs ++ [d]))))) σ1 := by
  have e0 : pvS F (.expr (.mth .append (.var j) [e])) ρ = mthW ρ j (pbind (pvE F e ρ) fun x => match ρ[j]?, x.val with
      | some (some (.o xs)), some d => if xs.length < line then pret (Fl2.nx (ρ.set j (some (.o (xs ++ [d]))))) else pbad
      | _, _ => pbad) := by
    cases e <;> first | rfl | (simp [noPop] at hp)
  rw [e0]
  unfold mthW
  rw [hj]
  show ((pvE F e ρ σ).bind _) = _
  rw [h1]
  show (if xs.length < line then pret (Fl2.nx (ρ.set j (some (.o (xs ++ [d]))))) else pbad) σ1 = _
  rw [if_pos hl]; rfl
/-- what is taken out of one own list goes to the end of another -/
theorem s_appPop {i j : Nat} {k : X'} {xs ys : List D} {n : Nat} {d : D} (hj : ρ[j]? = some (some (.o ys))) (hi : ρ[i]? = some (some (.o xs))) (hij : i ≠ j) (h1 : pvE F k ρ σ = .ok (.v (.int n)) σ1) (hn : n < xs.length) (hd : xs[n]? = some d) (hl : ys.length < line) :
    pvS F (.expr (.mth .append (.var j) [.mth .popAt (.var i) [k]])) ρ σ = .ok (.nx ((ρ.set i (some (.o (xs.eraseIdx n)))).set j (some (.o (ys ++ [d]))))) σ1 := by
  show mthW ρ j (mthW ρ i (pbind (pvE F k ρ) fun k => pbind (popW ρ i k) fun p => pushW p.2 i j p.1)) σ = _
  rw [mthW_own hj, mthW_own hi]
  show ((pvE F k ρ σ).bind fun k => pbind (popW ρ i k) fun p => pushW p.2 i j p.1) = _
  rw [h1]
  show (pbind (popW ρ i (.v (.int n))) fun p => pushW p.2 i j p.1) σ1 = _
  have hx : ixN xs.length n = some n := by
    unfold ixN
    rw [if_pos (by omega), Int.toNat_natCast, if_pos (by omega)]
  have hp : popW ρ i (.v (.int n)) = pret (d, ρ.set i (some (.o (xs.eraseIdx n)))) := by
    unfold popW
    rw [hi]
    dsimp only
    rw [hx]
    dsimp only
    rw [hd]
  rw [hp]
  show pushW (ρ.set i (some (.o (xs.eraseIdx n)))) i j d σ1 = _
  unfold pushW
  rw [List.getElem?_set_ne hij, hj]
  dsimp only
  rw [if_pos hl]; rfl
theorem s_ret {e : X'} {w : W} (hv : noVar e = true) (h1 : pvE F e ρ σ = .ok w σ1) (hw : nbW w = true) : pvS F (.ret e) ρ σ = .ok (.rt w) σ1 := by
  have : pvS F (.ret e) ρ = pbind (pvE F e ρ) fun w => match w with | .b _ => pbad | w => pret (.rt w) := by
    cases e <;> first | rfl | (simp [noVar] at hv)
  rw [this, pbind_ap, h1, pok]
  cases w <;> first | rfl | (simp [nbW] at hw)
theorem s_retv {j : Nat} {w : W} (h : ρ[j]? = some (some w)) (hw : nbW w = true) : pvS F (.ret (.var j)) ρ σ = .ok (.rt w) σ := by
  show (match ρ[j]? with | some (some (.b _)) => pbad | some (some w) => pret (Fl2.rt w) | _ => pbad) σ = _
  rw [h]
  cases w <;> first | rfl | (simp [nbW] at hw)
theorem s_if {t : T'} {a b : List S'} {p : Bool} {x : PR Fl2} (h1 : pvT F t ρ σ = .ok p σ1) (h2 : p = true → pvSs F a ρ σ1 = x) (h3 : p = false → pvSs F b ρ σ1 = x) : pvS F (.ife t a b) ρ σ = x := by
  show ((pvT F t ρ σ).bind fun k => if k then pvSs F a ρ else pvSs F b ρ) = _
  rw [h1]
  cases p with
  | true => exact h2 rfl
  | false => exact h3 rfl
theorem s_ifF {t : T'} {a b : List S'} {x : PR Fl2} (h1 : pvT F t ρ σ = .ok false σ) (h3 : pvSs F b ρ σ = x) : pvS F (.ife t a b) ρ σ = x := s_if h1 (fun h => by cases h) (fun _ => h3)
theorem s_ifT {t : T'} {a b : List S'} {x : PR Fl2} (h1 : pvT F t ρ σ = .ok true σ) (h2 : pvSs F a ρ σ = x) : pvS F (.ife t a b) ρ σ = x := s_if h1 (fun _ => h2) (fun h => by cases h)
/-- an if whose test fails, with nothing else -/
theorem ss_skip {t : T'} {a r : List S'} {x : PR Fl2} (h1 : pvT F t ρ σ = .ok false σ) (h2 : pvSs F r ρ σ = x) : pvSs F (.ife t a [] :: r) ρ σ = x := ss_nx (s_ifF h1 ss_nil) h2
/-- an if that returns, or what follows -/
theorem ss_ifret {t : T'} {e : X'} {r : List S'} {p : Bool} {d1 d2 : D} (h1 : pvT F t ρ σ = .ok p σ) (h2 : p = true → pvSs F [.ret e] ρ σ = .ok (.rt (.v d1)) σ) (h3 : p = false → pvSs F r ρ σ = .ok (.rt (.v d2)) σ) : pvSs F (.ife t [.ret e] [] :: r) ρ σ = .ok (.rt (.v (if p then d1 else d2))) σ := by
  cases p with
  | true => exact ss_rt (s_ifT h1 (h2 rfl))
  | false => exact ss_nx (s_ifF h1 ss_nil) (h3 rfl)
theorem ss_ret {e : X'} {r : List S'} {w : W} (hv : noVar e = true) (h1 : pvE F e ρ σ = .ok w σ1) (hw : nbW w = true) : pvSs F (.ret e :: r) ρ σ = .ok (.rt w) σ1 := ss_rt (s_ret hv h1 hw)
theorem ss_set {i : Nat} {e : X'} {w : W} {r : List S'} {x : PR Fl2} (hp : noPop e = true) (h1 : pvE F e ρ σ = .ok w σ1) (hw : nbW w = true) (h2 : pvSs F r (ρ.set i (some w)) σ1 = x) : pvSs F (.set i e :: r) ρ σ = x := ss_nx (s_set hp h1 hw) h2
theorem ss_expr {e : X'} {w : W} {r : List S'} {x : PR Fl2} (hp : noPop e = true) (h1 : pvE F e ρ σ = .ok w σ1) (h2 : pvSs F r ρ σ1 = x) : pvSs F (.expr e :: r) ρ σ = x := ss_nx (s_expr hp h1) h2
theorem s_for {t : Tg} {it : I'} {body : List S'} {items : List D} {x : PR Fl2} (hg : grdOk it t body = true) (h1 : pvIS F it ρ σ = .ok items σ1) (h2 : pvFor (pvSs F body) t (grd it) items ρ σ1 = x) : pvS F (.frr t it body) ρ σ = x := by
  have : pvS F (.frr t it body) ρ = pbind (pvIS F it ρ) fun items => pvFor (pvSs F body) t (grd it) items ρ := by
    simp only [pvS]
    rw [if_pos hg]
  rw [this, pbind_ap, h1]; exact h2
theorem is_of {it : I'} {items : List D} (hn : ∀ e, it ≠ .seq e) (hz : ∀ a b, it ≠ .zip a b) (h : pvI F it ρ σ = .ok items σ1) : pvIS F it ρ σ = .ok items σ1 := by
  cases it <;> first | exact h | exact absurd rfl (hn _) | exact absurd rfl (hz _ _)
theorem is_seq {e : X'} {x : W} {d : D} {xs : List D} (hv : noVar e = true) (h1 : pvE F e ρ σ = .ok x σ1) (h2 : x.nob = some d) (h3 : seqOf d [] = some xs) : pvIS F (.seq e) ρ σ = .ok xs σ1 := by
  have : pvIS F (.seq e) ρ = pbind (pvE F e ρ) fun x => match x.nob with | some d => ofOW (seqOf d []) | none => pbad := by
    cases e <;> first | rfl | (simp [noVar] at hv)
  rw [this, pbind_ap, h1, pok]
  show (match x.nob with | some d => ofOW (seqOf d []) | none => pbad) σ1 = _
  rw [h2]; show ofOW (seqOf d []) σ1 = _
  rw [h3]; rfl
theorem is_var {i : Nat} {d : D} {xs : List D} (h : ρ[i]? = some (some (.v d))) (h3 : seqOf d [] = some xs) : pvIS F (.seq (.var i)) ρ σ = .ok xs σ := by
  show (match ρ[i]? with | some (some (.o xs)) => pret xs | some (some (.b xs)) => pret xs | some (some (.v d)) => ofOW (seqOf d []) | _ => pbad) σ = _
  rw [h]; show ofOW (seqOf d []) σ = _
  rw [h3]; rfl
/-- a loop by what holds between two turns: P (what is left) (slots) (stream); Q at its end -/
theorem for_inv {body : Env2 → PM Fl2} {tg : Tg} {g : Option Nat} (P : List D → Env2 → Strm → Prop) (Q : PR Fl2 → Prop) (hend : ∀ ρ σ, P [] ρ σ → Q (.ok (.nx ρ) σ))
    (hstep : ∀ d r ρ σ, P (d :: r) ρ σ → ∃ ρ', tgSetW tg d ρ = some ρ' ∧ ((∃ ρ2 σ2, (body ρ' σ = .ok (.nx ρ2) σ2 ∨ body ρ' σ = .ok (.ct ρ2) σ2) ∧ stays g ρ ρ2 = true ∧ P r ρ2 σ2) ∨ (∃ w σ2, body ρ' σ = .ok (.rt w) σ2 ∧ Q (.ok (.rt w) σ2)) ∨ ∃ ρ2 σ2, body ρ' σ = .ok (.bk ρ2) σ2 ∧ Q (.ok (.nx ρ2) σ2))) :
    ∀ (items : List D) (ρ : Env2) (σ : Strm), P items ρ σ → Q (pvFor body tg g items ρ σ)
  | [], ρ, σ, h => hend ρ σ h
  | d :: r, ρ, σ, h => by
    obtain ⟨ρ', h1, h2⟩ := hstep d r ρ σ h
    have e : pvFor body tg g (d :: r) ρ σ = ((body ρ' σ).bind fun fl => match fl with
      | .nx ρ2 => if stays g ρ ρ2 then pvFor body tg g r ρ2 else pbad
      | .ct ρ2 => if stays g ρ ρ2 then pvFor body tg g r ρ2 else pbad
      | .bk ρ2 => pret (.nx ρ2)
      | .rt w => pret (.rt w)) := by
      conv => lhs; unfold pvFor
      rw [h1]; rfl
    rw [e]
    rcases h2 with ⟨ρ2, σ2, hb | hb, hs, hp⟩ | ⟨w, σ2, hb, hq⟩ | ⟨ρ2, σ2, hb, hq⟩
    · rw [hb]
      show Q ((if stays g ρ ρ2 then pvFor body tg g r ρ2 else pbad) σ2)
      rw [if_pos hs]
      exact for_inv P Q hend hstep r ρ2 σ2 hp
    · rw [hb]
      show Q ((if stays g ρ ρ2 then pvFor body tg g r ρ2 else pbad) σ2)
      rw [if_pos hs]
      exact for_inv P Q hend hstep r ρ2 σ2 hp
    · rw [hb]; exact hq
    · rw [hb]; exact hq
end
theorem pvF_at {gs : Nat → Option (List W → PM W)} {tab : List Fn'} {k f : Nat} {fn : Fn'} (hg : gs f = none) (h : tab[f]? = some fn) (ws : List W) (σ : Strm) : pvF gs tab (k + 1) f ws σ = pvB (pvF gs tab k) fn ws σ := by
  show (match gs f with | some g => g ws | none => match tab[f]? with | some fn => pvB (pvF gs tab k) fn ws | none => pbad) σ = _
  rw [hg, h]
end Pu

namespace Pu
open PySem PySem.Spec PyProof.Rows L2
/-! ## data of one form -/
class Dat (α : Type) where
  enc : α → D
  py : α → PyData
  py_ok : ∀ f a, toPyG f (enc a) = some (py a)
  dep : Nat
  dep_ok : ∀ a, (py a).depth ≤ dep
  lay : ∀ a, (py a).canLay0 = true
  dec : DecidableEq α
  eqv_ok : ∀ a b, PyData.eqv (py a) (py b) = decide (a = b)
  alike_ok : ∀ a b, PySem.W.alike (py a) (py b) = true
  lt : α → α → Bool
  lt_ok : ∀ a b, PySem.W.dataLt (py a) (py b) = lt a b
  irr : ∀ a, lt a a = false
  tr : ∀ a b c, lt a b = true → lt b c = true → lt a c = true
  tot : ∀ a b, lt a b = false → lt b a = false → a = b
instance {α : Type} [i : Dat α] : DecidableEq α := i.dec
open Dat
theorem Dat.asym {α : Type} [Dat α] {a b : α} (h : lt a b = true) : lt b a = false := by
  cases q : lt b a with
  | false => rfl
  | true => have := tr a b a h q; rw [irr] at this; cases this
instance : Dat Int where
  enc := D.int
  py := .int
  py_ok := fun f a => rfl
  dep := 0
  dep_ok := fun a => by simp [PyData.depth]
  lay := fun a => by simp [PyData.canLay0]
  dec := inferInstance
  eqv_ok := fun a b => by
    simp only [PyData.eqv]
    by_cases h : a = b <;> simp [h]
  alike_ok := fun a b => by simp [PySem.W.alike]
  lt := fun a b => decide (a < b)
  lt_ok := fun a b => PySem.W.dataLt_int a b
  irr := fun a => by simp
  tr := fun a b c h1 h2 => by simp at *; omega
  tot := fun a b h1 h2 => by simp at *; omega
section
variable {α β γ : Type} [Dat α] [Dat β] [Dat γ]
def pys (xs : List α) : List PyData := xs.map py
theorem encs_ok (f : Nat → Option PyData) : ∀ xs : List α, toPysG f (xs.map enc) = some (xs.map py)
  | [] => rfl
  | x :: xs => by
    show toPysG f (enc x :: xs.map enc) = _
    simp only [toPysG, Dat.py_ok, encs_ok f xs]
    rfl
theorem depAll_ok : ∀ xs : List α, PyData.depthAll (xs.map py) ≤ dep α
  | [] => by simp [PyData.depthAll]
  | x :: xs => by
    show PyData.depthAll (py x :: xs.map py) ≤ _
    have h1 := depAll_ok xs
    have h2 := dep_ok x
    simp only [PyData.depthAll]
    omega
theorem layAll : ∀ xs : List α, PyData.canLayAll0 (xs.map py) = true
  | [] => by simp [PyData.canLayAll0]
  | x :: xs => by
    show PyData.canLayAll0 (py x :: xs.map py) = true
    simp only [PyData.canLayAll0, lay x, layAll xs, Bool.and_self]
theorem eqvAll_ok : ∀ xs ys : List α, PyData.eqvAll (xs.map py) (ys.map py) = decide (xs = ys)
  | [], [] => by simp [PyData.eqvAll]
  | x :: xs, y :: ys => by
    show PyData.eqvAll (py x :: xs.map py) (py y :: ys.map py) = _
    simp only [PyData.eqvAll, eqv_ok x y, eqvAll_ok xs ys]
    by_cases h1 : x = y <;> by_cases h2 : xs = ys <;> simp [h1, h2]
  | [], _ :: _ => by simp [PyData.eqvAll]
  | _ :: _, [] => by simp [PyData.eqvAll]
theorem alikeAll_ok : ∀ xs ys : List α, PySem.W.alikeAll (xs.map py) (ys.map py) = true
  | [], _ => by simp [PySem.W.alikeAll]
  | _ :: _, [] => by simp [PySem.W.alikeAll]
  | x :: xs, y :: ys => by
    show PySem.W.alikeAll (py x :: xs.map py) (py y :: ys.map py) = true
    simp only [PySem.W.alikeAll, alike_ok x y, alikeAll_ok xs ys, Bool.and_self]
/-- lists item by item -/
def ltL (lt : α → α → Bool) [DecidableEq α] : List α → List α → Bool
  | [], [] => false
  | [], _ :: _ => true
  | _ :: _, [] => false
  | x :: xs, y :: ys => if x = y then ltL lt xs ys else lt x y
theorem ltL_cons (lt : α → α → Bool) (x y : α) (xs ys : List α) : ltL lt (x :: xs) (y :: ys) = if x = y then ltL lt xs ys else lt x y := rfl
theorem ltL_ok : ∀ xs ys : List α, PyProof.Rows.lexLt PyProof.Rows.itemOrd (PySem.W.keyToksAll (xs.map py)) (PySem.W.keyToksAll (ys.map py)) = ltL lt xs ys
  | [], [] => PyProof.Rows.lex_irrefl _
  | [], y :: ys => by
    show PyProof.Rows.lexLt PyProof.Rows.itemOrd (PySem.W.keyToksAll []) (PySem.W.keyToksAll (py y :: ys.map py)) = _
    simp only [PySem.W.keyToksAll]
    rw [PyProof.Rows.lex_diff (by simp)]
    rfl
  | x :: xs, [] => by
    show PyProof.Rows.lexLt PyProof.Rows.itemOrd (PySem.W.keyToksAll (py x :: xs.map py)) (PySem.W.keyToksAll []) = _
    simp only [PySem.W.keyToksAll]
    rw [PyProof.Rows.lex_diff (by simp)]
    rfl
  | x :: xs, y :: ys => by
    show PyProof.Rows.lexLt PyProof.Rows.itemOrd (PySem.W.keyToksAll (py x :: xs.map py)) (PySem.W.keyToksAll (py y :: ys.map py)) = _
    rw [PySem.W.dataLt_cons (alike_ok x y), eqv_ok, lt_ok, ltL_ok xs ys, ltL_cons]
    by_cases h : x = y <;> simp [h]
theorem ltL_irr : ∀ xs : List α, ltL lt xs xs = false
  | [] => rfl
  | x :: xs => by rw [ltL_cons, if_pos rfl]; exact ltL_irr xs
theorem ltL_tr : ∀ xs ys zs : List α, ltL lt xs ys = true → ltL lt ys zs = true → ltL lt xs zs = true
  | [], [], _, h, _ => by cases h
  | [], _ :: _, [], _, h => by cases h
  | [], _ :: _, _ :: _, _, _ => rfl
  | _ :: _, [], _, h, _ => by cases h
  | _ :: _, _ :: _, [], _, h => by cases h
  | x :: xs, y :: ys, z :: zs, h1, h2 => by
    rw [ltL_cons] at h1 h2 ⊢
    by_cases e1 : x = y
    · subst e1
      rw [if_pos rfl] at h1
      by_cases e2 : x = z
      · subst e2
        rw [if_pos rfl] at h2 ⊢
        exact ltL_tr xs ys zs h1 h2
      · rw [if_neg e2] at h2 ⊢; exact h2
    · rw [if_neg e1] at h1
      by_cases e2 : y = z
      · subst e2
        rw [if_neg e1]; exact h1
      · rw [if_neg e2] at h2
        have h3 := tr x y z h1 h2
        have e3 : x ≠ z := fun e => by subst e; rw [irr] at h3; cases h3
        rw [if_neg e3]; exact h3
theorem ltL_tot : ∀ xs ys : List α, ltL lt xs ys = false → ltL lt ys xs = false → xs = ys
  | [], [], _, _ => rfl
  | [], _ :: _, h, _ => by cases h
  | _ :: _, [], _, h => by cases h
  | x :: xs, y :: ys, h1, h2 => by
    rw [ltL_cons] at h1 h2
    by_cases e : x = y
    · subst e
      rw [if_pos rfl] at h1 h2
      rw [ltL_tot xs ys h1 h2]
    · rw [if_neg e] at h1
      rw [if_neg (fun z => e z.symm)] at h2
      exact absurd (tot x y h1 h2) e
instance : Dat (List α) where
  enc := fun xs => .tup (xs.map enc)
  py := fun xs => .tuple (xs.map py)
  py_ok := fun f xs => by simp only [toPyG, encs_ok]; rfl
  dep := dep α + 1
  dep_ok := fun xs => by
    have := depAll_ok xs
    simp only [PyData.depth]; omega
  lay := fun xs => by simp only [PyData.canLay0, layAll]
  dec := inferInstance
  eqv_ok := fun xs ys => by simp only [PyData.eqv, eqvAll_ok]
  alike_ok := fun xs ys => by simp only [PySem.W.alike, alikeAll_ok]
  lt := ltL lt
  lt_ok := fun xs ys => by rw [PySem.W.dataLt_tuple]; exact ltL_ok xs ys
  irr := ltL_irr
  tr := ltL_tr
  tot := ltL_tot
def ltP2 (p q : α × β) : Bool := if p.1 = q.1 then lt p.2 q.2 else lt p.1 q.1
instance : Dat (α × β) where
  enc := fun p => .tup [enc p.1, enc p.2]
  py := fun p => .tuple [py p.1, py p.2]
  py_ok := fun f p => by simp [toPyG, toPysG, Dat.py_ok]
  dep := max (dep α) (dep β) + 1
  dep_ok := fun p => by
    have h1 := dep_ok p.1
    have h2 := dep_ok p.2
    simp only [PyData.depth, PyData.depthAll]; omega
  lay := fun p => by simp [PyData.canLay0, PyData.canLayAll0, lay]
  dec := inferInstance
  eqv_ok := fun p q => by
    simp only [PyData.eqv, PyData.eqvAll, eqv_ok]
    obtain ⟨a, b⟩ := p
    obtain ⟨c, d⟩ := q
    by_cases h1 : a = c <;> by_cases h2 : b = d <;> simp [h1, h2]
  alike_ok := fun p q => by simp [PySem.W.alike, PySem.W.alikeAll, alike_ok]
  lt := ltP2
  lt_ok := fun p q => by
    rw [PySem.W.dataLt_pair (alike_ok _ _) (alike_ok _ _), eqv_ok, eqv_ok, lt_ok, lt_ok]
    unfold ltP2
    by_cases h1 : p.1 = q.1
    · by_cases h2 : p.2 = q.2
      · simp [h1, h2, irr]
      · simp [h1, h2]
    · simp [h1]
  irr := fun p => by simp [ltP2, irr]
  tr := fun p q r h1 h2 => by
    unfold ltP2 at *
    by_cases e1 : p.1 = q.1
    · rw [if_pos e1] at h1
      by_cases e2 : q.1 = r.1
      · rw [if_pos e2] at h2
        rw [if_pos (e1.trans e2)]
        exact tr _ _ _ h1 h2
      · rw [if_neg e2] at h2
        rw [if_neg (fun z => e2 (e1.symm.trans z)), e1]; exact h2
    · rw [if_neg e1] at h1
      by_cases e2 : q.1 = r.1
      · rw [if_neg (fun z => e1 (z.trans e2.symm)), ← e2]; exact h1
      · rw [if_neg e2] at h2
        have h3 := tr _ _ _ h1 h2
        rw [if_neg (fun z => by rw [z, irr] at h3; cases h3)]; exact h3
  tot := fun p q h1 h2 => by
    unfold ltP2 at *
    by_cases e1 : p.1 = q.1
    · rw [if_pos e1] at h1
      rw [if_pos e1.symm] at h2
      exact Prod.ext e1 (tot _ _ h1 h2)
    · rw [if_neg e1] at h1
      rw [if_neg (fun z => e1 z.symm)] at h2
      exact absurd (tot _ _ h1 h2) e1
/-! ## comparing, membership, sorting -/
theorem py0 (a : α) : toPy [] (enc a) = some (py a) := Dat.py_ok _ a
theorem shaped_ok (h : dep α ≤ 60 := by decide) (a : α) : SeqAt.shaped (py a) = true := by
  unfold SeqAt.shaped
  rw [lay]
  have := dep_ok a
  simp; omega
theorem shapedT (h : dep α ≤ 60 := by decide) (xs : List α) : SeqAt.shaped (.tuple (xs.map py)) = true := by
  unfold SeqAt.shaped
  have := depAll_ok xs
  simp only [PyData.canLay0, layAll, PyData.depth, Bool.true_and, decide_eq_true_eq]
  have h' : dep α ≤ 60 := h
  exact decide_eq_true (by omega)
theorem shapedL (h : dep α ≤ 60 := by decide) (xs : List α) : SeqAt.shaped (.list (xs.map py)) = true := by
  unfold SeqAt.shaped
  have := depAll_ok xs
  simp only [PyData.canLay0, layAll, PyData.depth, Bool.true_and, decide_eq_true_eq]
  have h' : dep α ≤ 60 := h
  exact decide_eq_true (by omega)
theorem any_ok (xs : List α) (a : α) : ((xs.map py).any fun z => PyData.eqv z (py a)) = decide (a ∈ xs) := by
  rw [List.any_map]
  induction xs with
  | nil => simp
  | cons x xs ih =>
    rw [List.any_cons, ih]
    simp only [Function.comp, eqv_ok]
    by_cases h : x = a
    · subst h; simp
    · have h' : ¬ a = x := fun z => h z.symm
      simp [h, h', List.mem_cons]
theorem toPyT (S : Sto) (xs : List α) : toPy S (.tup (xs.map enc)) = some (.tuple (xs.map py)) := by
  show toPyG _ _ = _
  simp only [toPyG, encs_ok]; rfl
theorem toPyQ (S : Sto) (xs : List α) : toPy S (.ptp (xs.map enc)) = some (.tuple (xs.map py)) := by
  show toPyG _ _ = _
  simp only [toPyG, encs_ok]; rfl
theorem toPyL (S : Sto) (xs : List α) : toPy S (.fz (xs.map enc)) = some (.list (xs.map py)) := by
  show toPyG _ _ = _
  simp only [toPyG, encs_ok]; rfl
end
section
variable {σ : Strm} {α : Type} [Dat α]
theorem deep_t {neg : Bool} {a : α} {xs : List α} {e : D} (h : dep α ≤ 60) (he : toPy [] e = some (.tuple (xs.map py))) : inDeep neg (enc a) e [] = .ok (.bl (if neg then !decide (a ∈ xs) else decide (a ∈ xs))) [] := by
  unfold inDeep
  rw [py0, he]
  dsimp only
  rw [shaped_ok h, shapedT h, any_ok]
  rfl
theorem deep_l {neg : Bool} {a : α} {xs : List α} {e : D} (h : dep α ≤ 60) (he : toPy [] e = some (.list (xs.map py))) : inDeep neg (enc a) e [] = .ok (.bl (if neg then !decide (a ∈ xs) else decide (a ∈ xs))) [] := by
  unfold inDeep
  rw [py0, he]
  dsimp only
  rw [shaped_ok h, shapedL h, any_ok]
  rfl
theorem lift_v {m : M D} {d : D} (h : m [] = .ok d []) : lift m σ = .ok (.v d) σ := by
  unfold lift
  rw [h]
  cases d <;> first | rfl | (rename_i i; cases i <;> rfl)
/-- an int among ints -/
theorem flat_ints {neg : Bool} {x : Int} {xs : List Int} : (if neg then !(xs.map D.int).any fun y => eqF y (.int x) else (xs.map D.int).any fun y => eqF y (.int x)) = (if neg then !decide (x ∈ xs) else decide (x ∈ xs)) := by
  have : ((xs.map D.int).any fun y => eqF y (.int x)) = decide (x ∈ xs) := by
    rw [List.any_map]
    induction xs with
    | nil => simp
    | cons y ys ih =>
      rw [List.any_cons, ih]
      show ((y == x) || decide (x ∈ ys)) = _
      by_cases h : y = x
      · subst h; simp
      · have h' : ¬ x = y := fun z => h z.symm
        simp [h, h', List.mem_cons]
  rw [this]
theorem flats_int (xs : List Int) : (xs.map D.int).all flatD = true := by
  rw [List.all_map, List.all_eq_true]; intro y _; rfl
theorem in_ints {neg : Bool} {x : Int} {xs : List Int} : inM neg (.int x) (.tup (xs.map D.int)) [] = .ok (.bl (if neg then !decide (x ∈ xs) else decide (x ∈ xs))) [] := by
  show (if flatD (.int x) && (xs.map D.int).all flatD then _ else _) = _
  rw [flats_int, if_pos (show (flatD (.int x) && true) = true from rfl), flat_ints]
theorem in_intsQ {neg : Bool} {x : Int} {xs : List Int} : inM neg (.int x) (.ptp (xs.map D.int)) [] = .ok (.bl (if neg then !decide (x ∈ xs) else decide (x ∈ xs))) [] := by
  show (if flatD (.int x) && (xs.map D.int).all flatD then _ else _) = _
  rw [flats_int, if_pos (show (flatD (.int x) && true) = true from rfl), flat_ints]
theorem p_in {x : Int} {xs : List Int} : rd2 (cmpM .In) (.v (.int x)) (.v (.tup (xs.map D.int))) σ = .ok (.v (.bl (decide (x ∈ xs)))) σ := lift_v in_ints
theorem p_nin {x : Int} {xs : List Int} : rd2 (cmpM .NotIn) (.v (.int x)) (.v (.tup (xs.map D.int))) σ = .ok (.v (.bl (!decide (x ∈ xs)))) σ := lift_v in_ints
theorem p_inQ {x : Int} {xs : List Int} : rd2 (cmpM .In) (.v (.int x)) (.v (.ptp (xs.map D.int))) σ = .ok (.v (.bl (decide (x ∈ xs)))) σ := lift_v in_intsQ
theorem p_ninQ {x : Int} {xs : List Int} : rd2 (cmpM .NotIn) (.v (.int x)) (.v (.ptp (xs.map D.int))) σ = .ok (.v (.bl (!decide (x ∈ xs)))) σ := lift_v in_intsQ
theorem p_inL {a : α} {xs : List α} (h : dep α ≤ 60 := by decide) : rd2 (cmpM .In) (.v (enc a)) (.v (.fz (xs.map enc))) σ = .ok (.v (.bl (decide (a ∈ xs)))) σ := lift_v (deep_l (neg := false) h (toPyL [] xs))
theorem p_ninL {a : α} {xs : List α} (h : dep α ≤ 60 := by decide) : rd2 (cmpM .NotIn) (.v (enc a)) (.v (.fz (xs.map enc))) σ = .ok (.v (.bl (!decide (a ∈ xs)))) σ := lift_v (deep_l (neg := true) h (toPyL [] xs))
/-- a pair of ints among pairs -/
def encP (p : Int × Int) : D := .tup [.int p.1, .int p.2]
theorem inM_deepT {neg : Bool} {d : D} {xs : List D} {S : Sto} (h : flatD d = false) : inM neg d (.tup xs) S = inDeep neg d (.tup xs) S := by
  unfold inM
  dsimp only
  rw [if_neg (by rw [h]; simp)]
theorem encP_eq : (encP : Int × Int → D) = enc := by
  funext p; rfl
theorem p_inP {a b : Int} {es : List (Int × Int)} : rd2 (cmpM .In) (.v (.tup [.int a, .int b])) (.v (.tup (es.map encP))) σ = .ok (.v (.bl (decide ((a, b) ∈ es)))) σ := by
  refine lift_v ?_
  have h := deep_t (α := Int × Int) (neg := false) (a := (a, b)) (xs := es) (by decide) (toPyT [] es)
  have e : cmpM CmpOp.In (D.tup [D.int a, D.int b]) (D.tup (es.map encP)) [] = inDeep false (.tup [.int a, .int b]) (.tup (es.map encP)) [] := inM_deepT (neg := false) (d := .tup [.int a, .int b]) (xs := es.map encP) (S := []) rfl
  rw [e, encP_eq]
  refine Eq.trans h ?_
  simp only [Bool.false_eq_true, if_false]
  congr 2
  exact decide_eq_decide.mpr Iff.rfl
theorem sortI_ints {xs : List Int} : rds (bltM (.sorted false)) [.v (.fz (xs.map D.int))] σ = .ok (.v (.fz ((sortI xs).map D.int))) σ := by
  show lift (sortedM false [.fz (xs.map D.int)]) σ = _
  refine lift_v ?_
  show (match (some (xs.map D.int)).bind asInts with | some ns => newU false ((sortI ns).map D.int) [] | none => _) = _
  have : ∀ l : List Int, asInts (l.map D.int) = some l := fun l => by
    induction l with
    | nil => rfl
    | cons x l ih => show (asInts (l.map D.int)).map (x :: ·) = _; rw [ih]; rfl
  rw [Option.bind_some, this]
  rfl
/-- sorted data: a permutation that ascends -/
theorem sort_dataM {xs : List α} (h : dep α ≤ 60 := by decide) (hne : ∀ x ∈ xs, asInts [enc x] = none) (hnp : asPairs (xs.map enc) = none ∨ xs = []) (ht : ∀ x ∈ xs, ∃ a r, py x = .tuple (a :: r)) :
    ∃ ys : List α, rds (bltM (.sorted false)) [.v (.fz (xs.map enc))] σ = .ok (.v (.fz (ys.map enc))) σ ∧ ys.Perm xs ∧ ys.Pairwise (fun a b => lt b a = false) := by
  have hE : ∀ x : α, encD (enc x) = py x := fun x => by unfold encD; rw [show toPy0 (enc x) = some (py x) from Dat.py_ok _ x]; rfl
  refine ⟨xs.mergeSort (fun a b => !lt b a), ?_, List.mergeSort_perm _ _, ?_⟩
  · show lift (sortedM false [.fz (xs.map enc)]) σ = _
    refine lift_v ?_
    show (match (some (xs.map enc)).bind asInts with | some ns => newU false ((sortI ns).map D.int) [] | none => match (some (xs.map enc)).bind asPairs with | some ps => newU false ((sortP ps).map pairOf) [] | none => chk (sortOk (xs.map enc)) (newU false (sortD (xs.map enc))) []) = _
    rw [Option.bind_some, Option.bind_some]
    cases xs with
    | nil => simp [asInts, sortI, newU]
    | cons x r =>
      have h1 : asInts ((x :: r).map enc) = none := by
        have := hne x List.mem_cons_self
        show asInts (enc x :: r.map enc) = none
        generalize enc x = d at this
        cases d <;> simp only [asInts] at this ⊢ <;> first | rfl | (cases this)
      have h2 : asPairs ((x :: r).map enc) = none := hnp.resolve_right (by simp)
      rw [h1, h2]
      dsimp only
      have ok : sortOk ((x :: r).map enc) := by
        refine ⟨fun d hd => ?_, .inr ⟨fun p hp q hq => ?_, .inl fun p hp => ?_, fun d hd => ?_⟩⟩
        · obtain ⟨y, _, rfl⟩ := List.mem_map.mp hd
          rw [show toPy0 (enc y) = some (py y) from Dat.py_ok _ y]; rfl
        · obtain ⟨d, hd, rfl⟩ := List.mem_map.mp hp
          obtain ⟨y, _, rfl⟩ := List.mem_map.mp hd
          obtain ⟨d, hd, rfl⟩ := List.mem_map.mp hq
          obtain ⟨z, _, rfl⟩ := List.mem_map.mp hd
          rw [hE, hE]; exact alike_ok y z
        · obtain ⟨d, hd, rfl⟩ := List.mem_map.mp hp
          obtain ⟨y, hy, rfl⟩ := List.mem_map.mp hd
          rw [hE]; exact ht y hy
        · obtain ⟨y, _, rfl⟩ := List.mem_map.mp hd
          rw [hE]; exact Nat.le_trans (dep_ok y) h
      rw [chk_pos ok]
      show R.ok (D.fz (sortD ((x :: r).map enc))) [] = _
      congr 2
      unfold sortD
      rw [← List.map_mergeSort (f := enc) (r := fun a b => !lt b a)]
      intro a ha b hb
      rw [PySem.W.dataLe_eq]
      show _ = (cond false _ (!PySem.W.dataLt (encD (enc b)) (encD (enc a))))
      rw [hE, hE, lt_ok b a]
      rfl
  · have := List.pairwise_mergeSort (le := fun a b : α => !lt b a) (fun a b c h1 h2 => by
      simp only [Bool.not_eq_true'] at *
      cases q : lt c a with
      | false => rfl
      | true =>
        cases q2 : lt a b with
        | true => have := tr c a b q q2; rw [h2] at this; cases this
        | false =>
          have := tot a b q2 h1
          subst this
          rw [h2] at q; cases q) (fun a b => by
      cases q : lt b a with
      | false => simp
      | true => simp [Dat.asym q]) xs
    exact this.imp fun {a b} h => by simpa using h
theorem sort_data {xs : List α} (h : dep α ≤ 60 := by decide) (hne : ∀ x ∈ xs, asInts [enc x] = none) (hnp : asPairs (xs.map enc) = none ∨ xs = []) (ht : ∀ x : α, ∃ a r, py x = .tuple (a :: r)) :
    ∃ ys : List α, rds (bltM (.sorted false)) [.v (.fz (xs.map enc))] σ = .ok (.v (.fz (ys.map enc))) σ ∧ ys.Perm xs ∧ ys.Pairwise (fun a b => lt b a = false) := sort_dataM h hne hnp fun x _ => ht x
/-- a single item -/
theorem sort_one {d : D} (h1 : asInts [d] = none) (h2 : asPairs [d] = none) (hs : (toPy0 d).isSome = true) : rds (bltM (.sorted false)) [.v (.fz [d])] σ = .ok (.v (.fz [d])) σ := by
  show lift (sortedM false [.fz [d]]) σ = _
  refine lift_v ?_
  show (match (some [d]).bind asInts with | some ns => newU false ((sortI ns).map D.int) [] | none => match (some [d]).bind asPairs with | some ps => newU false ((sortP ps).map pairOf) [] | none => chk (sortOk [d]) (newU false (sortD [d])) []) = _
  rw [Option.bind_some, Option.bind_some, h1, h2]
  dsimp only
  rw [chk_pos ⟨fun e he => by rw [List.mem_singleton.mp he]; exact hs, .inl (by simp)⟩]
  show R.ok (D.fz (sortD [d])) [] = _
  simp [sortD]
theorem p_cat {xs ys : List D} (h : xs.length + ys.length ≤ line) : rd2 (catM false) (.v (.fz xs)) (.v (.fz ys)) σ = .ok (.v (.fz (xs ++ ys))) σ := by
  refine lift_v ?_
  show newL false (xs ++ ys) [] = _
  unfold newL
  rw [if_pos (by simpa using h)]; rfl
theorem p_catT {xs ys : List D} (h : xs.length + ys.length ≤ line) : rd2 (catM false) (.v (.tup xs)) (.v (.tup ys)) σ = .ok (.v (.tup (xs ++ ys))) σ := by
  refine lift_v ?_
  show newT (xs ++ ys) [] = _
  unfold newT
  rw [if_pos (by simpa using h)]
theorem p_idx {d : D} {xs : List D} {i : Int} {x : D} (h1 : seqOf d [] = some xs) (h2 : atI xs i = some x) : rd2 idxM (.v d) (.v (.int i)) σ = .ok (.v x) σ := by
  refine lift_v ?_
  unfold idxM
  rw [h1]; show (match atI xs i with | some x => R.ok x [] | none => .bad) = _
  rw [h2]
theorem p_idxb {xs : List D} {i : Int} {x : D} (h2 : atI xs i = some x) : rd2 idxM (.b xs) (.v (.int i)) σ = .ok (.v x) σ := by
  refine lift_v ?_
  show (match atI xs i with | some x => R.ok x [] | none => .bad) = _
  rw [h2]
theorem atI_end {γ : Type} {xs : List γ} {x : γ} (h : xs.getLast? = some x) : atI xs (-1) = some x := by
  have hne : 0 < xs.length := by cases xs <;> simp at h ⊢
  have hi : ixN xs.length (-1) = some (xs.length - 1) := by
    unfold ixN
    rw [if_neg (by omega), if_pos (by omega)]
    congr 1
    omega
  unfold atI
  rw [hi]
  show xs[xs.length - 1]? = some x
  rw [← List.getLast?_eq_getElem?]; exact h
theorem p_lenT {γ : Type} {e : γ → D} {xs : List γ} : rds (bltM .len) [.v (.tup (xs.map e))] σ = .ok (.v (.int xs.length)) σ := by
  show lift (lenM [.tup (xs.map e)]) σ = _
  refine lift_v ?_
  show R.ok (D.int ((xs.map e).length : Nat)) [] = _
  rw [List.length_map]
theorem p_lenQ {γ : Type} {e : γ → D} {xs : List γ} : rds (bltM .len) [.v (.ptp (xs.map e))] σ = .ok (.v (.int xs.length)) σ := by
  show lift (lenM [.ptp (xs.map e)]) σ = _
  refine lift_v ?_
  show R.ok (D.int ((xs.map e).length : Nat)) [] = _
  rw [List.length_map]
theorem p_lenL {γ : Type} {e : γ → D} {xs : List γ} : rds (bltM .len) [.v (.fz (xs.map e))] σ = .ok (.v (.int xs.length)) σ := by
  show lift (lenM [.fz (xs.map e)]) σ = _
  refine lift_v ?_
  show R.ok (D.int ((xs.map e).length : Nat)) [] = _
  rw [List.length_map]
theorem p_lenB {γ : Type} {e : γ → D} {xs : List γ} : rds (bltM .len) [.b (xs.map e)] σ = .ok (.v (.int xs.length)) σ := by
  show lift (lenM [.fz (xs.map e)]) σ = _
  refine lift_v ?_
  show R.ok (D.int ((xs.map e).length : Nat)) [] = _
  rw [List.length_map]
/-- an item of a sequence by its place -/
theorem p_at {γ : Type} {e : γ → D} {xs : List γ} {i : Int} {x : γ} {d : D} (hd : seqOf d [] = some (xs.map e)) (h0 : 0 ≤ i) (h : xs[i.toNat]? = some x) : rd2 idxM (.v d) (.v (.int i)) σ = .ok (.v (e x)) σ := by
  refine p_idx hd ?_
  have := atI_nat (xs := xs.map e) (j := i.toNat) (v := e x) (by rw [List.getElem?_map, h]; rfl)
  rwa [show ((i.toNat : Nat) : Int) = i by omega] at this
theorem p_atLast {γ : Type} {e : γ → D} {xs : List γ} {x : γ} {d : D} (hd : seqOf d [] = some (xs.map e)) (h : xs.getLast? = some x) : rd2 idxM (.v d) (.v (.int (-1))) σ = .ok (.v (e x)) σ := by
  refine p_idx hd (atI_end ?_)
  rw [List.getLast?_map, h]; rfl
theorem asBools_ok (l : List Bool) : asBools (l.map D.bl) = some l := by
  induction l with
  | nil => rfl
  | cons x l ih => show (asBools (l.map D.bl)).map (x :: ·) = _; rw [ih]; rfl
theorem p_all {bs : List Bool} : rds (bltM .all) [.v (.fz (bs.map D.bl))] σ = .ok (.v (.bl (bs.all id))) σ := by
  refine lift_v ?_
  show (match (some (bs.map D.bl)).bind asBools with | some bs => R.ok (D.bl (bs.all id)) [] | none => .bad) = _
  rw [Option.bind_some, asBools_ok]
theorem p_any {bs : List Bool} : rds (bltM .any) [.v (.fz (bs.map D.bl))] σ = .ok (.v (.bl (bs.any id))) σ := by
  refine lift_v ?_
  show (match (some (bs.map D.bl)).bind asBools with | some bs => R.ok (D.bl (bs.any id)) [] | none => .bad) = _
  rw [Option.bind_some, asBools_ok]
theorem p_allM {γ : Type} {xs : List γ} {p : γ → Bool} : rds (bltM .all) [.v (.fz (xs.map fun x => D.bl (p x)))] σ = .ok (.v (.bl (xs.all p))) σ := by
  have := p_all (σ := σ) (bs := xs.map p)
  rw [List.map_map, List.all_map] at this
  exact this
theorem p_anyM {γ : Type} {xs : List γ} {p : γ → Bool} : rds (bltM .any) [.v (.fz (xs.map fun x => D.bl (p x)))] σ = .ok (.v (.bl (xs.any p))) σ := by
  have := p_any (σ := σ) (bs := xs.map p)
  rw [List.map_map, List.any_map] at this
  exact this
theorem cut_from (xs : List D) (n : Nat) : cutD xs (some (n : Int)) none = xs.drop n := by
  unfold cutD
  rw [HT.sIx_nat, HT.sIx_none]
  by_cases h : n ≤ xs.length
  · rw [Nat.min_eq_left h, List.take_of_length_le (by simp)]
  · rw [Nat.min_eq_right (by omega), List.drop_of_length_le (Nat.le_refl _), List.drop_of_length_le (by omega)]
    simp
theorem cut_to' (xs : List D) (n : Nat) : cutD xs none (some (n : Int)) = xs.take n := by
  unfold cutD
  rw [HT.sIx_nat, HT.sIx_none]
  simp only [List.drop_zero, Nat.sub_zero]
  by_cases h : n ≤ xs.length
  · rw [Nat.min_eq_left h]
  · rw [Nat.min_eq_right (by omega), List.take_of_length_le (Nat.le_refl _), List.take_of_length_le (by omega)]
theorem p_trng {n : Nat} (h : n ≤ 16777216) : rd1 trngM (.v (.int n)) σ = .ok (.v (.tup ((List.range n).map fun (k : Nat) => D.int (k : Int)))) σ := by
  refine lift_v ?_
  show chk (-4611686018427387904 ≤ (n : Int)) (newT ((List.range ((n : Int)).toNat).map fun (k : Nat) => D.int (k : Int))) [] = _
  rw [chk_pos (by omega), Int.toNat_natCast]
  unfold newT
  rw [if_pos (by simpa [line_val] using h)]
theorem atI_nn {γ : Type} {xs : List γ} {n : Nat} {x : γ} (h : xs[n]? = some x) : atI xs (n : Int) = some x := atI_nat h
end
end Pu

namespace Pu
open PySem PySem.Spec PyProof.Rows L2 Dat
section
variable {F : Nat → List W → PM W} {ρ : Env2} {σ σ1 σ2 σ3 : Strm}
theorem t_andF {a b : T'} (h1 : pvT F a ρ σ = .ok false σ1) : pvT F (.and a b) ρ σ = .ok false σ1 := by
  show ((pvT F a ρ σ).bind fun t => if t then pvT F b ρ else pret false) = _
  rw [h1]; rfl
theorem t_andT {a b : T'} {q : Bool} (h1 : pvT F a ρ σ = .ok true σ1) (h2 : pvT F b ρ σ1 = .ok q σ2) : pvT F (.and a b) ρ σ = .ok q σ2 := by
  show ((pvT F a ρ σ).bind fun t => if t then pvT F b ρ else pret false) = _
  rw [h1]; exact h2
/-- a loop that may return: the first item with an answer -/
theorem for_find {α : Type} {body : Env2 → PM Fl2} {tg : Tg} {g : Option Nat} {e : α → D} {f : α → Option W} (I : Env2 → Prop) : ∀ {xs : List α} {ρ : Env2},
    (∀ x ∈ xs, ∀ ρ, I ρ → ∃ ρ', tgSetW tg (e x) ρ = some ρ' ∧ match f x with | some w => body ρ' σ = .ok (.rt w) σ | none => ∃ ρ2, body ρ' σ = .ok (.nx ρ2) σ ∧ stays g ρ ρ2 = true ∧ I ρ2) →
    I ρ → ∃ ρ2, I ρ2 ∧ pvFor body tg g (xs.map e) ρ σ = match xs.findSome? f with | some w => .ok (.rt w) σ | none => .ok (.nx ρ2) σ
  | [], ρ, _, hI => ⟨ρ, hI, rfl⟩
  | x :: xs, ρ, h, hI => by
    obtain ⟨ρ', h1, h2⟩ := h x List.mem_cons_self ρ hI
    have hh : ∀ ρ2 : Env2, pvFor body tg g ((x :: xs).map e) ρ σ = ((body ρ' σ).bind fun fl => match fl with
      | .nx ρ2 => if stays g ρ ρ2 then pvFor body tg g (xs.map e) ρ2 else pbad
      | .ct ρ2 => if stays g ρ ρ2 then pvFor body tg g (xs.map e) ρ2 else pbad
      | .bk ρ2 => pret (.nx ρ2)
      | .rt w => pret (.rt w)) := by
      intro _
      show (match tgSetW tg (e x) ρ with | none => pbad | some ρ' => _) σ = _
      rw [h1]; rfl
    cases hf : f x with
    | some w =>
      rw [hf] at h2
      refine ⟨ρ, hI, ?_⟩
      rw [hh ρ, h2, List.findSome?_cons, hf]; rfl
    | none =>
      rw [hf] at h2
      obtain ⟨ρ2, h3, h4, h5⟩ := h2
      obtain ⟨ρ3, h6, h7⟩ := for_find (body := body) (tg := tg) (g := g) (e := e) (f := f) I (xs := xs) (fun y hy => h y (List.mem_cons_of_mem _ hy)) h5
      refine ⟨ρ3, h6, ?_⟩
      rw [hh ρ, h3, List.findSome?_cons, hf, ← h7]
      show (if stays g ρ ρ2 then pvFor body tg g (xs.map e) ρ2 else pbad) σ = _
      rw [if_pos h4]
/-- a loop to its end: what holds after so many turns -/
theorem for_all {α : Type} {body : Env2 → PM Fl2} {tg : Tg} {g : Option Nat} {e : α → D} (P : List α → Env2 → Strm → Prop) : ∀ {xs : List α} {ds : List α} {ρ : Env2} {σ : Strm},
    (∀ ds x r ρ σ, xs = ds ++ x :: r → P ds ρ σ → ∃ ρ', tgSetW tg (e x) ρ = some ρ' ∧ ∃ ρ2 σ2, body ρ' σ = .ok (.nx ρ2) σ2 ∧ stays g ρ ρ2 = true ∧ P (ds ++ [x]) ρ2 σ2) →
    P [] ρ σ → ∃ ρ2 σ2, P xs ρ2 σ2 ∧ pvFor body tg g (xs.map e) ρ σ = .ok (.nx ρ2) σ2 := by
  intro xs ds ρ σ h h0
  have key : ∀ (r ds : List α) (ρ : Env2) (σ : Strm), xs = ds ++ r → P ds ρ σ → ∃ ρ2 σ2, P xs ρ2 σ2 ∧ pvFor body tg g (r.map e) ρ σ = .ok (.nx ρ2) σ2 := by
    intro r
    induction r with
    | nil => intro ds ρ σ hx hp; rw [List.append_nil] at hx; subst hx; exact ⟨ρ, σ, hp, rfl⟩
    | cons x r ih =>
      intro ds ρ σ hx hp
      obtain ⟨ρ', h1, ρ2, σ2, h2, h3, h4⟩ := h ds x r ρ σ hx hp
      obtain ⟨ρ3, σ3, h5, h6⟩ := ih (ds ++ [x]) ρ2 σ2 (by rw [hx]; simp) h4
      refine ⟨ρ3, σ3, h5, ?_⟩
      show (match tgSetW tg (e x) ρ with | none => pbad | some ρ' => _) σ = _
      rw [h1]
      show ((body ρ' σ).bind _) = _
      rw [h2]
      show (if stays g ρ ρ2 then pvFor body tg g (r.map e) ρ2 else pbad) σ2 = _
      rw [if_pos h3]; exact h6
  exact key xs [] ρ σ rfl h0
/-- a comprehension whose tests draw: some of the items -/
theorem lc_some {α : Type} {elt : Env2 → PM W} {ifs : Env2 → PM Bool} {tg : Tg} {e f : α → D} : ∀ {xs : List α} {σ : Strm},
    (∀ x ∈ xs, ∀ σ : Strm, ∃ ρ', tgSetW tg (e x) ρ = some ρ' ∧ ∃ p σ1, ifs ρ' σ = .ok p σ1 ∧ (p = true → elt ρ' σ1 = .ok (.v (f x)) σ1)) → ∃ (ys : List α) (σ' : Strm), pvLc elt ifs tg ρ (xs.map e) σ = .ok (ys.map f) σ' ∧ ys.Sublist xs
  | [], σ, _ => ⟨[], σ, rfl, List.Sublist.refl _⟩
  | x :: xs, σ, h => by
    obtain ⟨ρ', h1, p, σ1, h2, h3⟩ := h x List.mem_cons_self σ
    obtain ⟨ys, σ', h4, h5⟩ := lc_some (elt := elt) (ifs := ifs) (tg := tg) (e := e) (f := f) (xs := xs) (σ := σ1) fun y hy => h y (List.mem_cons_of_mem _ hy)
    have hh : pvLc elt ifs tg ρ ((x :: xs).map e) σ = ((ifs ρ' σ).bind fun b => if b then pbind (elt ρ') fun y => match y.val with
          | some y => pbind (pvLc elt ifs tg ρ (xs.map e)) fun ys => pret (y :: ys)
          | none => pbad
        else pvLc elt ifs tg ρ (xs.map e)) := by
      show (match tgSetW tg (e x) ρ with | none => pbad | some ρ' => _) σ = _
      rw [h1]; rfl
    rw [hh, h2]
    cases p with
    | false => exact ⟨ys, σ', h4, List.Sublist.cons _ h5⟩
    | true =>
      refine ⟨x :: ys, σ', ?_, List.Sublist.cons₂ _ h5⟩
      show ((elt ρ' σ1).bind _) = _
      rw [h3 rfl]
      show ((pvLc elt ifs tg ρ (xs.map e) σ1).bind fun ys => pret (f x :: ys)) = _
      rw [h4]; rfl
/-- a comprehension whose elements draw -/
theorem lc_draw {α β : Type} {elt : Env2 → PM W} {tg : Tg} {e : α → D} {f : β → D} {Q : β → Prop} : ∀ {xs : List α} {σ : Strm},
    (∀ x ∈ xs, ∀ σ : Strm, ∃ ρ', tgSetW tg (e x) ρ = some ρ' ∧ ∃ y σ1, elt ρ' σ = .ok (.v (f y)) σ1 ∧ Q y) → ∃ (ys : List β) (σ' : Strm), pvLc elt (pvTs F []) tg ρ (xs.map e) σ = .ok (ys.map f) σ' ∧ ys.length = xs.length ∧ ∀ y ∈ ys, Q y
  | [], σ, _ => ⟨[], σ, rfl, rfl, by simp⟩
  | x :: xs, σ, h => by
    obtain ⟨ρ', h1, y, σ1, h2, h3⟩ := h x List.mem_cons_self σ
    obtain ⟨ys, σ', h4, h5, h6⟩ := lc_draw (elt := elt) (tg := tg) (e := e) (f := f) (Q := Q) (xs := xs) (σ := σ1) fun y hy => h y (List.mem_cons_of_mem _ hy)
    refine ⟨y :: ys, σ', ?_, by simp [h5], ?_⟩
    · show (match tgSetW tg (e x) ρ with | none => pbad | some ρ' => _) σ = _
      rw [h1]
      show ((elt ρ' σ).bind _) = _
      rw [h2]
      show ((pvLc elt (pvTs F []) tg ρ (xs.map e) σ1).bind fun ys => pret (f y :: ys)) = _
      rw [h4]; rfl
    · intro z hz
      rcases List.mem_cons.mp hz with rfl | hz
      · exact h3
      · exact h6 z hz
theorem p_tupL {xs : List D} : rds (bltM .tuple) [.v (.fz xs)] σ = .ok (.v (.tup xs)) σ := lift_v (m := tupleM [.fz xs]) rfl
theorem p_tupB {xs : List D} : rds (bltM .tuple) [.b xs] σ = .ok (.v (.tup xs)) σ := lift_v (m := tupleM [.fz xs]) rfl
theorem next_drew {m : Int} (h : 0 < m ∧ m < 1073741824) (σ : Strm) : ∃ d σ', nextW [.s, .v (.int m)] σ = .ok (.v (.int d)) σ' ∧ 0 ≤ d ∧ d < m := by
  refine ⟨σ.digit m.toNat, σ.next m.toNat, ?_, ?_⟩
  · show (if 0 < m ∧ m < 1073741824 then (.ok (.v (.int (σ.digit m.toNat))) (σ.next m.toNat) : PR W) else .bad) = _
    rw [if_pos h]
  · have := σ.digit_lt (many := m.toNat) (by omega)
    omega
theorem p_sub {a b : Int} : rd2 (binM .Sub) (.v (.int a)) (.v (.int b)) σ = .ok (.v (.int (a - b))) σ := lift_v (m := binM .Sub (.int a) (.int b)) rfl
theorem sortI_asc {xs : List Int} (h : xs.Pairwise (· < ·)) : sortI xs = xs := (mem_perm_eq (List.Perm.refl _) (h.imp fun {a b} h => by omega)).symm
theorem sorted_eq {xs ys : List Int} (hp : xs.Perm ys) (h : xs.Pairwise (· < ·)) : sortI ys = xs := (mem_perm_eq hp (h.imp fun {a b} h => by omega)).symm
theorem sort_pairs {es : List (Int × Int)} : rds (bltM (.sorted false)) [.b (es.map encP)] σ = .ok (.v (.fz ((sortP es).map encP))) σ := by
  show lift (sortedM false [.fz (es.map encP)]) σ = _
  refine lift_v ?_
  show (match (some (es.map encP)).bind asInts with | some ns => newU false ((sortI ns).map D.int) [] | none => match (some (es.map encP)).bind asPairs with | some ps => newU false ((sortP ps).map pairOf) [] | none => _) = _
  cases es with
  | nil => simp [asInts, sortI, newU, sortP]
  | cons p es =>
    have h1 : asInts ((p :: es).map encP) = none := rfl
    have h2 : ∀ l : List (Int × Int), asPairs (l.map encP) = some l := fun l => by
      induction l with
      | nil => rfl
      | cons p l ih => show (asPairs (l.map encP)).map ((p.1, p.2) :: ·) = _; rw [ih]; rfl
    rw [Option.bind_some, h1, Option.bind_some, h2]
    rfl
theorem lexP_tr {p q r : Int × Int} (h1 : lexP p q = true) (h2 : lexP q r = true) : lexP p r = true := by
  unfold lexP at *
  split at h1 <;> split at h2 <;> split <;> simp at * <;> omega
theorem sortP_asc {es : List (Int × Int)} (h : es.Nodup) : (sortP es).Pairwise fun p q => lexP p q = true := by
  have h1 := List.pairwise_mergeSort (le := leP) (fun a b c h1 h2 => by
      unfold leP lexP at *
      simp only [Bool.not_eq_true'] at *
      split at h1 <;> split at h2 <;> split <;> simp at * <;> omega) (fun a b => by
      unfold leP lexP
      split <;> split <;> simp at * <;> omega) es
  have h2 : (sortP es).Nodup := (List.mergeSort_perm es leP).nodup_iff.mpr h
  refine (h1.and h2).imp fun {a b} h => ?_
  obtain ⟨h1, h2⟩ := h
  unfold leP lexP at h1
  unfold lexP
  have : a.1 = b.1 → a.2 ≠ b.2 := fun e1 e2 => h2 (Prod.ext e1 e2)
  split at h1 <;> split <;> simp at * <;> omega
theorem e_lns {F : Nat → List W → PM W} {ρ : Env2} {σ σ1 σ2 : Strm} {a : X'} {x w : W} (h1 : pvE F a ρ σ = .ok x σ1) (h3 : rd1 lnsM x σ1 = .ok w σ2) : pvE F (.lns a) ρ σ = .ok w σ2 := by
  show ((pvE F a ρ σ).bind (rd1 lnsM)) = _
  rw [h1]; exact h3
theorem p_lns {ns : List Int} {σ : Strm} (h : ns.length < 64) : rd1 lnsM (.v (.tup (ns.map D.int))) σ = .ok (.v (.int (dedI ns).length)) σ := by
  have hi : ∀ l : List Int, asInts (l.map D.int) = some l := fun l => by
    induction l with
    | nil => rfl
    | cons x l ih => show (asInts (l.map D.int)).map (x :: ·) = _; rw [ih]; rfl
  refine lift_v (m := lnsM (.tup (ns.map D.int))) ?_
  show (match (some (ns.map D.int)).bind asInts with | some ns => if ns.length < 64 then R.ok (D.int (dedI ns).length) [] else .bad | none => .bad) = _
  rw [Option.bind_some, hi]
  exact if_pos h
theorem e_cmb {F : Nat → List W → PM W} {ρ : Env2} {σ σ1 σ2 σ3 : Strm} {own : Bool} {a b : X'} {x y w : W} (h1 : pvE F a ρ σ = .ok x σ1) (h2 : pvE F b ρ σ1 = .ok y σ2) (h3 : rd2 (cmbM own) x y σ2 = .ok w σ3) : pvE F (.cmb own a b) ρ σ = .ok w σ3 := by
  show ((pvE F a ρ σ).bind fun x => pbind (pvE F b ρ) fun y => rd2 (cmbM own) x y) = _
  rw [h1]; show ((pvE F b ρ σ1).bind fun y => rd2 (cmbM own) x y) = _
  rw [h2]; exact h3
theorem e_cmr {F : Nat → List W → PM W} {ρ : Env2} {σ σ1 σ2 σ3 : Strm} {own : Bool} {a b : X'} {j : Int} {y w : W} (h1 : pvE F a ρ σ = .ok (.v (.int j)) σ1) (h2 : pvE F b ρ σ1 = .ok y σ2) (h3 : rd1 (cmrM own j) y σ2 = .ok w σ3) : pvE F (.cmr own a b) ρ σ = .ok w σ3 := by
  show ((pvE F a ρ σ).bind fun x => match x with
    | .v (.int j) => pbind (pvE F b ρ) fun y => rd1 (cmrM own j) y
    | _ => pbad) = _
  rw [h1]; show ((pvE F b ρ σ1).bind fun y => rd1 (cmrM own j) y) = _
  rw [h2]; exact h3
/-- the chosen places are known -/
theorem p_cmr {j : Int} {r : Nat} {L : List (List Nat)} {σ : Strm} (h0 : 0 ≤ j) (h1 : j ≤ 16777216) (hL : Cmb.allC j.toNat r = some L) : rd1 (cmrM false j) (.v (.int (r : Int))) σ = .ok (.v (.fz (pickD (rngD j) L))) σ := by
  refine lift_v (m := cmrM false j (.int (r : Int))) ?_
  show chk _ (cmbL false (rngD j) (r : Int)) [] = _
  rw [chk_pos ⟨by omega, h1⟩]
  unfold cmbL
  rw [chk_pos (by omega)]
  have hl : (rngD j).length = j.toNat := by simp [rngD]
  rw [hl, Int.toNat_natCast, hL]
  show newL false (pickD (rngD j) L) [] = _
  unfold newL
  rw [if_pos (by
    have := (Cmb.allC_ok hL).2.1
    simp only [pickD, List.length_map, line]
    omega)]
  rfl
theorem p_cmb {xs : List D} {r : Nat} {L : List (List Nat)} {σ : Strm} (hL : Cmb.allC xs.length r = some L) : rd2 (cmbM false) (.v (.fz xs)) (.v (.int (r : Int))) σ = .ok (.v (.fz (pickD xs L))) σ := by
  refine lift_v (m := cmbM false (.fz xs) (.int (r : Int))) ?_
  show cmbL false xs (r : Int) [] = _
  unfold cmbL
  rw [chk_pos (by omega), Int.toNat_natCast, hL]
  show newL false (pickD xs L) [] = _
  unfold newL
  rw [if_pos (by
    have := (Cmb.allC_ok hL).2.1
    simp only [pickD, List.length_map, line]
    omega)]
  rfl
end
end Pu

namespace Pth
open Pu Dat
def nodes (n : Nat) : List Int := (List.range n).map fun (i : Nat) => (i : Int)
def nbr (n : Nat) (adj : Int → Int → Bool) (a : Int) : List Int := (nodes n).filter (adj a)
def kids (n : Nat) (adj : Int → Int → Bool) (w : List Int) : List (List Int) := ((nbr n adj (w.getLastD 0)).filter fun b => !decide (b ∈ w)).map fun b => w ++ [b]
def way (n : Nat) (adj : Int → Int → Bool) : Nat → List (List Int)
  | 0 => (nodes n).map fun a => [a]
  | m + 1 => (way n adj m).flatMap (kids n adj)
inductive P (n : Nat) (adj : Int → Int → Bool) (a : Int) : List Int → Prop
  | one : a ∈ nodes n → P n adj a [a]
  | snoc {w w' : List Int} : P n adj a w → w' ∈ kids n adj w → P n adj a w'
variable {n : Nat} {adj : Int → Int → Bool}
theorem nodes_asc : (nodes n).Pairwise (· < ·) := by
  unfold nodes
  rw [List.pairwise_map]
  refine List.pairwise_lt_range.imp ?_
  intro a b h; omega
theorem mem_nodes {a : Int} : a ∈ nodes n ↔ 0 ≤ a ∧ a < n := by
  unfold nodes
  rw [List.mem_map]
  constructor
  · rintro ⟨i, hi, rfl⟩; have := List.mem_range.mp hi; omega
  · intro h; exact ⟨a.toNat, List.mem_range.mpr (by omega), by omega⟩
def rem (n : Nat) (w : List Int) : Nat := ((nodes n).filter fun b => !decide (b ∈ w)).length
theorem rem_snoc {w : List Int} {b : Int} (h : b ∈ nodes n) (hw : b ∉ w) : rem n (w ++ [b]) < rem n w := by
  unfold rem
  have e : ((nodes n).filter fun c => !decide (c ∈ w ++ [b])) = ((nodes n).filter fun c => !decide (c ∈ w)).filter fun c => !decide (c = b) := by
    rw [List.filter_filter]
    congr 1
    funext c
    simp [Bool.and_comm]
  rw [e]
  refine List.length_filter_lt_length_iff_exists.mpr ⟨b, List.mem_filter.mpr ⟨h, by simp [hw]⟩, by simp⟩
theorem kid_of {w w' : List Int} (h : w' ∈ kids n adj w) : ∃ b, w' = w ++ [b] ∧ b ∈ nodes n ∧ b ∉ w := by
  obtain ⟨b, hb, rfl⟩ := List.mem_map.mp h
  obtain ⟨h1, h2⟩ := List.mem_filter.mp hb
  exact ⟨b, rfl, (List.mem_filter.mp h1).1, by simpa using h2⟩
theorem kid_rem {w w' : List Int} (h : w' ∈ kids n adj w) : rem n w' < rem n w := by
  obtain ⟨b, rfl, h1, h2⟩ := kid_of h
  exact rem_snoc h1 h2
theorem kids_len {w : List Int} : (kids n adj w).length ≤ rem n w := by
  unfold kids nbr rem
  rw [List.length_map, List.filter_filter]
  refine List.Sublist.length_le ?_
  have : (fun a => !decide (a ∈ w) && adj (w.getLastD 0) a) = fun a => (adj (w.getLastD 0) a && !decide (a ∈ w)) := by funext a; rw [Bool.and_comm]
  rw [this, ← List.filter_filter]
  exact List.filter_sublist
theorem P_len {a : Int} {w : List Int} (h : P n adj a w) : w.length + rem n w ≤ n ∧ w ≠ [] ∧ w.head? = some a ∧ ∀ x ∈ w, x ∈ nodes n := by
  induction h with
  | one h =>
    have := rem_snoc (w := []) h (by simp)
    have e : rem n [] = n := by
      unfold rem
      have : ((nodes n).filter fun b => !decide (b ∈ ([] : List Int))) = nodes n := List.filter_eq_self.mpr (by simp)
      rw [this]; simp [nodes]
    simp only [List.nil_append] at this
    refine ⟨?_, by simp, rfl, by simpa using h⟩
    simp only [List.length_singleton]; omega
  | snoc _ hk ih =>
    obtain ⟨b, rfl, h1, h2⟩ := kid_of hk
    have := rem_snoc h1 h2
    refine ⟨?_, by simp, ?_, ?_⟩
    · simp only [List.length_append, List.length_singleton]; omega
    · rename_i w' _
      obtain ⟨ih1, ih2, ih3, _⟩ := ih
      cases w' with
      | nil => exact absurd rfl ih2
      | cons x r => simpa using ih3
    · intro x hx
      rcases List.mem_append.mp hx with hx | hx
      · exact ih.2.2.2 x hx
      · rw [List.mem_singleton.mp hx]; exact h1
/-- the ways with m + 1 nodes -/
theorem mem_way : ∀ {m : Nat} {w : List Int}, w ∈ way n adj m ↔ (∃ a, P n adj a w) ∧ w.length = m + 1
  | 0, w => by
    constructor
    · intro h
      obtain ⟨a, ha, rfl⟩ := List.mem_map.mp h
      exact ⟨⟨a, .one ha⟩, rfl⟩
    · rintro ⟨⟨a, h⟩, hl⟩
      cases h with
      | one h => exact List.mem_map.mpr ⟨a, h, rfl⟩
      | snoc h hk =>
        obtain ⟨b, rfl, _, _⟩ := kid_of hk
        have := (P_len h).2.1
        simp at hl
        exact absurd hl this
  | m + 1, w => by
    constructor
    · intro h
      obtain ⟨v, hv, hk⟩ := List.mem_flatMap.mp h
      obtain ⟨⟨a, p⟩, hl⟩ := mem_way.mp hv
      refine ⟨⟨a, .snoc p hk⟩, ?_⟩
      obtain ⟨b, rfl, _, _⟩ := kid_of hk
      simp [hl]
    · rintro ⟨⟨a, h⟩, hl⟩
      cases h with
      | one h => simp at hl
      | snoc h hk =>
        refine List.mem_flatMap.mpr ⟨_, mem_way.mpr ⟨⟨a, h⟩, ?_⟩, hk⟩
        obtain ⟨b, rfl, _, _⟩ := kid_of hk
        simpa using hl
theorem lt_snoc {b c : Int} : ∀ w : List Int, ltL lt (w ++ [b]) (w ++ [c]) = ltL lt [b] [c]
  | [] => rfl
  | x :: w => by rw [List.cons_append, List.cons_append, ltL_cons, if_pos rfl]; exact lt_snoc w
theorem lt_app {x y : List Int} : ∀ {v w : List Int}, v.length = w.length → ltL lt v w = true → ltL lt (v ++ x) (w ++ y) = true
  | [], [], _, h => by simp [ltL] at h
  | a :: v, b :: w, hl, h => by
    rw [ltL_cons] at h
    rw [List.cons_append, List.cons_append, ltL_cons]
    by_cases e : a = b
    · rw [if_pos e] at h ⊢; exact lt_app (by simpa using hl) h
    · rw [if_neg e] at h ⊢; exact h
theorem way_asc : ∀ m : Nat, (way n adj m).Pairwise fun v w => ltL lt v w = true
  | 0 => by
    unfold way
    rw [List.pairwise_map]
    refine nodes_asc.imp fun {a b} h => ?_
    rw [ltL_cons, if_neg (by omega)]
    show decide (a < b) = true
    simp [h]
  | m + 1 => by
    unfold way
    rw [List.pairwise_flatMap]
    constructor
    · intro w hw
      unfold kids nbr
      rw [List.pairwise_map]
      refine ((nodes_asc.filter _).filter _).imp fun {a b} h => ?_
      rw [lt_snoc, ltL_cons, if_neg (by omega)]
      show decide (a < b) = true
      simp [h]
    · refine List.Pairwise.imp_of_mem ?_ (way_asc m)
      intro v w hv hw hlt x hx y hy
      obtain ⟨b, rfl, _⟩ := kid_of hx
      obtain ⟨c, rfl, _⟩ := kid_of hy
      exact lt_app (by rw [(mem_way.mp hv).2, (mem_way.mp hw).2]) hlt
/-- the first of the shortest ways from a to b, if there is one -/
def Best (n : Nat) (adj : Int → Int → Bool) (a b : Int) : Option (List Int) → Prop
  | none => ∀ w, P n adj a w → w.getLastD 0 ≠ b
  | some w => P n adj a w ∧ w.getLastD 0 = b ∧ ∀ v, P n adj a v → v.getLastD 0 = b → lt ((v.length : Int), v) ((w.length : Int), w) = false
theorem best_one {a b : Int} : ∀ {s t : Option (List Int)}, Best n adj a b s → Best n adj a b t → s = t
  | none, none, _, _ => rfl
  | none, some w, h1, h2 => absurd h2.2.1 (h1 w h2.1)
  | some w, none, h1, h2 => absurd h1.2.1 (h2 w h1.1)
  | some v, some w, h1, h2 => by
    have := tot (α := Int × List Int) _ _ (h2.2.2 v h1.1 h1.2.1) (h1.2.2 w h2.1 h2.2.1)
    injection this with _ e
    rw [e]
def hit (a b : Int) (w : List Int) : Bool := decide (w.headD 0 = a) && decide (w.getLastD 0 = b)
theorem ltLen {v w : List Int} (h : w.length < v.length) : lt ((v.length : Int), v) ((w.length : Int), w) = false := by
  show ltP2 _ _ = false
  unfold ltP2
  rw [if_neg (by simp only; omega)]
  show decide (_ < _) = false
  simp only [decide_eq_false_iff_not]; omega
theorem head_of {a a' : Int} {w : List Int} (h : P n adj a' w) (e : w.headD 0 = a) : a' = a := by
  have := (P_len h).2.2.1
  cases w with
  | nil => simp at this
  | cons x r => simp at this e; omega
theorem told_best {a b : Int} (k : Nat) (hk : n ≤ k) : Best n adj a b ((List.range k).findSome? fun m => (way n adj m).find? (hit a b)) := by
  cases e : (List.range k).findSome? fun m => (way n adj m).find? (hit a b) with
  | none =>
    intro w hw hb
    have h1 := P_len hw
    have h2 := List.findSome?_eq_none_iff.mp e (w.length - 1) (List.mem_range.mpr (by have := List.length_pos_iff.mpr h1.2.1; omega))
    have h3 := List.find?_eq_none.mp h2 w (mem_way.mpr ⟨⟨a, hw⟩, by have := List.length_pos_iff.mpr h1.2.1; omega⟩)
    refine h3 ?_
    unfold hit
    have : w.headD 0 = a := by
      have := h1.2.2.1
      cases w with
      | nil => simp at this
      | cons x r => simpa using this
    rw [Bool.and_eq_true, decide_eq_true_eq, decide_eq_true_eq]; exact ⟨this, hb⟩
  | some w =>
    obtain ⟨l1, m, l2, hl, hf, hbefore⟩ := List.findSome?_eq_some_iff.mp e
    have hm : m = l1.length := by
      have := congrArg (fun l => l[l1.length]?) hl
      simp only [List.getElem?_append_right (Nat.le_refl _), Nat.sub_self, List.getElem?_cons_zero] at this
      have h2 : l1.length < k := by
        have := congrArg List.length hl
        simp at this; omega
      rw [List.getElem?_range h2] at this
      injection this with this; exact this.symm
    have hin : ∀ j, j < m → j ∈ l1 := by
      intro j hj
      have h2 : l1.length < k := by
        have := congrArg List.length hl
        simp at this; omega
      have := congrArg (fun l => l[j]?) hl
      rw [List.getElem?_append_left (by omega), List.getElem?_range (by omega)] at this
      exact List.mem_of_getElem? this.symm
    obtain ⟨hh, l3, l4, hl4, hb4⟩ := List.find?_eq_some_iff_append.mp hf
    have hw : w ∈ way n adj m := by rw [hl4]; simp
    obtain ⟨⟨a', p⟩, hlen⟩ := mem_way.mp hw
    unfold hit at hh
    simp only [Bool.and_eq_true, decide_eq_true_eq] at hh
    have ha := head_of p hh.1
    subst ha
    refine ⟨p, hh.2, fun v hv hvb => ?_⟩
    have hvl := P_len hv
    have hvh : hit a' b v = true := by
      unfold hit
      have : v.headD 0 = a' := by
        have := hvl.2.2.1
        cases v with
        | nil => simp at this
        | cons x r => simpa using this
      rw [Bool.and_eq_true, decide_eq_true_eq, decide_eq_true_eq]; exact ⟨this, hvb⟩
    have hpos := List.length_pos_iff.mpr hvl.2.1
    rcases Nat.lt_trichotomy v.length w.length with h | h | h
    · have h3 := hbefore (v.length - 1) (hin _ (by omega))
      have := List.find?_eq_none.mp h3 v (mem_way.mpr ⟨⟨a', hv⟩, by omega⟩)
      rw [hvh] at this; exact absurd rfl this
    · show ltP2 _ _ = false
      unfold ltP2
      rw [if_pos (by simp only; omega)]
      show ltL lt v w = false
      have hvw : v ∈ way n adj m := mem_way.mpr ⟨⟨a', hv⟩, by omega⟩
      rw [hl4] at hvw
      rcases List.mem_append.mp hvw with q | q
      · have := hb4 v q; rw [hvh] at this; simp at this
      · rcases List.mem_cons.mp q with q | q
        · subst q; exact ltL_irr _
        · have := way_asc (n := n) (adj := adj) m
          rw [hl4] at this
          have := (List.pairwise_cons.mp (List.pairwise_append.mp this).2.1).1 v q
          exact Dat.asym (α := List Int) this
    · exact ltLen h
/-! ## the queue of the law -/
def T : Nat → Nat
  | 0 => 1
  | r + 1 => 1 + (r + 1) * T r
theorem T_pos : ∀ r, 1 ≤ T r
  | 0 => Nat.le_refl _
  | r + 1 => by unfold T; omega
theorem T_mono1 (r : Nat) : T r ≤ T (r + 1) := by
  unfold T
  have : 1 * T r ≤ (r + 1) * T r := Nat.mul_le_mul_right _ (by omega)
  cases r <;> simp [T] at * <;> omega
theorem T_mono {r s : Nat} (h : r ≤ s) : T r ≤ T s := by
  induction h with
  | refl => exact Nat.le_refl _
  | step _ ih => exact Nat.le_trans ih (T_mono1 _)
def pot (n : Nat) (ws : List (List Int)) : Nat := (ws.map fun w => T (rem n w)).sum
theorem pot_kids_le {w : List Int} {r : Nat} (hr : rem n w = r + 1) : ∀ l : List (List Int), (∀ w' ∈ l, rem n w' ≤ r) → pot n l ≤ l.length * T r
  | [], _ => by simp [pot]
  | v :: l, h => by
    have ih := pot_kids_le hr l fun w' hw => h w' (List.mem_cons_of_mem _ hw)
    have := T_mono (h v List.mem_cons_self)
    simp only [pot, List.map_cons, List.sum_cons, List.length_cons, Nat.succ_mul] at *
    omega
theorem pot_step {w : List Int} {r : List (List Int)} : pot n (r ++ kids n adj w) + 1 ≤ pot n (w :: r) := by
  have e : pot n (r ++ kids n adj w) = pot n r + pot n (kids n adj w) := by simp [pot]
  have e2 : pot n (w :: r) = T (rem n w) + pot n r := by simp [pot]
  rw [e, e2]
  cases h : rem n w with
  | zero =>
    have := kids_len (n := n) (adj := adj) (w := w)
    rw [h] at this
    have : kids n adj w = [] := List.eq_nil_of_length_eq_zero (by omega)
    rw [this]
    simp [pot, T]; omega
  | succ s =>
    have h1 := pot_kids_le (n := n) h (kids n adj w) fun w' hw' => by have := kid_rem hw'; omega
    have h2 := kids_len (n := n) (adj := adj) (w := w)
    rw [h] at h2
    have h3 : (kids n adj w).length * T s ≤ (s + 1) * T s := Nat.mul_le_mul_right _ h2
    show _ ≤ T (s + 1) + _
    unfold T
    omega
theorem pot_pos {ws : List (List Int)} (h : ws ≠ []) : 1 ≤ pot n ws := by
  cases ws with
  | nil => exact absurd rfl h
  | cons w r =>
    have := T_pos (rem n w)
    simp [pot]; omega
/-- what holds between two turns of the queue: d what was looked at, r what waits -/
structure Que (n : Nat) (adj : Int → Int → Bool) (a : Int) (d r : List (List Int)) : Prop where
  all : ∀ w ∈ d ++ r, P n adj a w
  first : [a] ∈ d ++ r
  shut : ∀ w ∈ d, ∀ w' ∈ kids n adj w, w' ∈ d ++ r
  pot : d.length + pot n r ≤ T (rem n [a])
theorem que0 {a : Int} (h : a ∈ nodes n) : Que n adj a [] [[a]] := ⟨by simpa using P.one h, by simp, by simp, by simp [Pth.pot]⟩
theorem que_step {a : Int} {w : List Int} {d r : List (List Int)} (q : Que n adj a d (w :: r)) : Que n adj a (d ++ [w]) (r ++ kids n adj w) := by
  have hw : P n adj a w := q.all w (by simp)
  refine ⟨fun v hv => ?_, ?_, fun v hv v' hv' => ?_, ?_⟩
  · simp only [List.mem_append, List.mem_singleton] at hv
    rcases hv with (hv | hv) | (hv | hv)
    · exact q.all v (by simp [hv])
    · exact q.all v (by simp [hv])
    · exact q.all v (by simp [hv])
    · exact .snoc hw hv
  · have := q.first
    simp only [List.mem_append, List.mem_cons, List.mem_singleton] at this ⊢
    rcases this with h | h | h
    · exact .inl (.inl h)
    · exact .inl (.inr (by simpa using h))
    · exact .inr (.inl h)
  · simp only [List.mem_append, List.mem_singleton] at hv
    rcases hv with hv | hv
    · have := q.shut v hv v' hv'
      simp only [List.mem_append, List.mem_cons, List.mem_singleton] at this ⊢
      rcases this with h | h | h
      · exact .inl (.inl h)
      · exact .inl (.inr (by simpa using h))
      · exact .inr (.inl h)
    · subst hv
      simp [hv']
  · have := pot_step (n := n) (adj := adj) (w := w) (r := r)
    have := q.pot
    simp only [List.length_append, List.length_singleton]
    omega
theorem que_end {a : Int} {d : List (List Int)} (q : Que n adj a d []) : ∀ w, w ∈ d ↔ P n adj a w := by
  intro w
  constructor
  · intro h; exact q.all w (by simp [h])
  · intro h
    induction h with
    | one => simpa using q.first
    | snoc _ hk ih => simpa using q.shut _ ih _ hk
theorem rem_one {a : Int} (h : a ∈ nodes n) : rem n [a] + 1 ≤ n := by
  have := (P_len (P.one (adj := fun _ _ => true) h)).1
  simp only [List.length_singleton] at this; omega
theorem found_best {a b : Int} {ps : List (Int × List Int)} {fd : List (List Int)} (hf : ∀ w, w ∈ fd ↔ P n adj a w ∧ w.getLastD 0 = b) (hp : ps.Perm (fd.map fun w => ((w.length : Int), w))) (hs : ps.Pairwise fun x y => lt y x = false) : Best n adj a b (ps.head?.map (·.2)) := by
  cases ps with
  | nil =>
    have := hp.symm.eq_nil
    have : fd = [] := by simpa using this
    subst this
    intro w hw hb
    have := (hf w).mpr ⟨hw, hb⟩
    simp at this
  | cons p ps =>
    have hm : p ∈ fd.map fun w => ((w.length : Int), w) := hp.mem_iff.mp List.mem_cons_self
    obtain ⟨w, hw, rfl⟩ := List.mem_map.mp hm
    obtain ⟨h1, h2⟩ := (hf w).mp hw
    refine ⟨h1, h2, fun v hv hvb => ?_⟩
    have := hp.mem_iff.mpr (List.mem_map.mpr ⟨v, (hf v).mpr ⟨hv, hvb⟩, rfl⟩)
    rcases List.mem_cons.mp this with e | e
    · rw [e]; exact irr _
    · exact (List.pairwise_cons.mp hs).1 _ e
end Pth

namespace Pu
open PySem PySem.Spec PyProof.Rows L2 Dat
section
variable {F : Nat → List W → PM W} {ρ : Env2} {σ σ1 σ2 σ3 : Strm}
theorem e_tix {a b : X'} {xs : List D} {y w : W} (h1 : pvE F a ρ σ = .ok (.v (.ptp xs)) σ1) (h2 : pvE F b ρ σ1 = .ok y σ2) (h3 : rd2 tixM (.v (.ptp xs)) y σ2 = .ok w σ3) : pvE F (.tix a b) ρ σ = .ok w σ3 := by
  show ((pvE F a ρ σ).bind fun x => match x with | .v (.ptp xs) => pbind (pvE F b ρ) fun y => rd2 tixM (.v (.ptp xs)) y | _ => pbad) = _
  rw [h1]; show ((pvE F b ρ σ1).bind fun y => rd2 tixM (.v (.ptp xs)) y) = _
  rw [h2]; exact h3
def at' (v : Int) (xs : List Int) : Nat := (firstAt (.int v) (xs.map .int)).getD 0
theorem first_ok {v : Int} : ∀ {xs : List Int}, v ∈ xs → ∃ j, firstAt (.int v) (xs.map D.int) = some j ∧ j < xs.length
  | x :: r, h => by
    show ∃ j, (if eqF (.int x) (.int v) then some 0 else (firstAt (.int v) (r.map D.int)).map (· + 1)) = some j ∧ _
    by_cases e : x = v
    · subst e
      exact ⟨0, by rw [if_pos (by show decide (x = x) = true; simp)], by simp⟩
    · have hr : v ∈ r := by
        rcases List.mem_cons.mp h with q | q
        · exact absurd q.symm e
        · exact q
      obtain ⟨j, h1, h2⟩ := first_ok hr
      refine ⟨j + 1, by rw [if_neg (by show ¬ decide (x = v) = true; simpa using e), h1]; rfl, by simpa using h2⟩
theorem at_lt' {v : Int} {xs : List Int} (h : v ∈ xs) : at' v xs < xs.length := by
  obtain ⟨j, h1, h2⟩ := first_ok h
  unfold at'; rw [h1]; exact h2
theorem p_tix {v : Int} {xs : List Int} (h : v ∈ xs) : rd2 tixM (.v (.ptp (xs.map D.int))) (.v (.int v)) σ = .ok (.v (.int (at' v xs))) σ := by
  obtain ⟨j, h1, _⟩ := first_ok h
  have hj : at' v xs = j := by unfold at'; rw [h1]; rfl
  refine lift_v (m := tixM (.ptp (xs.map D.int)) (.int v)) ?_
  show (if flatD (.int v) && (xs.map D.int).all flatD then (match firstAt (.int v) (xs.map D.int) with | some j => R.ok (D.int j) [] | none => .bad) else .bad) = _
  rw [flats_int, h1, hj]; rfl
/-- sorted({..}) by two for's -/
theorem e_ssc {elt : X'} {tg tg1 : Tg} {it it1 : I'} {ws ws1 : List Nat} {items : List D} {ns : List Int} (h1 : pvI F it ρ σ = .ok items σ1) (h2 : pvLc2 (pvE F elt) (pvTs F []) tg (wipeW ρ ws) (pvI F it1) (pvTs F []) tg1 ws1 items σ1 = .ok (ns.map D.int) σ2) (h3 : ns.length < 64) :
    pvE F (.ssc false elt tg it tg1 it1 ws ws1) ρ σ = .ok (.v (.fz ((dedI ns).map D.int))) σ2 := by
  show ((pvI F it ρ σ).bind fun items => pbind (pnox (pvLc2 (pvE F elt) (pvTs F []) tg (wipeW ρ ws) (pvI F it1) (pvTs F []) tg1 ws1 items)) fun ys => match setD ys with
      | some zs => if ys.length ≤ line then pret (if false then W.o zs else .v (.fz zs)) else pbad
      | none => pbad) = _
  rw [h1]
  show ((pnox (pvLc2 (pvE F elt) (pvTs F []) tg (wipeW ρ ws) (pvI F it1) (pvTs F []) tg1 ws1 items) σ1).bind fun ys => match setD ys with
      | some zs => if ys.length ≤ line then pret (if false then W.o zs else .v (.fz zs)) else pbad
      | none => pbad) = _
  unfold pnox
  rw [h2]
  have hi : ∀ l : List Int, asInts (l.map D.int) = some l := fun l => by
    induction l with
    | nil => rfl
    | cons x l ih => show (asInts (l.map D.int)).map (x :: ·) = _; rw [ih]; rfl
  have hs : setD (ns.map D.int) = some ((dedI ns).map D.int) := by
    unfold setD
    rw [hi]
    show (if ns.length < 64 then some ((dedI ns).map D.int) else none) = _
    rw [if_pos h3]
  show (match setD (ns.map D.int) with
      | some zs => if (ns.map D.int).length ≤ line then pret (if false then W.o zs else .v (.fz zs)) else pbad
      | none => pbad) σ2 = _
  rw [hs]
  show (if (ns.map D.int).length ≤ line then pret (if false then W.o ((dedI ns).map D.int) else .v (.fz ((dedI ns).map D.int))) else pbad) σ2 = _
  rw [if_pos (by simp [line_val]; omega)]; rfl
theorem p_tupP {xs : List D} : rds (bltM .tupleP) [.v (.fz xs)] σ = .ok (.v (.ptp xs)) σ := lift_v (m := tuplePM [.fz xs]) rfl
end
/-! ## rows -/
def rowsL (v : Nat) : Nat → List (List Int)
  | 0 => [[]]
  | m + 1 => (rowsL v m).flatMap fun r => (Pth.nodes v).map fun x => r ++ [x]
theorem mem_rows {v : Nat} : ∀ {m : Nat} {r : List Int}, r ∈ rowsL v m → r.length = m ∧ ∀ x ∈ r, 0 ≤ x ∧ x < v
  | 0, r, h => by
    have := List.mem_singleton.mp h
    subst this; simp
  | m + 1, r, h => by
    obtain ⟨q, hq, hr⟩ := List.mem_flatMap.mp h
    obtain ⟨x, hx, rfl⟩ := List.mem_map.mp hr
    obtain ⟨h1, h2⟩ := mem_rows hq
    refine ⟨by simp [h1], fun y hy => ?_⟩
    rcases List.mem_append.mp hy with hy | hy
    · exact h2 y hy
    · rw [List.mem_singleton.mp hy]; exact Pth.mem_nodes.mp hx
theorem rows_asc {v : Nat} : ∀ m : Nat, (rowsL v m).Pairwise fun a b => ltL lt a b = true
  | 0 => List.pairwise_singleton _ _
  | m + 1 => by
    unfold rowsL
    rw [List.pairwise_flatMap]
    constructor
    · intro r _
      rw [List.pairwise_map]
      refine Pth.nodes_asc.imp fun {a b} h => ?_
      rw [Pth.lt_snoc, ltL_cons, if_neg (by omega)]
      show decide (a < b) = true
      simp [h]
    · refine List.Pairwise.imp_of_mem ?_ (rows_asc m)
      intro a b ha hb hlt x hx y hy
      obtain ⟨c, _, rfl⟩ := List.mem_map.mp hx
      obtain ⟨d, _, rfl⟩ := List.mem_map.mp hy
      exact Pth.lt_app (by rw [(mem_rows ha).1, (mem_rows hb).1]) hlt
theorem rows_len {v : Nat} : ∀ m : Nat, (rowsL v m).length = v ^ m
  | 0 => rfl
  | m + 1 => by
    unfold rowsL
    rw [List.length_flatMap]
    have : ∀ l : List (List Int), (l.map fun r => ((Pth.nodes v).map fun x => r ++ [x]).length).sum = l.length * v := by
      intro l
      induction l with
      | nil => simp
      | cons a l ih => rw [List.map_cons, List.sum_cons, ih, List.length_cons, Nat.succ_mul, List.length_map]; simp only [Pth.nodes, List.length_map, List.length_range]; omega
    rw [this, rows_len m, Nat.pow_succ]
end Pu

namespace Hang
open Pu Dat
/-! what hangs together, among some nodes; first cycles -/
inductive Reach (adj : Int → Int → Bool) (A : List Int) (u : Int) : Int → Prop
  | self : Reach adj A u u
  | step {x y : Int} : Reach adj A u x → y ∈ A → adj x y = true → Reach adj A u y
variable {adj : Int → Int → Bool} {A : List Int} {u : Int}
open Classical in
/-- those of A that u hangs together with -/
noncomputable def part (adj : Int → Int → Bool) (A : List Int) (u : Int) : List Int := A.filter fun x => decide (Reach adj A u x)
theorem nodup_len : ∀ {xs ys : List Int}, xs.Nodup → (∀ x ∈ xs, x ∈ ys) → xs.length ≤ ys.length
  | [], _, _, _ => Nat.zero_le _
  | x :: r, ys, h, s => by
    obtain ⟨h1, h2⟩ := List.nodup_cons.mp h
    have hx := s x List.mem_cons_self
    have := nodup_len (xs := r) (ys := ys.erase x) h2 fun y hy => (List.mem_erase_of_ne (fun e => h1 (by rw [← e]; exact hy))).mpr (s y (List.mem_cons_of_mem _ hy))
    rw [List.length_erase_of_mem hx] at this
    have := List.length_pos_of_mem hx
    simp only [List.length_cons]; omega
open Classical in
theorem mem_part {x : Int} : x ∈ part adj A u ↔ x ∈ A ∧ Reach adj A u x := by
  unfold part
  rw [List.mem_filter, decide_eq_true_iff]
theorem reach_in (hu : u ∈ A) {x : Int} (h : Reach adj A u x) : x ∈ A := by
  cases h with
  | self => exact hu
  | step _ hy _ => exact hy
/-- shut sets hold all that is reached -/
theorem shut_reach {S : List Int} (hu : u ∈ S) (hs : ∀ x ∈ S, ∀ y ∈ A, adj x y = true → y ∈ S) {x : Int} (h : Reach adj A u x) : x ∈ S := by
  induction h with
  | self => exact hu
  | step _ hy ha ih => exact hs _ ih _ hy ha
/-- a turn of the program's loop -/
def grow (adj : Int → Int → Bool) (A S : List Int) : List Int := A.filter fun x => decide (x ∈ S) || S.any fun s => adj s x
def growN (adj : Int → Int → Bool) (A : List Int) (u : Int) : Nat → List Int
  | 0 => [u]
  | k + 1 => grow adj A (growN adj A u k)
theorem mem_grow {S : List Int} {x : Int} : x ∈ grow adj A S ↔ x ∈ A ∧ (x ∈ S ∨ ∃ s ∈ S, adj s x = true) := by
  unfold grow
  rw [List.mem_filter, Bool.or_eq_true, decide_eq_true_iff, List.any_eq_true]
theorem grow_reach (hu : u ∈ A) : ∀ k x, x ∈ growN adj A u k → Reach adj A u x
  | 0, x, h => by rw [List.mem_singleton.mp h]; exact .self
  | k + 1, x, h => by
    obtain ⟨hA, h | ⟨s, hs, ha⟩⟩ := mem_grow.mp h
    · exact grow_reach hu k x h
    · exact .step (grow_reach hu k s hs) hA ha
theorem grow_keep (hu : u ∈ A) (k : Nat) {x : Int} (h : x ∈ growN adj A u k) : x ∈ growN adj A u (k + 1) :=
  mem_grow.mpr ⟨reach_in hu (grow_reach hu k x h), .inl h⟩
theorem grow_self (hu : u ∈ A) : ∀ k, u ∈ growN adj A u k
  | 0 => List.mem_singleton.mpr rfl
  | k + 1 => grow_keep hu k (grow_self hu k)
/-- closed, or longer at each turn -/
theorem grow_long (hu : u ∈ A) (hA : A.Nodup) : ∀ k, (∀ x ∈ growN adj A u k, ∀ y ∈ A, adj x y = true → y ∈ growN adj A u k) ∨ k + 1 ≤ (growN adj A u k).length
  | 0 => .inr (by simp [growN])
  | k + 1 => by
    by_cases c : ∀ x ∈ growN adj A u k, ∀ y ∈ A, adj x y = true → y ∈ growN adj A u k
    · left
      have e : ∀ x, x ∈ growN adj A u (k + 1) ↔ x ∈ growN adj A u k := fun x => by
        constructor
        · intro h
          obtain ⟨hx, h | ⟨s, hs, ha⟩⟩ := mem_grow.mp h
          · exact h
          · exact c s hs x hx ha
        · exact grow_keep hu k
      intro x hx y hy ha
      exact (e y).mpr (c x ((e x).mp hx) y hy ha)
    · right
      have h1 := (grow_long hu hA k).resolve_left c
      simp only [Classical.not_forall] at c
      obtain ⟨x, hx, y, hy, ha, hn⟩ := c
      have ndk : (growN adj A u k).Nodup := by
        cases k with
        | zero => simp [growN]
        | succ k => exact hA.filter _
      have nd1 : (growN adj A u (k + 1)).Nodup := hA.filter _
      have sub : (y :: growN adj A u k).length ≤ (growN adj A u (k + 1)).length := by
        refine nodup_len (List.nodup_cons.mpr ⟨hn, ndk⟩) fun z hz => ?_
        rcases List.mem_cons.mp hz with rfl | hz
        · exact mem_grow.mpr ⟨hy, .inr ⟨x, hx, ha⟩⟩
        · exact grow_keep hu k hz
      simp only [List.length_cons] at sub
      omega
theorem grow_len (hu : u ∈ A) : ∀ k, 1 ≤ A.length → (growN adj A u k).length ≤ A.length
  | 0, h => by simpa [growN] using h
  | k + 1, _ => List.length_filter_le _ _
open Classical in
/-- the program's answer -/
theorem grow_part (hu : u ∈ A) (hA : A.Nodup) {k : Nat} (hk : A.length ≤ k) (hk1 : 1 ≤ k) : growN adj A u k = part adj A u := by
  have pos : 1 ≤ A.length := List.length_pos_of_mem hu
  have shut := (grow_long (adj := adj) hu hA k).resolve_right (by have := grow_len (adj := adj) hu k pos; omega)
  cases k with
  | zero => omega
  | succ k =>
    show grow adj A (growN adj A u k) = _
    unfold grow part
    refine List.filter_congr fun x hx => ?_
    rw [Bool.eq_iff_iff, decide_eq_true_iff]
    have : (decide (x ∈ growN adj A u k) || (growN adj A u k).any fun s => adj s x) = true ↔ x ∈ growN adj A u (k + 1) := by
      rw [show growN adj A u (k + 1) = grow adj A (growN adj A u k) from rfl, mem_grow, Bool.or_eq_true, decide_eq_true_iff, List.any_eq_true]
      exact ⟨fun h => ⟨hx, h⟩, fun h => h.2⟩
    rw [this]
    exact ⟨grow_reach hu _ x, fun h => shut_reach (grow_self hu _) shut h⟩
/-- the law's queue: found, its first k looked at -/
structure HQ (adj : Int → Int → Bool) (A : List Int) (u : Int) (k : Nat) (fd : List Int) : Prop where
  first : u ∈ fd
  nd : fd.Nodup
  sub : ∀ x ∈ fd, x ∈ A ∧ Reach adj A u x
  shut : ∀ x ∈ fd.take k, ∀ y ∈ A, adj x y = true → y ∈ fd
theorem hq0 (hu : u ∈ A) : HQ adj A u 0 [u] := ⟨by simp, by simp, fun x hx => by rw [List.mem_singleton.mp hx]; exact ⟨hu, .self⟩, by simp⟩
/-- the neighbours of the k-th are put behind, each once -/
def push (A : List Int) (fd : List Int) : List Int → List Int
  | [] => fd
  | y :: ys => if y ∈ A ∧ y ∉ fd then push A (fd ++ [y]) ys else push A fd ys
theorem push_ok {k : Nat} {x : Int} : ∀ {ys fd : List Int}, HQ adj A u k fd → fd[k]? = some x → (∀ y ∈ ys, adj x y = true) →
    HQ adj A u k (push A fd ys) ∧ (push A fd ys)[k]? = some x ∧ (∀ z ∈ fd, z ∈ push A fd ys) ∧ ∀ y ∈ ys, y ∈ A → y ∈ push A fd ys
  | [], fd, q, hk, _ => ⟨q, hk, fun _ h => h, by simp⟩
  | y :: ys, fd, q, hk, h => by
    unfold push
    have hx : x ∈ fd := List.mem_of_getElem? hk
    have hlt : k < fd.length := (List.getElem?_eq_some_iff.mp hk).1
    by_cases c : y ∈ A ∧ y ∉ fd
    · rw [if_pos c]
      have q' : HQ adj A u k (fd ++ [y]) := by
        refine ⟨by simp [q.first], ?_, fun z hz => ?_, fun z hz w hw ha => ?_⟩
        · rw [List.nodup_append]
          exact ⟨q.nd, by simp, fun a ha b hb e => c.2 (by rw [← List.mem_singleton.mp hb, ← e]; exact ha)⟩
        · rcases List.mem_append.mp hz with hz | hz
          · exact q.sub z hz
          · rw [List.mem_singleton.mp hz]
            exact ⟨c.1, .step (q.sub x hx).2 c.1 (h y List.mem_cons_self)⟩
        · rw [List.take_append_of_le_length (by omega)] at hz
          exact List.mem_append.mpr (.inl (q.shut z hz w hw ha))
      obtain ⟨r1, r2, r3, r4⟩ := push_ok (ys := ys) q' (by rw [List.getElem?_append_left hlt]; exact hk) fun z hz => h z (List.mem_cons_of_mem _ hz)
      refine ⟨r1, r2, fun z hz => r3 z (by simp [hz]), fun z hz hA => ?_⟩
      rcases List.mem_cons.mp hz with rfl | hz
      · exact r3 z (by simp)
      · exact r4 z hz hA
    · rw [if_neg c]
      obtain ⟨r1, r2, r3, r4⟩ := push_ok (ys := ys) q hk fun z hz => h z (List.mem_cons_of_mem _ hz)
      refine ⟨r1, r2, r3, fun z hz hA => ?_⟩
      rcases List.mem_cons.mp hz with rfl | hz
      · by_cases m : z ∈ fd
        · exact r3 z m
        · exact absurd ⟨hA, m⟩ c
      · exact r4 z hz hA
theorem hq_step {k : Nat} {x : Int} {ys fd : List Int} (q : HQ adj A u k fd) (hk : fd[k]? = some x) (h : ∀ y, y ∈ ys ↔ adj x y = true ∧ y ∈ ys) (all : ∀ y ∈ A, adj x y = true → y ∈ ys) : HQ adj A u (k + 1) (push A fd ys) := by
  obtain ⟨r1, r2, r3, r4⟩ := push_ok (ys := ys) q hk fun y hy => ((h y).mp hy).1
  refine ⟨r1.first, r1.nd, r1.sub, fun z hz w hw ha => ?_⟩
  rw [List.take_add_one, r2] at hz
  rcases List.mem_append.mp hz with hz | hz
  · exact r1.shut z hz w hw ha
  · simp only [Option.toList_some, List.mem_singleton] at hz
    subst hz
    exact r4 w (all w hw ha) hw
/-- at its end: what was found, ascending -/
theorem hq_end {k : Nat} {fd : List Int} (q : HQ adj A u k fd) (hk : fd.length ≤ k) (hu : u ∈ A) (hA : A.Pairwise (· < ·)) : sortI fd = part adj A u := by
  refine sorted_eq ?_ (hA.filter _)
  have nd : (part adj A u).Nodup := (hA.filter _).imp fun {a b} h => by omega
  rw [List.perm_ext_iff_of_nodup nd q.nd]
  intro x
  rw [mem_part]
  refine ⟨fun h => ?_, fun h => q.sub x h⟩
  refine shut_reach q.first (fun z hz y hy ha => q.shut z ?_ y hy ha) h.2
  rw [List.take_of_length_le hk]; exact hz
theorem hq_len {k : Nat} {fd : List Int} (q : HQ adj A u k fd) : fd.length ≤ A.length := nodup_len q.nd fun x hx => (q.sub x hx).1
end Hang

namespace Cyc
open Pu Dat Pth
/-! simple paths, and cycles -/
def Chn (adj : Int → Int → Bool) : List Int → Prop
  | [] => True
  | [_] => True
  | x :: y :: r => adj x y = true ∧ Chn adj (y :: r)
variable {n : Nat} {adj : Int → Int → Bool}
theorem chn_snoc {b : Int} : ∀ {w : List Int}, w ≠ [] → (Chn adj (w ++ [b]) ↔ Chn adj w ∧ adj (w.getLastD 0) b = true)
  | [], h => absurd rfl h
  | [x], _ => by simp [Chn]
  | x :: y :: r, _ => by
    have ih := chn_snoc (b := b) (w := y :: r) (by simp)
    show (adj x y = true ∧ Chn adj (y :: r ++ [b])) ↔ (adj x y = true ∧ Chn adj (y :: r)) ∧ _
    rw [ih, show (x :: y :: r).getLastD 0 = (y :: r).getLastD 0 by simp [List.getLastD_cons]]
    constructor
    · rintro ⟨h1, h2, h3⟩; exact ⟨⟨h1, h2⟩, h3⟩
    · rintro ⟨⟨h1, h2⟩, h3⟩; exact ⟨h1, h2, h3⟩
structure SP (n : Nat) (adj : Int → Int → Bool) (w : List Int) : Prop where
  ne : w ≠ []
  nd : w.Nodup
  ok : ∀ x ∈ w, x ∈ nodes n
  ch : Chn adj w
theorem SP_of_P {a : Int} {w : List Int} (h : P n adj a w) : SP n adj w := by
  induction h with
  | one h => exact ⟨by simp, by simp, by simpa using h, trivial⟩
  | @snoc w w' p hk ih =>
    obtain ⟨b, hb, rfl⟩ := List.mem_map.mp hk
    obtain ⟨h1, h2⟩ := List.mem_filter.mp hb
    obtain ⟨h3, h4⟩ := List.mem_filter.mp h1
    have h2 : b ∉ w := by simpa using h2
    refine ⟨by simp, ?_, fun x hx => ?_, (chn_snoc ih.ne).mpr ⟨ih.ch, h4⟩⟩
    · rw [List.nodup_append]
      exact ⟨ih.nd, by simp, fun x hx y hy e => h2 (by rw [← List.mem_singleton.mp hy, ← e]; exact hx)⟩
    · rcases List.mem_append.mp hx with hx | hx
      · exact ih.ok x hx
      · rw [List.mem_singleton.mp hx]; exact h3
theorem P_of_SP : ∀ (k : Nat) {w : List Int}, w.length = k + 1 → SP n adj w → P n adj (w.headD 0) w
  | 0, w, hl, s => by
    match w, hl with
    | [x], _ => exact .one (s.ok x (by simp))
  | k + 1, w, hl, s => by
    have e := List.dropLast_concat_getLast s.ne
    generalize hv : w.dropLast = v at e
    generalize w.getLast s.ne = b at e
    subst e
    have hvl : v.length = k + 1 := by simpa using hl
    have hne : v ≠ [] := by intro e; rw [e] at hvl; simp at hvl
    obtain ⟨n1, n2, n3⟩ := List.nodup_append.mp s.nd
    obtain ⟨c1, c2⟩ := (chn_snoc hne).mp s.ch
    have p := P_of_SP k (w := v) hvl ⟨hne, n1, fun x hx => s.ok x (by simp [hx]), c1⟩
    have hh : (v ++ [b]).headD 0 = v.headD 0 := by
      cases v with
      | nil => exact absurd rfl hne
      | cons x r => rfl
    rw [hh]
    refine .snoc p (List.mem_map.mpr ⟨b, List.mem_filter.mpr ⟨List.mem_filter.mpr ⟨s.ok b (by simp), c2⟩, ?_⟩, rfl⟩)
    have : b ∉ v := fun h => n3 b h b (by simp) rfl
    simpa using this
theorem P_iff {a : Int} {w : List Int} : P n adj a w ↔ SP n adj w ∧ w.headD 0 = a := by
  constructor
  · intro h
    refine ⟨SP_of_P h, ?_⟩
    have := (P_len h).2.2.1
    cases w with
    | nil => simp at this
    | cons x r => simpa using this
  · rintro ⟨s, rfl⟩
    have := List.length_pos_iff.mpr s.ne
    exact P_of_SP (w.length - 1) (by omega) s
theorem chn_app : ∀ {u v : List Int}, u ≠ [] → v ≠ [] → (Chn adj (u ++ v) ↔ Chn adj u ∧ adj (u.getLastD 0) (v.headD 0) = true ∧ Chn adj v)
  | [], v, h, _ => absurd rfl h
  | [x], y :: v, _, _ => by simp [Chn]
  | [x], [], _, h => absurd rfl h
  | x :: y :: r, v, _, hv => by
    have ih := chn_app (u := y :: r) (v := v) (by simp) hv
    show (adj x y = true ∧ Chn adj (y :: r ++ v)) ↔ (adj x y = true ∧ Chn adj (y :: r)) ∧ _
    rw [ih, show (x :: y :: r).getLastD 0 = (y :: r).getLastD 0 by simp [List.getLastD_cons]]
    constructor
    · rintro ⟨h1, h2, h3⟩; exact ⟨⟨h1, h2⟩, h3⟩
    · rintro ⟨⟨h1, h2⟩, h3⟩; exact ⟨h1, h2, h3⟩
theorem chn_rev (sym : ∀ a b, adj a b = adj b a) : ∀ {w : List Int}, Chn adj w → Chn adj w.reverse
  | [], _ => trivial
  | [x], _ => trivial
  | x :: y :: r, h => by
    have ih := chn_rev sym (w := y :: r) h.2
    rw [List.reverse_cons]
    refine (chn_snoc (by simp)).mpr ⟨ih, ?_⟩
    have : (y :: r).reverse.getLastD 0 = y := by simp
    rw [this, sym]; exact h.1
theorem SP_rev (sym : ∀ a b, adj a b = adj b a) {w : List Int} (s : SP n adj w) : SP n adj w.reverse :=
  ⟨by simpa using s.ne, (List.reverse_perm w).nodup_iff.mpr s.nd, fun x hx => s.ok x (by simpa using hx), chn_rev sym s.ch⟩
theorem head_rev {w : List Int} : w.reverse.headD 0 = w.getLastD 0 := by
  cases h : w.getLast? with
  | none => simp [List.getLast?_eq_none_iff.mp h]
  | some x =>
    rw [List.getLastD_eq_getLast?, h]
    have : w.reverse.head? = some x := by rw [List.head?_reverse, h]
    cases e : w.reverse with
    | nil => rw [e] at this; simp at this
    | cons y r => rw [e] at this; simpa using this
theorem last_rev {w : List Int} : w.reverse.getLastD 0 = w.headD 0 := by
  have := head_rev (w := w.reverse)
  rw [List.reverse_reverse] at this
  exact this.symm
/-- a cycle: a simple path of three nodes or more whose ends are neighbours -/
def Cycle (n : Nat) (adj : Int → Int → Bool) (w : List Int) : Prop := SP n adj w ∧ 3 ≤ w.length ∧ adj (w.headD 0) (w.getLastD 0) = true
theorem Cycle.rev (sym : ∀ a b, adj a b = adj b a) {w : List Int} (c : Cycle n adj w) : Cycle n adj w.reverse :=
  ⟨SP_rev sym c.1, by simpa using c.2.1, by rw [head_rev, last_rev, sym]; exact c.2.2⟩
/-- the program's: the first of the ways with ends that are neighbours -/
theorem first_none {k : Nat} (hk : n ≤ k + 2) : ((List.range k).findSome? fun m => (way n adj (m + 2)).find? fun w => adj (w.headD 0) (w.getLastD 0)) = none ↔ ∀ w, ¬ Cycle n adj w := by
  rw [List.findSome?_eq_none_iff]
  constructor
  · rintro h w ⟨s, l3, ha⟩
    have p := P_iff.mpr ⟨s, rfl⟩
    have hl := (P_len p).1
    have h1 := h (w.length - 3) (List.mem_range.mpr (by omega))
    have h2 := List.find?_eq_none.mp h1 w (mem_way.mpr ⟨⟨_, p⟩, by omega⟩)
    exact h2 ha
  · intro h m _
    refine List.find?_eq_none.mpr fun w hw ha => ?_
    obtain ⟨⟨a, p⟩, hl⟩ := mem_way.mp hw
    exact h w ⟨(P_iff.mp p).1, by omega, ha⟩
/-- the law's: a way between the ends of an edge with three nodes or more -/
theorem law_none {es : List (Int × Int)} (sym : ∀ a b, adj a b = adj b a) (he : ∀ e ∈ es, e.1 < e.2) (ha : ∀ a b, a < b → (adj a b = true ↔ (a, b) ∈ es)) (irr : ∀ a, adj a a = false) :
    (∀ e ∈ es, ∀ w, P n adj e.1 w → w.getLastD 0 = e.2 → ¬ 2 < w.length) ↔ ∀ w, ¬ Cycle n adj w := by
  constructor
  · intro h w c
    obtain ⟨s, l3, hadj⟩ := c
    rcases Int.lt_trichotomy (w.headD 0) (w.getLastD 0) with q | q | q
    · exact h (w.headD 0, w.getLastD 0) ((ha _ _ q).mp hadj) w (P_iff.mpr ⟨s, rfl⟩) rfl (by omega)
    · rw [q, irr] at hadj; cases hadj
    · have hadj' : adj (w.getLastD 0) (w.headD 0) = true := by rw [sym]; exact hadj
      exact h (w.getLastD 0, w.headD 0) ((ha _ _ q).mp hadj') w.reverse (P_iff.mpr ⟨SP_rev sym s, head_rev⟩) last_rev (by rw [List.length_reverse]; omega)
  · intro h e hm w p hl hw
    obtain ⟨s, hh⟩ := P_iff.mp p
    refine h w ⟨s, by omega, ?_⟩
    rw [hh, hl]
    exact (ha _ _ (he e hm)).mpr hm
end Cyc

namespace Forest
open Pu Dat Pth Hang Cyc
/-! without a cycle: nodes and edges counted -/
/-- a graph's edges and its neighbours -/
structure Gr (n : Nat) (es : List (Int × Int)) (adj : Int → Int → Bool) : Prop where
  nd : es.Nodup
  lt : ∀ e ∈ es, e.1 < e.2
  ad : ∀ a b, a < b → (adj a b = true ↔ (a, b) ∈ es)
  sym : ∀ a b, adj a b = adj b a
  irr : ∀ a, adj a a = false
def both (S : List Int) (e : Int × Int) : Bool := decide (e.1 ∈ S) && decide (e.2 ∈ S)
def ec (es : List (Int × Int)) (S : List Int) : Nat := (es.filter (both S)).length
def tip (y : Int) (S : List Int) (e : Int × Int) : Bool := (decide (e.1 = y) && decide (e.2 ∈ S)) || (decide (e.2 = y) && decide (e.1 ∈ S))
theorem cnt_or {α : Type} {p q : α → Bool} : ∀ {es : List α}, (∀ e ∈ es, ¬ (p e = true ∧ q e = true)) → (es.filter fun e => p e || q e).length = (es.filter p).length + (es.filter q).length
  | [], _ => rfl
  | e :: es, h => by
    have ih := cnt_or (p := p) (q := q) (es := es) fun x hx => h x (List.mem_cons_of_mem _ hx)
    have he := h e List.mem_cons_self
    cases hp : p e <;> cases hq : q e <;> simp [List.filter_cons, hp, hq] at he ih ⊢ <;> omega
variable {n : Nat} {es : List (Int × Int)} {adj : Int → Int → Bool}
theorem ec_congr {S T : List Int} (h : ∀ x, x ∈ S ↔ x ∈ T) : ec es S = ec es T := by
  unfold ec
  congr 2
  funext e
  unfold both
  rw [decide_eq_decide.mpr (h e.1), decide_eq_decide.mpr (h e.2)]
theorem ec_cons (G : Gr n es adj) {y : Int} {S : List Int} (hy : y ∉ S) : ec es (y :: S) = ec es S + (es.filter (tip y S)).length := by
  unfold ec
  rw [← cnt_or (p := both S) (q := tip y S)]
  · congr 1
    refine List.filter_congr fun e he => ?_
    have lt := G.lt e he
    rw [Bool.eq_iff_iff]
    unfold both tip
    simp only [Bool.and_eq_true, Bool.or_eq_true, decide_eq_true_iff, List.mem_cons]
    constructor
    · rintro ⟨h1 | h1, h2 | h2⟩
      · omega
      · exact .inr (.inl ⟨h1, h2⟩)
      · exact .inr (.inr ⟨h2, h1⟩)
      · exact .inl ⟨h1, h2⟩
    · rintro (⟨h1, h2⟩ | ⟨h1, h2⟩ | ⟨h1, h2⟩)
      · exact ⟨.inr h1, .inr h2⟩
      · exact ⟨.inl h1, .inr h2⟩
      · exact ⟨.inr h2, .inl h1⟩
  · rintro e he ⟨h1, h2⟩
    unfold both at h1
    unfold tip at h2
    simp only [Bool.and_eq_true, Bool.or_eq_true, decide_eq_true_iff] at h1 h2
    rcases h2 with ⟨q, _⟩ | ⟨q, _⟩
    · exact hy (q ▸ h1.1)
    · exact hy (q ▸ h1.2)
theorem one_only {α : Type} {e0 : α} : ∀ {l : List α}, l.Nodup → e0 ∈ l → (∀ e ∈ l, e = e0) → l.length = 1
  | [], _, h, _ => by simp at h
  | [_], _, _, _ => rfl
  | a :: b :: r, nd, _, h => by
    have h1 := h a (by simp)
    have h2 := h b (by simp)
    have := (List.nodup_cons.mp nd).1
    rw [h1, h2] at this
    exact absurd List.mem_cons_self this
theorem adj_of (G : Gr n es adj) {a b : Int} : adj a b = true ↔ (a, b) ∈ es ∨ (b, a) ∈ es := by
  rcases Int.lt_trichotomy a b with q | q | q
  · rw [G.ad a b q]
    refine ⟨.inl, fun h => h.resolve_right fun h => ?_⟩
    have := G.lt _ h; simp only at this; omega
  · subst q
    rw [G.irr]
    refine ⟨fun h => (by cases h), fun h => ?_⟩
    rcases h with h | h <;> (have := G.lt _ h; simp only at this; omega)
  · rw [G.sym, G.ad b a q]
    refine ⟨.inr, fun h => h.resolve_left fun h => ?_⟩
    have := G.lt _ h; simp only at this; omega
/-- a tree within A that u is in -/
structure TreeS (n : Nat) (es : List (Int × Int)) (adj : Int → Int → Bool) (A : List Int) (u : Int) (S : List Int) : Prop where
  nd : S.Nodup
  sub : ∀ x ∈ S, x ∈ A ∧ Reach adj A u x
  u : u ∈ S
  way : ∀ s ∈ S, ∀ t ∈ S, ∃ w, SP n adj w ∧ w.headD 0 = s ∧ w.getLastD 0 = t ∧ ∀ x ∈ w, x ∈ S
  cnt : ec es S + 1 = S.length
theorem tree0 (G : Gr n es adj) {A : List Int} {u : Int} (hu : u ∈ A) (hA : ∀ x ∈ A, x ∈ nodes n) : TreeS n es adj A u [u] := by
  refine ⟨by simp, fun x hx => by rw [List.mem_singleton.mp hx]; exact ⟨hu, .self⟩, by simp, fun s hs t ht => ?_, ?_⟩
  · rw [List.mem_singleton.mp hs, List.mem_singleton.mp ht]
    exact ⟨[u], ⟨by simp, by simp, by simpa using hA u hu, trivial⟩, rfl, rfl, fun x h => h⟩
  · have : es.filter (both [u]) = [] := by
      rw [List.filter_eq_nil_iff]
      intro e he h
      unfold both at h
      simp only [Bool.and_eq_true, decide_eq_true_iff, List.mem_singleton] at h
      have := G.lt e he
      omega
    unfold ec
    rw [this]; rfl
theorem head_ne {w : List Int} (h : w ≠ []) : w.headD 0 ∈ w ∧ w.getLastD 0 ∈ w := by
  cases w with
  | nil => exact absurd rfl h
  | cons x r =>
    refine ⟨by simp, ?_⟩
    rw [List.getLastD_eq_getLast?, List.getLast?_eq_some_getLast (by simp)]
    exact List.getLast_mem _
theorem last_cons {y : Int} {w : List Int} (h : w ≠ []) : (y :: w).getLastD 0 = w.getLastD 0 := by
  cases w with
  | nil => exact absurd rfl h
  | cons x r => simp [List.getLastD_cons]
theorem sp_cons {y : Int} {w : List Int} (s : SP n adj w) (hy : y ∈ nodes n) (hn : y ∉ w) (ha : adj y (w.headD 0) = true) : SP n adj (y :: w) := by
  refine ⟨by simp, List.nodup_cons.mpr ⟨hn, s.nd⟩, fun x hx => ?_, ?_⟩
  · rcases List.mem_cons.mp hx with rfl | hx
    · exact hy
    · exact s.ok x hx
  · have hne := s.ne
    have hch := s.ch
    cases w with
    | nil => exact absurd rfl hne
    | cons x r => exact ⟨ha, hch⟩
theorem tree_step (G : Gr n es adj) (ac : ∀ w, ¬ Cycle n adj w) {A : List Int} (hA : ∀ x ∈ A, x ∈ nodes n) {u y s : Int} {S : List Int} (T : TreeS n es adj A u S) (hs : s ∈ S) (hy : y ∈ A) (hn : y ∉ S) (ha : adj s y = true) : TreeS n es adj A u (y :: S) := by
  have uniq : ∀ t ∈ S, adj t y = true → t = s := fun t ht hty => by
    by_cases e : t = s
    · exact e
    · obtain ⟨w, sp, hh, hl, hin⟩ := T.way s hs t ht
      refine absurd ?_ (ac (y :: w))
      refine ⟨sp_cons sp (hA y hy) (fun h => hn (hin y h)) (by rw [hh, G.sym]; exact ha), ?_, ?_⟩
      · have hne := sp.ne
        match w, hne, hh, hl with
        | [x], _, hh, hl => exact absurd (by rw [← hl, ← hh]; rfl) e
        | _ :: _ :: _, _, _, _ => simp
      · rw [last_cons sp.ne, hl]
        show adj y t = true
        rw [G.sym]; exact hty
  refine ⟨List.nodup_cons.mpr ⟨hn, T.nd⟩, fun x hx => ?_, List.mem_cons_of_mem _ T.u, fun a ha' b hb => ?_, ?_⟩
  · rcases List.mem_cons.mp hx with rfl | hx
    · exact ⟨hy, .step (T.sub s hs).2 hy ha⟩
    · exact T.sub x hx
  · have one : ∀ t ∈ S, ∃ w, SP n adj w ∧ w.headD 0 = y ∧ w.getLastD 0 = t ∧ ∀ x ∈ w, x ∈ y :: S := fun t ht => by
      obtain ⟨w, sp, hh, hl, hin⟩ := T.way s hs t ht
      refine ⟨y :: w, sp_cons sp (hA y hy) (fun h => hn (hin y h)) (by rw [hh, G.sym]; exact ha), rfl, by rw [last_cons sp.ne, hl], fun x hx => ?_⟩
      rcases List.mem_cons.mp hx with rfl | hx
      · exact List.mem_cons_self
      · exact List.mem_cons_of_mem _ (hin x hx)
    rcases List.mem_cons.mp ha' with rfl | ha2
    · rcases List.mem_cons.mp hb with rfl | hb
      · exact ⟨[b], ⟨by simp, by simp, by simpa using hA b hy, trivial⟩, rfl, rfl, fun x h => by rw [List.mem_singleton.mp h]; exact List.mem_cons_self⟩
      · exact one b hb
    · rcases List.mem_cons.mp hb with rfl | hb
      · obtain ⟨w, sp, hh, hl, hin⟩ := one a ha2
        exact ⟨w.reverse, SP_rev G.sym sp, by rw [head_rev, hl], by rw [last_rev, hh], fun x hx => hin x (by simpa using hx)⟩
      · obtain ⟨w, sp, hh, hl, hin⟩ := T.way a ha2 b hb
        exact ⟨w, sp, hh, hl, fun x hx => List.mem_cons_of_mem _ (hin x hx)⟩
  · rw [ec_cons G hn]
    have hc := T.cnt
    have hsy : s ≠ y := fun e => hn (e ▸ hs)
    have one : (es.filter (tip y S)).length = 1 := by
      rcases Int.lt_trichotomy s y with q | q | q
      · refine one_only (e0 := (s, y)) (G.nd.filter _) (List.mem_filter.mpr ⟨(G.ad s y q).mp ha, by simp [tip, hs]⟩) fun e he => ?_
        obtain ⟨h1, h2⟩ := List.mem_filter.mp he
        unfold tip at h2
        simp only [Bool.and_eq_true, Bool.or_eq_true, decide_eq_true_iff] at h2
        have lt := G.lt e h1
        rcases h2 with ⟨e1, e2⟩ | ⟨e1, e2⟩
        · have := uniq e.2 e2 ((adj_of G).mpr (.inr (by rw [← e1]; exact h1)))
          omega
        · have := uniq e.1 e2 ((adj_of G).mpr (.inl (by rw [← e1]; exact h1)))
          exact Prod.ext this e1
      · exact absurd q hsy
      · have ha' : adj y s = true := by rw [G.sym]; exact ha
        refine one_only (e0 := (y, s)) (G.nd.filter _) (List.mem_filter.mpr ⟨(G.ad y s q).mp ha', by simp [tip, hs]⟩) fun e he => ?_
        obtain ⟨h1, h2⟩ := List.mem_filter.mp he
        unfold tip at h2
        simp only [Bool.and_eq_true, Bool.or_eq_true, decide_eq_true_iff] at h2
        have lt := G.lt e h1
        rcases h2 with ⟨e1, e2⟩ | ⟨e1, e2⟩
        · have := uniq e.2 e2 ((adj_of G).mpr (.inr (by rw [← e1]; exact h1)))
          exact Prod.ext e1 this
        · have := uniq e.1 e2 ((adj_of G).mpr (.inl (by rw [← e1]; exact h1)))
          omega
    rw [one, List.length_cons]; omega
theorem tree_all (G : Gr n es adj) (ac : ∀ w, ¬ Cycle n adj w) {A : List Int} (hA : ∀ x ∈ A, x ∈ nodes n) {u : Int} : ∀ (k : Nat) {S : List Int}, TreeS n es adj A u S → A.length ≤ S.length + k →
    ∃ S', TreeS n es adj A u S' ∧ ∀ x ∈ S', ∀ y ∈ A, adj x y = true → y ∈ S' := by
  intro k
  induction k with
  | zero =>
    intro S T hl
    refine ⟨S, T, fun x hx y hy ha => ?_⟩
    by_cases hn : y ∈ S
    · exact hn
    · have := nodup_len (tree_step G ac hA T hx hy hn ha).nd fun z hz => ((tree_step G ac hA T hx hy hn ha).sub z hz).1
      simp only [List.length_cons] at this; omega
  | succ k ih =>
    intro S T hl
    by_cases c : ∀ x ∈ S, ∀ y ∈ A, adj x y = true → y ∈ S
    · exact ⟨S, T, c⟩
    · simp only [Classical.not_forall] at c
      obtain ⟨x, hx, y, hy, ha, hn⟩ := c
      exact ih (tree_step G ac hA T hx hy hn ha) (by simp only [List.length_cons]; omega)
/-- what hangs together is a tree -/
theorem part_count (G : Gr n es adj) (ac : ∀ w, ¬ Cycle n adj w) {A : List Int} (hA : ∀ x ∈ A, x ∈ nodes n) (nd : A.Nodup) {u : Int} (hu : u ∈ A) : ec es (part adj A u) + 1 = (part adj A u).length := by
  obtain ⟨S, T, shut⟩ := tree_all G ac hA A.length (tree0 G hu hA) (by omega)
  have e : ∀ x, x ∈ part adj A u ↔ x ∈ S := fun x => by
    rw [mem_part]
    exact ⟨fun h => shut_reach T.u shut h.2, fun h => T.sub x h⟩
  rw [ec_congr e, T.cnt]
  have p : (part adj A u).Perm S := (List.perm_ext_iff_of_nodup (nd.filter _) T.nd).mpr e
  exact p.length_eq.symm
/-- nodes less edges: at least one, and one exactly if all hang together -/
theorem forest (G : Gr n es adj) (ac : ∀ w, ¬ Cycle n adj w) : ∀ (k : Nat) {A : List Int}, A.length ≤ k → (∀ x ∈ A, x ∈ nodes n) → A.Nodup → A ≠ [] → ec es A + 1 ≤ A.length ∧ ∀ u ∈ A, (ec es A + 1 = A.length ↔ part adj A u = A) := by
  intro k
  induction k with
  | zero =>
    intro A hl _ _ hne
    exact absurd (List.eq_nil_of_length_eq_zero (by omega)) hne
  | succ k ih =>
    intro A hl hA nd hne
    have key : ∀ u ∈ A, ec es A + 1 ≤ A.length ∧ (ec es A + 1 = A.length ↔ part adj A u = A) := fun u hu => by
      have pc := part_count G ac hA nd hu
      have hpu : u ∈ part adj A u := mem_part.mpr ⟨hu, .self⟩
      have hsub : (part adj A u).Sublist A := List.filter_sublist
      by_cases c : part adj A u = A
      · rw [c] at pc
        exact ⟨by omega, by rw [c]; exact ⟨fun _ => rfl, fun _ => pc⟩⟩
      · let B := A.filter fun x => !decide (x ∈ part adj A u)
        have hB : ∀ x, x ∈ B ↔ x ∈ A ∧ x ∉ part adj A u := fun x => by simp [B]
        have lenB : (part adj A u).length + B.length = A.length := by
          have h1 : (A.filter fun x => decide (x ∈ part adj A u)).length = (part adj A u).length := by
            refine (List.Perm.length_eq ((List.perm_ext_iff_of_nodup (nd.filter _) (nd.filter _)).mpr fun x => ?_))
            rw [List.mem_filter, decide_eq_true_iff]
            exact ⟨fun h => h.2, fun h => ⟨(mem_part.mp h).1, h⟩⟩
          have h2 := cnt_or (p := fun x => decide (x ∈ part adj A u)) (q := fun x => !decide (x ∈ part adj A u)) (es := A) fun e _ h => by simp at h
          have h3 : (A.filter fun x => decide (x ∈ part adj A u) || !decide (x ∈ part adj A u)) = A := List.filter_eq_self.mpr fun x _ => by simp
          rw [h3, h1] at h2
          exact h2.symm
        have neB : B ≠ [] := fun e => by
          rw [e] at lenB
          exact c (hsub.eq_of_length (by simpa using lenB))
        have posP := List.length_pos_of_mem hpu
        obtain ⟨i1, _⟩ := ih (A := B) (by omega) (fun x hx => hA x ((hB x).mp hx).1) (nd.filter _) neB
        have split : ec es A = ec es (part adj A u) + ec es B := by
          unfold ec
          rw [← cnt_or (p := both (part adj A u)) (q := both B)]
          · congr 1
            refine List.filter_congr fun e he => ?_
            rw [Bool.eq_iff_iff]
            unfold both
            simp only [Bool.and_eq_true, Bool.or_eq_true, decide_eq_true_iff]
            have link : adj e.1 e.2 = true := (adj_of G).mpr (.inl he)
            constructor
            · rintro ⟨h1, h2⟩
              by_cases q : e.1 ∈ part adj A u
              · exact .inl ⟨q, mem_part.mpr ⟨h2, .step (mem_part.mp q).2 h2 link⟩⟩
              · refine .inr ⟨(hB _).mpr ⟨h1, q⟩, (hB _).mpr ⟨h2, fun r => q (mem_part.mpr ⟨h1, .step (mem_part.mp r).2 h1 (by rw [G.sym]; exact link)⟩)⟩⟩
            · rintro (⟨h1, h2⟩ | ⟨h1, h2⟩)
              · exact ⟨(mem_part.mp h1).1, (mem_part.mp h2).1⟩
              · exact ⟨((hB _).mp h1).1, ((hB _).mp h2).1⟩
          · rintro e he ⟨h1, h2⟩
            unfold both at h1 h2
            simp only [Bool.and_eq_true, decide_eq_true_iff] at h1 h2
            exact ((hB _).mp h2.1).2 h1.1
        refine ⟨by omega, ⟨fun h => by omega, fun h => absurd h c⟩⟩
    obtain ⟨a, ha⟩ := List.exists_mem_of_ne_nil A hne
    exact ⟨(key a ha).1, fun u hu => (key u hu).2⟩
end Forest

namespace Rmv
/-! nodes that go with one another: whatever goes, as many remain -/
variable {sc : Int → List Int}
def del (R : List Int) (a : Int) : List Int := R.filter fun c => !decide (c = a)
def shr (sc : Int → List Int) (R : List Int) (a : Int) : List Int := (sc a).filter fun v => (del R a).any fun c => decide (v ∈ sc c)
def can (sc : Int → List Int) (R : List Int) (a b : Int) : Bool := (shr sc R a).all fun v => decide (v ∈ sc b)
def moves (sc : Int → List Int) (R : List Int) : List (Int × Int) := R.flatMap fun a => (R.filter fun b => !decide (a = b) && can sc R a b).map fun b => (a, b)
structure Go (sc : Int → List Int) (R : List Int) (a b : Int) : Prop where
  ha : a ∈ R
  hb : b ∈ R
  ne : a ≠ b
  hv : ∀ v ∈ sc a, (∃ c ∈ R, c ≠ a ∧ v ∈ sc c) → v ∈ sc b
theorem mem_del {R : List Int} {a x : Int} : x ∈ del R a ↔ x ∈ R ∧ x ≠ a := by
  unfold del; rw [List.mem_filter]; simp
theorem nd_del {R : List Int} (h : R.Nodup) (a : Int) : (del R a).Nodup := h.filter _
theorem len_del {R : List Int} {a : Int} (h : R.Nodup) (ha : a ∈ R) : (del R a).length + 1 = R.length := by
  induction R with
  | nil => cases ha
  | cons x r ih =>
    obtain ⟨h1, h2⟩ := List.nodup_cons.mp h
    by_cases e : x = a
    · subst e
      have : del (x :: r) x = r := by
        unfold del
        rw [List.filter_cons_of_neg (by simp), List.filter_eq_self]
        intro y hy
        simp only [Bool.not_eq_true', decide_eq_false_iff_not]
        exact fun q => h1 (q ▸ hy)
      rw [this]; rfl
    · have : del (x :: r) a = x :: del r a := by
        unfold del
        rw [List.filter_cons_of_pos (by simp [e])]
      rw [this]
      have := ih h2 ((List.mem_cons.mp ha).resolve_left fun q => e q.symm)
      simp only [List.length_cons]; omega
theorem can_iff {R : List Int} {a b : Int} : can sc R a b = true ↔ ∀ v ∈ sc a, (∃ c ∈ R, c ≠ a ∧ v ∈ sc c) → v ∈ sc b := by
  unfold can shr
  rw [List.all_eq_true]
  constructor
  · intro h v hv ⟨c, hc, hne, hvc⟩
    have := h v (List.mem_filter.mpr ⟨hv, List.any_eq_true.mpr ⟨c, mem_del.mpr ⟨hc, hne⟩, by simpa using hvc⟩⟩)
    simpa using this
  · intro h v hv
    obtain ⟨h1, h2⟩ := List.mem_filter.mp hv
    obtain ⟨c, hc, hvc⟩ := List.any_eq_true.mp h2
    obtain ⟨hc, hne⟩ := mem_del.mp hc
    simpa using h v h1 ⟨c, hc, hne, by simpa using hvc⟩
theorem mem_moves {R : List Int} {a b : Int} : (a, b) ∈ moves sc R ↔ Go sc R a b := by
  unfold moves
  rw [List.mem_flatMap]
  constructor
  · rintro ⟨x, hx, h⟩
    obtain ⟨y, hy, e⟩ := List.mem_map.mp h
    obtain ⟨rfl, rfl⟩ := Prod.mk.inj e
    obtain ⟨h1, h2⟩ := List.mem_filter.mp hy
    simp only [Bool.and_eq_true, Bool.not_eq_true', decide_eq_false_iff_not] at h2
    exact ⟨hx, h1, h2.1, can_iff.mp h2.2⟩
  · intro g
    refine ⟨a, g.ha, List.mem_map.mpr ⟨b, List.mem_filter.mpr ⟨g.hb, ?_⟩, rfl⟩⟩
    simp only [Bool.and_eq_true, Bool.not_eq_true', decide_eq_false_iff_not]
    exact ⟨g.ne, can_iff.mpr g.hv⟩
inductive Ends (sc : Int → List Int) : List Int → Nat → Prop
  | stop {R : List Int} : (∀ a b, ¬ Go sc R a b) → Ends sc R R.length
  | step {R : List Int} {a b : Int} {n : Nat} : Go sc R a b → Ends sc (del R a) n → Ends sc R n
theorem Go.congr {R Q : List Int} (h : ∀ x, x ∈ R ↔ x ∈ Q) {a b : Int} (g : Go sc R a b) : Go sc Q a b :=
  ⟨(h _).mp g.ha, (h _).mp g.hb, g.ne, fun v hv ⟨c, hc, k⟩ => g.hv v hv ⟨c, (h c).mpr hc, k⟩⟩
theorem same_len {R Q : List Int} (h : ∀ x, x ∈ R ↔ x ∈ Q) (h1 : R.Nodup) (h2 : Q.Nodup) : R.length = Q.length :=
  Nat.le_antisymm (Hang.nodup_len h1 fun x hx => (h x).mp hx) (Hang.nodup_len h2 fun x hx => (h x).mpr hx)
theorem Ends.congr {R : List Int} {n : Nat} (e : Ends sc R n) : ∀ {Q : List Int}, (∀ x, x ∈ R ↔ x ∈ Q) → R.Nodup → Q.Nodup → Ends sc Q n := by
  induction e with
  | stop h =>
    intro Q hq h1 h2
    rw [same_len hq h1 h2]
    exact .stop fun a b g => h a b (g.congr fun x => (hq x).symm)
  | @step R a b n g _ ih =>
    intro Q hq h1 h2
    exact .step (g.congr hq) (ih (fun x => by rw [mem_del, mem_del, hq]) (nd_del h1 a) (nd_del h2 a))
theorem ends_ex : ∀ (k : Nat) {R : List Int}, R.length ≤ k → R.Nodup → ∃ n, Ends sc R n
  | 0, R, h, _ => by
    have : R = [] := List.eq_nil_of_length_eq_zero (by omega)
    subst this
    exact ⟨_, .stop fun a b g => by cases g.ha⟩
  | k + 1, R, h, nd => by
    by_cases c : ∃ a b, Go sc R a b
    · obtain ⟨a, b, g⟩ := c
      have := len_del nd g.ha
      obtain ⟨n, e⟩ := ends_ex k (R := del R a) (by omega) (nd_del nd a)
      exact ⟨n, .step g e⟩
    · exact ⟨_, .stop fun a b g => c ⟨a, b, g⟩⟩
/-- a and c are alike for all others -/
def Twin (sc : Int → List Int) (R : List Int) (a c : Int) : Prop := ∀ e ∈ R, ∀ v ∈ sc e, (v ∈ sc a ↔ v ∈ sc c)
theorem Twin.symm {R : List Int} {a c : Int} (t : Twin sc R a c) : Twin sc R c a := fun e he v hv => (t e he v hv).symm
theorem twin_self {R : List Int} {a c : Int} (t : Twin sc R a c) (ha : a ∉ R) (hc : c ∉ R) {y : Int} (g : Go sc (a :: R) a y) : y ∈ R ∧ Go sc (c :: R) c y := by
  have hy : y ∈ R := (List.mem_cons.mp g.hb).resolve_left fun q => g.ne q.symm
  refine ⟨hy, List.mem_cons_self, List.mem_cons_of_mem _ hy, fun q => hc (q ▸ hy), fun v hv ⟨e, he, hne, hve⟩ => ?_⟩
  have he : e ∈ R := (List.mem_cons.mp he).resolve_left hne
  exact g.hv v ((t e he v hve).mpr hv) ⟨e, List.mem_cons_of_mem _ he, fun q => ha (q ▸ he), hve⟩
theorem twin_other {R : List Int} {a c : Int} (t : Twin sc R a c) (ha : a ∉ R) (hc : c ∉ R) {x y : Int} (hx : x ∈ R) (g : Go sc (a :: R) x y) : ∃ y', Go sc (c :: R) x y' := by
  by_cases hy : y = a
  · subst hy
    refine ⟨c, List.mem_cons_of_mem _ hx, List.mem_cons_self, fun q => hc (q ▸ hx), fun v hv ⟨e, he, hne, hve⟩ => ?_⟩
    rcases List.mem_cons.mp he with rfl | he
    · exact hve
    · exact (t x hx v hv).mp (g.hv v hv ⟨e, List.mem_cons_of_mem _ he, hne, hve⟩)
  · have hy : y ∈ R := (List.mem_cons.mp g.hb).resolve_left hy
    refine ⟨y, List.mem_cons_of_mem _ hx, List.mem_cons_of_mem _ hy, g.ne, fun v hv ⟨e, he, hne, hve⟩ => ?_⟩
    rcases List.mem_cons.mp he with rfl | he
    · exact g.hv v hv ⟨a, List.mem_cons_self, fun q => ha (q ▸ hx), (t x hx v hv).mpr hve⟩
    · exact g.hv v hv ⟨e, List.mem_cons_of_mem _ he, hne, hve⟩
theorem go_del {R : List Int} {a b c d : Int} (g : Go sc R a b) (g' : Go sc R c d) (hne : a ≠ c) (h : ¬ (b = c ∧ d = a)) : ∃ d', Go sc (del R a) c d' := by
  by_cases hd : d = a
  · subst hd
    have hb : b ≠ c := fun q => h ⟨q, rfl⟩
    refine ⟨b, mem_del.mpr ⟨g'.ha, fun q => hne q.symm⟩, mem_del.mpr ⟨g.hb, fun q => g.ne q.symm⟩, fun q => hb q.symm, fun v hv ⟨e, he, hec, hve⟩ => ?_⟩
    obtain ⟨he, _⟩ := mem_del.mp he
    have := g'.hv v hv ⟨e, he, hec, hve⟩
    exact g.hv v this ⟨c, g'.ha, fun q => hne q.symm, hv⟩
  · refine ⟨d, mem_del.mpr ⟨g'.ha, fun q => hne q.symm⟩, mem_del.mpr ⟨g'.hb, hd⟩, g'.ne, fun v hv ⟨e, he, hec, hve⟩ => g'.hv v hv ⟨e, (mem_del.mp he).1, hec, hve⟩⟩
theorem conf2 : ∀ k : Nat, (∀ R : List Int, R.length ≤ k → R.Nodup → ∀ n m, Ends sc R n → Ends sc R m → n = m) ∧
    (∀ (R : List Int) (a c : Int), R.length + 1 ≤ k → (a :: R).Nodup → (c :: R).Nodup → Twin sc R a c → ∀ n m, Ends sc (a :: R) n → Ends sc (c :: R) m → n = m)
  | 0 => by
    refine ⟨fun R h nd n m e1 e2 => ?_, fun R a c h => by omega⟩
    have : R = [] := List.eq_nil_of_length_eq_zero (by omega)
    subst this
    cases e1 with
    | step g _ => cases g.ha
    | stop _ => cases e2 with
      | step g _ => cases g.ha
      | stop _ => rfl
  | k + 1 => by
    obtain ⟨ih1, ih2⟩ := conf2 k
    have u1 : ∀ R : List Int, R.length ≤ k + 1 → R.Nodup → ∀ n m, Ends sc R n → Ends sc R m → n = m := by
      intro R h nd n m e1 e2
      cases e1 with
      | stop h1 => cases e2 with
        | stop _ => rfl
        | step g _ => exact absurd g (h1 _ _)
      | @step _ a b _ g e1 => cases e2 with
        | stop h2 => exact absurd g (h2 _ _)
        | @step _ c d _ g' e2 =>
          have l1 := len_del nd g.ha
          have l2 := len_del nd g'.ha
          by_cases hac : a = c
          · subst hac
            exact ih1 _ (by omega) (nd_del nd a) n m e1 e2
          by_cases hs : b = c ∧ d = a
          · obtain ⟨rfl, rfl⟩ := hs
            -- each goes with the other
            have hR0 : (del (del R d) b).Nodup := nd_del (nd_del nd d) b
            have m1 : ∀ x, x ∈ del R d ↔ x ∈ b :: del (del R d) b := fun x => by
              rw [List.mem_cons, mem_del, mem_del, mem_del]
              constructor
              · intro ⟨h1, h2⟩
                by_cases q : x = b
                · exact .inl q
                · exact .inr ⟨⟨h1, h2⟩, q⟩
              · rintro (rfl | h)
                · exact ⟨g.hb, fun q => hac q.symm⟩
                · exact h.1
            have m2 : ∀ x, x ∈ del R b ↔ x ∈ d :: del (del R d) b := fun x => by
              rw [List.mem_cons, mem_del, mem_del, mem_del]
              constructor
              · intro ⟨h1, h2⟩
                by_cases q : x = d
                · exact .inl q
                · exact .inr ⟨⟨h1, q⟩, h2⟩
              · rintro (rfl | h)
                · exact ⟨g.ha, hac⟩
                · exact ⟨h.1.1, h.2⟩
            have n1 : (b :: del (del R d) b).Nodup := List.nodup_cons.mpr ⟨fun q => (mem_del.mp q).2 rfl, hR0⟩
            have n2 : (d :: del (del R d) b).Nodup := List.nodup_cons.mpr ⟨fun q => (mem_del.mp (mem_del.mp q).1).2 rfl, hR0⟩
            have l3 := len_del (nd_del nd d) (mem_del.mpr ⟨g.hb, fun q => hac q.symm⟩)
            refine ih2 (del (del R d) b) b d (by omega) n1 n2 ?_ n m (e1.congr m1 (nd_del nd d) n1) (e2.congr m2 (nd_del nd b) n2)
            intro e he v hv
            obtain ⟨he, heb⟩ := mem_del.mp he
            obtain ⟨he, hed⟩ := mem_del.mp he
            exact ⟨fun h => g'.hv v h ⟨e, he, heb, hv⟩, fun h => g.hv v h ⟨e, he, hed, hv⟩⟩
          · obtain ⟨d', q1⟩ := go_del g g' hac hs
            obtain ⟨b', q2⟩ := go_del g' g (fun q => hac q.symm) (fun q => hs ⟨q.2, q.1⟩)
            obtain ⟨p, ep⟩ := ends_ex (sc := sc) (del (del R a) c).length (R := del (del R a) c) (Nat.le_refl _) (nd_del (nd_del nd a) c)
            have r1 := ih1 _ (by omega) (nd_del nd a) n p e1 (.step q1 ep)
            have r2 := ih1 _ (by omega) (nd_del nd c) m p e2 (.step q2 (ep.congr (fun x => by simp only [mem_del]; exact ⟨fun h => ⟨⟨h.1.1, h.2⟩, h.1.2⟩, fun h => ⟨⟨h.1.1, h.2⟩, h.1.2⟩⟩) (nd_del (nd_del nd a) c) (nd_del (nd_del nd c) a)))
            omega
    refine ⟨u1, fun R a c h na nc t n m e1 e2 => ?_⟩
    obtain ⟨ha, nd⟩ := List.nodup_cons.mp na
    obtain ⟨hc, _⟩ := List.nodup_cons.mp nc
    have dself : ∀ {x : Int}, x ∉ R → ∀ y, y ∈ del (x :: R) x ↔ y ∈ R := fun {x} hx y => by
      rw [mem_del, List.mem_cons]
      exact ⟨fun ⟨h1, h2⟩ => h1.resolve_left h2, fun h => ⟨.inr h, fun q => hx (q ▸ h)⟩⟩
    cases e1 with
    | stop h1 => cases e2 with
      | stop _ => rfl
      | @step _ x y _ g _ =>
        rcases List.mem_cons.mp g.ha with rfl | hx
        · exact absurd (twin_self t.symm hc ha g).2 (h1 _ _)
        · obtain ⟨y', g'⟩ := twin_other t.symm hc ha hx g
          exact absurd g' (h1 _ _)
    | @step _ x y _ g e1 =>
      by_cases hxa : x = a
      · subst hxa
        obtain ⟨_, g'⟩ := twin_self t ha hc g
        refine u1 (c :: R) (by simp; omega) nc n m (.step g' (e1.congr (fun z => (dself ha z).trans (dself hc z).symm) (nd_del na _) (nd_del nc _))) e2
      · have hx : x ∈ R := (List.mem_cons.mp g.ha).resolve_left hxa
        obtain ⟨y', g'⟩ := twin_other t ha hc hx g
        have hxc : x ≠ c := fun q => hc (q ▸ hx)
        have m1 : ∀ {w : Int}, w ≠ x → ∀ z, z ∈ del (w :: R) x ↔ z ∈ w :: del R x := fun {w} hw z => by
          rw [mem_del, List.mem_cons, List.mem_cons, mem_del]
          constructor
          · rintro ⟨rfl | h, q⟩
            · exact .inl rfl
            · exact .inr ⟨h, q⟩
          · rintro (rfl | h)
            · exact ⟨.inl rfl, hw⟩
            · exact ⟨.inr h.1, h.2⟩
        have n1 : (a :: del R x).Nodup := List.nodup_cons.mpr ⟨fun q => ha (mem_del.mp q).1, nd_del nd x⟩
        have n2 : (c :: del R x).Nodup := List.nodup_cons.mpr ⟨fun q => hc (mem_del.mp q).1, nd_del nd x⟩
        have l := len_del nd hx
        obtain ⟨p, ep⟩ := ends_ex (sc := sc) (c :: del R x).length (R := c :: del R x) (Nat.le_refl _) n2
        have r1 := ih2 (del R x) a c (by omega) n1 n2 (fun e he => t e (mem_del.mp he).1) n p (e1.congr (m1 (fun q => hxa q.symm)) (nd_del na x) n1) ep
        have r2 := u1 (c :: R) (by simp; omega) nc p m (.step g' (ep.congr (fun z => (m1 (fun q => hxc q.symm) z).symm) n2 (nd_del nc x))) e2
        omega
/-- whatever goes, as many remain -/
theorem conf {R : List Int} (nd : R.Nodup) {n m : Nat} (e1 : Ends sc R n) (e2 : Ends sc R m) : n = m := (conf2 R.length).1 R (Nat.le_refl _) nd n m e1 e2
/-- a sequence of nodes that go -/
inductive Runs (sc : Int → List Int) : List Int → List (Int × Int) → List Int → Prop
  | nil {R : List Int} : Runs sc R [] R
  | cons {R Q : List Int} {a b : Int} {g : List (Int × Int)} : Go sc R a b → Runs sc (del R a) g Q → Runs sc R ((a, b) :: g) Q
theorem Runs.snoc {R Q : List Int} {g : List (Int × Int)} (r : Runs sc R g Q) : ∀ {a b : Int}, Go sc Q a b → Runs sc R (g ++ [(a, b)]) (del Q a) := by
  induction r with
  | nil => exact fun h => .cons h .nil
  | cons h _ ih => exact fun h' => .cons h (ih h')
theorem Runs.ends {R Q : List Int} {g : List (Int × Int)} (r : Runs sc R g Q) {n : Nat} (e : Ends sc Q n) : Ends sc R n := by
  induction r with
  | nil => exact e
  | cons h _ ih => exact .step h (ih e)
theorem Runs.nd {R Q : List Int} {g : List (Int × Int)} (r : Runs sc R g Q) : R.Nodup → Q.Nodup := by
  induction r with
  | nil => exact id
  | cons h _ ih => exact fun nd => ih (nd_del nd _)
theorem Runs.len {R Q : List Int} {g : List (Int × Int)} (r : Runs sc R g Q) : R.Nodup → Q.length + g.length = R.length := by
  induction r with
  | nil => exact fun _ => rfl
  | cons h _ ih =>
    intro nd
    have := len_del nd h.ha
    have := ih (nd_del nd _)
    simp only [List.length_cons]; omega
theorem Runs.sub {R Q : List Int} {g : List (Int × Int)} (r : Runs sc R g Q) : ∀ x ∈ Q, x ∈ R := by
  induction r with
  | nil => exact fun _ h => h
  | cons h _ ih => exact fun x hx => (mem_del.mp (ih x hx)).1
theorem Runs.one_le {R Q : List Int} {g : List (Int × Int)} (r : Runs sc R g Q) (h : R ≠ []) : Q ≠ [] := by
  induction r with
  | nil => exact h
  | @cons R Q a b g h' _ ih =>
    refine ih fun q => ?_
    have : b ∈ del R a := mem_del.mpr ⟨h'.hb, fun q => h'.ne q.symm⟩
    rw [q] at this; cases this
theorem stop_iff {R : List Int} : moves sc R = [] ↔ ∀ a b, ¬ Go sc R a b := by
  constructor
  · intro h a b g
    have := mem_moves.mpr g
    rw [h] at this; cases this
  · intro h
    cases q : moves sc R with
    | nil => rfl
    | cons p r => exact absurd (mem_moves.mp (show (p.1, p.2) ∈ moves sc R by rw [q]; exact List.mem_cons_self)) (h _ _)
theorem one_stop {R : List Int} (h : R.length ≤ 1) (a b : Int) : ¬ Go sc R a b := by
  intro g
  cases R with
  | nil => cases g.ha
  | cons x r =>
    have : r = [] := List.eq_nil_of_length_eq_zero (by simp only [List.length_cons] at h; omega)
    subst this
    have h1 := List.mem_singleton.mp g.ha
    have h2 := List.mem_singleton.mp g.hb
    exact g.ne (h1.trans h2.symm)
end Rmv

namespace Rmv
open Pth Hang Pu
/-! sets of edges, what hangs together by them -/
def stepE (A f : List Int) (e : Int × Int) : List Int :=
  let f1 := if decide (e.1 ∈ f) && (decide (e.2 ∈ A) && !decide (e.2 ∈ f)) then f ++ [e.2] else f
  if decide (e.2 ∈ f1) && (decide (e.1 ∈ A) && !decide (e.1 ∈ f1)) then f1 ++ [e.1] else f1
def turnE (es : List (Int × Int)) (A f : List Int) : List Int := es.foldl (stepE A) f
def foundE (es : List (Int × Int)) (A : List Int) : List Int := A.foldl (fun f _ => turnE es A f) (A.take 1)
def hangL (A : List Int) (es : List (Int × Int)) : Bool := decide ((foundE es A).length = A.length)
def adjE (es : List (Int × Int)) (a b : Int) : Bool := decide ((a, b) ∈ es) || decide ((b, a) ∈ es)
theorem put_ok {A f : List Int} {c : Bool} {x : Int} (hc : c = true → x ∈ A ∧ x ∉ f) (h : f.Nodup ∧ ∀ y ∈ f, y ∈ A) : (if c then f ++ [x] else f).Nodup ∧ (∀ y ∈ (if c then f ++ [x] else f), y ∈ A) ∧ ∀ y ∈ f, y ∈ (if c then f ++ [x] else f) := by
  cases c with
  | false => exact ⟨h.1, h.2, fun _ h => h⟩
  | true =>
    obtain ⟨h1, h2⟩ := hc rfl
    refine ⟨?_, fun y hy => ?_, fun y hy => List.mem_append_left _ hy⟩
    · rw [if_pos rfl, List.nodup_append]
      refine ⟨h.1, by simp, fun a ha b hb q => ?_⟩
      rw [List.mem_singleton.mp hb] at q
      exact h2 (q ▸ ha)
    · rcases List.mem_append.mp hy with hy | hy
      · exact h.2 y hy
      · rw [List.mem_singleton.mp hy]; exact h1
theorem stepE_ok {A f : List Int} (e : Int × Int) (h : f.Nodup ∧ ∀ y ∈ f, y ∈ A) : ((stepE A f e).Nodup ∧ ∀ y ∈ stepE A f e, y ∈ A) ∧ (∀ y ∈ f, y ∈ stepE A f e) ∧ (e.1 ∈ f → e.2 ∈ A → e.2 ∈ stepE A f e) ∧ (e.2 ∈ f → e.1 ∈ A → e.1 ∈ stepE A f e) := by
  have p1 := put_ok (A := A) (f := f) (c := decide (e.1 ∈ f) && (decide (e.2 ∈ A) && !decide (e.2 ∈ f))) (x := e.2) (fun h => by simp at h; exact ⟨h.2.1, h.2.2⟩) h
  obtain ⟨f1, hf1⟩ : ∃ f1, f1 = if decide (e.1 ∈ f) && (decide (e.2 ∈ A) && !decide (e.2 ∈ f)) then f ++ [e.2] else f := ⟨_, rfl⟩
  rw [← hf1] at p1
  have p2 := put_ok (A := A) (f := f1) (c := decide (e.2 ∈ f1) && (decide (e.1 ∈ A) && !decide (e.1 ∈ f1))) (x := e.1) (fun h => by simp at h; exact ⟨h.2.1, h.2.2⟩) ⟨p1.1, p1.2.1⟩
  have hs : stepE A f e = if decide (e.2 ∈ f1) && (decide (e.1 ∈ A) && !decide (e.1 ∈ f1)) then f1 ++ [e.1] else f1 := by
    rw [hf1]; rfl
  rw [hs]
  refine ⟨⟨p2.1, p2.2.1⟩, fun y hy => p2.2.2 y (p1.2.2 y hy), fun h1 h2 => ?_, fun h1 h2 => ?_⟩
  · refine p2.2.2 _ ?_
    by_cases q : e.2 ∈ f
    · exact p1.2.2 _ q
    · rw [hf1, if_pos (by simp [h1, h2, q])]; simp
  · have h1' := p1.2.2 _ h1
    by_cases q : e.1 ∈ f1
    · exact p2.2.2 _ q
    · rw [if_pos (by simp [h1', h2, q])]; simp
theorem turn_ok {A : List Int} : ∀ (es : List (Int × Int)) {f : List Int}, (f.Nodup ∧ ∀ y ∈ f, y ∈ A) → ((turnE es A f).Nodup ∧ ∀ y ∈ turnE es A f, y ∈ A) ∧ (∀ y ∈ f, y ∈ turnE es A f) ∧ ∀ e ∈ es, (e.1 ∈ f → e.2 ∈ A → e.2 ∈ turnE es A f) ∧ (e.2 ∈ f → e.1 ∈ A → e.1 ∈ turnE es A f)
  | [], f, h => ⟨h, fun _ h => h, fun _ h => by cases h⟩
  | e :: es, f, h => by
    obtain ⟨s1, s2, s3, s4⟩ := stepE_ok e h
    obtain ⟨t1, t2, t3⟩ := turn_ok es s1
    refine ⟨t1, fun y hy => t2 y (s2 y hy), fun e' he' => ?_⟩
    rcases List.mem_cons.mp he' with rfl | he'
    · exact ⟨fun h1 h2 => t2 _ (s3 h1 h2), fun h1 h2 => t2 _ (s4 h1 h2)⟩
    · exact ⟨fun h1 h2 => (t3 e' he').1 (s2 _ h1) h2, fun h1 h2 => (t3 e' he').2 (s2 _ h1) h2⟩
theorem hang_ok {es : List (Int × Int)} {A : List Int} {u : Int} (nd : A.Nodup) (hu : A.take 1 = [u]) (h : ∀ y ∈ A, Reach (adjE es) A u y) : hangL A es = true := by
  have huA : u ∈ A := List.mem_of_mem_take (by rw [hu]; exact List.mem_singleton.mpr rfl)
  have key : ∀ (r : List Int) (k : Nat) (f : List Int), (f.Nodup ∧ ∀ y ∈ f, y ∈ A) → (∀ y ∈ growN (adjE es) A u k, y ∈ f) →
      ((r.foldl (fun f _ => turnE es A f) f).Nodup ∧ ∀ y ∈ r.foldl (fun f _ => turnE es A f) f, y ∈ A) ∧ ∀ y ∈ growN (adjE es) A u (k + r.length), y ∈ r.foldl (fun f _ => turnE es A f) f := by
    intro r
    induction r with
    | nil => intro k f h1 h2; exact ⟨h1, h2⟩
    | cons x r ih =>
      intro k f h1 h2
      obtain ⟨t1, t2, t3⟩ := turn_ok es h1
      have := ih (k + 1) (turnE es A f) t1 (fun y hy => by
        obtain ⟨hyA, hy⟩ := mem_grow.mp hy
        rcases hy with hy | ⟨s, hs, ha⟩
        · exact t2 y (h2 y hy)
        · unfold adjE at ha
          simp only [Bool.or_eq_true, decide_eq_true_eq] at ha
          rcases ha with ha | ha
          · exact (t3 _ ha).1 (h2 s hs) hyA
          · exact (t3 _ ha).2 (h2 s hs) hyA)
      rw [show k + (x :: r).length = k + 1 + r.length by simp; omega]
      exact this
  have h0 := key A 0 [u] ⟨by simp, fun y hy => by rw [List.mem_singleton.mp hy]; exact huA⟩ (fun y hy => hy)
  have hf : foundE es A = A.foldl (fun f _ => turnE es A f) [u] := by unfold foundE; rw [hu]
  rw [← hf] at h0
  obtain ⟨⟨n1, n2⟩, n3⟩ := h0
  have hlen : 1 ≤ A.length := List.length_pos_of_mem huA
  rw [Nat.zero_add, grow_part huA nd (Nat.le_refl _) hlen] at n3
  unfold hangL
  refine decide_eq_true (Nat.le_antisymm (nodup_len n1 n2) (nodup_len nd fun y hy => n3 y (mem_part.mpr ⟨hy, h y hy⟩)))
theorem hang_nil {es : List (Int × Int)} : hangL [] es = true := rfl
/-! ## what goes makes a tree -/
def lohi (p : Int × Int) : Int × Int := if p.2 < p.1 then (p.2, p.1) else p
theorem Reach_trans {adj : Int → Int → Bool} {A : List Int} {u x y : Int} (h1 : Reach adj A u x) (h2 : Reach adj A x y) : Reach adj A u y := by
  induction h2 with
  | self => exact h1
  | step _ h3 h4 ih => exact .step ih h3 h4
theorem Reach_mono {adj adj' : Int → Int → Bool} {A B : List Int} (hA : ∀ x ∈ A, x ∈ B) (hadj : ∀ a b, adj a b = true → adj' a b = true) {u x : Int} (h : Reach adj A u x) : Reach adj' B u x := by
  induction h with
  | self => exact .self
  | step _ h3 h4 ih => exact .step ih (hA _ h3) (hadj _ _ h4)
theorem adj_lohi {es : List (Int × Int)} {a b : Int} (h : lohi (a, b) ∈ es) : adjE es a b = true ∧ adjE es b a = true := by
  unfold lohi at h
  unfold adjE
  dsimp only at h
  split at h <;> simp [h]
variable {sc : Int → List Int}
theorem Runs.conn {p : Int → Bool} (hp : ∀ R a b, Go sc R a b → p a = true → (∃ c ∈ R, c ≠ a ∧ p c = true) → p b = true) {R Q : List Int} {g : List (Int × Int)} (r : Runs sc R g Q) : Q.length = 1 → ∀ {es : List (Int × Int)}, (∀ q ∈ g, lohi q ∈ es) → ∀ x ∈ R.filter p, ∀ y ∈ R.filter p, Reach (adjE es) (R.filter p) x y := by
  induction r with
  | @nil R =>
    intro h es _ x hx y hy
    obtain ⟨z, rfl⟩ : ∃ z, R = [z] := by
      cases R with
      | nil => cases h
      | cons z r => exact ⟨z, by rw [List.eq_nil_of_length_eq_zero (l := r) (by simp at h; exact List.length_eq_zero_iff.mpr h)]⟩
    have h1 := List.mem_singleton.mp (List.mem_filter.mp hx).1
    have h2 := List.mem_singleton.mp (List.mem_filter.mp hy).1
    rw [h1, h2]; exact .self
  | @cons R Q a b g go _ ih =>
    intro h es hes x hx y hy
    have ih := ih h (es := es) fun q hq => hes q (List.mem_cons_of_mem _ hq)
    have hab := adj_lohi (hes (a, b) List.mem_cons_self)
    have sub : ∀ z ∈ (del R a).filter p, z ∈ R.filter p := fun z hz => by
      obtain ⟨h1, h2⟩ := List.mem_filter.mp hz
      exact List.mem_filter.mpr ⟨(mem_del.mp h1).1, h2⟩
    have inn : ∀ z ∈ R.filter p, z ≠ a → z ∈ (del R a).filter p := fun z hz hne => by
      obtain ⟨h1, h2⟩ := List.mem_filter.mp hz
      exact List.mem_filter.mpr ⟨mem_del.mpr ⟨h1, hne⟩, h2⟩
    have up : ∀ {u w : Int}, u ∈ (del R a).filter p → w ∈ (del R a).filter p → Reach (adjE es) (R.filter p) u w := fun hu hw => Reach_mono sub (fun _ _ h => h) (ih _ hu _ hw)
    have hb : ∀ z ∈ R.filter p, z ≠ a → a ∈ R.filter p → b ∈ (del R a).filter p := fun z hz hne ha => by
      refine List.mem_filter.mpr ⟨mem_del.mpr ⟨go.hb, fun q => go.ne q.symm⟩, hp R a b go (List.mem_filter.mp ha).2 ⟨z, (List.mem_filter.mp hz).1, hne, (List.mem_filter.mp hz).2⟩⟩
    by_cases hxa : x = a
    · subst hxa
      by_cases hya : y = x
      · subst hya; exact .self
      · have hb := hb y hy hya hx
        exact Reach_trans (.step .self (sub b hb) hab.1) (up hb (inn y hy hya))
    · by_cases hya : y = a
      · subst hya
        have hb := hb x hx hxa hy
        exact .step (up (inn x hx hxa) hb) hy hab.2
      · exact up (inn x hx hxa) (inn y hy hya)
theorem Runs.in_R {R Q : List Int} {g : List (Int × Int)} (r : Runs sc R g Q) : ∀ q ∈ g, q.1 ∈ R ∧ q.2 ∈ R ∧ q.1 ≠ q.2 := by
  induction r with
  | nil => exact fun _ h => by cases h
  | cons go _ ih =>
    intro q hq
    rcases List.mem_cons.mp hq with rfl | hq
    · exact ⟨go.ha, go.hb, go.ne⟩
    · have := ih q hq
      exact ⟨(mem_del.mp this.1).1, (mem_del.mp this.2.1).1, this.2.2⟩
theorem lohi_lt {q : Int × Int} (h : q.1 ≠ q.2) : (lohi q).1 < (lohi q).2 := by
  unfold lohi
  split
  · assumption
  · omega
theorem lohi_mem {q : Int × Int} : ((lohi q).1 = q.1 ∧ (lohi q).2 = q.2) ∨ ((lohi q).1 = q.2 ∧ (lohi q).2 = q.1) := by
  unfold lohi; split <;> simp
theorem Runs.edges_nd {R Q : List Int} {g : List (Int × Int)} (r : Runs sc R g Q) : (g.map lohi).Nodup := by
  induction r with
  | nil => simp
  | @cons R Q a b g go r ih =>
    rw [List.map_cons, List.nodup_cons]
    refine ⟨fun h => ?_, ih⟩
    obtain ⟨q, hq, e⟩ := List.mem_map.mp h
    have := r.in_R q hq
    have h1 := (mem_del.mp this.1).2
    have h2 := (mem_del.mp this.2.1).2
    have e1 := lohi_mem (q := q)
    have e2 := lohi_mem (q := (a, b))
    rw [e] at e1
    dsimp only at e2
    omega
/-- the edges of a tree -/
def makesL (n : Nat) (sc : Int → List Int) (es : List (Int × Int)) : Bool := (decide (es.length + 1 = n) && hangL (nodes n) es) && (List.range 6).all fun v => hangL ((nodes n).filter fun x => decide ((v : Int) ∈ sc x)) es
theorem nodes_nd {n : Nat} : (nodes n).Nodup := nodes_asc.imp fun {a b} h => by omega
theorem hang_run {n : Nat} {Q : List Int} {g es : List (Int × Int)} (r : Runs sc (nodes n) g Q) (hQ : Q.length = 1) (he : ∀ q ∈ g, lohi q ∈ es) {p : Int → Bool} (hp : ∀ R a b, Go sc R a b → p a = true → (∃ c ∈ R, c ≠ a ∧ p c = true) → p b = true) : hangL ((nodes n).filter p) es = true := by
  cases hA : (nodes n).filter p with
  | nil => rfl
  | cons u A =>
    have c := r.conn hp hQ he
    rw [hA] at c
    have nd : (u :: A).Nodup := hA ▸ nodes_nd.filter _
    exact hang_ok nd rfl fun y hy => c u List.mem_cons_self y hy
theorem makes_run {n : Nat} {Q : List Int} {g es : List (Int × Int)} (r : Runs sc (nodes n) g Q) (hQ : Q.length = 1) (he : es.Perm (g.map lohi)) : makesL n sc es = true := by
  have hm : ∀ q ∈ g, lohi q ∈ es := fun q hq => he.mem_iff.mpr (List.mem_map.mpr ⟨q, hq, rfl⟩)
  unfold makesL
  rw [Bool.and_eq_true, Bool.and_eq_true, List.all_eq_true]
  refine ⟨⟨decide_eq_true ?_, ?_⟩, fun v _ => ?_⟩
  · have := r.len nodes_nd
    have h2 := he.length_eq
    rw [List.length_map] at h2
    have h3 : (nodes n).length = n := by simp [nodes]
    omega
  · have := hang_run r hQ hm (p := fun _ => true) (fun _ _ _ _ _ _ => rfl)
    rwa [List.filter_eq_self.mpr (fun _ _ => rfl)] at this
  · refine hang_run r hQ hm fun R a b go ha ⟨c, hc, hne, hvc⟩ => ?_
    simp only [decide_eq_true_eq] at *
    exact go.hv _ ha ⟨c, hc, hne, hvc⟩
/-! ## and a tree goes, for up to four nodes: by all cases -/
def prs (n : Nat) : List (Int × Int) := (List.range n).flatMap fun (i : Nat) => (List.range (n - (i + 1))).map fun (j : Nat) => ((i : Int), (i : Int) + 1 + (j : Int))
def subsF {α : Type} (l : List α) (f : List (List α)) : List (List α) := l.foldl (fun f p => f ++ f.map (· ++ [p])) f
def setsL (n : Nat) : List (List (Int × Int)) := (subsF (prs n) [[]]).filter fun r => decide (r.length + 1 = n)
theorem subsF_mem {α : Type} : ∀ (l : List α) (f : List (List α)) (s t : List α), s ∈ f → t.Sublist l → s ++ t ∈ subsF l f
  | [], f, s, t, hs, ht => by
    have : t = [] := List.sublist_nil.mp ht
    subst this
    simpa [subsF] using hs
  | x :: l, f, s, t, hs, ht => by
    show s ++ t ∈ subsF l (f ++ f.map (· ++ [x]))
    cases ht with
    | cons _ ht => exact subsF_mem l _ s t (List.mem_append_left _ hs) ht
    | @cons_cons t' _ _ ht =>
      have := subsF_mem l (f ++ f.map (· ++ [x])) (s ++ [x]) t' (List.mem_append_right _ (List.mem_map.mpr ⟨s, hs, rfl⟩)) ht
      rwa [List.append_assoc] at this
theorem subsF_sub {α : Type} {L : List α} : ∀ (l : List α) (f : List (List α)) (p : List α), p ++ l = L → (∀ s ∈ f, s.Sublist p) → ∀ s ∈ subsF l f, s.Sublist L
  | [], f, p, h, hf, s, hs => by rw [← h, List.append_nil]; exact hf s hs
  | x :: l, f, p, h, hf, s, hs => by
    refine subsF_sub l (f ++ f.map (· ++ [x])) (p ++ [x]) (by rw [← h]; simp) (fun t ht => ?_) s hs
    rcases List.mem_append.mp ht with ht | ht
    · exact (hf t ht).trans (List.sublist_append_left _ _)
    · obtain ⟨u, hu, rfl⟩ := List.mem_map.mp ht
      exact List.Sublist.append (hf u hu) (List.Sublist.refl _)
theorem mem_sets {n : Nat} {E : List (Int × Int)} : E ∈ setsL n ↔ E.Sublist (prs n) ∧ E.length + 1 = n := by
  unfold setsL
  rw [List.mem_filter, decide_eq_true_iff]
  exact ⟨fun h => ⟨subsF_sub _ _ [] rfl (fun s hs => by rw [List.mem_singleton.mp hs]; exact List.Sublist.refl _) E h.1, h.2⟩, fun h => ⟨by simpa using subsF_mem (prs n) [[]] [] E (by simp) h.1, h.2⟩⟩
theorem asc_sub {L : List (Int × Int)} : ∀ {E : List (Int × Int)}, L.Pairwise (fun p q => lexP p q = true) → E.Pairwise (fun p q => lexP p q = true) → (∀ e ∈ E, e ∈ L) → E.Sublist L := by
  have irr : ∀ p : Int × Int, lexP p p = true → False := fun p h => by unfold lexP at h; simp at h
  induction L with
  | nil =>
    intro E _ _ h
    cases E with
    | nil => exact List.Sublist.refl _
    | cons e E => cases h e List.mem_cons_self
  | cons x L ih =>
    intro E hL hE h
    obtain ⟨l1, l2⟩ := List.pairwise_cons.mp hL
    cases E with
    | nil => exact List.nil_sublist _
    | cons e E =>
      obtain ⟨e1, e2⟩ := List.pairwise_cons.mp hE
      by_cases q : e = x
      · subst q
        refine List.Sublist.cons₂ _ (ih l2 e2 fun y hy => ?_)
        rcases List.mem_cons.mp (h y (List.mem_cons_of_mem _ hy)) with r | r
        · exact absurd (r ▸ e1 y hy) (irr e)
        · exact r
      · refine List.Sublist.cons _ (ih l2 hE fun y hy => ?_)
        rcases List.mem_cons.mp (h y hy) with r | r
        · -- y = x, but all of E come behind e, which comes behind x
          have hx : e ∈ L := (List.mem_cons.mp (h e List.mem_cons_self)).resolve_left q
          have := l1 e hx
          rcases List.mem_cons.mp hy with r2 | r2
          · exact absurd (r2.symm.trans r) q
          · have h3 := e1 y r2
            rw [r] at h3
            exact (irr x (lexP_tr this h3)).elim
        · exact r
theorem mem_prs {n : Nat} {a b : Int} : (a, b) ∈ prs n ↔ 0 ≤ a ∧ a < b ∧ b < n := by
  unfold prs
  rw [List.mem_flatMap]
  constructor
  · rintro ⟨i, hi, h⟩
    obtain ⟨j, hj, e⟩ := List.mem_map.mp h
    obtain ⟨rfl, rfl⟩ := Prod.mk.inj e
    have := List.mem_range.mp hi
    have := List.mem_range.mp hj
    omega
  · intro h
    refine ⟨a.toNat, List.mem_range.mpr (by omega), List.mem_map.mpr ⟨(b - a - 1).toNat, List.mem_range.mpr (by omega), ?_⟩⟩
    rw [Prod.mk.injEq]
    omega
theorem prs_asc : ∀ n, n ≤ 5 → (prs n).Pairwise fun p q => lexP p q = true := by
  intro n h
  match n, h with
  | 0, _ => decide +kernel
  | 1, _ => decide +kernel
  | 2, _ => decide +kernel
  | 3, _ => decide +kernel
  | 4, _ => decide +kernel
  | 5, _ => decide +kernel
  | _ + 6, h => omega
theorem run_in_sets {n : Nat} (hn : n ≤ 5) {Q : List Int} {g : List (Int × Int)} (r : Runs sc (nodes n) g Q) (hQ : Q.length = 1) : sortP (g.map lohi) ∈ setsL n := by
  have pm : (sortP (g.map lohi)).Perm (g.map lohi) := List.mergeSort_perm _ _
  refine mem_sets.mpr ⟨asc_sub (prs_asc n hn) (sortP_asc r.edges_nd) fun e he => ?_, ?_⟩
  · obtain ⟨q, hq, rfl⟩ := List.mem_map.mp (pm.mem_iff.mp he)
    have h := r.in_R q hq
    have h1 := mem_nodes.mp h.1
    have h2 := mem_nodes.mp h.2.1
    have e1 := lohi_lt h.2.2
    have e2 := lohi_mem (q := q)
    rw [show lohi q = ((lohi q).1, (lohi q).2) from rfl, mem_prs]
    omega
  · have := r.len nodes_nd
    have h2 := pm.length_eq
    rw [List.length_map] at h2
    have h3 : (nodes n).length = n := by simp [nodes]
    omega
def subsS (l : List Int) : List (List Int) := subsF l [[]]
theorem filter_subs {l : List Int} (p : Int → Bool) : l.filter p ∈ subsS l := subsF_mem l [[]] [] (l.filter p) (by simp) List.filter_sublist
/-- the first leaf, with its neighbour -/
def leaf (R : List Int) (es : List (Int × Int)) : Option (Int × Int) := R.findSome? fun a => match R.filter (adjE es a) with | [b] => some (a, b) | _ => none
def goes (es : List (Int × Int)) (As : List (List Int)) : Nat → List Int → Bool
  | 0, R => decide (R.length = 1)
  | k + 1, R => match leaf R es with
    | none => decide (R.length = 1)
    | some (a, b) => (decide (a ∈ R) && (decide (b ∈ R) && !decide (a = b))) && ((As.all fun A => !(decide (a ∈ A) && R.any fun c => !decide (c = a) && decide (c ∈ A)) || decide (b ∈ A)) && goes es As k (del R a))
def cheq (n : Nat) : Bool := (setsL n).all fun E => !hangL (nodes n) E || goes E ((subsS (nodes n)).filter fun A => hangL A E) n (nodes n)
theorem cheq_all : cheq 1 = true ∧ cheq 2 = true ∧ cheq 3 = true ∧ cheq 4 = true := by
  refine ⟨?_, ?_, ?_, ?_⟩ <;> decide +kernel
theorem goes_run {es : List (Int × Int)} {As : List (List Int)} {n : Nat} (hv : ∀ x, ∀ v ∈ sc x, 0 ≤ v ∧ v < 6) (hA : ∀ v : Int, 0 ≤ v ∧ v < 6 → (nodes n).filter (fun x => decide (v ∈ sc x)) ∈ As) : ∀ (k : Nat) (R : List Int), (∀ x ∈ R, x ∈ nodes n) → goes es As k R = true → Ends sc R 1
  | 0, R, _, h => by
    have h1 : R.length = 1 := of_decide_eq_true h
    rw [← h1]; exact .stop (one_stop (by omega))
  | k + 1, R, hR, h => by
    unfold goes at h
    cases hl : leaf R es with
    | none =>
      rw [hl] at h
      have h1 : R.length = 1 := of_decide_eq_true h
      rw [← h1]; exact .stop (one_stop (by omega))
    | some p =>
      obtain ⟨a, b⟩ := p
      rw [hl] at h
      simp only [Bool.and_eq_true, decide_eq_true_eq, Bool.not_eq_true', decide_eq_false_iff_not, List.all_eq_true] at h
      obtain ⟨⟨h1, h2, h3⟩, h4, h5⟩ := h
      refine .step ⟨h1, h2, h3, fun v hva ⟨c, hc, hne, hvc⟩ => ?_⟩ (goes_run hv hA k (del R a) (fun x hx => hR x (mem_del.mp hx).1) h5)
      have hm : ∀ x ∈ R, x ∈ (nodes n).filter (fun x => decide (v ∈ sc x)) ↔ v ∈ sc x := fun x hx => by
        rw [List.mem_filter, decide_eq_true_iff]
        exact ⟨fun h => h.2, fun h => ⟨hR x hx, h⟩⟩
      have := h4 _ (hA v (hv a v hva))
      have c1 : (R.any fun c => !decide (c = a) && decide (c ∈ (nodes n).filter (fun x => decide (v ∈ sc x)))) = true := List.any_eq_true.mpr ⟨c, hc, by
        rw [Bool.and_eq_true]
        exact ⟨by simpa using hne, decide_eq_true ((hm c hc).mpr hvc)⟩⟩
      have c2 : decide (a ∈ (nodes n).filter (fun x => decide (v ∈ sc x))) = true := decide_eq_true ((hm a h1).mpr hva)
      rw [c1, c2] at this
      simp only [Bool.and_self, Bool.not_true, Bool.false_or, decide_eq_true_eq] at this
      exact (hm b h2).mp this
theorem makes_ends {n : Nat} (hn : 1 ≤ n ∧ n ≤ 4) (hv : ∀ x, ∀ v ∈ sc x, 0 ≤ v ∧ v < 6) {E : List (Int × Int)} (hE : E ∈ setsL n) (hm : makesL n sc E = true) : Ends sc (nodes n) 1 := by
  unfold makesL at hm
  rw [Bool.and_eq_true, Bool.and_eq_true, List.all_eq_true] at hm
  obtain ⟨⟨_, h2⟩, h3⟩ := hm
  have hc : cheq n = true := by
    obtain ⟨c1, c2, c3, c4⟩ := cheq_all
    match n, hn with
    | 1, _ => exact c1
    | 2, _ => exact c2
    | 3, _ => exact c3
    | 4, _ => exact c4
    | 0, h => omega
    | _ + 5, h => omega
  unfold cheq at hc
  have := List.all_eq_true.mp hc E hE
  rw [h2] at this
  simp only [Bool.not_true, Bool.false_or] at this
  refine goes_run hv (fun v hv => List.mem_filter.mpr ⟨filter_subs _, ?_⟩) n (nodes n) (fun _ h => h) this
  have := h3 v.toNat (List.mem_range.mpr (by omega))
  rwa [show ((v.toNat : Nat) : Int) = v by omega] at this
end Rmv

namespace Tk54
open PySem L2 Pu
def topS (i : Nat) : Stmt := PySem.Challenge.pw_tabletalk_k54_whole_shared_numbers.main.body.getD i (.Pass ⟨0, 0, 0, 0⟩)
def d0 : FnD := ⟨"require", topS 5, ["holds", "name"], ["holds", "name"]⟩
def d1 : FnD := ⟨"is_integer", topS 6, ["value", "low", "high"], ["value", "low", "high"]⟩
def d2 : FnD := ⟨"is_tuple", topS 7, ["value", "low", "high"], ["value", "low", "high"]⟩
def d3 : FnD := ⟨"is_ascending", topS 8, ["items"], ["items", "one", "other"]⟩
def d4 : FnD := ⟨"is_some", topS 13, ["value"], ["value", "item"]⟩
def d5 : FnD := ⟨"is_scope", topS 14, ["value"], ["value"]⟩
def d6 : FnD := ⟨"are_scopes", topS 17, ["value"], ["value", "scope"]⟩
def d7 : FnD := ⟨"is_edge", topS 18, ["many", "value"], ["many", "value", "node"]⟩
def d8 : FnD := ⟨"are_edges", topS 19, ["many", "value"], ["many", "value", "edge"]⟩
def d9 : FnD := ⟨"all_variables", topS 20, ["graph"], ["graph", "scope", "variable"]⟩
def d10 : FnD := ⟨"is_join_tree", topS 22, ["graph"], ["graph", "variable"]⟩
def d11 : FnD := ⟨"all_nodes", topS 23, ["graph"], ["graph"]⟩
def d12 : FnD := ⟨"nodes_with", topS 24, ["graph", "variable"], ["graph", "variable", "node", "scope"]⟩
def d13 : FnD := ⟨"are_neighbours", topS 25, ["graph", "one", "other"], ["graph", "one", "other"]⟩
def d14 : FnD := ⟨"neighbours", topS 26, ["graph", "node"], ["graph", "node", "other"]⟩
def d15 : FnD := ⟨"shared", topS 27, ["graph", "one", "other"], ["graph", "one", "other", "scopes", "variable"]⟩
def d16 : FnD := ⟨"ways", topS 28, ["graph", "many"], ["graph", "many", "found", "node", "_", "way"]⟩
def d17 : FnD := ⟨"first_cycle", topS 29, ["graph"], ["graph", "many", "way"]⟩
def d18 : FnD := ⟨"hanging", topS 30, ["graph", "among", "node"], ["graph", "among", "node", "found", "_", "other"]⟩
def d19 : FnD := ⟨"is_near", topS 31, ["graph", "nodes", "other"], ["graph", "nodes", "other", "node"]⟩
def d20 : FnD := ⟨"hang_together", topS 32, ["graph", "among"], ["graph", "among"]⟩
def d21 : FnD := ⟨"makes_tree", topS 34, ["scopes", "edges"], ["scopes", "edges"]⟩
def d22 : FnD := ⟨"shared_number", topS 35, ["scopes", "edges"], ["scopes", "edges"]⟩
def d23 : FnD := ⟨"due_number", topS 36, ["scopes"], ["scopes", "graph", "variable"]⟩
def d24 : FnD := ⟨"most_shared", topS 37, ["scopes"], ["scopes", "edges"]⟩
def d25 : FnD := ⟨"check_edges", topS 38, ["scopes", "edges"], ["scopes", "edges"]⟩
def d26 : FnD := ⟨"graph_of", topS 39, ["scopes", "edges"], ["scopes", "edges"]⟩
def d27 : FnD := ⟨"sets_of_edges", topS 40, ["nodes", "many"], ["nodes", "many", "pairs"]⟩
def d28 : FnD := ⟨"trees", topS 41, ["scopes"], ["scopes", "nodes", "edges"]⟩
def d29 : FnD := ⟨"number_shared", topS 42, ["scopes", "edges"], ["scopes", "edges", "one", "other"]⟩
def d30 : FnD := ⟨"_law_stream", topS 44, ["script"], ["script"]⟩
def d31 : FnD := ⟨"_law_next", topS 45, ["stream", "many"], ["stream", "many", "k", "cell", "digit"]⟩
def d32 : FnD := ⟨"_law_is_integer", topS 46, ["actual"], ["actual"]⟩
def d33 : FnD := ⟨"_law_equal", topS 47, ["actual", "due"], ["actual", "due", "at"]⟩
def d34 : FnD := ⟨"_law_scopes", topS 48, ["stream", "most", "variables"], ["stream", "most", "variables", "found", "node", "scope", "variable"]⟩
def d35 : FnD := ⟨"_law_pairs", topS 49, ["many"], ["many", "found", "one", "other"]⟩
def d36 : FnD := ⟨"_law_hang", topS 50, ["nodes", "edges"], ["nodes", "edges", "found", "turn", "one", "other"]⟩
def d37 : FnD := ⟨"_law_is_tree", topS 51, ["scopes", "edges"], ["scopes", "edges"]⟩
def d38 : FnD := ⟨"_law_edge_sets", topS 52, ["many"], ["many", "found", "pair", "row"]⟩
def d39 : FnD := ⟨"_law_shared", topS 53, ["scopes", "edges"], ["scopes", "edges", "total", "one", "other", "variable"]⟩
def d40 : FnD := ⟨"law", topS 54, ["script"], ["script", "stream", "scopes", "due", "variable", "scope", "found", "edges", "number", "some", "pair"]⟩
def tab : List FnD := [d0, d1, d2, d3, d4, d5, d6, d7, d8, d9, d10, d11, d12, d13, d14, d15, d16, d17, d18, d19, d20, d21, d22, d23, d24, d25, d26, d27, d28, d29, d30, d31, d32, d33, d34, d35, d36, d37, d38, d39, d40]
def G : Gi := ⟨[(("require" : Str), 0), (("is_integer" : Str), 1), (("is_tuple" : Str), 2), (("is_ascending" : Str), 3), (("is_some" : Str), 4), (("is_scope" : Str), 5), (("are_scopes" : Str), 6), (("is_edge" : Str), 7), (("are_edges" : Str), 8), (("all_variables" : Str), 9), (("is_join_tree" : Str), 10), (("all_nodes" : Str), 11), (("nodes_with" : Str), 12), (("are_neighbours" : Str), 13), (("neighbours" : Str), 14), (("shared" : Str), 15), (("ways" : Str), 16), (("first_cycle" : Str), 17), (("hanging" : Str), 18), (("is_near" : Str), 19), (("hang_together" : Str), 20), (("makes_tree" : Str), 21), (("shared_number" : Str), 22), (("due_number" : Str), 23), (("most_shared" : Str), 24), (("check_edges" : Str), 25), (("graph_of" : Str), 26), (("sets_of_edges" : Str), 27), (("trees" : Str), 28), (("number_shared" : Str), 29), (("_law_stream" : Str), 30), (("_law_next" : Str), 31), (("_law_is_integer" : Str), 32), (("_law_equal" : Str), 33), (("_law_scopes" : Str), 34), (("_law_pairs" : Str), 35), (("_law_hang" : Str), 36), (("_law_is_tree" : Str), 37), (("_law_edge_sets" : Str), 38), (("_law_shared" : Str), 39), (("law" : Str), 40)], [2, 3, 3, 1, 1, 1, 1, 2, 2, 1, 1, 1, 2, 3, 2, 3, 2, 1, 3, 3, 2, 2, 2, 1, 1, 2, 2, 2, 1, 2, 1, 2, 1, 2, 3, 1, 2, 2, 1, 2, 1], [("LEAST_VALUES", (.int 2)), ("MOST_VARIABLE", (.int 5)), ("MOST_IN_SCOPE", (.int 3)), ("MOST_NODES", (.int 5))], [(110, 11), (144, 12), (155, 12), (183, 12)], true⟩
/-- require(holds, name) -/
def f0 : Fn' := ⟨2, [(.ife (.not (.val (.var 0))) [.nev] [])]⟩
theorem b0 : bodyOf G d0 = some f0.body := by kernel_rfl
/-- is_integer(value, low, high) -/
def f1 : Fn' := ⟨3, [(.ife (.or (.val (.isi (.var 0) .bool)) (.not (.val (.isi (.var 0) .int)))) [(.ret (.cst (.bl false)))] []), (.ret (.chn .LtE .LtE (.var 1) (.var 0) (.var 2)))]⟩
theorem b1 : bodyOf G d1 = some f1.body := by kernel_rfl
/-- is_tuple(value, low, high) -/
def f2 : Fn' := ⟨3, [(.ret (.and (.isi (.var 0) .tuple) (.chn .LtE .LtE (.var 1) (.blt .len [(.var 0)]) (.var 2))))]⟩
theorem b2 : bodyOf G d2 = some f2.body := by kernel_rfl
/-- is_ascending(items) -/
def f3 : Fn' := ⟨3, [(.ret (.blt .all [(.lc false (.cmp .Lt (.var 1) (.var 2)) (.tp [(.nm 1), (.nm 2)]) (.zip (.var 0) (.slc false (.var 0) (.ex (.cst (.int 1))) .no)) [] [1, 2])]))]⟩
theorem b3 : bodyOf G d3 = some f3.body := by kernel_rfl
/-- is_some(value) -/
def f4 : Fn' := ⟨2, [(.ife (.not (.val (.isi (.var 0) .tuple))) [(.ret (.cst (.bl false)))] []), (.ret (.and (.blt .all [(.lc false (.call 1 [(.var 1), (.cst (.int 0)), (.cst (.int 5))]) (.nm 1) (.seq (.var 0)) [] [1])]) (.call 3 [(.var 0)])))]⟩
theorem b4 : bodyOf G d4 = some f4.body := by kernel_rfl
/-- is_scope(value) -/
def f5 : Fn' := ⟨1, [(.ret (.and (.call 4 [(.var 0)]) (.cmp .LtE (.blt .len [(.var 0)]) (.cst (.int 3)))))]⟩
theorem b5 : bodyOf G d5 = some f5.body := by kernel_rfl
/-- are_scopes(value) -/
def f6 : Fn' := ⟨2, [(.ret (.and (.call 2 [(.var 0), (.cst (.int 1)), (.cst (.int 5))]) (.blt .all [(.lc false (.call 5 [(.var 1)]) (.nm 1) (.seq (.var 0)) [] [1])])))]⟩
theorem b6 : bodyOf G d6 = some f6.body := by kernel_rfl
/-- is_edge(many, value) -/
def f7 : Fn' := ⟨3, [(.ife (.or (.not (.val (.call 2 [(.var 1), (.cst (.int 2)), (.cst (.int 2))]))) (.not (.val (.blt .all [(.lc false (.call 1 [(.var 2), (.cst (.int 0)), (.bin .Sub (.var 0) (.cst (.int 1)))]) (.nm 2) (.seq (.var 1)) [] [2])])))) [(.ret (.cst (.bl false)))] []), (.ret (.cmp .Lt (.idx (.var 1) (.cst (.int 0))) (.idx (.var 1) (.cst (.int 1)))))]⟩
theorem b7 : bodyOf G d7 = some f7.body := by kernel_rfl
/-- are_edges(many, value) -/
def f8 : Fn' := ⟨3, [(.ife (.not (.val (.isi (.var 1) .tuple))) [(.ret (.cst (.bl false)))] []), (.ret (.and (.blt .all [(.lc false (.call 7 [(.var 0), (.var 2)]) (.nm 2) (.seq (.var 1)) [] [2])]) (.call 3 [(.var 1)])))]⟩
theorem b8 : bodyOf G d8 = some f8.body := by kernel_rfl
/-- all_variables(graph) -/
def f9 : Fn' := ⟨3, [(.ret (.blt .tuple [(.ssc false (.var 2) (.nm 1) (.seq (.idx (.var 0) (.cst (.int 1)))) (.nm 2) (.seq (.var 1)) [1, 2] [2])]))]⟩
theorem b9 : bodyOf G d9 = some f9.body := by kernel_rfl
/-- is_join_tree(graph) -/
def f10 : Fn' := ⟨2, [(.ife (.or (.bv (.cmp .IsNot (.call 17 [(.var 0)]) (.cst .non))) (.not (.val (.call 20 [(.var 0), (.call 11 [(.var 0)])])))) [(.ret (.cst (.bl false)))] []), (.ret (.blt .all [(.lc false (.call 20 [(.var 0), (.call 12 [(.var 0), (.var 1)])]) (.nm 1) (.seq (.call 9 [(.var 0)])) [] [1])]))]⟩
theorem b10 : bodyOf G d10 = some f10.body := by kernel_rfl
/-- all_nodes(graph) -/
def f11 : Fn' := ⟨1, [(.ret (.trng (.blt .len [(.idx (.var 0) (.cst (.int 1)))])))]⟩
theorem b11 : bodyOf G d11 = some f11.body := by kernel_rfl
/-- nodes_with(graph, variable) -/
def f12 : Fn' := ⟨4, [(.ret (.blt .tuple [(.lc false (.var 2) (.tp [(.nm 2), (.nm 3)]) (.enm (.idx (.var 0) (.cst (.int 1)))) [(.bv (.cmp .In (.var 1) (.var 3)))] [2, 3])]))]⟩
theorem b12 : bodyOf G d12 = some f12.body := by kernel_rfl
/-- are_neighbours(graph, one, other) -/
def f13 : Fn' := ⟨3, [(.ret (.cmp .In (.tup [(.blt .min2 [(.var 1), (.var 2)]), (.blt .max2 [(.var 1), (.var 2)])]) (.idx (.var 0) (.cst (.int 2)))))]⟩
theorem b13 : bodyOf G d13 = some f13.body := by kernel_rfl
/-- neighbours(graph, node) -/
def f14 : Fn' := ⟨3, [(.ret (.blt .tuple [(.lc false (.var 2) (.nm 2) (.seq (.call 11 [(.var 0)])) [(.val (.call 13 [(.var 0), (.var 1), (.var 2)]))] [2])]))]⟩
theorem b14 : bodyOf G d14 = some f14.body := by kernel_rfl
/-- shared(graph, one, other) -/
def f15 : Fn' := ⟨5, [(.set 3 (.idx (.var 0) (.cst (.int 1)))), (.ret (.blt .tuple [(.lc false (.var 4) (.nm 4) (.seq (.idx (.var 3) (.var 1))) [(.bv (.cmp .In (.var 4) (.idx (.var 3) (.var 2))))] [4])]))]⟩
theorem b15 : bodyOf G d15 = some f15.body := by kernel_rfl
/-- ways(graph, many) -/
def f16 : Fn' := ⟨6, [(.set 2 (.lc false (.tup [(.var 3)]) (.nm 3) (.seq (.call 11 [(.var 0)])) [] [3])), (.frr (.nm 4) (.rng (.bin .Sub (.var 1) (.cst (.int 1)))) [(.set 2 (.lc2 false (.cat false (.var 5) (.tup [(.var 3)])) (.nm 5) (.seq (.var 2)) [] (.nm 3) (.seq (.call 14 [(.var 0), (.idx (.var 5) (.neg (.cst (.int 1))))])) [(.bv (.cmp .NotIn (.var 3) (.var 5)))] [5, 3] [3]))]), (.ret (.var 2))]⟩
theorem b16 : bodyOf G d16 = some f16.body := by kernel_rfl
/-- first_cycle(graph) -/
def f17 : Fn' := ⟨3, [(.frr (.nm 1) (.rng2 (.cst (.int 3)) (.cat false (.blt .len [(.idx (.var 0) (.cst (.int 1)))]) (.cst (.int 1)))) [(.frr (.nm 2) (.seq (.call 16 [(.var 0), (.var 1)])) [(.ife (.val (.call 13 [(.var 0), (.idx (.var 2) (.cst (.int 0))), (.idx (.var 2) (.neg (.cst (.int 1))))])) [(.ret (.var 2))] [])])]), (.ret (.cst .non))]⟩
theorem b17 : bodyOf G d17 = some f17.body := by kernel_rfl
/-- hanging(graph, among, node) -/
def f18 : Fn' := ⟨6, [(.set 3 (.tup [(.var 2)])), (.frr (.nm 4) (.seq (.var 1)) [(.set 3 (.blt .tuple [(.lc false (.var 5) (.nm 5) (.seq (.var 1)) [(.or (.bv (.cmp .In (.var 5) (.var 3))) (.val (.call 19 [(.var 0), (.var 3), (.var 5)])))] [5])]))]), (.ret (.var 3))]⟩
theorem b18 : bodyOf G d18 = some f18.body := by kernel_rfl
/-- is_near(graph, nodes, other) -/
def f19 : Fn' := ⟨4, [(.ret (.blt .any [(.lc false (.call 13 [(.var 0), (.var 3), (.var 2)]) (.nm 3) (.seq (.var 1)) [] [3])]))]⟩
theorem b19 : bodyOf G d19 = some f19.body := by kernel_rfl
/-- hang_together(graph, among) -/
def f20 : Fn' := ⟨2, [(.ret (.cmp .Eq (.call 18 [(.var 0), (.var 1), (.idx (.var 1) (.cst (.int 0)))]) (.var 1)))]⟩
theorem b20 : bodyOf G d20 = some f20.body := by kernel_rfl
/-- makes_tree(scopes, edges) -/
def f21 : Fn' := ⟨2, [(.expr (.call 25 [(.var 0), (.var 1)])), (.ret (.call 10 [(.call 26 [(.var 0), (.var 1)])]))]⟩
theorem b21 : bodyOf G d21 = some f21.body := by kernel_rfl
/-- shared_number(scopes, edges) -/
def f22 : Fn' := ⟨2, [(.expr (.call 25 [(.var 0), (.var 1)])), (.ret (.call 29 [(.var 0), (.var 1)]))]⟩
theorem b22 : bodyOf G d22 = some f22.body := by kernel_rfl
/-- due_number(scopes) -/
def f23 : Fn' := ⟨3, [(.expr (.call 0 [(.call 6 [(.var 0)]), (.cst (.str "scopes"))])), (.set 1 (.call 26 [(.var 0), (.tup [])])), (.ret (.blt .sum [(.lc false (.bin .Sub (.blt .len [(.call 12 [(.var 1), (.var 2)])]) (.cst (.int 1))) (.nm 2) (.seq (.call 9 [(.var 1)])) [] [2])]))]⟩
theorem b23 : bodyOf G d23 = some f23.body := by kernel_rfl
/-- most_shared(scopes) -/
def f24 : Fn' := ⟨2, [(.expr (.call 0 [(.call 6 [(.var 0)]), (.cst (.str "scopes"))])), (.ret (.blt .max1 [(.lc false (.call 29 [(.var 0), (.var 1)]) (.nm 1) (.seq (.call 28 [(.var 0)])) [] [1])]))]⟩
theorem b24 : bodyOf G d24 = some f24.body := by kernel_rfl
/-- check_edges(scopes, edges) -/
def f25 : Fn' := ⟨2, [(.expr (.call 0 [(.call 6 [(.var 0)]), (.cst (.str "scopes"))])), (.expr (.call 0 [(.call 8 [(.blt .len [(.var 0)]), (.var 1)]), (.cst (.str "edges"))]))]⟩
theorem b25 : bodyOf G d25 = some f25.body := by kernel_rfl
/-- graph_of(scopes, edges) -/
def f26 : Fn' := ⟨2, [(.ret (.tup [(.cst (.int 2)), (.var 0), (.var 1)]))]⟩
theorem b26 : bodyOf G d26 = some f26.body := by kernel_rfl
/-- sets_of_edges(nodes, many) -/
def f27 : Fn' := ⟨3, [(.set 2 (.cmr false (.var 0) (.cst (.int 2)))), (.ret (.cmb false (.var 2) (.var 1)))]⟩
theorem b27 : bodyOf G d27 = some f27.body := by kernel_rfl
/-- trees(scopes) -/
def f28 : Fn' := ⟨3, [(.set 1 (.call 11 [(.call 26 [(.var 0), (.tup [])])])), (.ret (.lc false (.var 2) (.nm 2) (.seq (.call 27 [(.blt .len [(.var 1)]), (.bin .Sub (.blt .len [(.var 1)]) (.cst (.int 1)))])) [(.val (.call 20 [(.call 26 [(.var 0), (.var 2)]), (.var 1)]))] [2]))]⟩
theorem b28 : bodyOf G d28 = some f28.body := by kernel_rfl
/-- number_shared(scopes, edges) -/
def f29 : Fn' := ⟨4, [(.ret (.blt .sum [(.lc false (.blt .len [(.call 15 [(.call 26 [(.var 0), (.var 1)]), (.var 2), (.var 3)])]) (.tp [(.nm 2), (.nm 3)]) (.seq (.var 1)) [] [2, 3])]))]⟩
theorem b29 : bodyOf G d29 = some f29.body := by kernel_rfl
/-- _law_stream(script) -/
def f30 : Fn' := ⟨1, [(.ret (.lst true [(.blt (.list false) [(.var 0)]), (.cst (.int 0)), (.cst (.int 0))]))]⟩
theorem b30 : bodyOf G d30 = some f30.body := by kernel_rfl
/-- _law_next(stream, many) -/
def f31 : Fn' := ⟨5, [(.ife (.bv (.cmp .Eq (.idx (.var 0) (.cst (.int 1))) (.cst (.int 0)))) [(.set 2 (.idx (.var 0) (.cst (.int 2)))), (.set 3 (.cat false (.cst (.int 7)) (.var 2))), (.ife (.bv (.cmp .Lt (.var 2) (.blt .len [(.idx (.var 0) (.cst (.int 0)))]))) [(.set 3 (.blt .abs [(.idx (.idx (.var 0) (.cst (.int 0))) (.var 2))]))] []), (.ife (.bv (.cmp .Lt (.var 3) (.bin .Pow (.cst (.int 10)) (.cst (.int 18))))) [(.set 3 (.bin .Mod (.blt .int [(.cat false (.cat false (.rep false (.var 3) (.cst (.int 48271))) (.rep false (.var 2) (.cst (.int 69621)))) (.cst (.int 11)))]) (.cst (.int 2147483647)))), (.set 3 (.cat false (.rep false (.bin .Mod (.blt .int [(.cat false (.rep false (.var 3) (.cst (.int 16807))) (.cst (.int 13)))]) (.cst (.int 2147483647))) (.cst (.int 65537))) (.var 3)))] []), (.sto (.var 0) (.cst (.int 1)) (.var 3)), (.sto (.var 0) (.cst (.int 2)) (.cat false (.var 2) (.cst (.int 1))))] []), (.set 4 (.bin .Mod (.blt .int [(.idx (.var 0) (.cst (.int 1)))]) (.var 1))), (.sto (.var 0) (.cst (.int 1)) (.bin .FloorDiv (.idx (.var 0) (.cst (.int 1))) (.var 1))), (.ret (.var 4))]⟩
theorem b31 : bodyOf G d31 = some f31.body := by kernel_rfl
/-- _law_is_integer(actual) -/
def f32 : Fn' := ⟨1, [(.ret (.and (.isi (.var 0) .int) (.not (.isi (.var 0) .bool))))]⟩
theorem b32 : bodyOf G d32 = some f32.body := by kernel_rfl
/-- _law_equal(actual, due) -/
def f33 : Fn' := ⟨3, [(.ife (.bv (.cmp .Is (.var 1) (.cst .non))) [(.ret (.cmp .Is (.var 0) (.cst .non)))] []), (.ife (.val (.isi (.var 1) .bool)) [(.ret (.and (.isi (.var 0) .bool) (.cmp .Eq (.var 0) (.var 1))))] []), (.ife (.val (.isi (.var 1) .int)) [(.ret (.and (.call 32 [(.var 0)]) (.cmp .Eq (.var 0) (.var 1))))] []), (.ife (.val (.isi (.var 1) .str)) [(.ret (.and (.isi (.var 0) .str) (.cmp .Eq (.var 0) (.var 1))))] []), (.ife (.and (.val (.isi (.var 1) .tuple)) (.not (.val (.isi (.var 0) .tuple)))) [(.ret (.cst (.bl false)))] []), (.ife (.and (.val (.isi (.var 1) .list)) (.not (.val (.isi (.var 0) .list)))) [(.ret (.cst (.bl false)))] []), (.ife (.bv (.cmp .NotEq (.blt .len [(.var 0)]) (.blt .len [(.var 1)]))) [(.ret (.cst (.bl false)))] []), (.ret (.blt .all [(.lc false (.call 33 [(.idx (.var 0) (.var 2)), (.idx (.var 1) (.var 2))]) (.nm 2) (.rng (.blt .len [(.var 1)])) [] [2])]))]⟩
theorem b33 : bodyOf G d33 = some f33.body := by kernel_rfl
/-- _law_scopes(stream, most, variables) -/
def f34 : Fn' := ⟨7, [(.set 3 (.lst true [])), (.frr (.nm 4) (.rng (.cat false (.cst (.int 1)) (.call 31 [(.var 0), (.var 1)]))) [(.set 5 (.lc false (.var 6) (.nm 6) (.rng (.var 2)) [(.bv (.cmp .Eq (.call 31 [(.var 0), (.cst (.int 2))]) (.cst (.int 1))))] [6])), (.expr (.mth .append (.var 3) [(.blt .tuple [(.slc false (.var 5) .no (.ex (.cst (.int 3))))])]))]), (.ret (.blt .tuple [(.var 3)]))]⟩
theorem b34 : bodyOf G d34 = some f34.body := by kernel_rfl
/-- _law_pairs(many) -/
def f35 : Fn' := ⟨4, [(.set 1 (.lst false [])), (.frr (.nm 2) (.rng (.var 0)) [(.set 1 (.cat false (.var 1) (.lc false (.tup [(.var 2), (.var 3)]) (.nm 3) (.rng2 (.cat false (.var 2) (.cst (.int 1))) (.var 0)) [] [3])))]), (.ret (.var 1))]⟩
theorem b35 : bodyOf G d35 = some f35.body := by kernel_rfl
/-- _law_hang(nodes, edges) -/
def f36 : Fn' := ⟨6, [(.set 2 (.blt (.list true) [(.slc false (.var 0) .no (.ex (.cst (.int 1))))])), (.frr (.nm 3) (.seq (.var 0)) [(.frr (.tp [(.nm 4), (.nm 5)]) (.seq (.var 1)) [(.ife (.and (.bv (.cmp .In (.var 4) (.var 2))) (.and (.bv (.cmp .In (.var 5) (.var 0))) (.bv (.cmp .NotIn (.var 5) (.var 2))))) [(.expr (.mth .append (.var 2) [(.var 5)]))] []), (.ife (.and (.bv (.cmp .In (.var 5) (.var 2))) (.and (.bv (.cmp .In (.var 4) (.var 0))) (.bv (.cmp .NotIn (.var 4) (.var 2))))) [(.expr (.mth .append (.var 2) [(.var 4)]))] [])])]), (.ret (.cmp .Eq (.blt .len [(.var 2)]) (.blt .len [(.var 0)])))]⟩
theorem b36 : bodyOf G d36 = some f36.body := by kernel_rfl
/-- _law_is_tree(scopes, edges) -/
def f37 : Fn' := ⟨2, [(.ret (.and (.cmp .Eq (.blt .len [(.var 1)]) (.bin .Sub (.blt .len [(.var 0)]) (.cst (.int 1)))) (.call 36 [(.lrng false (.blt .len [(.var 0)])), (.var 1)])))]⟩
theorem b37 : bodyOf G d37 = some f37.body := by kernel_rfl
/-- _law_edge_sets(many) -/
def f38 : Fn' := ⟨4, [(.set 1 (.lst false [(.tup [])])), (.frr (.nm 2) (.seq (.call 35 [(.var 0)])) [(.set 1 (.cat false (.var 1) (.lc false (.cat false (.var 3) (.tup [(.var 2)])) (.nm 3) (.seq (.var 1)) [] [3])))]), (.ret (.blt (.sorted false) [(.lc false (.var 3) (.nm 3) (.seq (.var 1)) [(.bv (.cmp .Eq (.blt .len [(.var 3)]) (.bin .Sub (.var 0) (.cst (.int 1)))))] [3])]))]⟩
theorem b38 : bodyOf G d38 = some f38.body := by kernel_rfl
/-- _law_shared(scopes, edges) -/
def f39 : Fn' := ⟨6, [(.set 2 (.cst (.int 0))), (.frr (.tp [(.nm 3), (.nm 4)]) (.seq (.var 1)) [(.set 2 (.cat false (.var 2) (.blt .len [(.lc false (.var 5) (.nm 5) (.seq (.idx (.var 0) (.var 3))) [(.bv (.cmp .In (.var 5) (.idx (.var 0) (.var 4))))] [5])])))]), (.ret (.var 2))]⟩
theorem b39 : bodyOf G d39 = some f39.body := by kernel_rfl
/-- law(script) -/
def f40 : Fn' := ⟨11, [(.set 1 (.call 30 [(.var 0)])), (.set 2 (.call 34 [(.var 1), (.cst (.int 4)), (.cst (.int 4))])), (.set 3 (.cst (.int 0))), (.frr (.nm 4) (.rng (.cst (.int 6))) [(.set 3 (.cat false (.var 3) (.blt .max2 [(.cst (.int 0)), (.bin .Sub (.blt .len [(.lc false (.var 5) (.nm 5) (.seq (.var 2)) [(.bv (.cmp .In (.var 4) (.var 5)))] [5])]) (.cst (.int 1)))])))]), (.ife (.not (.val (.call 33 [(.call 23 [(.var 2)]), (.var 3)]))) [(.ret (.cst (.bl false)))] []), (.set 6 (.lst true [])), (.frr (.nm 7) (.seq (.call 38 [(.blt .len [(.var 2)])])) [(.ife (.val (.call 37 [(.var 2), (.var 7)])) [(.set 8 (.call 39 [(.var 2), (.var 7)])), (.expr (.mth .append (.var 6) [(.var 8)])), (.ife (.or (.not (.val (.call 33 [(.call 22 [(.var 2), (.var 7)]), (.var 8)]))) (.or (.bv (.cmp .Gt (.var 8) (.var 3))) (.bv (.cmp .NotEq (.call 21 [(.var 2), (.var 7)]) (.cmp .Eq (.var 8) (.var 3)))))) [(.ret (.cst (.bl false)))] [])] [])]), (.set 9 (.blt .tuple [(.lc false (.var 10) (.nm 10) (.seq (.call 35 [(.blt .len [(.var 2)])])) [(.bv (.cmp .Eq (.call 31 [(.var 1), (.cst (.int 2))]) (.cst (.int 1))))] [10])])), (.ife (.not (.val (.call 33 [(.call 22 [(.var 2), (.var 9)]), (.call 39 [(.var 2), (.var 9)])]))) [(.ret (.cst (.bl false)))] []), (.ret (.call 33 [(.call 24 [(.var 2)]), (.blt .max1 [(.var 6)])]))]⟩
theorem b40 : bodyOf G d40 = some f40.body := by kernel_rfl
theorem okT : okTab G tab = true := by decide +kernel
def fs : List Fn' := [f0, f1, f2, f3, f4, f5, f6, f7, f8, f9, f10, f11, f12, f13, f14, f15, f16, f17, f18, f19, f20, f21, f22, f23, f24, f25, f26, f27, f28, f29, f30, f31, f32, f33, f34, f35, f36, f37, f38, f39, f40]
theorem fs_eq : tab.map (mkFn G) = fs := by
  simp only [tab, List.map, mkFn, fs, b0, b1, b2, b3, b4, b5, b6, b7, b8, b9, b10, b11, b12, b13, b14, b15, b16, b17, b18, b19, b20, b21, b22, b23, b24, b25, b26, b27, b28, b29, b30, b31, b32, b33, b34, b35, b36, b37, b38, b39, b40, Option.getD_some]
  rfl
end Tk54

namespace Tk54
open PySem L2 Pu
/-- a graph -/
structure Gra where
  values : Int
  scopes : List (List Int)
  edges : List (Int × Int)
def encS (s : List Int) : D := .tup (s.map .int)
def encG (g : Gra) : D := .tup [.int g.values, .tup (g.scopes.map encS), .tup (g.edges.map encP)]
def gs (f : Nat) : Option (List W → PM W) := if f = 31 then some nextW else none
structure Ok (g : Gra) : Prop where
  v : 2 ≤ g.values ∧ g.values ≤ 3
  n : 1 ≤ g.scopes.length ∧ g.scopes.length ≤ 5
  s : ∀ s ∈ g.scopes, s.Pairwise (· < ·) ∧ s.length ≤ 3 ∧ ∀ x ∈ s, 0 ≤ x ∧ x ≤ 5
  e : ∀ e ∈ g.edges, 0 ≤ e.1 ∧ e.1 < e.2 ∧ e.2 < g.scopes.length
  el : g.edges.length ≤ 1000
  ea : g.edges.Pairwise fun a b => HT.lexLt [a.1, a.2] [b.1, b.2] = true
theorem zip_pairs {α : Type} (e : α → D) (xs : List α) : List.zipWith (fun a b => D.tup [a, b]) (xs.map e) ((xs.drop 1).map e) = (xs.zip (xs.drop 1)).map fun p => .tup [e p.1, e p.2] := by
  rw [List.zipWith_map, List.zip, List.map_zipWith]
theorem asc_zip {α : Type} {R : α → α → Prop} : ∀ {xs : List α}, xs.Pairwise R → ∀ p ∈ xs.zip (xs.drop 1), R p.1 p.2
  | [], _, p, hp => by simp at hp
  | [x], _, p, hp => by simp at hp
  | x :: y :: r, h, p, hp => by
    obtain ⟨h1, h2⟩ := List.pairwise_cons.mp h
    simp only [List.drop_succ_cons, List.drop_zero, List.zip_cons_cons, List.mem_cons] at hp
    rcases hp with rfl | hp
    · exact h1 y List.mem_cons_self
    · exact asc_zip h2 p (by simpa using hp)
section
variable (k : Nat)
theorem i0 (s : Str) (σ : Strm) : pvF gs fs (k + 1) 0 [.v (.bl true), .v (.str s)] σ = .ok (.v .non) σ := by
  rw [pvF_at rfl rfl]
  generalize pvF gs fs k = F
  refine b_end (ss_skip ?_ ss_nil)
  · (repeat' (first | exact e_var rfl | exact e_vs rfl | exact e_vo rfl | exact e_vb rfl | exact e_cst | exact es_nil | exact p_no | exact ts_nil | apply es_cons | apply e_idx | apply e_cmp | apply e_cat | apply e_bin | apply e_rep | apply e_call | apply e_blt | apply e_tup | apply e_isi | apply e_and | apply e_or | apply e_not | apply e_ife | apply e_neg | apply e_slc | apply e_chn | apply e_lst | apply e_trng | apply e_rgl | apply e_rev | apply p_ex | apply t_and | apply t_or | apply t_not | apply t_bv | apply t_val | apply ts_one | exact p_in | exact p_nin | exact p_inP | exact p_inQ | exact p_ninQ | exact p_inL | exact p_ninL | exact sortI_ints | exact p_lenT | exact p_lenQ | exact p_lenL | exact p_lenB | exact p_allM | exact p_anyM | rfl))
theorem i1 (i lo hi : Int) (σ : Strm) : pvF gs fs (k + 1) 1 [.v (.int i), .v (.int lo), .v (.int hi)] σ = .ok (.v (.bl (decide (lo ≤ i) && decide (i ≤ hi)))) σ := by
  rw [pvF_at rfl rfl]
  generalize pvF gs fs k = F
  refine b_run (ss_skip ?_ (ss_ret rfl ?_ rfl))
  · (repeat' (first | exact e_var rfl | exact e_vs rfl | exact e_vo rfl | exact e_vb rfl | exact e_cst | exact es_nil | exact p_no | exact ts_nil | apply es_cons | apply e_idx | apply e_cmp | apply e_cat | apply e_bin | apply e_rep | apply e_call | apply e_blt | apply e_tup | apply e_isi | apply e_and | apply e_or | apply e_not | apply e_ife | apply e_neg | apply e_slc | apply e_chn | apply e_lst | apply e_trng | apply e_rgl | apply e_rev | apply p_ex | apply t_and | apply t_or | apply t_not | apply t_bv | apply t_val | apply ts_one | exact p_in | exact p_nin | exact p_inP | exact p_inQ | exact p_ninQ | exact p_inL | exact p_ninL | exact sortI_ints | exact p_lenT | exact p_lenQ | exact p_lenL | exact p_lenB | exact p_allM | exact p_anyM | rfl))
  · (repeat' (first | exact e_var rfl | exact e_vs rfl | exact e_vo rfl | exact e_vb rfl | exact e_cst | exact es_nil | exact p_no | exact ts_nil | apply es_cons | apply e_idx | apply e_cmp | apply e_cat | apply e_bin | apply e_rep | apply e_call | apply e_blt | apply e_tup | apply e_isi | apply e_and | apply e_or | apply e_not | apply e_ife | apply e_neg | apply e_slc | apply e_chn | apply e_lst | apply e_trng | apply e_rgl | apply e_rev | apply p_ex | apply t_and | apply t_or | apply t_not | apply t_bv | apply t_val | apply ts_one | exact p_in | exact p_nin | exact p_inP | exact p_inQ | exact p_ninQ | exact p_inL | exact p_ninL | exact sortI_ints | exact p_lenT | exact p_lenQ | exact p_lenL | exact p_lenB | exact p_allM | exact p_anyM | rfl))
theorem i1t {i lo hi : Int} (h : lo ≤ i ∧ i ≤ hi) (σ : Strm) : pvF gs fs (k + 1) 1 [.v (.int i), .v (.int lo), .v (.int hi)] σ = .ok (.v (.bl true)) σ := by
  rw [i1]; simp [h]
theorem i2 {γ : Type} (e : γ → D) (xs : List γ) (lo hi : Int) (h : lo ≤ xs.length ∧ (xs.length : Int) ≤ hi) (σ : Strm) : pvF gs fs (k + 1) 2 [.v (.tup (xs.map e)), .v (.int lo), .v (.int hi)] σ = .ok (.v (.bl true)) σ := by
  rw [pvF_at rfl rfl]
  generalize pvF gs fs k = F
  refine b_run (ss_ret rfl ?_ rfl)
  have := e_and (F := F) (ρ := envW f2.slots [.v (.tup (xs.map e)), .v (.int lo), .v (.int hi)]) (σ := σ) (p := true) (q := decide (lo ≤ (xs.length : Int)) && decide ((xs.length : Int) ≤ hi)) (a := .isi (.var 0) .tuple) (b := .chn .LtE .LtE (.var 1) (.blt .len [(.var 0)]) (.var 2)) (by (repeat' (first | exact e_var rfl | exact e_vs rfl | exact e_vo rfl | exact e_vb rfl | exact e_cst | exact es_nil | exact p_no | exact ts_nil | apply es_cons | apply e_idx | apply e_cmp | apply e_cat | apply e_bin | apply e_rep | apply e_call | apply e_blt | apply e_tup | apply e_isi | apply e_and | apply e_or | apply e_not | apply e_ife | apply e_neg | apply e_slc | apply e_chn | apply e_lst | apply e_trng | apply e_rgl | apply e_rev | apply p_ex | apply t_and | apply t_or | apply t_not | apply t_bv | apply t_val | apply ts_one | exact p_in | exact p_nin | exact p_inP | exact p_inQ | exact p_ninQ | exact p_inL | exact p_ninL | exact sortI_ints | exact p_lenT | exact p_lenQ | exact p_lenL | exact p_lenB | exact p_allM | exact p_anyM | rfl))) (fun _ => by (repeat' (first | exact e_var rfl | exact e_vs rfl | exact e_vo rfl | exact e_vb rfl | exact e_cst | exact es_nil | exact p_no | exact ts_nil | apply es_cons | apply e_idx | apply e_cmp | apply e_cat | apply e_bin | apply e_rep | apply e_call | apply e_blt | apply e_tup | apply e_isi | apply e_and | apply e_or | apply e_not | apply e_ife | apply e_neg | apply e_slc | apply e_chn | apply e_lst | apply e_trng | apply e_rgl | apply e_rev | apply p_ex | apply t_and | apply t_or | apply t_not | apply t_bv | apply t_val | apply ts_one | exact p_in | exact p_nin | exact p_inP | exact p_inQ | exact p_ninQ | exact p_inL | exact p_ninL | exact sortI_ints | exact p_lenT | exact p_lenQ | exact p_lenL | exact p_lenB | exact p_allM | exact p_anyM | rfl)))
  simpa [h] using this
/-- is_ascending of what ascends -/
theorem i3 {α : Type} (e : α → D) (xs : List α) (hl : xs.length ≤ 1000) (h : ∀ p ∈ xs.zip (xs.drop 1), ∀ σ : Strm, rd2 (cmpM .Lt) (.v (e p.1)) (.v (e p.2)) σ = .ok (.v (.bl true)) σ) (σ : Strm) :
    pvF gs fs (k + 1) 3 [.v (.tup (xs.map e))] σ = .ok (.v (.bl true)) σ := by
  rw [pvF_at rfl rfl]
  generalize pvF gs fs k = F
  have hz : pvI F (.zip (.var 0) (.slc false (.var 0) (.ex (.cst (.int 1))) .no)) (envW 3 [.v (.tup (xs.map e))]) σ = .ok ((xs.zip (xs.drop 1)).map fun p => .tup [e p.1, e p.2]) σ := by
    have h2 : pvE F (.slc false (.var 0) (.ex (.cst (.int 1))) .no) (envW 3 [.v (.tup (xs.map e))]) σ = .ok (.v (.tup ((xs.drop 1).map e))) σ := by
      refine e_slc (e_var rfl) (p_ex e_cst) p_no ?_
      show lift (slcP false (.tup (xs.map e)) (some 1) none) σ = _
      refine lift_v ?_
      show R.ok (D.tup (cutD (xs.map e) (some ((1 : Nat) : Int)) none)) [] = _
      rw [cut_from, List.map_drop]
    refine i_zip (e_var rfl) h2 rfl rfl ?_
    show (if (xs.map e).length ≤ line then some (List.zipWith (fun a b => D.tup [a, b]) (xs.map e) ((xs.drop 1).map e)) else none) = _
    rw [if_pos (by simp [line_val]; omega), zip_pairs]
  refine b_run (ss_ret rfl (e_blt (es_cons (e_lcF hz (lc_pure0 (f := fun _ => D.bl true) fun p hp => ⟨_, rfl, ?_⟩)) es_nil) ?_) rfl)
  · exact e_cmp (e_var rfl) (e_var rfl) (h p hp σ)
  · have := p_allM (σ := σ) (xs := xs.zip (xs.drop 1)) (p := fun _ => true)
    rw [this]
    simp
theorem i5 (s : List Int) (h1 : s.Pairwise (· < ·)) (h2 : s.length ≤ 3) (h3 : ∀ x ∈ s, 0 ≤ x ∧ x ≤ 5) (σ : Strm) : pvF gs fs (k + 2) 4 [.v (encS s)] σ = .ok (.v (.bl true)) σ := by
  rw [pvF_at rfl rfl]
  have g1 := fun x (hx : x ∈ s) => i1t k (h3 x hx)
  have g3 := i3 k D.int s (by omega) (fun p hp σ => by
    show lift (mret (.bl (decide (p.1 < p.2)))) σ = _
    rw [decide_eq_true (asc_zip h1 p hp)]; rfl)
  generalize pvF gs fs (k + 1) = F at g1 g3
  refine b_run (ss_skip ?_ (ss_ret rfl (e_and (p := true) (q := true) ?_ (fun _ => ?_)) rfl))
  · (repeat' (first | exact e_var rfl | exact e_vs rfl | exact e_vo rfl | exact e_vb rfl | exact e_cst | exact es_nil | exact p_no | exact ts_nil | apply es_cons | apply e_idx | apply e_cmp | apply e_cat | apply e_bin | apply e_rep | apply e_call | apply e_blt | apply e_tup | apply e_isi | apply e_and | apply e_or | apply e_not | apply e_ife | apply e_neg | apply e_slc | apply e_chn | apply e_lst | apply e_trng | apply e_rgl | apply e_rev | apply p_ex | apply t_and | apply t_or | apply t_not | apply t_bv | apply t_val | apply ts_one | exact p_in | exact p_nin | exact p_inP | exact p_inQ | exact p_ninQ | exact p_inL | exact p_ninL | exact sortI_ints | exact p_lenT | exact p_lenQ | exact p_lenL | exact p_lenB | exact p_allM | exact p_anyM | rfl))
  · refine e_blt (es_cons (e_lcF (i_seq (e_var rfl) rfl rfl) (lc_pure0 (e := D.int) (f := fun _ => D.bl true) (xs := s) fun x hx => ⟨_, rfl, ?_⟩)) es_nil) ?_
    · (repeat' (first | exact g1 x hx σ | exact e_var rfl | exact e_vs rfl | exact e_vo rfl | exact e_vb rfl | exact e_cst | exact es_nil | exact p_no | exact ts_nil | apply es_cons | apply e_idx | apply e_cmp | apply e_cat | apply e_bin | apply e_rep | apply e_call | apply e_blt | apply e_tup | apply e_isi | apply e_and | apply e_or | apply e_not | apply e_ife | apply e_neg | apply e_slc | apply e_chn | apply e_lst | apply e_trng | apply e_rgl | apply e_rev | apply p_ex | apply t_and | apply t_or | apply t_not | apply t_bv | apply t_val | apply ts_one | exact p_in | exact p_nin | exact p_inP | exact p_inQ | exact p_ninQ | exact p_inL | exact p_ninL | exact sortI_ints | exact p_lenT | exact p_lenQ | exact p_lenL | exact p_lenB | exact p_allM | exact p_anyM | rfl))
    · rw [p_allM (p := fun _ => true)]; simp
  · (repeat' (first | exact g3 σ | exact e_var rfl | exact e_vs rfl | exact e_vo rfl | exact e_vb rfl | exact e_cst | exact es_nil | exact p_no | exact ts_nil | apply es_cons | apply e_idx | apply e_cmp | apply e_cat | apply e_bin | apply e_rep | apply e_call | apply e_blt | apply e_tup | apply e_isi | apply e_and | apply e_or | apply e_not | apply e_ife | apply e_neg | apply e_slc | apply e_chn | apply e_lst | apply e_trng | apply e_rgl | apply e_rev | apply p_ex | apply t_and | apply t_or | apply t_not | apply t_bv | apply t_val | apply ts_one | exact p_in | exact p_nin | exact p_inP | exact p_inQ | exact p_ninQ | exact p_inL | exact p_ninL | exact sortI_ints | exact p_lenT | exact p_lenQ | exact p_lenL | exact p_lenB | exact p_allM | exact p_anyM | rfl))
theorem i6 (s : List Int) (h1 : s.Pairwise (· < ·)) (h2 : s.length ≤ 3) (h3 : ∀ x ∈ s, 0 ≤ x ∧ x ≤ 5) (σ : Strm) : pvF gs fs (k + 3) 5 [.v (encS s)] σ = .ok (.v (.bl true)) σ := by
  rw [pvF_at rfl rfl]
  have g1 := i5 k s h1 h2 h3
  generalize pvF gs fs (k + 2) = F at g1
  refine b_run (ss_ret rfl (e_and (p := true) (q := true) ?_ (fun _ => ?_)) rfl)
  · (repeat' (first | exact g1 σ | exact e_var rfl | exact e_vs rfl | exact e_vo rfl | exact e_vb rfl | exact e_cst | exact es_nil | exact p_no | exact ts_nil | apply es_cons | apply e_idx | apply e_cmp | apply e_cat | apply e_bin | apply e_rep | apply e_call | apply e_blt | apply e_tup | apply e_isi | apply e_and | apply e_or | apply e_not | apply e_ife | apply e_neg | apply e_slc | apply e_chn | apply e_lst | apply e_trng | apply e_rgl | apply e_rev | apply p_ex | apply t_and | apply t_or | apply t_not | apply t_bv | apply t_val | apply ts_one | exact p_in | exact p_nin | exact p_inP | exact p_inQ | exact p_ninQ | exact p_inL | exact p_ninL | exact sortI_ints | exact p_lenT | exact p_lenQ | exact p_lenL | exact p_lenB | exact p_allM | exact p_anyM | rfl))
  · refine e_cmp (e_blt (es_cons (e_var rfl) es_nil) p_lenT) e_cst ?_
    show lift (cmpM .LtE (.int s.length) (.int 3)) σ = _
    refine lift_v ?_
    show R.ok (D.bl (decide ((s.length : Int) ≤ 3))) [] = _
    rw [decide_eq_true (by omega)]
theorem i8 (ss : List (List Int)) (hn : 1 ≤ ss.length ∧ ss.length ≤ 5) (h : ∀ s ∈ ss, s.Pairwise (· < ·) ∧ s.length ≤ 3 ∧ ∀ x ∈ s, 0 ≤ x ∧ x ≤ 5) (σ : Strm) : pvF gs fs (k + 4) 6 [.v (.tup (ss.map encS))] σ = .ok (.v (.bl true)) σ := by
  rw [pvF_at rfl rfl]
  have g1 := i2 (k + 2) encS ss 1 5 ⟨by omega, by omega⟩
  have g2 := fun s (hs : s ∈ ss) => i6 k s (h s hs).1 (h s hs).2.1 (h s hs).2.2
  generalize pvF gs fs (k + 3) = F at g1 g2
  refine b_run (ss_ret rfl (e_and (p := true) (q := true) ?_ (fun _ => ?_)) rfl)
  · (repeat' (first | exact g1 σ | exact e_var rfl | exact e_vs rfl | exact e_vo rfl | exact e_vb rfl | exact e_cst | exact es_nil | exact p_no | exact ts_nil | apply es_cons | apply e_idx | apply e_cmp | apply e_cat | apply e_bin | apply e_rep | apply e_call | apply e_blt | apply e_tup | apply e_isi | apply e_and | apply e_or | apply e_not | apply e_ife | apply e_neg | apply e_slc | apply e_chn | apply e_lst | apply e_trng | apply e_rgl | apply e_rev | apply p_ex | apply t_and | apply t_or | apply t_not | apply t_bv | apply t_val | apply ts_one | exact p_in | exact p_nin | exact p_inP | exact p_inQ | exact p_ninQ | exact p_inL | exact p_ninL | exact sortI_ints | exact p_lenT | exact p_lenQ | exact p_lenL | exact p_lenB | exact p_allM | exact p_anyM | rfl))
  · refine e_blt (es_cons (e_lcF (i_seq (e_var rfl) rfl rfl) (lc_pure0 (e := encS) (f := fun _ => D.bl true) (xs := ss) fun x hx => ⟨_, rfl, ?_⟩)) es_nil) ?_
    · (repeat' (first | exact g2 x hx σ | exact e_var rfl | exact e_vs rfl | exact e_vo rfl | exact e_vb rfl | exact e_cst | exact es_nil | exact p_no | exact ts_nil | apply es_cons | apply e_idx | apply e_cmp | apply e_cat | apply e_bin | apply e_rep | apply e_call | apply e_blt | apply e_tup | apply e_isi | apply e_and | apply e_or | apply e_not | apply e_ife | apply e_neg | apply e_slc | apply e_chn | apply e_lst | apply e_trng | apply e_rgl | apply e_rev | apply p_ex | apply t_and | apply t_or | apply t_not | apply t_bv | apply t_val | apply ts_one | exact p_in | exact p_nin | exact p_inP | exact p_inQ | exact p_ninQ | exact p_inL | exact p_ninL | exact sortI_ints | exact p_lenT | exact p_lenQ | exact p_lenL | exact p_lenB | exact p_allM | exact p_anyM | rfl))
    · rw [p_allM (p := fun _ => true)]; simp
theorem i9 (n : Nat) (e : Int × Int) (h : 0 ≤ e.1 ∧ e.1 < e.2 ∧ e.2 < n) (σ : Strm) : pvF gs fs (k + 2) 7 [.v (.int n), .v (encP e)] σ = .ok (.v (.bl true)) σ := by
  rw [pvF_at rfl rfl]
  have g1 := i2 k D.int [e.1, e.2] 2 2 ⟨by simp, by simp⟩
  have g2 := i1t k (i := e.1) (lo := 0) (hi := (n : Int) - 1) (by omega)
  have g3 := i1t k (i := e.2) (lo := 0) (hi := (n : Int) - 1) (by omega)
  generalize pvF gs fs (k + 1) = F at g1 g2 g3
  refine b_run (ss_skip (t_or (p := false) (q := false) (t_not (p := true) ?_) (fun _ => t_not (p := true) ?_)) (ss_ret rfl ?_ rfl))
  · (repeat' (first | exact g1 σ | exact e_var rfl | exact e_vs rfl | exact e_vo rfl | exact e_vb rfl | exact e_cst | exact es_nil | exact p_no | exact ts_nil | apply es_cons | apply e_idx | apply e_cmp | apply e_cat | apply e_bin | apply e_rep | apply e_call | apply e_blt | apply e_tup | apply e_isi | apply e_and | apply e_or | apply e_not | apply e_ife | apply e_neg | apply e_slc | apply e_chn | apply e_lst | apply e_trng | apply e_rgl | apply e_rev | apply p_ex | apply t_and | apply t_or | apply t_not | apply t_bv | apply t_val | apply ts_one | exact p_in | exact p_nin | exact p_inP | exact p_inQ | exact p_ninQ | exact p_inL | exact p_ninL | exact sortI_ints | exact p_lenT | exact p_lenQ | exact p_lenL | exact p_lenB | exact p_allM | exact p_anyM | rfl))
  · refine t_val (e_blt (es_cons (e_lcF (i_seq (e_var rfl) rfl rfl) (lc_pure0 (e := D.int) (f := fun _ => D.bl true) (xs := [e.1, e.2]) fun x hx => ⟨_, rfl, ?_⟩)) es_nil) (p_allM (p := fun _ => true))) rfl
    rcases List.mem_cons.mp hx with rfl | hx
    · (repeat' (first | exact g2 σ | exact e_var rfl | exact e_vs rfl | exact e_vo rfl | exact e_vb rfl | exact e_cst | exact es_nil | exact p_no | exact ts_nil | apply es_cons | apply e_idx | apply e_cmp | apply e_cat | apply e_bin | apply e_rep | apply e_call | apply e_blt | apply e_tup | apply e_isi | apply e_and | apply e_or | apply e_not | apply e_ife | apply e_neg | apply e_slc | apply e_chn | apply e_lst | apply e_trng | apply e_rgl | apply e_rev | apply p_ex | apply t_and | apply t_or | apply t_not | apply t_bv | apply t_val | apply ts_one | exact p_in | exact p_nin | exact p_inP | exact p_inQ | exact p_ninQ | exact p_inL | exact p_ninL | exact sortI_ints | exact p_lenT | exact p_lenQ | exact p_lenL | exact p_lenB | exact p_allM | exact p_anyM | rfl))
    · have := List.mem_singleton.mp hx
      subst this
      (repeat' (first | exact g3 σ | exact e_var rfl | exact e_vs rfl | exact e_vo rfl | exact e_vb rfl | exact e_cst | exact es_nil | exact p_no | exact ts_nil | apply es_cons | apply e_idx | apply e_cmp | apply e_cat | apply e_bin | apply e_rep | apply e_call | apply e_blt | apply e_tup | apply e_isi | apply e_and | apply e_or | apply e_not | apply e_ife | apply e_neg | apply e_slc | apply e_chn | apply e_lst | apply e_trng | apply e_rgl | apply e_rev | apply p_ex | apply t_and | apply t_or | apply t_not | apply t_bv | apply t_val | apply ts_one | exact p_in | exact p_nin | exact p_inP | exact p_inQ | exact p_ninQ | exact p_inL | exact p_ninL | exact sortI_ints | exact p_lenT | exact p_lenQ | exact p_lenL | exact p_lenB | exact p_allM | exact p_anyM | rfl))
  · refine e_cmp (e_idx (e_var rfl) e_cst (p_idx rfl rfl)) (e_idx (e_var rfl) e_cst (p_idx rfl rfl)) ?_
    show lift (cmpM .Lt (.int e.1) (.int e.2)) σ = _
    refine lift_v ?_
    show R.ok (D.bl (decide (e.1 < e.2))) [] = _
    rw [decide_eq_true h.2.1]
theorem i10 (n : Nat) (es : List (Int × Int)) (hl : es.length ≤ 1000) (h : ∀ e ∈ es, 0 ≤ e.1 ∧ e.1 < e.2 ∧ e.2 < n) (ha : es.Pairwise fun a b => HT.lexLt [a.1, a.2] [b.1, b.2] = true) (σ : Strm) : pvF gs fs (k + 3) 8 [.v (.int n), .v (.tup (es.map encP))] σ = .ok (.v (.bl true)) σ := by
  rw [pvF_at rfl rfl]
  have g1 := fun e (he : e ∈ es) => i9 k n e (h e he)
  have g2 := i3 (k + 1) encP es hl (fun p hp σ => by
    show lift (ltM (encP p.1) (encP p.2)) σ = _
    refine lift_v ?_
    show R.ok (D.bl (HT.lexLt [p.1.1, p.1.2] [p.2.1, p.2.2])) [] = _
    rw [asc_zip ha p hp])
  generalize pvF gs fs (k + 2) = F at g1 g2
  refine b_run (ss_skip ?_ (ss_ret rfl (e_and (p := true) (q := true) ?_ (fun _ => ?_)) rfl))
  · (repeat' (first | exact e_var rfl | exact e_vs rfl | exact e_vo rfl | exact e_vb rfl | exact e_cst | exact es_nil | exact p_no | exact ts_nil | apply es_cons | apply e_idx | apply e_cmp | apply e_cat | apply e_bin | apply e_rep | apply e_call | apply e_blt | apply e_tup | apply e_isi | apply e_and | apply e_or | apply e_not | apply e_ife | apply e_neg | apply e_slc | apply e_chn | apply e_lst | apply e_trng | apply e_rgl | apply e_rev | apply p_ex | apply t_and | apply t_or | apply t_not | apply t_bv | apply t_val | apply ts_one | exact p_in | exact p_nin | exact p_inP | exact p_inQ | exact p_ninQ | exact p_inL | exact p_ninL | exact sortI_ints | exact p_lenT | exact p_lenQ | exact p_lenL | exact p_lenB | exact p_allM | exact p_anyM | rfl))
  · refine e_blt (es_cons (e_lcF (i_seq (e_var rfl) rfl rfl) (lc_pure0 (e := encP) (f := fun _ => D.bl true) (xs := es) fun x hx => ⟨_, rfl, ?_⟩)) es_nil) ?_
    · (repeat' (first | exact g1 x hx σ | exact e_var rfl | exact e_vs rfl | exact e_vo rfl | exact e_vb rfl | exact e_cst | exact es_nil | exact p_no | exact ts_nil | apply es_cons | apply e_idx | apply e_cmp | apply e_cat | apply e_bin | apply e_rep | apply e_call | apply e_blt | apply e_tup | apply e_isi | apply e_and | apply e_or | apply e_not | apply e_ife | apply e_neg | apply e_slc | apply e_chn | apply e_lst | apply e_trng | apply e_rgl | apply e_rev | apply p_ex | apply t_and | apply t_or | apply t_not | apply t_bv | apply t_val | apply ts_one | exact p_in | exact p_nin | exact p_inP | exact p_inQ | exact p_ninQ | exact p_inL | exact p_ninL | exact sortI_ints | exact p_lenT | exact p_lenQ | exact p_lenL | exact p_lenB | exact p_allM | exact p_anyM | rfl))
    · rw [p_allM (p := fun _ => true)]; simp
  · (repeat' (first | exact g2 σ | exact e_var rfl | exact e_vs rfl | exact e_vo rfl | exact e_vb rfl | exact e_cst | exact es_nil | exact p_no | exact ts_nil | apply es_cons | apply e_idx | apply e_cmp | apply e_cat | apply e_bin | apply e_rep | apply e_call | apply e_blt | apply e_tup | apply e_isi | apply e_and | apply e_or | apply e_not | apply e_ife | apply e_neg | apply e_slc | apply e_chn | apply e_lst | apply e_trng | apply e_rgl | apply e_rev | apply p_ex | apply t_and | apply t_or | apply t_not | apply t_bv | apply t_val | apply ts_one | exact p_in | exact p_nin | exact p_inP | exact p_inQ | exact p_ninQ | exact p_inL | exact p_ninL | exact sortI_ints | exact p_lenT | exact p_lenQ | exact p_lenL | exact p_lenB | exact p_allM | exact p_anyM | rfl))
theorem i15 (g : Gra) (σ : Strm) (h : Ok g) : pvF gs fs (k + 1) 11 [.v (encG g)] σ = .ok (.v (.tup ((List.range g.scopes.length).map fun (i : Nat) => D.int i))) σ := by
  have hn := h.n
  rw [pvF_at rfl rfl]
  generalize pvF gs fs k = F
  refine b_run (ss_ret rfl ?_ rfl)
  (repeat' (first | exact p_trng (by omega) | exact e_var rfl | exact e_vs rfl | exact e_vo rfl | exact e_vb rfl | exact e_cst | exact es_nil | exact p_no | exact ts_nil | apply es_cons | apply e_idx | apply e_cmp | apply e_cat | apply e_bin | apply e_rep | apply e_call | apply e_blt | apply e_tup | apply e_isi | apply e_and | apply e_or | apply e_not | apply e_ife | apply e_neg | apply e_slc | apply e_chn | apply e_lst | apply e_trng | apply e_rgl | apply e_rev | apply p_ex | apply t_and | apply t_or | apply t_not | apply t_bv | apply t_val | apply ts_one | exact p_in | exact p_nin | exact p_inP | exact p_inQ | exact p_ninQ | exact p_inL | exact p_ninL | exact sortI_ints | exact p_lenT | exact p_lenQ | exact p_lenL | exact p_lenB | exact p_allM | exact p_anyM | rfl))
theorem i16 (g : Gra) (a b : Int) (σ : Strm) : pvF gs fs (k + 1) 13 [.v (encG g), .v (.int a), .v (.int b)] σ = .ok (.v (.bl (decide ((if b < a then b else a, if b > a then b else a) ∈ g.edges)))) σ := by
  rw [pvF_at rfl rfl]
  generalize pvF gs fs k = F
  refine b_run (ss_ret rfl ?_ rfl)
  (repeat' (first | exact e_var rfl | exact e_vs rfl | exact e_vo rfl | exact e_vb rfl | exact e_cst | exact es_nil | exact p_no | exact ts_nil | apply es_cons | apply e_idx | apply e_cmp | apply e_cat | apply e_bin | apply e_rep | apply e_call | apply e_blt | apply e_tup | apply e_isi | apply e_and | apply e_or | apply e_not | apply e_ife | apply e_neg | apply e_slc | apply e_chn | apply e_lst | apply e_trng | apply e_rgl | apply e_rev | apply p_ex | apply t_and | apply t_or | apply t_not | apply t_bv | apply t_val | apply ts_one | exact p_in | exact p_nin | exact p_inP | exact p_inQ | exact p_ninQ | exact p_inL | exact p_ninL | exact sortI_ints | exact p_lenT | exact p_lenQ | exact p_lenL | exact p_lenB | exact p_allM | exact p_anyM | rfl))
end
end Tk54

namespace Tk54
open PySem L2 Pu Pth
def adj (g : Gra) (a b : Int) : Bool := decide ((if b < a then b else a, if b > a then b else a) ∈ g.edges)
theorem nodes_map (n : Nat) : ((List.range n).map fun (i : Nat) => D.int i) = (nodes n).map D.int := by
  unfold nodes; rw [List.map_map]; rfl
theorem way_len (n : Nat) (ad : Int → Int → Bool) : ∀ m, (way n ad m).length ≤ n ^ (m + 1)
  | 0 => by simp [way, nodes]
  | m + 1 => by
    unfold way
    rw [List.length_flatMap]
    have h : ∀ l : List (List Int), (l.map fun w => (kids n ad w).length).sum ≤ l.length * n := by
      intro l
      induction l with
      | nil => simp
      | cons w l ih =>
        have : (kids n ad w).length ≤ n := by
          refine Nat.le_trans kids_len ?_
          unfold rem
          refine Nat.le_trans (List.length_filter_le _ _) ?_
          simp [nodes]
        simp only [List.map_cons, List.sum_cons, List.length_cons, Nat.succ_mul]
        omega
    refine Nat.le_trans (h _) ?_
    rw [Nat.pow_succ]
    exact Nat.mul_le_mul_right _ (way_len n ad m)
theorem lexLt2 {a b c d : Int} : HT.lexLt [a, b] [c, d] = true ↔ a < c ∨ a = c ∧ b < d := by
  by_cases e : a = c <;> simp [HT.lexLt, e] <;> omega
theorem near_eq {g : Gra} (h : Ok g) (a : Int) : sortI (((g.edges.filter fun e => decide (e.1 = a)).map (·.2)) ++ ((g.edges.filter fun e => decide (e.2 = a)).map (·.1))) = nbr (g.scopes.length) (adj g) a := by
  refine sorted_eq ?_ ((nodes_asc).filter _)
  have h1 : ((g.edges.filter fun e => decide (e.1 = a)).map (·.2)).Pairwise (· < ·) := by
    rw [List.pairwise_map]
    refine List.Pairwise.imp_of_mem ?_ (h.ea.filter _)
    intro p q hp hq hl
    have e1 := (List.mem_filter.mp hp).2
    have e2 := (List.mem_filter.mp hq).2
    simp only [decide_eq_true_eq] at e1 e2
    rcases lexLt2.mp hl with h | h <;> omega
  have h2 : ((g.edges.filter fun e => decide (e.2 = a)).map (·.1)).Pairwise (· < ·) := by
    rw [List.pairwise_map]
    refine List.Pairwise.imp_of_mem ?_ (h.ea.filter _)
    intro p q hp hq hl
    have e1 := (List.mem_filter.mp hp).2
    have e2 := (List.mem_filter.mp hq).2
    simp only [decide_eq_true_eq] at e1 e2
    rcases lexLt2.mp hl with h | h <;> omega
  have n1 : (nbr (g.scopes.length) (adj g) a).Nodup := ((nodes_asc (n := g.scopes.length)).filter _).imp fun {x y} h => by omega
  have n2 : (((g.edges.filter fun e => decide (e.1 = a)).map (·.2)) ++ ((g.edges.filter fun e => decide (e.2 = a)).map (·.1))).Nodup := by
    rw [List.nodup_append]
    refine ⟨h1.imp fun {x y} h => by omega, h2.imp fun {x y} h => by omega, ?_⟩
    intro x hx y hy
    obtain ⟨e, he, rfl⟩ := List.mem_map.mp hx
    obtain ⟨f, hf, rfl⟩ := List.mem_map.mp hy
    obtain ⟨e1, e2⟩ := List.mem_filter.mp he
    obtain ⟨f1, f2⟩ := List.mem_filter.mp hf
    have := h.e e e1
    have := h.e f f1
    simp only [decide_eq_true_eq] at e2 f2
    omega
  rw [List.perm_ext_iff_of_nodup n1 n2]
  intro b
  unfold nbr adj
  rw [List.mem_filter, mem_nodes, List.mem_append, List.mem_map, List.mem_map, decide_eq_true_eq]
  constructor
  · rintro ⟨hb, he⟩
    have := h.e _ he
    simp only at this
    by_cases hab : b < a
    · right
      rw [if_pos hab, if_neg (by omega)] at he
      exact ⟨_, List.mem_filter.mpr ⟨he, by simp⟩, rfl⟩
    · by_cases hba : b > a
      · left
        rw [if_neg hab, if_pos hba] at he
        exact ⟨_, List.mem_filter.mpr ⟨he, by simp⟩, rfl⟩
      · rw [if_neg hab, if_neg hba] at this; omega
  · rintro (⟨e, he, rfl⟩ | ⟨e, he, rfl⟩)
    · obtain ⟨e1, e2⟩ := List.mem_filter.mp he
      have := h.e e e1
      simp only [decide_eq_true_eq] at e2
      subst e2
      refine ⟨by omega, ?_⟩
      rw [if_neg (by omega), if_pos (by omega)]
      exact e1
    · obtain ⟨e1, e2⟩ := List.mem_filter.mp he
      have := h.e e e1
      simp only [decide_eq_true_eq] at e2
      subst e2
      refine ⟨by omega, ?_⟩
      rw [if_pos (by omega), if_neg (by omega)]
      exact e1
section
variable (k : Nat)
theorem i17 (g : Gra) (h : Ok g) (a : Int) (σ : Strm) : pvF gs fs (k + 2) 14 [.v (encG g), .v (.int a)] σ = .ok (.v (.tup ((nbr (g.scopes.length) (adj g) a).map .int))) σ := by
  rw [pvF_at rfl rfl]
  have g1 := i15 k g
  have g2 := i16 k g
  generalize pvF gs fs (k + 1) = F at g1 g2
  refine b_run (ss_ret rfl (e_blt (es_cons (e_lcF (i_seq (x := .v (.tup ((nodes (g.scopes.length)).map D.int))) (d := .tup ((nodes (g.scopes.length)).map D.int)) ?_ rfl rfl) (lc_pure (e := D.int) (p := adj g a) (f := D.int) (xs := nodes (g.scopes.length)) fun x hx => ⟨_, rfl, ?_, fun _ => ?_⟩)) es_nil) p_tupL) rfl)
  · rw [← nodes_map]; (repeat' (first | exact g1 σ h | exact e_var rfl | exact e_vs rfl | exact e_vo rfl | exact e_vb rfl | exact e_cst | exact es_nil | exact p_no | exact ts_nil | apply es_cons | apply e_idx | apply e_cmp | apply e_cat | apply e_bin | apply e_rep | apply e_call | apply e_blt | apply e_tup | apply e_isi | apply e_and | apply e_or | apply e_not | apply e_ife | apply e_neg | apply e_slc | apply e_chn | apply e_lst | apply e_trng | apply e_rgl | apply e_rev | apply p_ex | apply t_and | apply t_or | apply t_not | apply t_bv | apply t_val | apply ts_one | exact p_in | exact p_nin | exact p_inP | exact p_inQ | exact p_ninQ | exact p_inL | exact p_ninL | exact sortI_ints | exact p_lenT | exact p_lenQ | exact p_lenL | exact p_lenB | exact p_allM | exact p_anyM | rfl))
  · exact ts_one (t_val (e_call (es_cons (e_var rfl) (es_cons (e_var rfl) (es_cons (e_var rfl) es_nil))) (g2 a x σ)) rfl)
  · (repeat' (first | exact e_var rfl | exact e_vs rfl | exact e_vo rfl | exact e_vb rfl | exact e_cst | exact es_nil | exact p_no | exact ts_nil | apply es_cons | apply e_idx | apply e_cmp | apply e_cat | apply e_bin | apply e_rep | apply e_call | apply e_blt | apply e_tup | apply e_isi | apply e_and | apply e_or | apply e_not | apply e_ife | apply e_neg | apply e_slc | apply e_chn | apply e_lst | apply e_trng | apply e_rgl | apply e_rev | apply p_ex | apply t_and | apply t_or | apply t_not | apply t_bv | apply t_val | apply ts_one | exact p_in | exact p_nin | exact p_inP | exact p_inQ | exact p_ninQ | exact p_inL | exact p_ninL | exact sortI_ints | exact p_lenT | exact p_lenQ | exact p_lenL | exact p_lenB | exact p_allM | exact p_anyM | rfl))
theorem scope_at {g : Gra} {a : Int} {s : List Int} (hs : g.scopes[a.toNat]? = some s) (ha : 0 ≤ a) (σ : Strm) : rd2 idxM (.v (.tup (g.scopes.map encS))) (.v (.int a)) σ = .ok (.v (encS s)) σ := p_at rfl ha hs
theorem i18 (g : Gra) (a b : Int) (s t : List Int) (ha : 0 ≤ a) (hb : 0 ≤ b) (hs : g.scopes[a.toNat]? = some s) (ht : g.scopes[b.toNat]? = some t) (σ : Strm) : pvF gs fs (k + 1) 15 [.v (encG g), .v (.int a), .v (.int b)] σ = .ok (.v (encS (s.filter fun x => decide (x ∈ t)))) σ := by
  rw [pvF_at rfl rfl]
  have g1 := scope_at hs ha
  have g2 := scope_at ht hb
  generalize pvF gs fs k = F
  refine b_run (ss_set rfl (e_idx (e_var rfl) e_cst rfl) rfl (ss_ret rfl (e_blt (es_cons (e_lcF (i_seq (d := encS s) (e_idx (e_var rfl) (e_var rfl) (g1 σ)) rfl rfl) (lc_pure (e := D.int) (p := fun x => decide (x ∈ t)) (f := D.int) (xs := s) fun x hx => ⟨_, rfl, ts_one (t_bv (e_cmp (e_var rfl) (e_idx (e_var rfl) (e_var rfl) (g2 σ)) p_in)), fun _ => e_var rfl⟩)) es_nil) p_tupL) rfl))
end
end Tk54

namespace Tk54
open PySem L2 Pu Pth
theorem ss_bk {F : Nat → List W → PM W} {ρ : Env2} {σ σ1 : Strm} {st : S'} {r : List S'} {ρ' : Env2} (h1 : pvS F st ρ σ = .ok (.bk ρ') σ1) : pvSs F (st :: r) ρ σ = .ok (.bk ρ') σ1 := by
  show ((pvS F st ρ σ).bind fun fl => match fl with | .nx ρ' => pvSs F r ρ' | f => pret f) = _
  rw [h1]; rfl
theorem way0_map (n : Nat) (ad : Int → Int → Bool) : (way n ad 0).map encS = (nodes n).map fun x => encS [x] := by simp [way, Function.comp_def]
theorem way1_map (n : Nat) (ad : Int → Int → Bool) (j : Nat) : (way n ad (j + 1)).map encS = (way n ad j).flatMap fun w => ((nbr n ad (w.getLastD 0)).filter fun b => !decide (b ∈ w)).map fun b => encS (w ++ [b]) := by
  rw [way, List.map_flatMap]
  congr 1
  funext w
  rw [kids, List.map_map]; rfl
theorem cat_snoc {w : List Int} {b : Int} (h : w.length + 1 ≤ line) (σ : Strm) : rd2 (catM false) (.v (encS w)) (.v (.tup [.int b])) σ = .ok (.v (encS (w ++ [b]))) σ := by
  have := p_catT (σ := σ) (xs := w.map D.int) (ys := [.int b]) (by simpa using h)
  unfold encS
  rw [List.map_append]; exact this
theorem last_at {w : List Int} (h : w ≠ []) (σ : Strm) : rd2 idxM (.v (encS w)) (.v (.int (-1))) σ = .ok (.v (.int (w.getLastD 0))) σ := by
  refine p_atLast (e := D.int) rfl ?_
  rw [List.getLastD_eq_getLast?]
  cases e : w.getLast? with
  | none => exact absurd (List.getLast?_eq_none_iff.mp e) h
  | some x => rfl
theorem head_at {w : List Int} (h : w ≠ []) (σ : Strm) : rd2 idxM (.v (encS w)) (.v (.int 0)) σ = .ok (.v (.int (w.headD 0))) σ := by
  cases w with
  | nil => exact absurd rfl h
  | cons x r => exact p_idx rfl (atI_0 _ _)
section
variable (k : Nat)
theorem i19 (g : Gra) (h : Ok g) (m : Nat) (hm : m < 5) (σ : Strm) : pvF gs fs (k + 3) 16 [.v (encG g), .v (.int (1 + (m : Int)))] σ = .ok (.v (.fz ((way g.scopes.length (adj g) m).map encS))) σ := by
  rw [pvF_at rfl rfl]
  have g1 := i15 (k + 1) g
  have g2 := i17 k g h
  generalize pvF gs fs (k + 2) = F at g1 g2
  have hbody : f16.body = f16.body := rfl
  have hn := h.n
  let R : Nat → Option W → Env2 := fun j z => [some (.v (encG g)), some (.v (.int (1 + (m : Int)))), some (.v (.fz ((way g.scopes.length (adj g) j).map encS))), none, z, none]
  have loop := for_all (body := pvSs F [(.set 2 (.lc2 false (.cat false (.var 5) (.tup [(.var 3)])) (.nm 5) (.seq (.var 2)) [] (.nm 3) (.seq (.call 14 [(.var 0), (.idx (.var 5) (.neg (.cst (.int 1))))])) [(.bv (.cmp .NotIn (.var 3) (.var 5)))] [5, 3] [3]))]) (tg := .nm 4) (g := none) (e := fun (i : Nat) => D.int (0 + (i : Int))) (P := fun ds ρ τ => τ = σ ∧ ∃ z, ρ = R ds.length z) (xs := List.range m) (ds := []) (ρ := R 0 none) (σ := σ) (by
    rintro ds x r ρ τ hx ⟨rfl, z, rfl⟩
    have hd : ds.length < m := by
      have := congrArg List.length hx
      simp at this; omega
    refine ⟨R ds.length (some (.v (.int (0 + (x : Int))))), rfl, R (ds.length + 1) (some (.v (.int (0 + (x : Int))))), τ, ?_, rfl, rfl, _, by rw [List.length_append]; rfl⟩
    refine ss_set (w := .v (.fz ((way g.scopes.length (adj g) (ds.length + 1)).map encS))) rfl (e_lc2F (i_seq (d := .fz ((way g.scopes.length (adj g) ds.length).map encS)) (e_var rfl) rfl rfl) ?_ ?_) rfl ss_nil
    · rw [way1_map]
      refine lc2_pure (e := encS) (g := fun w => nbr g.scopes.length (adj g) (w.getLastD 0)) (e1 := fun _ b => .int b) (p := fun w b => !decide (b ∈ w)) (f := fun w b => encS (w ++ [b])) fun w hw => ?_
      have hw' := mem_way.mp hw
      have hne : w ≠ [] := by
        intro e; rw [e] at hw'; simp at hw'
      refine ⟨_, rfl, ?_, fun y hy => ⟨_, rfl, ts_one (t_bv (e_cmp (e_var rfl) (e_var rfl) p_nin)), fun _ => e_cat (e_var rfl) (e_tup (es_cons (e_var rfl) es_nil) rfl) (cat_snoc ?_ _)⟩⟩
      · exact i_seq (e_call (es_cons (e_var rfl) (es_cons (e_idx (e_var rfl) (e_neg e_cst rfl) (last_at hne _)) es_nil)) (g2 _ _)) rfl rfl
      · have := hw'.2
        simp only [line_val]; omega
    · have h1 := way_len g.scopes.length (adj g) (ds.length + 1)
      have h2 : g.scopes.length ^ (ds.length + 1 + 1) ≤ 5 ^ (ds.length + 1 + 1) := Nat.pow_le_pow_left hn.2 _
      have h3 : 5 ^ (ds.length + 1 + 1) ≤ 5 ^ 5 := Nat.pow_le_pow_right (by omega) (by omega)
      simp only [List.length_map, line_val]
      omega) ⟨rfl, none, rfl⟩
  obtain ⟨ρ2, σ2, ⟨rfl, z, rfl⟩, hl⟩ := loop
  rw [List.length_range] at hl
  refine b_run (ss_set (σ1 := σ2) (w := .v (.fz ((way g.scopes.length (adj g) 0).map encS))) rfl (e_lcF (σ1 := σ2) (i_seq (x := .v (.tup ((nodes g.scopes.length).map D.int))) ?_ rfl rfl) ?_) rfl (ss_nx (s_for rfl (is_of (fun _ h => by cases h) (fun _ _ h => by cases h) (i_rng (n := m) ?_ (by omega))) hl) (ss_rt (s_retv rfl rfl))))
  · rw [← nodes_map]; (repeat' (first | exact g1 _ h | exact e_var rfl | exact e_vs rfl | exact e_vo rfl | exact e_vb rfl | exact e_cst | exact es_nil | exact p_no | exact ts_nil | apply es_cons | apply e_idx | apply e_cmp | apply e_cat | apply e_bin | apply e_rep | apply e_call | apply e_blt | apply e_tup | apply e_isi | apply e_and | apply e_or | apply e_not | apply e_ife | apply e_neg | apply e_slc | apply e_chn | apply e_lst | apply e_trng | apply e_rgl | apply e_rev | apply p_ex | apply t_and | apply t_or | apply t_not | apply t_bv | apply t_val | apply ts_one | exact p_in | exact p_nin | exact p_inP | exact p_inQ | exact p_ninQ | exact p_inL | exact p_ninL | exact sortI_ints | exact p_lenT | exact p_lenQ | exact p_lenL | exact p_lenB | exact p_allM | exact p_anyM | rfl))
  · rw [way0_map]
    exact lc_pure0 (e := D.int) (f := fun x => encS [x]) (xs := nodes g.scopes.length) fun x hx => ⟨_, rfl, e_tup (es_cons (e_var rfl) es_nil) rfl⟩
  · refine e_bin (x := .v (.int (1 + (m : Int)))) (y := .v (.int 1)) (e_var rfl) e_cst ?_
    rw [p_sub, show 1 + (m : Int) - 1 = m by omega]
theorem find_some {α β : Type} (p : α → Bool) (r : α → β) : ∀ xs : List α, xs.findSome? (fun x => if p x then some (r x) else none) = (xs.find? p).map r
  | [] => rfl
  | x :: xs => by
    rw [List.findSome?_cons, List.find?_cons]
    cases h : p x with
    | true => simp
    | false => simpa [h] using find_some p r xs
def encO : Option (List Int) → D
  | none => .non
  | some w => encS w
end
end Tk54

namespace Tk54
open PySem L2 Pu Pth
theorem gr {g : Gra} (h : Ok g) : Forest.Gr g.scopes.length g.edges (adj g) := by
  have lt : ∀ e ∈ g.edges, e.1 < e.2 := fun e he => (h.e e he).2.1
  refine ⟨h.ea.imp fun {a b} q e => ?_, lt, fun a b ab => ?_, fun a b => ?_, fun a => ?_⟩
  · subst e
    have := lexLt2.mp q
    omega
  · unfold adj
    rw [if_neg (by omega), if_pos ab, decide_eq_true_iff]
  · unfold adj
    rcases Int.lt_trichotomy a b with q | q | q
    · rw [if_neg (by omega), if_pos q, if_pos q, if_neg (by omega)]
    · subst q; rfl
    · rw [if_pos q, if_neg (by omega), if_neg (by omega), if_pos q]
  · unfold adj
    rw [if_neg (by omega), decide_eq_false_iff_not]
    intro q
    have := lt _ q
    simp only at this; omega
def allV (g : Gra) : List Int := dedI g.scopes.flatten
theorem flat_len : ∀ {ss : List (List Int)} {n : Nat}, ss.length ≤ n → (∀ s ∈ ss, s.length ≤ 3) → ss.flatten.length ≤ n * 3
  | [], n, _, _ => by simp
  | s :: ss, n, h, hl => by
    cases n with
    | zero => simp at h
    | succ n =>
      have := flat_len (ss := ss) (n := n) (by simpa using h) fun t ht => hl t (List.mem_cons_of_mem _ ht)
      have := hl s List.mem_cons_self
      simp only [List.flatten_cons, List.length_append, Nat.succ_mul]; omega
theorem mem_allV {g : Gra} {x : Int} : x ∈ allV g ↔ ∃ s ∈ g.scopes, x ∈ s := by
  unfold allV
  rw [mem_dedI, List.mem_flatten]
/-- the nodes that have the variable -/
def having (g : Gra) (v : Int) : List Int := ((List.range g.scopes.length).filter fun i => decide (v ∈ g.scopes.getD i [])).map fun (i : Nat) => (i : Int)
def cyc? (g : Gra) : Option (List Int) := (List.range (g.scopes.length - 2)).findSome? fun m => (way g.scopes.length (adj g) (m + 2)).find? fun w => adj g (w.headD 0) (w.getLastD 0)
def ht (g : Gra) (A : List Int) : Bool := decide (Hang.growN (adj g) A (A.headD 0) A.length = A)
def junc (g : Gra) : Bool := (cyc? g).isNone && (ht g (nodes g.scopes.length) && (allV g).all fun v => ht g (having g v))
theorem p_eqS {a b : List Int} {σ : Strm} : rd2 (cmpM .Eq) (.v (encS a)) (.v (encS b)) σ = .ok (.v (.bl (decide (a = b)))) σ := by
  show lift (eqM false (encS a) (encS b)) σ = _
  refine lift_v ?_
  have e : ∀ l : List Int, toPy [] (encS l) = some (Dat.py l) := fun l => py0 (α := List Int) l
  unfold eqM
  rw [e, e]
  dsimp only
  rw [shaped_ok, shaped_ok, Dat.eqv_ok]
  show R.ok (D.bl _) [] = _
  congr 2
theorem p_neS {a b : List Int} {σ : Strm} : rd2 (cmpM .NotEq) (.v (encS a)) (.v (encS b)) σ = .ok (.v (.bl (!decide (a = b)))) σ := by
  show lift (eqM true (encS a) (encS b)) σ = _
  refine lift_v ?_
  have e : ∀ l : List Int, toPy [] (encS l) = some (Dat.py l) := fun l => py0 (α := List Int) l
  unfold eqM
  rw [e, e]
  dsimp only
  rw [shaped_ok, shaped_ok, Dat.eqv_ok]
  show R.ok (D.bl _) [] = _
  congr 3
section
variable (k : Nat)
theorem i11 (g : Gra) (h : Ok g) (σ : Strm) : pvF gs fs (k + 1) 9 [.v (encG g)] σ = .ok (.v (encS (allV g))) σ := by
  rw [pvF_at rfl rfl]
  generalize pvF gs fs k = F
  have hfl := flat_len h.n.2 fun s hs => (h.s s hs).2.1
  refine b_run (ss_ret rfl (e_blt (es_cons (e_ssc (ns := g.scopes.flatten) (i_seq (d := .tup (g.scopes.map encS)) (e_idx (e_var rfl) e_cst (p_idx rfl (atI_1 _ _ _))) rfl rfl) ?_ (by omega)) es_nil) p_tupL) rfl)
  have e : g.scopes.flatten.map D.int = g.scopes.flatMap fun s => (s.filter fun _ => true).map D.int := by
    rw [List.flatMap, List.map_flatten]
    congr 2
    funext s
    rw [List.filter_eq_self.mpr (fun _ _ => rfl)]
  rw [e]
  exact lc2_pure (e := encS) (g := fun s => s) (e1 := fun _ x => D.int x) (p := fun _ _ => true) (f := fun _ x => D.int x) fun s hs => ⟨_, rfl, i_seq (e_var rfl) rfl rfl, fun y hy => ⟨_, rfl, ts_nil, fun _ => e_var rfl⟩⟩
theorem i15r (g : Gra) (v : Int) (σ : Strm) : pvF gs fs (k + 1) 12 [.v (encG g), .v (.int v)] σ = .ok (.v (encS (having g v))) σ := by
  rw [pvF_at rfl rfl]
  generalize pvF gs fs k = F
  have items : pvI F (.enm (.idx (.var 0) (.cst (.int 1)))) (envW f12.slots [.v (encG g), .v (.int v)]) σ = .ok ((List.range g.scopes.length).map fun (i : Nat) => D.tup [.int (i : Int), encS (g.scopes.getD i [])]) σ := by
    refine i_enm (d := .tup (g.scopes.map encS)) (e_idx (e_var rfl) e_cst (p_idx rfl (atI_1 _ _ _))) rfl ?_
    show some ((g.scopes.map encS).mapIdx fun i d => D.tup [.int i, d]) = _
    congr 1
    refine List.ext_getElem (by simp) fun j h1 h2 => ?_
    simp at h1
    simp [List.getD_eq_getElem?_getD, List.getElem?_eq_getElem h1]
  refine b_run (ss_ret rfl (e_blt (es_cons (w := .v (.fz ((having g v).map D.int))) (e_lcF items ?_) es_nil) p_tupL) rfl)
  unfold having
  rw [List.map_map]
  exact lc_pure (p := fun (i : Nat) => decide (v ∈ g.scopes.getD i [])) (f := fun (i : Nat) => D.int (i : Int)) (xs := List.range g.scopes.length) fun i hi => ⟨_, rfl, ts_one (t_bv (e_cmp (e_var rfl) (e_var rfl) p_in)), fun _ => e_var rfl⟩
theorem i22r (g : Gra) (S : List Int) (x : Int) (σ : Strm) : pvF gs fs (k + 2) 19 [.v (encG g), .v (encS S), .v (.int x)] σ = .ok (.v (.bl (S.any fun s => adj g s x))) σ := by
  rw [pvF_at rfl rfl]
  have g1 := i16 k g
  generalize pvF gs fs (k + 1) = F at g1
  exact b_run (ss_ret rfl (e_blt (es_cons (e_lcF (i_seq (d := encS S) (e_var rfl) rfl rfl) (lc_pure0 (e := D.int) (f := fun s => D.bl (adj g s x)) (xs := S) fun s hs => ⟨_, rfl, e_call (es_cons (e_var rfl) (es_cons (e_var rfl) (es_cons (e_var rfl) es_nil))) (g1 s x σ)⟩)) es_nil) p_anyM) rfl)
theorem i21r (g : Gra) (A : List Int) (u : Int) (σ : Strm) : pvF gs fs (k + 3) 18 [.v (encG g), .v (encS A), .v (.int u)] σ = .ok (.v (encS (Hang.growN (adj g) A u A.length))) σ := by
  rw [pvF_at rfl rfl]
  have g1 := i22r k g
  generalize pvF gs fs (k + 2) = F at g1
  let R : Nat → Option W → Env2 := fun j z => [some (.v (encG g)), some (.v (encS A)), some (.v (.int u)), some (.v (encS (Hang.growN (adj g) A u j))), z, none]
  obtain ⟨ρ2, σ2, ⟨hσ, z, rfl⟩, hl⟩ := for_all (body := pvSs F [(.set 3 (.blt .tuple [(.lc false (.var 5) (.nm 5) (.seq (.var 1)) [(.or (.bv (.cmp .In (.var 5) (.var 3))) (.val (.call 19 [(.var 0), (.var 3), (.var 5)])))] [5])]))]) (tg := .nm 4) (g := some 1) (e := D.int) (P := fun ds ρ τ => τ = σ ∧ ∃ z, ρ = R ds.length z) (xs := A) (ds := []) (ρ := R 0 none) (σ := σ) (by
    rintro ds x r ρ τ hx ⟨rfl, z, rfl⟩
    refine ⟨R ds.length (some (.v (.int x))), rfl, R (ds.length + 1) (some (.v (.int x))), τ, ?_, by unfold stays; simp [R], rfl, _, by rw [List.length_append]; rfl⟩
    exact ss_set (w := .v (encS (Hang.growN (adj g) A u (ds.length + 1)))) rfl (e_blt (es_cons (w := .v (.fz ((Hang.grow (adj g) A (Hang.growN (adj g) A u ds.length)).map D.int))) (e_lcF (i_seq (d := encS A) (e_var rfl) rfl rfl) (lc_pure (e := D.int) (p := fun x => decide (x ∈ Hang.growN (adj g) A u ds.length) || (Hang.growN (adj g) A u ds.length).any fun s => adj g s x) (f := D.int) (xs := A) fun y hy => ⟨_, rfl, ts_one (t_or (t_bv (e_cmp (e_var rfl) (e_var rfl) p_in)) fun _ => t_val (e_call (es_cons (e_var rfl) (es_cons (e_var rfl) (es_cons (e_var rfl) es_nil))) (g1 _ y τ)) rfl), fun _ => e_var rfl⟩)) es_nil) p_tupL) rfl ss_nil) ⟨rfl, none, rfl⟩
  subst hσ
  exact b_run (ss_set (σ1 := σ2) (w := .v (encS [u])) rfl (e_tup (es_cons (e_var rfl) es_nil) rfl) rfl (ss_nx (s_for rfl (is_var rfl rfl) hl) (ss_rt (s_retv rfl rfl))))
theorem i23r (g : Gra) (A : List Int) (hA : A ≠ []) (σ : Strm) : pvF gs fs (k + 4) 20 [.v (encG g), .v (encS A)] σ = .ok (.v (.bl (ht g A))) σ := by
  rw [pvF_at rfl rfl]
  have g1 := i21r k g A (A.headD 0)
  generalize pvF gs fs (k + 3) = F at g1
  exact b_run (ss_ret rfl (e_cmp (e_call (es_cons (e_var rfl) (es_cons (e_var rfl) (es_cons (e_idx (e_var rfl) e_cst (head_at hA _)) es_nil))) (g1 σ)) (e_var rfl) p_eqS) rfl)
theorem i20 (g : Gra) (h : Ok g) (σ : Strm) : pvF gs fs (k + 4) 17 [.v (encG g)] σ = .ok (.v (encO (cyc? g))) σ := by
  rw [pvF_at rfl rfl]
  have g1 := i19 k g h
  have g2 := i16 (k + 2) g
  generalize pvF gs fs (k + 3) = F at g1 g2
  have hn := h.n
  let body : List S' := [(.frr (.nm 2) (.seq (.call 16 [(.var 0), (.var 1)])) [(.ife (.val (.call 13 [(.var 0), (.idx (.var 2) (.cst (.int 0))), (.idx (.var 2) (.neg (.cst (.int 1))))])) [(.ret (.var 2))] [])])]
  let ok? : List Int → Bool := fun w => adj g (w.headD 0) (w.getLastD 0)
  obtain ⟨ρ2, ⟨x, y, rfl⟩, hl⟩ := for_find (σ := σ) (body := pvSs F body) (tg := .nm 1) (g := none) (e := fun (i : Nat) => D.int (3 + (i : Int))) (f := fun m => ((way g.scopes.length (adj g) (m + 2)).find? ok?).map fun w => W.v (encS w)) (fun ρ => ∃ x y, ρ = [some (.v (encG g)), x, y]) (xs := List.range (g.scopes.length - 2)) (ρ := [some (.v (encG g)), none, none]) (by
    rintro m hm ρ ⟨x, y, rfl⟩
    have hm := List.mem_range.mp hm
    refine ⟨_, rfl, ?_⟩
    obtain ⟨ρ3, ⟨y', rfl⟩, hl⟩ := for_find (σ := σ) (body := pvSs F [(.ife (.val (.call 13 [(.var 0), (.idx (.var 2) (.cst (.int 0))), (.idx (.var 2) (.neg (.cst (.int 1))))])) [(.ret (.var 2))] [])]) (tg := .nm 2) (g := none) (e := encS) (f := fun w => if ok? w then some (W.v (encS w)) else none) (fun ρ => ∃ y, ρ = [some (.v (encG g)), some (.v (.int (3 + (m : Int)))), y]) (xs := way g.scopes.length (adj g) (m + 2)) (ρ := [some (.v (encG g)), some (.v (.int (3 + (m : Int)))), y]) (by
      rintro w hw ρ ⟨y, rfl⟩
      have hw' := mem_way.mp hw
      have hne : w ≠ [] := by
        intro e; rw [e] at hw'; simp at hw'
      refine ⟨_, rfl, ?_⟩
      have ht : pvT F (.val (.call 13 [(.var 0), (.idx (.var 2) (.cst (.int 0))), (.idx (.var 2) (.neg (.cst (.int 1))))])) [some (.v (encG g)), some (.v (.int (3 + (m : Int)))), some (.v (encS w))] σ = .ok (ok? w) σ :=
        t_val (e_call (es_cons (e_var rfl) (es_cons (e_idx (e_var rfl) e_cst (head_at hne _)) (es_cons (e_idx (e_var rfl) (e_neg e_cst rfl) (last_at hne _)) es_nil))) (g2 _ _ σ)) rfl
      cases hh : ok? w with
      | true => rw [hh] at ht; exact ss_rt (s_ifT ht (ss_rt (s_retv rfl rfl)))
      | false => rw [hh] at ht; exact ⟨_, ss_skip ht ss_nil, rfl, _, rfl⟩) ⟨_, rfl⟩
    rw [find_some] at hl
    have gm := g1 (m + 2) (by omega) σ
    rw [show (1 + ((m + 2 : Nat) : Int)) = 3 + (m : Int) by omega] at gm
    have hs : pvIS F (.seq (.call 16 [(.var 0), (.var 1)])) [some (.v (encG g)), some (.v (.int (3 + (m : Int)))), y] σ = .ok ((way g.scopes.length (adj g) (m + 2)).map encS) σ :=
      is_seq rfl (e_call (es_cons (e_var rfl) (es_cons (e_var rfl) es_nil)) gm) rfl rfl
    cases e : (way g.scopes.length (adj g) (m + 2)).find? ok? with
    | some w => rw [e] at hl; exact ss_rt (s_for rfl hs hl)
    | none => rw [e] at hl; exact ⟨_, ss_nx (s_for rfl hs hl) ss_nil, rfl, _, _, rfl⟩) ⟨_, _, rfl⟩
  have e : (List.range (g.scopes.length - 2)).findSome? (fun m => ((way g.scopes.length (adj g) (m + 2)).find? ok?).map fun w => W.v (encS w)) = (cyc? g).map fun w => W.v (encS w) := by
    unfold cyc?
    rw [List.map_findSome?]; rfl
  rw [e] at hl
  have hs : pvIS F (.rng2 (.cst (.int 3)) (.cat false (.blt .len [(.idx (.var 0) (.cst (.int 1)))]) (.cst (.int 1)))) [some (.v (encG g)), none, none] σ = .ok ((List.range (g.scopes.length - 2)).map fun (i : Nat) => D.int (3 + (i : Int))) σ := by
    refine is_of (fun _ h => by cases h) (fun _ _ h => by cases h) ?_
    have := i_rng2 (F := F) (ρ := [some (.v (encG g)), none, none]) (σ := σ) (a := .cst (.int 3)) (b := .cat false (.blt .len [(.idx (.var 0) (.cst (.int 1)))]) (.cst (.int 1))) (i := 3) (j := (g.scopes.length : Int) + 1) e_cst (e_cat (e_blt (es_cons (e_idx (e_var rfl) e_cst (p_idx rfl (atI_1 _ _ _))) es_nil) p_lenT) e_cst rfl) (by omega)
    rw [this]
    congr 3; omega
  cases e : cyc? g with
  | some w => rw [e] at hl; exact b_run (ss_rt (s_for rfl hs hl))
  | none => rw [e] at hl; exact b_run (ss_nx (s_for rfl hs hl) (ss_ret rfl e_cst rfl))
theorem having_ne {g : Gra} {v : Int} (hv : v ∈ allV g) : having g v ≠ [] := by
  obtain ⟨s, hs, q⟩ := mem_allV.mp hv
  obtain ⟨i, hi⟩ := List.mem_iff_getElem?.mp hs
  have hlt := (List.getElem?_eq_some_iff.mp hi).1
  intro e
  have : (i : Int) ∈ having g v := by
    unfold having
    refine List.mem_map.mpr ⟨i, List.mem_filter.mpr ⟨List.mem_range.mpr hlt, ?_⟩, rfl⟩
    rw [List.getD_eq_getElem?_getD, hi]
    simpa using q
  rw [e] at this
  simp at this
theorem i12j (g : Gra) (h : Ok g) (σ : Strm) : pvF gs fs (k + 5) 10 [.v (encG g)] σ = .ok (.v (.bl (junc g))) σ := by
  rw [pvF_at rfl rfl]
  have g20 := i20 k g h
  have g23 := fun A hA => i23r k g A hA
  have g14 := i15 (k + 3) g
  have g15 := i15r (k + 3) g
  have g11 := i11 (k + 3) g h
  generalize pvF gs fs (k + 4) = F at g20 g23 g14 g15 g11
  have hn := h.n
  have hnn : nodes g.scopes.length ≠ [] := by
    intro e
    have hl : (nodes g.scopes.length).length = g.scopes.length := by simp [nodes]
    rw [e] at hl
    simp only [List.length_nil] at hl; omega
  have e14 : F 11 [.v (encG g)] σ = .ok (.v (encS (nodes g.scopes.length))) σ := by
    rw [g14 σ h]
    unfold encS
    rw [nodes_map]
  have t1 : pvE F (.cmp .IsNot (.call 17 [(.var 0)]) (.cst .non)) [some (.v (encG g)), none] σ = .ok (.v (.bl (!(cyc? g).isNone))) σ := by
    cases e : cyc? g with
    | none => rw [e] at g20; exact e_cmp (e_call (es_cons (e_var rfl) es_nil) (g20 σ)) e_cst rfl
    | some w => rw [e] at g20; exact e_cmp (e_call (es_cons (e_var rfl) es_nil) (g20 σ)) e_cst rfl
  refine b_run ?_
  have e := ss_ifret (F := F) (σ := σ) (ρ := [some (.v (encG g)), none]) (t := .or (.bv (.cmp .IsNot (.call 17 [(.var 0)]) (.cst .non))) (.not (.val (.call 20 [(.var 0), (.call 11 [(.var 0)])])))) (e := .cst (.bl false)) (r := [.ret (.blt .all [(.lc false (.call 20 [(.var 0), (.call 12 [(.var 0), (.var 1)])]) (.nm 1) (.seq (.call 9 [(.var 0)])) [] [1])])]) (d1 := .bl false) (d2 := .bl ((allV g).all fun v => ht g (having g v)))
    (t_or (p := !(cyc? g).isNone) (q := !ht g (nodes g.scopes.length)) (t_bv t1) (fun _ => t_not (t_val (e_call (es_cons (e_var rfl) (es_cons (e_call (es_cons (e_var rfl) es_nil) e14) es_nil)) (g23 _ hnn σ)) rfl))) (fun _ => ss_ret rfl e_cst rfl)
    (fun _ => ss_ret rfl (e_blt (es_cons (e_lcF (i_seq (d := encS (allV g)) (e_call (es_cons (e_var rfl) es_nil) (g11 σ)) rfl rfl) (lc_pure0 (e := D.int) (f := fun v => D.bl (ht g (having g v))) (xs := allV g) fun v hv => ⟨_, rfl, e_call (es_cons (e_var rfl) (es_cons (e_call (es_cons (e_var rfl) (es_cons (e_var rfl) es_nil)) (g15 v σ)) es_nil)) (g23 _ (having_ne hv) σ)⟩)) es_nil) p_allM) rfl)
  refine e.trans ?_
  congr 3
  unfold junc
  cases (cyc? g).isNone <;> cases ht g (nodes g.scopes.length) <;> rfl
end
end Tk54

namespace Tk54
open PySem L2 Pu Pth
theorem p_sum {ns : List Int} {σ : Strm} : rds (bltM .sum) [.v (.fz (ns.map D.int))] σ = .ok (.v (.int ns.sum)) σ := by
  refine lift_v (m := sumM [.fz (ns.map D.int)]) ?_
  have hi : ∀ l : List Int, asInts (l.map D.int) = some l := fun l => by
    induction l with
    | nil => rfl
    | cons x l ih => show (asInts (l.map D.int)).map (x :: ·) = _; rw [ih]; rfl
  show (match asInts (ns.map D.int) with | some ns => R.ok (D.int ns.sum) [] | none => .bad) = _
  rw [hi]
theorem p_sst {ns : List Int} {σ : Strm} (h : ns.length < 64) : rd1 (sstM false) (.v (.fz (ns.map D.int))) σ = .ok (.v (.fz ((dedI ns).map D.int))) σ := by
  refine lift_v (m := sstM false (.fz (ns.map D.int))) ?_
  have hi : ∀ l : List Int, asInts (l.map D.int) = some l := fun l => by
    induction l with
    | nil => rfl
    | cons x l ih => show (asInts (l.map D.int)).map (x :: ·) = _; rw [ih]; rfl
  show setM false (ns.map D.int) [] = _
  unfold setM setD
  rw [hi]
  show (match (if ns.length < 64 then some ((dedI ns).map D.int) else none) with | some ys => newU false ys [] | none => .bad) = _
  rw [if_pos h]; rfl
theorem e_sst {F : Nat → List W → PM W} {ρ : Env2} {σ σ1 σ2 : Strm} {own : Bool} {a : X'} {x w : W} (h1 : pvE F a ρ σ = .ok x σ1) (h3 : rd1 (sstM own) x σ1 = .ok w σ2) : pvE F (.sst own a) ρ σ = .ok w σ2 := by
  show ((pvE F a ρ σ).bind (rd1 (sstM own))) = _
  rw [h1]; exact h3
theorem push_snoc {A : List Int} {y : Int} : ∀ {ys fd : List Int}, Hang.push A fd (ys ++ [y]) = if y ∈ A ∧ y ∉ Hang.push A fd ys then Hang.push A fd ys ++ [y] else Hang.push A fd ys
  | [], fd => rfl
  | z :: ys, fd => by
    show Hang.push A fd (z :: (ys ++ [y])) = _
    unfold Hang.push
    split <;> exact push_snoc
theorem hq_idle {ad : Int → Int → Bool} {A fd : List Int} {u : Int} {k : Nat} (q : Hang.HQ ad A u k fd) (h : fd.length ≤ k) : Hang.HQ ad A u (k + 1) fd :=
  ⟨q.first, q.nd, q.sub, by rw [List.take_of_length_le (by omega)]; have := q.shut; rwa [List.take_of_length_le h] at this⟩
theorem p_ninB {x : Int} {xs : List Int} {σ : Strm} : rd2 (cmpM .NotIn) (.v (.int x)) (.b (xs.map D.int)) σ = .ok (.v (.bl (!decide (x ∈ xs)))) σ := p_ninL (α := Int) (a := x) (xs := xs)
section
variable (k : Nat)
end
end Tk54

namespace Tk54
open PySem L2 Pu Pth
theorem sum_add {α : Type} (a b : α → Nat) : ∀ V : List α, (V.map fun v => a v + b v).sum = (V.map a).sum + (V.map b).sum
  | [] => rfl
  | v :: V => by simp only [List.map_cons, List.sum_cons, sum_add a b V]; omega
theorem sum_zero {α : Type} : ∀ V : List α, (V.map fun _ => 0).sum = 0
  | [] => rfl
  | v :: V => by simp only [List.map_cons, List.sum_cons, sum_zero V]
theorem sum_one {V s : List Int} (hV : V.Nodup) (hs : s.Nodup) (h : ∀ v ∈ s, v ∈ V) : (V.map fun v => if v ∈ s then 1 else 0).sum = s.length := by
  have e : ∀ V : List Int, (V.map fun v => if v ∈ s then 1 else 0).sum = (V.filter fun v => decide (v ∈ s)).length := by
    intro V
    induction V with
    | nil => rfl
    | cons v V ih =>
      simp only [List.map_cons, List.sum_cons, ih, List.filter_cons]
      by_cases c : v ∈ s <;> simp [c] <;> omega
  rw [e]
  refine List.Perm.length_eq ((List.perm_ext_iff_of_nodup (hV.filter _) hs).mpr fun x => ?_)
  rw [List.mem_filter, decide_eq_true_iff]
  exact ⟨fun q => q.2, fun q => ⟨h x q, q⟩⟩
/-- counted in two ways -/
theorem twice {α : Type} {V : List Int} {S : α → List Int} (hV : V.Nodup) : ∀ {X : List α}, (∀ x ∈ X, (S x).Nodup ∧ ∀ v ∈ S x, v ∈ V) → (X.map fun x => (S x).length).sum = (V.map fun v => (X.filter fun x => decide (v ∈ S x)).length).sum
  | [], _ => by simp only [List.map_nil, List.sum_nil, List.filter_nil, List.length_nil, sum_zero]
  | x :: X, h => by
    have ih := twice hV (X := X) fun y hy => h y (List.mem_cons_of_mem _ hy)
    obtain ⟨h1, h2⟩ := h x List.mem_cons_self
    have e : (fun v => ((x :: X).filter fun x => decide (v ∈ S x)).length) = fun v => (if v ∈ S x then 1 else 0) + (X.filter fun x => decide (v ∈ S x)).length := by
      funext v
      rw [List.filter_cons]
      by_cases c : v ∈ S x <;> simp [c] <;> omega
    rw [e, sum_add, sum_one hV h1 h2, List.map_cons, List.sum_cons, ih]
theorem sum_le {α : Type} {a b : α → Nat} : ∀ {V : List α}, (∀ v ∈ V, a v + 1 ≤ b v) → (V.map a).sum + V.length ≤ (V.map b).sum ∧ ((V.map a).sum + V.length = (V.map b).sum ↔ ∀ v ∈ V, a v + 1 = b v)
  | [], _ => by simp
  | v :: V, h => by
    obtain ⟨i1, i2⟩ := sum_le (a := a) (b := b) (V := V) fun y hy => h y (List.mem_cons_of_mem _ hy)
    have hv := h v List.mem_cons_self
    simp only [List.map_cons, List.sum_cons, List.length_cons, List.forall_mem_cons]
    refine ⟨by omega, ⟨fun q => ⟨by omega, i2.mp (by omega)⟩, fun q => ?_⟩⟩
    have := i2.mpr q.2
    omega
def scp (g : Gra) (i : Nat) : List Int := g.scopes.getD i []
def sh (g : Gra) (e : Int × Int) : List Int := (scp g e.1.toNat).filter fun x => decide (x ∈ scp g e.2.toNat)
def inS (g : Gra) : Nat := (g.scopes.map fun s => s.length).sum
def inE (g : Gra) : Nat := (g.edges.map fun e => (sh g e).length).sum
theorem scp_ok {g : Gra} (h : Ok g) {i : Nat} : (scp g i).Nodup ∧ ∀ v ∈ scp g i, v ∈ allV g := by
  unfold scp
  rw [List.getD_eq_getElem?_getD]
  cases e : g.scopes[i]? with
  | none => simp
  | some s =>
    have hs := List.mem_of_getElem? e
    exact ⟨(h.s s hs).1.imp fun {a b} q => by omega, fun v hv => mem_allV.mpr ⟨s, hs, hv⟩⟩
theorem inS_eq {g : Gra} (h : Ok g) : inS g = ((allV g).map fun v => (having g v).length).sum := by
  have hV : (allV g).Nodup := (dedI_asc g.scopes.flatten).imp fun {a b} q => by omega
  have e : inS g = ((List.range g.scopes.length).map fun i => (scp g i).length).sum := by
    unfold inS
    congr 1
    refine List.ext_getElem (by simp) fun j h1 h2 => ?_
    simp at h1
    simp [scp, List.getD_eq_getElem?_getD, List.getElem?_eq_getElem h1]
  rw [e, twice hV fun i _ => scp_ok h]
  congr 2
  funext v
  unfold having
  rw [List.length_map]; rfl
theorem mem_having {g : Gra} {v x : Int} : x ∈ having g v ↔ 0 ≤ x ∧ x < g.scopes.length ∧ v ∈ scp g x.toNat := by
  unfold having
  rw [List.mem_map]
  constructor
  · rintro ⟨i, hi, rfl⟩
    obtain ⟨h1, h2⟩ := List.mem_filter.mp hi
    have := List.mem_range.mp h1
    exact ⟨by omega, by omega, by simpa [scp] using h2⟩
  · rintro ⟨h1, h2, h3⟩
    exact ⟨x.toNat, List.mem_filter.mpr ⟨List.mem_range.mpr (by omega), by simpa [scp] using h3⟩, by omega⟩
theorem inE_eq {g : Gra} (h : Ok g) : inE g = ((allV g).map fun v => Forest.ec g.edges (having g v)).sum := by
  have hV : (allV g).Nodup := (dedI_asc g.scopes.flatten).imp fun {a b} q => by omega
  unfold inE
  rw [twice (S := sh g) hV fun e _ => ⟨(scp_ok h).1.filter _, fun v hv => (scp_ok h).2 v (List.mem_filter.mp hv).1⟩]
  congr 2
  funext v
  unfold Forest.ec
  congr 1
  refine List.filter_congr fun e he => ?_
  have := h.e e he
  rw [Bool.eq_iff_iff]
  unfold Forest.both
  rw [Bool.and_eq_true, decide_eq_true_iff, decide_eq_true_iff, decide_eq_true_iff, mem_having, mem_having]
  unfold sh
  rw [List.mem_filter, decide_eq_true_iff]
  constructor
  · rintro ⟨h1, h2⟩; exact ⟨⟨by omega, by omega, h1⟩, ⟨by omega, by omega, h2⟩⟩
  · rintro ⟨⟨_, _, h1⟩, ⟨_, _, h2⟩⟩; exact ⟨h1, h2⟩
theorem having_asc {g : Gra} {v : Int} : (having g v).Pairwise (· < ·) := by
  unfold having
  rw [List.pairwise_map]
  exact (List.pairwise_lt_range.filter _).imp fun {a b} q => by omega
theorem having_in {g : Gra} {v x : Int} (hx : x ∈ having g v) : x ∈ nodes g.scopes.length := mem_nodes.mpr (by have := mem_having.mp hx; omega)
theorem head_mem {A : List Int} (h : A ≠ []) : A.headD 0 ∈ A := (Forest.head_ne h).1
theorem ht_part {g : Gra} {A : List Int} (ne : A ≠ []) (hA : A.Pairwise (· < ·)) : ht g A = decide (Hang.part (adj g) A (A.headD 0) = A) := by
  have nd : A.Nodup := hA.imp fun {a b} q => by omega
  have := List.length_pos_iff.mpr ne
  unfold ht
  rw [Hang.grow_part (head_mem ne) nd (Nat.le_refl _) (by omega)]
theorem nodes_len (n : Nat) : (nodes n).length = n := by simp [nodes]
theorem nodes_ne {g : Gra} (h : Ok g) : nodes g.scopes.length ≠ [] := by
  intro e
  have hl := nodes_len g.scopes.length
  have := h.n
  rw [e] at hl
  simp only [List.length_nil] at hl; omega
theorem cyc_none {g : Gra} : cyc? g = none ↔ ∀ w, ¬ Cyc.Cycle g.scopes.length (adj g) w := Cyc.first_none (by omega)
/-- without a cycle: the two counts -/
theorem counts {g : Gra} (h : Ok g) (ac : ∀ w, ¬ Cyc.Cycle g.scopes.length (adj g) w) : g.edges.length + 1 ≤ g.scopes.length ∧ inE g + (allV g).length ≤ inS g ∧ (junc g = true ↔ g.edges.length + 1 = g.scopes.length ∧ inE g + (allV g).length = inS g) := by
  have G := gr h
  have nd : (nodes g.scopes.length).Nodup := nodes_asc.imp fun {a b} q => by omega
  have ecN : Forest.ec g.edges (nodes g.scopes.length) = g.edges.length := by
    unfold Forest.ec
    rw [List.filter_eq_self.mpr]
    intro e he
    have := h.e e he
    unfold Forest.both
    rw [Bool.and_eq_true, decide_eq_true_iff, decide_eq_true_iff, mem_nodes, mem_nodes]
    omega
  obtain ⟨f1, f2⟩ := Forest.forest G ac g.scopes.length (A := nodes g.scopes.length) (by rw [nodes_len]; exact Nat.le_refl _) (fun x hx => hx) nd (nodes_ne h)
  have f2 := f2 _ (head_mem (nodes_ne h))
  rw [ecN, nodes_len] at f1 f2
  have vs : ∀ v ∈ allV g, Forest.ec g.edges (having g v) + 1 ≤ (having g v).length ∧ (Forest.ec g.edges (having g v) + 1 = (having g v).length ↔ ht g (having g v) = true) := fun v hv => by
    have ne := having_ne hv
    obtain ⟨q1, q2⟩ := Forest.forest G ac (having g v).length (A := having g v) (Nat.le_refl _) (fun x hx => having_in hx) (having_asc.imp fun {a b} q => by omega) ne
    refine ⟨q1, ?_⟩
    rw [q2 _ (head_mem ne), ht_part ne having_asc, decide_eq_true_iff]
  obtain ⟨s1, s2⟩ := sum_le (a := fun v => Forest.ec g.edges (having g v)) (b := fun v => (having g v).length) fun v hv => (vs v hv).1
  rw [← inE_eq h, ← inS_eq h] at s1 s2
  refine ⟨f1, s1, ?_⟩
  rw [s2, f2]
  unfold junc
  rw [cyc_none.mpr ac, ht_part (nodes_ne h) nodes_asc]
  simp only [Option.isNone_none, Bool.true_and, Bool.and_eq_true, decide_eq_true_iff, List.all_eq_true]
  exact ⟨fun q => ⟨q.1, fun v hv => (vs v hv).2.mpr (q.2 v hv)⟩, fun q => ⟨q.1, fun v hv => (vs v hv).2.mp (q.2 v hv)⟩⟩
def c1 (g : Gra) : Int := (g.scopes.length : Int) - g.edges.length
def c2 (g : Gra) : Int := (inS g : Int) - inE g - (allV g).length
theorem castSum {α : Type} (f : α → Nat) : ∀ l : List α, (l.map fun x => ((f x : Nat) : Int)).sum = (((l.map f).sum : Nat) : Int)
  | [] => rfl
  | x :: l => by simp only [List.map_cons, List.sum_cons, castSum f l]; omega
theorem scp_at {g : Gra} {x : Int} (h0 : 0 ≤ x) (h1 : x < g.scopes.length) : g.scopes[x.toNat]? = some (scp g x.toNat) := by
  unfold scp
  rw [List.getD_eq_getElem?_getD, List.getElem?_eq_getElem (by omega)]; rfl
theorem eqB {a b : Bool} {σ : Strm} : rd2 (cmpM .Eq) (.v (.bl a)) (.v (.bl b)) σ = .ok (.v (.bl (a == b))) σ := by
  show lift (eqM false (.bl a) (.bl b)) σ = _
  refine lift_v ?_
  cases a <;> cases b <;> simp [eqM, toPy, toPyG, SeqAt.shaped, PyData.eqv, PyData.depth, PyData.canLay0]
theorem neB {a b : Bool} {σ : Strm} : rd2 (cmpM .NotEq) (.v (.bl a)) (.v (.bl b)) σ = .ok (.v (.bl (!(a == b)))) σ := by
  show lift (eqM true (.bl a) (.bl b)) σ = _
  refine lift_v ?_
  cases a <;> cases b <;> simp [eqM, toPy, toPyG, SeqAt.shaped, PyData.eqv, PyData.depth, PyData.canLay0]
section
variable (k : Nat)
theorem i23b (b : Bool) (σ : Strm) : pvF gs fs (k + 1) 33 [.v (.bl b), .v (.bl b)] σ = .ok (.v (.bl true)) σ := by
  rw [pvF_at rfl rfl]
  generalize pvF gs fs k = F
  refine b_run (ss_skip (t_bv (e_cmp (e_var rfl) e_cst rfl)) (ss_rt (s_ifT (t_val (e_isi (e_var rfl) rfl) rfl) (ss_ret rfl (e_and (p := true) (q := true) (e_isi (e_var rfl) rfl) fun _ => e_cmp (e_var rfl) (e_var rfl) ?_) rfl))))
  rw [eqB]; simp
end
end Tk54

namespace Pu
open PySem L2
theorem stays_get {i : Nat} {ρ ρ' : Env2} (h : ρ'[i]? = ρ[i]?) : stays (some i) ρ ρ' = true := by
  unfold stays; simp [h]
end Pu
namespace Tk54
open PySem L2 Pu Pth Rmv Dat
theorem nodes_D (n : Nat) : ((List.range n).map fun (i : Nat) => D.int (i : Int)) = (nodes n).map D.int := by
  unfold nodes
  rw [List.map_map]; rfl
theorem nodesL {n : Nat} : (nodes n).length = n := by simp [nodes]
structure OkS (ss : List (List Int)) : Prop where
  n : 1 ≤ ss.length ∧ ss.length ≤ 5
  s : ∀ s ∈ ss, s.Pairwise (· < ·) ∧ s.length ≤ 3 ∧ ∀ x ∈ s, 0 ≤ x ∧ x ≤ 5
section
variable {k : Nat} {σ : Strm}
def scf (ss : List (List Int)) (x : Int) : List Int := ss.getD x.toNat []
theorem scf_at {ss : List (List Int)} {x : Int} (h : x ∈ nodes ss.length) : 0 ≤ x ∧ ss[x.toNat]? = some (scf ss x) := by
  have := mem_nodes.mp h
  refine ⟨this.1, ?_⟩
  unfold scf
  rw [List.getD_eq_getElem?_getD]
  rw [List.getElem?_eq_getElem (show x.toNat < ss.length by omega)]; rfl
theorem sc_idx {ss : List (List Int)} {x : Int} {σ : Strm} (h : x ∈ nodes ss.length) : rd2 idxM (.v (.tup (ss.map encS))) (.v (.int x)) σ = .ok (.v (.tup ((scf ss x).map .int))) σ := p_at (e := encS) rfl (scf_at h).1 (scf_at h).2
end
end Tk54

namespace Tk54
open PySem L2 Pu Pth Rmv Dat
section
variable {σ : Strm}
theorem p_inI {x : Int} {xs : List Int} : rd2 (cmpM .In) (.v (.int x)) (.v (.fz (xs.map D.int))) σ = .ok (.v (.bl (decide (x ∈ xs)))) σ := p_inL (α := Int) (a := x) (xs := xs)
theorem p_ninI {x : Int} {xs : List Int} : rd2 (cmpM .NotIn) (.v (.int x)) (.v (.fz (xs.map D.int))) σ = .ok (.v (.bl (!decide (x ∈ xs)))) σ := p_ninL (α := Int) (a := x) (xs := xs)
theorem p_inBI {x : Int} {xs : List Int} : rd2 (cmpM .In) (.v (.int x)) (.b (xs.map D.int)) σ = .ok (.v (.bl (decide (x ∈ xs)))) σ := p_inL (α := Int) (a := x) (xs := xs)
theorem p_ninBI {x : Int} {xs : List Int} : rd2 (cmpM .NotIn) (.v (.int x)) (.b (xs.map D.int)) σ = .ok (.v (.bl (!decide (x ∈ xs)))) σ := p_ninL (α := Int) (a := x) (xs := xs)
end
theorem shapedStr (s : Str) (h : PyData.strOk s = true := by decide +kernel) : SeqAt.shaped (.str s) = true := by
  unfold SeqAt.shaped
  simp [PyData.canLay0, PyData.depth, h]
theorem p_eqStr {s t : Str} {σ : Strm} (hs : PyData.strOk s = true := by decide +kernel) (ht : PyData.strOk t = true := by decide +kernel) : rd2 (cmpM .Eq) (.v (.str s)) (.v (.str t)) σ = .ok (.v (.bl (decide (s = t)))) σ := by
  refine lift_v (m := eqM false (.str s) (.str t)) ?_
  show (if SeqAt.shaped (.str s) && SeqAt.shaped (.str t) then R.ok (D.bl (PyData.eqv (.str s) (.str t))) [] else .bad) = _
  rw [shapedStr s hs, shapedStr t ht]
  show R.ok _ _ = _
  congr 1 <;> (simp only [PyData.eqv]; by_cases h : s = t <;> simp [h])
theorem p_neStr {s t : Str} {σ : Strm} (hs : PyData.strOk s = true := by decide +kernel) (ht : PyData.strOk t = true := by decide +kernel) : rd2 (cmpM .NotEq) (.v (.str s)) (.v (.str t)) σ = .ok (.v (.bl (!decide (s = t)))) σ := by
  refine lift_v (m := eqM true (.str s) (.str t)) ?_
  show (if SeqAt.shaped (.str s) && SeqAt.shaped (.str t) then R.ok (D.bl (!PyData.eqv (.str s) (.str t))) [] else .bad) = _
  rw [shapedStr s hs, shapedStr t ht]
  show R.ok _ _ = _
  congr 1 <;> (simp only [PyData.eqv]; by_cases h : s = t <;> simp [h])
/-! ## the law's equal: a value and itself -/
inductive Lit : Nat → D → Prop
  | non {n : Nat} : Lit n .non
  | bl {n : Nat} (b : Bool) : Lit n (.bl b)
  | int {n : Nat} (i : Int) : Lit n (.int i)
  | str {n : Nat} (s : Str) (h : PyData.strOk s = true) : Lit n (.str s)
  | tup {n : Nat} {xs : List D} : (∀ x ∈ xs, Lit n x) → xs.length ≤ 1000 → Lit (n + 1) (.tup xs)
theorem range_at {m x : Nat} {ds r : List Nat} (h : List.range m = ds ++ x :: r) : x = ds.length ∧ ds.length < m := by
  have h1 : ds.length < m := by
    have := congrArg List.length h
    simp at this; omega
  have := congrArg (fun l => l[ds.length]?) h
  simp only [List.getElem?_append_right (Nat.le_refl _), Nat.sub_self, List.getElem?_cons_zero] at this
  rw [List.getElem?_range h1] at this
  injection this with this
  exact ⟨this.symm, h1⟩
section
variable (k : Nat)
theorem l13 (x : Int) (σ : Strm) : pvF gs fs (k + 1) 32 [.v (.int x)] σ = .ok (.v (.bl true)) σ := by
  rw [pvF_at rfl rfl]
  generalize pvF gs fs k = F
  exact b_run (ss_ret rfl (e_and (p := true) (q := true) (e_isi (e_var rfl) rfl) fun _ => e_not (p := false) (e_isi (e_var rfl) rfl)) rfl)
theorem l14 : ∀ (n : Nat) (d : D), Lit n d → ∀ σ : Strm, pvF gs fs (k + 2 + n) 33 [.v d, .v d] σ = .ok (.v (.bl true)) σ := by
  intro n
  induction n with
  | zero =>
    intro d h σ
    rw [show k + 2 + 0 = k + 1 + 1 by omega, pvF_at rfl rfl]
    have g1 := l13 k
    generalize pvF gs fs (k + 1) = F at g1
    cases h with
    | non => exact b_run (ss_rt (s_ifT (t_bv (e_cmp (e_var rfl) e_cst rfl)) (ss_ret rfl (e_cmp (e_var rfl) e_cst rfl) rfl)))
    | bl b =>
      refine b_run (ss_skip (t_bv (e_cmp (e_var rfl) e_cst rfl)) (ss_rt (s_ifT (t_val (e_isi (e_var rfl) rfl) rfl) (ss_ret rfl (e_and (p := true) (q := true) (e_isi (e_var rfl) rfl) fun _ => e_cmp (e_var rfl) (e_var rfl) ?_) rfl))))
      cases b <;> rfl
    | int i =>
      refine b_run (ss_skip (t_bv (e_cmp (e_var rfl) e_cst rfl)) (ss_skip (t_val (e_isi (e_var rfl) rfl) rfl) (ss_rt (s_ifT (t_val (e_isi (e_var rfl) rfl) rfl) (ss_ret rfl (e_and (p := true) (q := true) (e_call (es_cons (e_var rfl) es_nil) (g1 i σ)) fun _ => e_cmp (e_var rfl) (e_var rfl) ?_) rfl)))))
      show lift (mret (.bl (decide (i = i)))) σ = _
      rw [decide_eq_true rfl]; rfl
    | str s hs =>
      refine b_run (ss_skip (t_bv (e_cmp (e_var rfl) e_cst rfl)) (ss_skip (t_val (e_isi (e_var rfl) rfl) rfl) (ss_skip (t_val (e_isi (e_var rfl) rfl) rfl) (ss_rt (s_ifT (t_val (e_isi (e_var rfl) rfl) rfl) (ss_ret rfl (e_and (p := true) (q := true) (e_isi (e_var rfl) rfl) fun _ => e_cmp (e_var rfl) (e_var rfl) ?_) rfl))))))
      rw [p_eqStr hs hs, decide_eq_true rfl]
  | succ n ih =>
    intro d h σ
    rw [show k + 2 + (n + 1) = k + 2 + n + 1 by omega, pvF_at rfl rfl]
    have g1 : ∀ (x : Int) (σ : Strm), pvF gs fs (k + 2 + n) 32 [.v (.int x)] σ = .ok (.v (.bl true)) σ := fun x σ => by
      have := l13 (k + 1 + n) x σ
      rwa [show k + 1 + n + 1 = k + 2 + n by omega] at this
    generalize pvF gs fs (k + 2 + n) = F at g1 ih
    cases h with
    | non => exact b_run (ss_rt (s_ifT (t_bv (e_cmp (e_var rfl) e_cst rfl)) (ss_ret rfl (e_cmp (e_var rfl) e_cst rfl) rfl)))
    | bl b =>
      refine b_run (ss_skip (t_bv (e_cmp (e_var rfl) e_cst rfl)) (ss_rt (s_ifT (t_val (e_isi (e_var rfl) rfl) rfl) (ss_ret rfl (e_and (p := true) (q := true) (e_isi (e_var rfl) rfl) fun _ => e_cmp (e_var rfl) (e_var rfl) ?_) rfl))))
      cases b <;> rfl
    | int i =>
      refine b_run (ss_skip (t_bv (e_cmp (e_var rfl) e_cst rfl)) (ss_skip (t_val (e_isi (e_var rfl) rfl) rfl) (ss_rt (s_ifT (t_val (e_isi (e_var rfl) rfl) rfl) (ss_ret rfl (e_and (p := true) (q := true) (e_call (es_cons (e_var rfl) es_nil) (g1 i σ)) fun _ => e_cmp (e_var rfl) (e_var rfl) ?_) rfl)))))
      show lift (mret (.bl (decide (i = i)))) σ = _
      rw [decide_eq_true rfl]; rfl
    | str s hs =>
      refine b_run (ss_skip (t_bv (e_cmp (e_var rfl) e_cst rfl)) (ss_skip (t_val (e_isi (e_var rfl) rfl) rfl) (ss_skip (t_val (e_isi (e_var rfl) rfl) rfl) (ss_rt (s_ifT (t_val (e_isi (e_var rfl) rfl) rfl) (ss_ret rfl (e_and (p := true) (q := true) (e_isi (e_var rfl) rfl) fun _ => e_cmp (e_var rfl) (e_var rfl) ?_) rfl))))))
      rw [p_eqStr hs hs, decide_eq_true rfl]
    | tup hx hl =>
      rename_i xs
      have hlen : ∀ ρ : Env2, ρ[0]? = some (some (.v (.tup xs))) → pvE F (.blt .len [(.var 0)]) ρ σ = .ok (.v (.int xs.length)) σ := fun ρ h => e_blt (es_cons (e_var h) es_nil) (by have := p_lenT (σ := σ) (e := id) (xs := xs); rwa [List.map_id] at this)
      have hlen1 : ∀ ρ : Env2, ρ[1]? = some (some (.v (.tup xs))) → pvE F (.blt .len [(.var 1)]) ρ σ = .ok (.v (.int xs.length)) σ := fun ρ h => e_blt (es_cons (e_var h) es_nil) (by have := p_lenT (σ := σ) (e := id) (xs := xs); rwa [List.map_id] at this)
      refine b_run (ss_skip (t_bv (e_cmp (e_var rfl) e_cst rfl)) (ss_skip (t_val (e_isi (e_var rfl) rfl) rfl) (ss_skip (t_val (e_isi (e_var rfl) rfl) rfl) (ss_skip (t_val (e_isi (e_var rfl) rfl) rfl) (ss_skip (t_and (p := true) (q := false) (t_val (e_isi (e_var rfl) rfl) rfl) fun _ => t_not (p := true) (t_val (e_isi (e_var rfl) rfl) rfl)) (ss_skip (t_and (p := false) (q := false) (t_val (e_isi (e_var rfl) rfl) rfl) fun h => by cases h) (ss_skip (t_bv (p := false) (e_cmp (hlen _ rfl) (hlen1 _ rfl) ?_)) (ss_ret rfl (e_blt (es_cons (e_lcF (i_rng (n := xs.length) (hlen1 _ rfl) (by omega)) (lc_pure0 (f := fun _ => D.bl true) (e := fun (j : Nat) => D.int (0 + (j : Int))) (xs := List.range xs.length) fun j hj => ⟨_, rfl, ?_⟩)) es_nil) ?_) rfl))))))))
      · show lift (mret (.bl (!decide ((xs.length : Int) = xs.length)))) σ = _
        rw [decide_eq_true rfl]; rfl
      · have hj := List.mem_range.mp hj
        have hx' : xs[(0 + (j : Int)).toNat]? = some xs[j] := by rw [show (0 + (j : Int)).toNat = j by omega]; exact List.getElem?_eq_getElem hj
        have e0 := p_at (σ := σ) (e := id) (xs := xs) (d := .tup xs) (by rw [List.map_id]; rfl) (by omega) hx'
        exact e_call (es_cons (e_idx (e_var rfl) (e_var rfl) e0) (es_cons (e_idx (e_var rfl) (e_var rfl) e0) es_nil)) (ih _ (hx _ (List.getElem_mem hj)) σ)
      · rw [p_allM (p := fun _ => true)]; simp
/-! ## drawn scopes -/
structure SOk (v : Int) (s : List Int) : Prop where
  a : s.Pairwise (· < ·)
  l : s.length ≤ 3
  b : ∀ x ∈ s, 0 ≤ x ∧ x < v
theorem nextF : pvF gs fs (k + 1) 31 = nextW := rfl
theorem l15 (m v : Nat) (hm : 1 ≤ m ∧ m ≤ 1000) (hv : v ≤ 1000) (σ : Strm) : ∃ (ss : List (List Int)) (σ' : Strm), pvF gs fs (k + 2) 34 [.s, .v (.int m), .v (.int v)] σ = .ok (.v (.tup (ss.map encS))) σ' ∧ (1 ≤ ss.length ∧ ss.length ≤ m) ∧ ∀ s ∈ ss, SOk v s := by
  rw [pvF_at rfl rfl]
  have g1 := nextF k
  generalize pvF gs fs (k + 1) = F at g1
  obtain ⟨d1, σ1, h1, b1⟩ := next_drew (m := m) (by omega) σ
  obtain ⟨n, hn⟩ : ∃ n : Nat, 1 + d1 = n := ⟨(1 + d1).toNat, by omega⟩
  let R : List (List Int) → Option W → Option W → Env2 := fun ss z4 z5 => [some .s, some (.v (.int m)), some (.v (.int v)), some (.o (ss.map encS)), z4, z5, none]
  let body : List S' := [(.set 5 (.lc false (.var 6) (.nm 6) (.rng (.var 2)) [(.bv (.cmp .Eq (.call 31 [(.var 0), (.cst (.int 2))]) (.cst (.int 1))))] [6])), (.expr (.mth .append (.var 3) [(.blt .tuple [(.slc false (.var 5) .no (.ex (.cst (.int 3))))])]))]
  obtain ⟨ρ2, σ2, ⟨ss, z4, z5, rfl, hl, hs⟩, hloop⟩ := for_all (body := pvSs F body) (tg := .nm 4) (g := none) (e := fun (i : Nat) => D.int (0 + (i : Int))) (P := fun ds ρ τ => ∃ ss z4 z5, ρ = R ss z4 z5 ∧ ss.length = ds.length ∧ ∀ s ∈ ss, SOk v s) (xs := List.range n) (ds := []) (ρ := R [] none none) (σ := σ1) (by
    rintro ds x r ρ τ hx ⟨ss, z4, z5, rfl, hl, hs⟩
    obtain ⟨rfl, hd⟩ := range_at hx
    refine ⟨R ss (some (.v (.int (0 + (ds.length : Int))))) z5, rfl, ?_⟩
    obtain ⟨ys, τ2, hc, hsub⟩ := lc_some (elt := pvE F (.var 6)) (ifs := pvTs F [(.bv (.cmp .Eq (.call 31 [(.var 0), (.cst (.int 2))]) (.cst (.int 1))))]) (tg := .nm 6) (ρ := R ss (some (.v (.int (0 + (ds.length : Int))))) z5) (e := fun (i : Nat) => D.int (0 + (i : Int))) (f := fun (i : Nat) => D.int (0 + (i : Int))) (xs := List.range v) (σ := τ) (by
      intro x hx τ
      obtain ⟨d, τ', hd, _⟩ := next_drew (m := 2) (by omega) τ
      exact ⟨_, rfl, decide (d = 1), τ', ts_one (t_bv (e_cmp (e_call (es_cons (e_vs rfl) (es_cons e_cst es_nil)) (by rw [g1]; exact hd)) e_cst rfl)), fun _ => e_var rfl⟩)
    let s : List Int := (ys.map fun (i : Nat) => (i : Int)).take 3
    have e : (.tup ((ys.map fun (i : Nat) => D.int (0 + (i : Int))).take 3) : D) = encS s := by
      show _ = D.tup (((ys.map fun (i : Nat) => (i : Int)).take 3).map D.int)
      congr 1
      rw [List.map_take, List.map_map]
      congr 2
      funext i
      show D.int (0 + (i : Int)) = D.int i
      rw [Int.zero_add]
    refine ⟨R (ss ++ [s]) (some (.v (.int (0 + (ds.length : Int))))) (some (.v (.fz (ys.map fun (i : Nat) => D.int (0 + (i : Int)))))), τ2, ?_, rfl, _, _, _, rfl, by simp [hl], fun t ht => ?_⟩
    · refine ss_set rfl (e_lcF (i_rng (n := v) (e_var rfl) (by omega)) hc) rfl (ss_nx (σ1 := τ2) (s_app (xs := ss.map encS) (d := encS s) rfl (e_blt (es_cons (w := .v (.fz ((ys.map fun (i : Nat) => D.int (0 + (i : Int))).take 3))) (e_slc (σ4 := τ2) (e_var rfl) p_no (p_ex e_cst) ?_) es_nil) ?_) ?_) ?_)
      · show lift (slcP false (.fz (ys.map fun (i : Nat) => D.int (0 + (i : Int)))) none (some 3)) τ2 = _
        refine lift_v ?_
        show Pu.R.ok (D.fz (cutD (ys.map fun (i : Nat) => D.int (0 + (i : Int))) none (some ((3 : Nat) : Int)))) [] = _
        rw [cut_to']
      · rw [← e]; exact p_tupL
      · rw [List.length_map, hl, line_val]; omega
      · show PR.ok (Fl2.nx ([_, _, _, some (W.o (ss.map encS ++ [encS s])), _, _, _] : Env2)) τ2 = PR.ok (Fl2.nx ([_, _, _, some (W.o ((ss ++ [s]).map encS)), _, _, _] : Env2)) τ2
        rw [List.map_append]; rfl
    · rcases List.mem_append.mp ht with ht | ht
      · exact hs t ht
      · rw [List.mem_singleton.mp ht]
        refine ⟨?_, by show ((ys.map _).take 3).length ≤ 3; rw [List.length_take]; omega, fun x hx => ?_⟩
        · refine List.Pairwise.sublist (List.take_sublist _ _) ?_
          rw [List.pairwise_map]
          exact (List.pairwise_lt_range.sublist hsub).imp fun {a b} h => by omega
        · obtain ⟨i, hi, rfl⟩ := List.mem_map.mp (List.mem_of_mem_take hx)
          have := List.mem_range.mp (hsub.subset hi)
          omega) ⟨[], none, none, rfl, rfl, by simp⟩
  rw [List.length_range] at hl
  refine ⟨ss, σ2, b_run (ss_set (w := .o []) rfl (e_lst es_nil rfl) rfl (ss_nx (s_for rfl (is_of (fun _ h => by cases h) (fun _ _ h => by cases h) (i_rng (n := n) (e_cat e_cst (e_call (es_cons (e_vs rfl) (es_cons (e_var rfl) es_nil)) (by rw [g1]; exact h1)) (by rw [← hn]; rfl)) (by omega))) hloop) (ss_ret rfl (e_blt (es_cons (e_vo rfl) es_nil) p_tupB) rfl))), by omega, hs⟩
end
end Tk54

namespace Tk54
open PySem L2 Pu Pth Rmv Dat
theorem rng_nodes (n : Nat) : ((List.range n).map fun (i : Nat) => D.int (0 + (i : Int))) = (nodes n).map D.int := by
  unfold nodes
  rw [List.map_map]
  congr 1
  funext i
  show D.int (0 + (i : Int)) = D.int i
  rw [Int.zero_add]
section
variable (k : Nat)
theorem prs_len {n : Nat} (h : n ≤ 5) : (prs n).length ≤ 10 := by
  match n, h with
  | 0, _ => decide +kernel
  | 1, _ => decide +kernel
  | 2, _ => decide +kernel
  | 3, _ => decide +kernel
  | 4, _ => decide +kernel
  | 5, _ => decide +kernel
  | _ + 6, h => omega
theorem l16 (n : Nat) (hn : n ≤ 5) (σ : Strm) : pvF gs fs (k + 1) 35 [.v (.int n)] σ = .ok (.v (.fz ((prs n).map encP))) σ := by
  rw [pvF_at rfl rfl]
  generalize pvF gs fs k = F
  let row : Nat → List (Int × Int) := fun i => (List.range (n - (i + 1))).map fun (j : Nat) => ((i : Int), (i : Int) + 1 + (j : Int))
  let E : List Nat → Option W → Env2 := fun ds z => [some (.v (.int n)), some (.v (.fz ((ds.flatMap row).map encP))), z, none]
  have rl : ∀ i, (row i).length ≤ 5 := fun i => by
    show ((List.range _).map _).length ≤ 5
    rw [List.length_map, List.length_range]; omega
  have rls : ∀ ds : List Nat, (ds.flatMap row).length ≤ 5 * ds.length := fun ds => by
    induction ds with
    | nil => simp
    | cons a ds ih => have := rl a; rw [List.flatMap_cons, List.length_append, List.length_cons]; omega
  obtain ⟨ρ2, σ2, ⟨rfl, z, rfl⟩, hl2⟩ := for_all (body := pvSs F [(.set 1 (.cat false (.var 1) (.lc false (.tup [(.var 2), (.var 3)]) (.nm 3) (.rng2 (.cat false (.var 2) (.cst (.int 1))) (.var 0)) [] [3])))]) (tg := .nm 2) (g := none) (e := fun (i : Nat) => D.int (0 + (i : Int))) (P := fun ds ρ τ => τ = σ ∧ ∃ z, ρ = E ds z) (xs := List.range n) (ds := []) (ρ := E [] none) (σ := σ) (by
    rintro ds a r ρ τ hx ⟨rfl, z, rfl⟩
    obtain ⟨rfl, hd⟩ := range_at hx
    generalize hi : ds.length = i at *
    refine ⟨E ds (some (.v (.int (0 + (i : Int))))), rfl, E (ds ++ [i]) (some (.v (.int (0 + (i : Int))))), τ, ?_, rfl, rfl, _, rfl⟩
    refine ss_set (w := .v (.fz (((ds ++ [i]).flatMap row).map encP))) rfl (e_cat (y := .v (.fz ((row i).map encP))) (σ2 := τ) (e_var rfl) (e_lcF (i_rng2 (i := 0 + (i : Int) + 1) (j := n) (e_cat (e_var rfl) e_cst rfl) (e_var rfl) (by omega)) ?_) ?_) rfl ss_nil
    · have := lc_pure0 (F := F) (elt := pvE F (.tup [(.var 2), (.var 3)])) (tg := .nm 3) (ρ := E ds (some (.v (.int (0 + (i : Int)))))) (σ := τ) (e := fun (j : Nat) => D.int (0 + (i : Int) + 1 + (j : Int))) (f := fun (j : Nat) => encP (0 + (i : Int), 0 + (i : Int) + 1 + (j : Int))) (xs := List.range ((n : Int) - (0 + (i : Int) + 1)).toNat) fun b hb => ⟨_, rfl, e_tup (es_cons (e_var rfl) (es_cons (e_var rfl) es_nil)) rfl⟩
      have e1 : (row i).map encP = (List.range ((n : Int) - (0 + (i : Int) + 1)).toNat).map fun (j : Nat) => encP (0 + (i : Int), 0 + (i : Int) + 1 + (j : Int)) := by
        show ((List.range _).map _).map encP = _
        rw [List.map_map, show ((n : Int) - (0 + (i : Int) + 1)).toNat = n - (i + 1) by omega]
        congr 1
        funext j
        show encP ((i : Int), (i : Int) + 1 + (j : Int)) = _
        rw [Int.zero_add]
      rw [e1]
      exact this
    · rw [List.flatMap_append, List.map_append]
      have e : ([i].flatMap row).map encP = (row i).map encP := by simp
      rw [e]
      refine p_cat ?_
      have h1 := rl i
      have h2 := rls ds
      simp only [List.length_map, line_val]
      omega) ⟨rfl, none, rfl⟩
  exact b_run (ss_set (w := .v (.fz [])) rfl (e_lst es_nil rfl) rfl (ss_nx (s_for rfl (is_of (fun _ h => by cases h) (fun _ _ h => by cases h) (i_rng (n := n) (e_var rfl) (by omega))) hl2) (ss_rt (s_retv rfl rfl))))
theorem turn_len {A : List Int} {es : List (Int × Int)} {f : List Int} (h : f.Nodup ∧ ∀ y ∈ f, y ∈ A) : (turnE es A f).length ≤ A.length := by
  obtain ⟨⟨h1, h2⟩, _⟩ := turn_ok es h
  exact Hang.nodup_len h1 h2
/-- what hangs together by edges; ed: a tuple or a list of pairs -/
theorem l17 (A : List Int) (es : List (Int × Int)) (ed : D) (hed : seqOf ed [] = some (es.map encP)) (hA : A.length ≤ 5) (hnd : A.Nodup) (σ : Strm) : pvF gs fs (k + 1) 36 [.v (.fz (A.map .int)), .v ed] σ = .ok (.v (.bl (hangL A es))) σ := by
  rw [pvF_at rfl rfl]
  generalize pvF gs fs k = F
  let R : List Int → Option W → Option W → Option W → Env2 := fun f z3 z4 z5 => [some (.v (.fz (A.map .int))), some (.v ed), some (.o (f.map .int)), z3, z4, z5]
  let s1 : S' := (.ife (.and (.bv (.cmp .In (.var 4) (.var 2))) (.and (.bv (.cmp .In (.var 5) (.var 0))) (.bv (.cmp .NotIn (.var 5) (.var 2))))) [(.expr (.mth .append (.var 2) [(.var 5)]))] [])
  let s2 : S' := (.ife (.and (.bv (.cmp .In (.var 5) (.var 2))) (.and (.bv (.cmp .In (.var 4) (.var 0))) (.bv (.cmp .NotIn (.var 4) (.var 2))))) [(.expr (.mth .append (.var 2) [(.var 4)]))] [])
  let inner : List S' := [s1, s2]
  let body : List S' := [(.frr (.tp [(.nm 4), (.nm 5)]) (.seq (.var 1)) inner)]
  have put : ∀ (f : List Int) (x y : Int) (z3 : Option W) (i j : Nat), f.length ≤ 5 → (i = 4 ∧ j = 5 ∨ i = 5 ∧ j = 4) → ∀ (a b : Int), (R f z3 (some (.v (.int a))) (some (.v (.int b))))[i]? = some (some (.v (.int x))) → (R f z3 (some (.v (.int a))) (some (.v (.int b))))[j]? = some (some (.v (.int y))) → ∀ τ,
      pvS F (.ife (.and (.bv (.cmp .In (.var i) (.var 2))) (.and (.bv (.cmp .In (.var j) (.var 0))) (.bv (.cmp .NotIn (.var j) (.var 2))))) [(.expr (.mth .append (.var 2) [(.var j)]))] []) (R f z3 (some (.v (.int a))) (some (.v (.int b)))) τ
        = .ok (.nx (R (if decide (x ∈ f) && (decide (y ∈ A) && !decide (y ∈ f)) then f ++ [y] else f) z3 (some (.v (.int a))) (some (.v (.int b))))) τ := by
    intro f x y z3 i j hf _ a b hx hy τ
    have ht : pvT F (.and (.bv (.cmp .In (.var i) (.var 2))) (.and (.bv (.cmp .In (.var j) (.var 0))) (.bv (.cmp .NotIn (.var j) (.var 2))))) (R f z3 (some (.v (.int a))) (some (.v (.int b)))) τ = .ok (decide (x ∈ f) && (decide (y ∈ A) && !decide (y ∈ f))) τ :=
      t_and (t_bv (e_cmp (e_var hx) (e_vo rfl) p_inBI)) fun _ => t_and (t_bv (e_cmp (e_var hy) (e_var rfl) p_inI)) fun _ => t_bv (e_cmp (e_var hy) (e_vo rfl) p_ninBI)
    cases hc : (decide (x ∈ f) && (decide (y ∈ A) && !decide (y ∈ f))) with
    | false =>
      rw [hc] at ht
      exact s_ifF ht ss_nil
    | true =>
      rw [hc] at ht
      refine s_ifT ht (ss_nx (s_app (xs := f.map D.int) (d := .int y) rfl (e_var hy) (by rw [List.length_map, line_val]; omega)) ?_)
      show PR.ok (Fl2.nx ([_, _, some (W.o (f.map D.int ++ [D.int y])), _, _, _] : Env2)) τ = PR.ok (Fl2.nx ([_, _, some (W.o ((f ++ [y]).map D.int)), _, _, _] : Env2)) τ
      rw [List.map_append]; rfl
  have inn : ∀ (f : List Int) (z3 z4 z5 : Option W), (f.Nodup ∧ ∀ y ∈ f, y ∈ A) → ∃ z4' z5', pvFor (pvSs F inner) (.tp [(.nm 4), (.nm 5)]) (some 1) (es.map encP) (R f z3 z4 z5) σ = .ok (.nx (R (turnE es A f) z3 z4' z5')) σ := by
    intro f z3 z4 z5 hf
    obtain ⟨ρ2, σ2, ⟨hσ, z4', z5', rfl, _⟩, hl⟩ := for_all (body := pvSs F inner) (tg := .tp [(.nm 4), (.nm 5)]) (g := some 1) (e := encP) (P := fun ds ρ τ => τ = σ ∧ ∃ z4 z5, ρ = R (turnE ds A f) z3 z4 z5 ∧ ((turnE ds A f).Nodup ∧ ∀ y ∈ turnE ds A f, y ∈ A)) (xs := es) (ds := []) (ρ := R f z3 z4 z5) (σ := σ) (by
      rintro ds e r ρ τ hx ⟨hτ, z4, z5, rfl, hd⟩
      subst hτ
      refine ⟨R (turnE ds A f) z3 (some (.v (.int e.1))) (some (.v (.int e.2))), rfl, R (turnE (ds ++ [e]) A f) z3 (some (.v (.int e.1))) (some (.v (.int e.2))), τ, ?_, stays_get rfl, rfl, _, _, rfl, ?_⟩
      · have l0 := Hang.nodup_len hd.1 hd.2
        have e1 : turnE (ds ++ [e]) A f = stepE A (turnE ds A f) e := by unfold turnE; rw [List.foldl_append]; rfl
        rw [e1]
        obtain ⟨f0, hf0⟩ : ∃ f0, f0 = turnE ds A f := ⟨_, rfl⟩
        rw [← hf0] at hd l0 ⊢
        have p1 := put_ok (A := A) (f := f0) (c := decide (e.1 ∈ f0) && (decide (e.2 ∈ A) && !decide (e.2 ∈ f0))) (x := e.2) (fun h => by simp at h; exact ⟨h.2.1, h.2.2⟩) hd
        have l1 := Hang.nodup_len p1.1 p1.2.1
        refine ss_nx (put f0 e.1 e.2 z3 4 5 (by omega) (.inl ⟨rfl, rfl⟩) e.1 e.2 rfl rfl τ) (ss_nx (put _ e.2 e.1 z3 5 4 (by omega) (.inr ⟨rfl, rfl⟩) e.1 e.2 rfl rfl τ) ss_nil)
      · have e1 : turnE (ds ++ [e]) A f = stepE A (turnE ds A f) e := by unfold turnE; rw [List.foldl_append]; rfl
        rw [e1]
        exact (stepE_ok e hd).1) ⟨rfl, z4, z5, rfl, hf⟩
    subst hσ
    exact ⟨z4', z5', hl⟩
  have hsrc : ∀ f z3 z4 z5, pvIS F (.seq (.var 1)) (R f z3 z4 z5) σ = .ok (es.map encP) σ := fun f z3 z4 z5 => is_var rfl hed
  have h0 : (A.take 1).Nodup ∧ ∀ y ∈ A.take 1, y ∈ A := ⟨hnd.sublist (List.take_sublist _ _), fun y hy => List.mem_of_mem_take hy⟩
  obtain ⟨ρ2, σ2, ⟨hσ, z3, z4, z5, rfl, _⟩, hl⟩ := for_all (body := pvSs F body) (tg := .nm 3) (g := some 0) (e := D.int) (P := fun ds ρ τ => τ = σ ∧ ∃ z3 z4 z5, ρ = R (ds.foldl (fun f _ => turnE es A f) (A.take 1)) z3 z4 z5 ∧ ((ds.foldl (fun f _ => turnE es A f) (A.take 1)).Nodup ∧ ∀ y ∈ ds.foldl (fun f _ => turnE es A f) (A.take 1), y ∈ A)) (xs := A) (ds := []) (ρ := R (A.take 1) none none none) (σ := σ) (by
    rintro ds x r ρ τ hx ⟨hτ, z3, z4, z5, rfl, hd⟩
    subst hτ
    obtain ⟨z4', z5', hin⟩ := inn _ (some (.v (.int x))) z4 z5 hd
    refine ⟨R (ds.foldl (fun f _ => turnE es A f) (A.take 1)) (some (.v (.int x))) z4 z5, rfl, R ((ds ++ [x]).foldl (fun f _ => turnE es A f) (A.take 1)) (some (.v (.int x))) z4' z5', τ, ?_, stays_get rfl, rfl, _, _, _, rfl, ?_⟩
    · rw [List.foldl_append]
      exact ss_nx (s_for rfl (hsrc _ _ _ _) hin) ss_nil
    · rw [List.foldl_append]
      exact (turn_ok es hd).1) ⟨rfl, none, none, none, rfl, h0⟩
  subst hσ
  refine b_run (ss_set (w := .o ((A.take 1).map D.int)) rfl (e_blt (es_cons (w := .v (.fz ((A.take 1).map D.int))) (e_slc (e_var rfl) p_no (p_ex e_cst) ?_) es_nil) rfl) rfl (ss_nx (s_for rfl (is_var rfl rfl) hl) (ss_ret rfl (e_cmp (e_blt (es_cons (e_vo rfl) es_nil) p_lenB) (e_blt (es_cons (e_var rfl) es_nil) p_lenL) ?_) rfl)))
  · show lift (slcP false (.fz (A.map D.int)) none (some 1)) σ2 = _
    refine lift_v ?_
    show Pu.R.ok (D.fz (cutD (A.map D.int) none (some ((1 : Nat) : Int)))) [] = _
    rw [cut_to', List.map_take]
  · show lift (mret (.bl (decide (((foundE es A).length : Int) = A.length)))) σ2 = _
    have : decide (((foundE es A).length : Int) = A.length) = hangL A es := by
      unfold hangL
      exact decide_eq_decide.mpr (by omega)
    rw [this]; rfl
end
end Tk54

namespace Tk54
open PySem L2 Pu Pth Rmv Dat
section
variable (k : Nat)
section
variable {ss : List (List Int)} (hn : ss.length ≤ 5) {es : List (Int × Int)} {ed : D} (hed : seqOf ed [] = some (es.map encP)) (hlen : ∀ σ : Strm, rds (bltM .len) [.v ed] σ = .ok (.v (.int es.length)) σ)
include hn hed hlen
theorem l18 (σ : Strm) : pvF gs fs (k + 2) 37 [.v (.tup (ss.map encS)), .v ed] σ = .ok (.v (.bl (decide (es.length + 1 = ss.length) && hangL (nodes ss.length) es))) σ := by
  rw [pvF_at rfl rfl]
  have g := l17 k (nodes ss.length) es ed hed (by rw [nodesL]; exact hn) nodes_nd
  generalize pvF gs fs (k + 1) = F at g
  refine b_run (ss_ret rfl (e_and (e_cmp (e_blt (es_cons (e_var rfl) es_nil) (hlen σ)) (e_bin (e_blt (es_cons (e_var rfl) es_nil) p_lenT) e_cst p_sub) ?_) fun _ => ?_) rfl)
  · show lift (mret (.bl (decide ((es.length : Int) = (ss.length : Int) - 1)))) σ = _
    have : decide ((es.length : Int) = (ss.length : Int) - 1) = decide (es.length + 1 = ss.length) := decide_eq_decide.mpr (by omega)
    rw [this]; rfl
  · refine e_call (es_cons (w := .v (.fz ((nodes ss.length).map D.int))) ?_ (es_cons (e_var rfl) es_nil)) (g σ)
    have := e_lrng (F := F) (ρ := envW f37.slots [.v (.tup (ss.map encS)), .v ed]) (σ := σ) (σ1 := σ) (own := false) (a := .blt .len [(.var 0)]) (n := ss.length) (e_blt (es_cons (e_var rfl) es_nil) p_lenT) (by omega)
    rw [nodes_D] at this
    exact this
end
def encR (r : List (Int × Int)) : D := .tup (r.map encP)
theorem encR_eq : (encR : List (Int × Int) → D) = enc := by
  funext r
  show D.tup (r.map encP) = D.tup (r.map enc)
  rw [encP_eq]
theorem subsF_len {α : Type} : ∀ (l : List α) (f : List (List α)), (subsF l f).length = f.length * 2 ^ l.length
  | [], f => by simp [subsF]
  | x :: l, f => by
    show (subsF l (f ++ f.map (· ++ [x]))).length = _
    rw [subsF_len l, List.length_append, List.length_map, List.length_cons, Nat.pow_succ]
    rw [Nat.add_mul, ← Nat.mul_two, Nat.mul_assoc]
theorem l20 (n : Nat) (hn : 1 ≤ n ∧ n ≤ 4) (σ : Strm) : ∃ Ls : List (List (Int × Int)), pvF gs fs (k + 2) 38 [.v (.int n)] σ = .ok (.v (.fz (Ls.map encR))) σ ∧ Ls.Perm (setsL n) ∧ Ls.Pairwise (fun a b : List (Int × Int) => lt b a = false) := by
  rw [pvF_at rfl rfl]
  have g := l16 k n (by omega)
  generalize pvF gs fs (k + 1) = F at g
  have hp6 : (prs n).length ≤ 6 := by
    match n, hn with
    | 1, _ => decide +kernel
    | 2, _ => decide +kernel
    | 3, _ => decide +kernel
    | 4, _ => decide +kernel
    | 0, h => omega
    | _ + 5, h => omega
  let E : List (Int × Int) → Option W → Env2 := fun ds z => [some (.v (.int n)), some (.v (.fz ((subsF ds [[]]).map encR))), z, none]
  have rowlen : ∀ (ds : List (Int × Int)), ∀ r ∈ subsF ds [[]], r.length ≤ ds.length := fun ds r hr => (subsF_sub ds [[]] [] rfl (fun s hs => by rw [List.mem_singleton.mp hs]; exact List.Sublist.refl _) r hr).length_le
  obtain ⟨ρ2, σ2, ⟨hσ, z, rfl⟩, hl2⟩ := for_all (body := pvSs F [(.set 1 (.cat false (.var 1) (.lc false (.cat false (.var 3) (.tup [(.var 2)])) (.nm 3) (.seq (.var 1)) [] [3])))]) (tg := .nm 2) (g := none) (e := encP) (P := fun ds ρ τ => τ = σ ∧ ∃ z, ρ = E ds z) (xs := prs n) (ds := []) (ρ := E [] none) (σ := σ) (by
    rintro ds p r ρ τ hx ⟨hτ, z, rfl⟩
    subst hτ
    have hd : ds.length ≤ 5 := by have := congrArg List.length hx; simp at this; omega
    refine ⟨E ds (some (.v (encP p))), rfl, E (ds ++ [p]) (some (.v (encP p))), τ, ?_, rfl, rfl, _, rfl⟩
    have hs : subsF (ds ++ [p]) [[]] = subsF ds [[]] ++ (subsF ds [[]]).map (· ++ [p]) := by unfold subsF; rw [List.foldl_append]; rfl
    have hcount := subsF_len ds [[]]
    have hpow : 2 ^ ds.length ≤ 2 ^ 5 := Nat.pow_le_pow_right (by omega) hd
    refine ss_set (w := .v (.fz ((subsF (ds ++ [p]) [[]]).map encR))) rfl (e_cat (y := .v (.fz ((subsF ds [[]]).map fun r => encR (r ++ [p])))) (σ2 := τ) (e_var rfl) (e_lcF (i_seq (e_var rfl) rfl rfl) (lc_pure0 (e := encR) (f := fun r => encR (r ++ [p])) fun r hr => ⟨_, rfl, e_cat (e_var rfl) (e_tup (es_cons (e_var rfl) es_nil) rfl) ?_⟩)) ?_) rfl ss_nil
    · have := rowlen ds r hr
      show rd2 (catM false) (.v (.tup (r.map encP))) (.v (.tup [encP p])) τ = .ok (.v (.tup ((r ++ [p]).map encP))) τ
      rw [List.map_append]
      exact p_catT (by rw [List.length_map, List.length_singleton, line_val]; omega)
    · rw [hs, List.map_append, List.map_map]
      refine p_cat ?_
      rw [List.length_map, List.length_map, hcount, line_val, List.length_singleton]; omega) ⟨rfl, none, rfl⟩
  subst hσ
  have hfilt : ((subsF (prs n) [[]]).filter fun r => decide (r.length + 1 = n)) = setsL n := rfl
  have hsrt : ∃ Ls : List (List (Int × Int)), rds (bltM (.sorted false)) [.v (.fz ((setsL n).map encR))] σ2 = .ok (.v (.fz (Ls.map encR))) σ2 ∧ Ls.Perm (setsL n) ∧ Ls.Pairwise (fun a b : List (Int × Int) => lt b a = false) := by
    by_cases h1 : n = 1
    · subst h1
      have : setsL 1 = [[]] := by decide +kernel
      rw [this]
      exact ⟨[[]], sort_one (d := .tup []) rfl rfl rfl, List.Perm.refl _, List.pairwise_singleton _ _⟩
    · have hne : ∀ r ∈ setsL n, r ≠ [] := fun r hr q => by
        have := (mem_sets.mp hr).2
        rw [q] at this; simp at this; omega
      obtain ⟨ys, h1, h2, h3⟩ := sort_dataM (α := List (Int × Int)) (σ := σ2) (xs := setsL n) (by decide) (fun x _ => rfl) (by
        cases hq : setsL n with
        | nil => exact .inr rfl
        | cons x r =>
          refine .inl ?_
          have : x ≠ [] := hne x (by rw [hq]; exact List.mem_cons_self)
          match x, this with
          | [_], _ => rfl
          | [_, _], _ => rfl
          | _ :: _ :: _ :: _, _ => rfl) (fun x hx => by
        have := hne x hx
        cases x with
        | nil => exact absurd rfl this
        | cons p r => exact ⟨_, _, rfl⟩)
      rw [← encR_eq] at h1
      exact ⟨ys, h1, h2, h3⟩
  obtain ⟨Ls, hL, hp⟩ := hsrt
  refine ⟨Ls, ?_, hp⟩
  refine b_run (ss_set (w := .v (.fz [.tup []])) rfl (e_lst (es_cons (e_tup es_nil rfl) es_nil) rfl) rfl (ss_nx (s_for rfl (is_seq rfl (e_call (es_cons (e_var rfl) es_nil) (g σ2)) rfl rfl) hl2) (ss_ret rfl (e_blt (es_cons (w := .v (.fz ((setsL n).map encR))) (σ1 := σ2) (e_lcF (i_seq (e_var rfl) rfl rfl) (lc_pure (e := encR) (p := fun r => decide (r.length + 1 = n)) (f := encR) fun r hr => ⟨_, rfl, ts_one (t_bv (e_cmp (e_blt (es_cons (e_var rfl) es_nil) p_lenT) (e_bin (e_var rfl) e_cst p_sub) ?_)), fun _ => e_var rfl⟩)) es_nil) hL) rfl)))
  show lift (mret (.bl (decide ((r.length : Int) = (n : Int) - 1)))) σ2 = _
  have : decide ((r.length : Int) = (n : Int) - 1) = decide (r.length + 1 = n) := decide_eq_decide.mpr (by omega)
  rw [this]; rfl
end
end Tk54

namespace Tk54
open PySem L2 Pu Pth Rmv Dat
/-- the sets of edges, one edge less than there are nodes, in order -/
def rowsC (n : Nat) : List (List (Int × Int)) := match Cmb.allC (prs n).length (n - 1) with
  | some L => L.map fun ix => ix.map fun i => (prs n).getD i (0, 0)
  | none => []
theorem in4 {p : Nat → Prop} {n : Nat} (h : 1 ≤ n ∧ n ≤ 4) (h1 : p 1) (h2 : p 2) (h3 : p 3) (h4 : p 4) : p n := by
  match n, h with
  | 1, _ => exact h1
  | 2, _ => exact h2
  | 3, _ => exact h3
  | 4, _ => exact h4
  | 0, h => omega
  | _ + 5, h => omega
theorem pairs_C {n : Nat} (h : 1 ≤ n ∧ n ≤ 4) : ∃ L, Cmb.allC n 2 = some L ∧ pickD (rngD n) L = (prs n).map encP := by
  refine in4 (p := fun n => ∃ L, Cmb.allC n 2 = some L ∧ pickD (rngD n) L = (prs n).map encP) h ⟨_, rfl, rfl⟩ ⟨_, rfl, rfl⟩ ⟨_, rfl, rfl⟩ ⟨_, rfl, rfl⟩
theorem rows_C {n : Nat} (h : 1 ≤ n ∧ n ≤ 4) : ∃ L, Cmb.allC (prs n).length (n - 1) = some L ∧ pickD ((prs n).map encP) L = (rowsC n).map encR := by
  refine in4 (p := fun n => ∃ L, Cmb.allC (prs n).length (n - 1) = some L ∧ pickD ((prs n).map encP) L = (rowsC n).map encR) h ⟨_, rfl, rfl⟩ ⟨_, rfl, rfl⟩ ⟨_, rfl, rfl⟩ ⟨_, rfl, rfl⟩
theorem lists_same {α : Type} [Dat α] {xs ys : List α} (hp : xs.Perm ys) (h1 : xs.Pairwise fun a b => lt b a = false) (h2 : ys.Pairwise fun a b => lt b a = false) (tot : ∀ a ∈ xs, ∀ b ∈ xs, lt a b = false → lt b a = false → a = b) : xs = ys :=
  List.Perm.eq_of_pairwise (le := fun a b => lt b a = false) (fun a b ha hb h1 h2 => tot a ha b (hp.mem_iff.mpr hb) h2 h1) h1 h2 hp
def rowLt (a b : List (Int × Int)) : Bool := lt a b
def chkR (n : Nat) : Bool := decide ((rowsC n).Pairwise fun a b => rowLt b a = false) && ((rowsC n).all fun a => (rowsC n).all fun b => rowLt a b || rowLt b a || decide (a = b)) && (rowsC n).isPerm (setsL n)
theorem chkR_all : chkR 1 = true ∧ chkR 2 = true ∧ chkR 3 = true ∧ chkR 4 = true := by decide +kernel
theorem rows_ok {n : Nat} (h : 1 ≤ n ∧ n ≤ 4) : ((rowsC n).Pairwise fun a b => rowLt b a = false) ∧ (∀ a ∈ rowsC n, ∀ b ∈ rowsC n, rowLt a b = false → rowLt b a = false → a = b) ∧ (rowsC n).Perm (setsL n) := by
  have c : chkR n = true := in4 (p := fun n => chkR n = true) h chkR_all.1 chkR_all.2.1 chkR_all.2.2.1 chkR_all.2.2.2
  unfold chkR at c
  rw [Bool.and_eq_true, Bool.and_eq_true] at c
  obtain ⟨⟨c1, c2⟩, c3⟩ := c
  refine ⟨of_decide_eq_true c1, fun a ha b hb h1 h2 => ?_, List.isPerm_iff.mp c3⟩
  have := List.all_eq_true.mp (List.all_eq_true.mp c2 a ha) b hb
  rw [h1, h2] at this
  exact of_decide_eq_true (by simpa using this)
/-! ## both judges agree -/
def adjM (es : List (Int × Int)) (a b : Int) : Bool := decide ((if b < a then b else a, if b > a then b else a) ∈ es)
def cycM (n : Nat) (es : List (Int × Int)) : Option (List Int) := (List.range (n - 2)).findSome? fun m => (way n (adjM es) (m + 2)).find? fun w => adjM es (w.headD 0) (w.getLastD 0)
def htM (es : List (Int × Int)) (A : List Int) : Bool := decide (Hang.growN (adjM es) A (A.headD 0) A.length = A)
def chkJ (n : Nat) : Bool := (subsF (prs n) [[]]).all fun es => (((cycM n es).isNone && htM es (nodes n)) == (decide (es.length + 1 = n) && hangL (nodes n) es)) && (subsS (nodes n)).all fun A => A.isEmpty || (htM es A == hangL A es)
theorem chkJ_all : chkJ 1 = true ∧ chkJ 2 = true ∧ chkJ 3 = true ∧ chkJ 4 = true := by decide +kernel
end Tk54

namespace Tk54
open PySem L2 Pu Pth Rmv Dat
theorem having_eq {v2 : Int} {ss : List (List Int)} {es : List (Int × Int)} {v : Int} : having ⟨v2, ss, es⟩ v = (nodes ss.length).filter fun x => decide (v ∈ scf ss x) := by
  unfold having nodes
  rw [List.filter_map]
  congr 1
theorem chkJ_of {n : Nat} (h : 1 ≤ n ∧ n ≤ 4) : chkJ n = true := in4 (p := fun n => chkJ n = true) h chkJ_all.1 chkJ_all.2.1 chkJ_all.2.2.1 chkJ_all.2.2.2
/-- the program's judge and the law's -/
theorem judges {ss : List (List Int)} (ok : OkS ss) (h4 : ss.length ≤ 4) {es : List (Int × Int)} (hE : es ∈ subsF (prs ss.length) [[]]) : junc ⟨2, ss, es⟩ = makesL ss.length (scf ss) es := by
  have c := chkJ_of ⟨ok.n.1, h4⟩
  have c := List.all_eq_true.mp c es hE
  rw [Bool.and_eq_true] at c
  obtain ⟨c1, c2⟩ := c
  have c1 := eq_of_beq c1
  have hang : ∀ v : Int, having ⟨2, ss, es⟩ v ≠ [] → ht ⟨2, ss, es⟩ (having ⟨2, ss, es⟩ v) = hangL (having ⟨2, ss, es⟩ v) es := fun v hv => by
    have hm : having ⟨2, ss, es⟩ v ∈ subsS (nodes ss.length) := by rw [having_eq]; exact filter_subs _
    have := List.all_eq_true.mp c2 _ hm
    have he : (having ⟨2, ss, es⟩ v).isEmpty = false := by
      cases q : having ⟨2, ss, es⟩ v with
      | nil => exact absurd q hv
      | cons => rfl
    rw [he, Bool.false_or] at this
    exact eq_of_beq this
  have hall : ((allV ⟨2, ss, es⟩).all fun v => ht ⟨2, ss, es⟩ (having ⟨2, ss, es⟩ v)) = (List.range 6).all fun v => hangL ((nodes ss.length).filter fun x => decide ((v : Int) ∈ scf ss x)) es := by
    rw [Bool.eq_iff_iff, List.all_eq_true, List.all_eq_true]
    constructor
    · intro q v _
      by_cases hv : (v : Int) ∈ allV ⟨2, ss, es⟩
      · have := q _ hv
        rw [hang _ (having_ne hv), having_eq] at this
        exact this
      · have : having ⟨2, ss, es⟩ (v : Int) = [] := by
          cases q2 : having ⟨2, ss, es⟩ (v : Int) with
          | nil => rfl
          | cons x r =>
            refine absurd ?_ hv
            have hx : x ∈ having ⟨2, ss, es⟩ (v : Int) := by rw [q2]; exact List.mem_cons_self
            rw [having_eq, List.mem_filter] at hx
            obtain ⟨h1, h2⟩ := hx
            obtain ⟨_, h3⟩ := scf_at h1
            exact mem_allV.mpr ⟨scf ss x, List.mem_of_getElem? h3, of_decide_eq_true h2⟩
        rw [having_eq] at this
        rw [this]; exact hang_nil
    · intro q v hv
      obtain ⟨s, hs, hvs⟩ := mem_allV.mp hv
      have hb := (ok.s s hs).2.2 v hvs
      have := q v.toNat (List.mem_range.mpr (by omega))
      rw [show ((v.toNat : Nat) : Int) = v by omega] at this
      rw [hang _ (having_ne hv), having_eq]
      exact this
  unfold makesL
  rw [← c1, ← hall]
  unfold junc
  rw [Bool.and_assoc]
  rfl
theorem rowsC_sub {n : Nat} (h : 1 ≤ n ∧ n ≤ 4) {E : List (Int × Int)} (hE : E ∈ rowsC n) : E ∈ subsF (prs n) [[]] := (List.mem_filter.mp ((rows_ok h).2.2.mem_iff.mp hE)).1
theorem mem_rowsC {n : Nat} (h : 1 ≤ n ∧ n ≤ 4) {E : List (Int × Int)} : E ∈ rowsC n ↔ E.Sublist (prs n) ∧ E.length + 1 = n := (rows_ok h).2.2.mem_iff.trans mem_sets
theorem l20x (k : Nat) (n : Nat) (hn : 1 ≤ n ∧ n ≤ 4) (σ : Strm) : pvF gs fs (k + 2) 38 [.v (.int n)] σ = .ok (.v (.fz ((rowsC n).map encR))) σ := by
  obtain ⟨Ls, h1, h2, h3⟩ := l20 k n hn σ
  obtain ⟨r1, r2, r3⟩ := rows_ok hn
  have e : Ls = rowsC n := (lists_same (r3.trans h2.symm) r1 h3 fun a ha b hb q1 q2 => r2 a ha b hb q1 q2).symm
  rw [h1, e]
end Tk54

namespace Tk54
open PySem L2 Pu Pth Rmv Dat
theorem lexP_lt {p q : Int × Int} (h : lexP p q = true) : HT.lexLt [p.1, p.2] [q.1, q.2] = true := by
  rw [lexLt2]
  unfold lexP at h
  split at h <;> simp at h <;> omega
theorem okG {ss : List (List Int)} (ok : OkS ss) {es : List (Int × Int)} (h : es.Sublist (prs ss.length)) : Ok ⟨2, ss, es⟩ where
  v := ⟨by show (2 : Int) ≤ 2; omega, by show (2 : Int) ≤ 3; omega⟩
  n := ok.n
  s := ok.s
  e := fun e he => mem_prs.mp (h.subset he)
  el := by
    have := h.length_le
    have := prs_len ok.n.2
    show es.length ≤ 1000
    omega
  ea := ((prs_asc ss.length ok.n.2).sublist h).imp fun {a b} q => lexP_lt q
theorem sub_of {n : Nat} {E : List (Int × Int)} (h : E ∈ subsF (prs n) [[]]) : E.Sublist (prs n) := subsF_sub (prs n) [[]] [] rfl (fun s hs => by rw [List.mem_singleton.mp hs]; exact List.nil_sublist _) E h
theorem of_sub {n : Nat} {E : List (Int × Int)} (h : E.Sublist (prs n)) : E ∈ subsF (prs n) [[]] := by
  have := subsF_mem (prs n) [[]] [] E (by simp) h
  simpa using this
section
variable (k : Nat) {ss : List (List Int)} (ok : OkS ss) (h4 : ss.length ≤ 4)
theorem q24 (sd ed : D) (σ : Strm) : pvF gs fs (k + 1) 26 [.v sd, .v ed] σ = .ok (.v (.tup [.int 2, sd, ed])) σ := by
  rw [pvF_at rfl rfl]
  generalize pvF gs fs k = F
  exact b_run (ss_ret rfl (e_tup (es_cons e_cst (es_cons (e_var rfl) (es_cons (e_var rfl) es_nil))) rfl) rfl)
theorem q24g (es : List (Int × Int)) (σ : Strm) : pvF gs fs (k + 1) 26 [.v (.tup (ss.map encS)), .v (encR es)] σ = .ok (.v (encG ⟨2, ss, es⟩)) σ := q24 k _ _ σ
include ok in
theorem q6 (σ : Strm) : pvF gs fs (k + 4) 6 [.v (.tup (ss.map encS))] σ = .ok (.v (.bl true)) σ := i8 k ss ok.n ok.s σ
include ok in
theorem q23 {es : List (Int × Int)} (h : es.Sublist (prs ss.length)) (σ : Strm) : pvF gs fs (k + 5) 25 [.v (.tup (ss.map encS)), .v (encR es)] σ = .ok (.v .non) σ := by
  rw [pvF_at rfl rfl]
  have g6 := q6 k ok
  have g0 := i0 (k + 3)
  have g8 := i10 (k + 1) ss.length es (okG ok h).el (okG ok h).e (okG ok h).ea
  generalize pvF gs fs (k + 4) = F at g6 g0 g8
  exact b_end (ss_expr rfl (e_call (es_cons (e_call (es_cons (e_var rfl) es_nil) (g6 σ)) (es_cons e_cst es_nil)) (g0 _ σ)) (ss_expr rfl (e_call (es_cons (e_call (es_cons (e_blt (es_cons (e_var rfl) es_nil) p_lenT) (es_cons (e_var rfl) es_nil)) (g8 σ)) (es_cons e_cst es_nil)) (g0 _ σ)) ss_nil))
include ok in
theorem q20 {es : List (Int × Int)} (h : es.Sublist (prs ss.length)) (σ : Strm) : pvF gs fs (k + 6) 21 [.v (.tup (ss.map encS)), .v (encR es)] σ = .ok (.v (.bl (junc ⟨2, ss, es⟩))) σ := by
  rw [pvF_at rfl rfl]
  have g23 := q23 k ok h
  have g24 := q24g (k + 4) (ss := ss) es
  have g10 := i12j k ⟨2, ss, es⟩ (okG ok h)
  generalize pvF gs fs (k + 5) = F at g23 g24 g10
  exact b_run (ss_expr rfl (e_call (es_cons (e_var rfl) (es_cons (e_var rfl) es_nil)) (g23 σ)) (ss_ret rfl (e_call (es_cons (e_call (es_cons (e_var rfl) (es_cons (e_var rfl) es_nil)) (g24 σ)) es_nil) (g10 σ)) rfl))
theorem q25 {n : Nat} (h : 1 ≤ n ∧ n ≤ 4) (σ : Strm) : pvF gs fs (k + 1) 27 [.v (.int n), .v (.int ((n : Int) - 1))] σ = .ok (.v (.fz ((rowsC n).map encR))) σ := by
  rw [pvF_at rfl rfl]
  generalize pvF gs fs k = F
  obtain ⟨L2, a1, a2⟩ := pairs_C h
  obtain ⟨L3, a3, a4⟩ := rows_C h
  have e1 := p_cmr (σ := σ) (j := (n : Int)) (r := 2) (L := L2) (by omega) (by omega) (by rw [Int.toNat_natCast]; exact a1)
  rw [a2] at e1
  have e2 := p_cmb (σ := σ) (xs := (prs n).map encP) (r := n - 1) (L := L3) (by rw [List.length_map]; exact a3)
  rw [a4, show ((n - 1 : Nat) : Int) = (n : Int) - 1 by omega] at e2
  exact b_run (ss_set rfl (e_cmr (e_var rfl) e_cst e1) rfl (ss_ret rfl (e_cmb (e_var rfl) (e_var rfl) e2) rfl))
include ok h4 in
theorem q26 (σ : Strm) : pvF gs fs (k + 5) 28 [.v (.tup (ss.map encS))] σ = .ok (.v (.fz (((rowsC ss.length).filter fun es => ht ⟨2, ss, es⟩ (nodes ss.length)).map encR))) σ := by
  rw [pvF_at rfl rfl]
  have g24 := fun es => q24g (k + 3) (ss := ss) es
  have g11 := fun g h σ => i15 (k + 3) g σ h
  have g25 := q25 (k + 3) (n := ss.length) ⟨ok.n.1, h4⟩
  have hne : nodes ss.length ≠ [] := by
    intro e
    have hl : (nodes ss.length).length = ss.length := nodesL
    have := ok.n.1
    rw [e] at hl
    simp only [List.length_nil] at hl; omega
  have g19 := fun es => i23r k ⟨2, ss, es⟩ (nodes ss.length) hne
  generalize pvF gs fs (k + 4) = F at g24 g11 g25 g19
  have eN : F 11 [.v (encG ⟨2, ss, []⟩)] σ = .ok (.v (encS (nodes ss.length))) σ := by
    rw [g11 ⟨2, ss, []⟩ (okG ok (List.nil_sublist _)) σ]
    unfold encS
    rw [nodes_map]
  have hl : ∀ σ : Strm, rds (bltM .len) [.v (encS (nodes ss.length))] σ = .ok (.v (.int ss.length)) σ := fun σ => by
    have := p_lenT (σ := σ) (e := D.int) (xs := nodes ss.length)
    rw [nodesL] at this
    exact this
  refine b_run (ss_set (w := .v (encS (nodes ss.length))) rfl (e_call (es_cons (e_call (es_cons (e_var rfl) (es_cons (e_tup es_nil rfl) es_nil)) (g24 [] σ)) es_nil) eN) rfl (ss_ret rfl (e_lcF (items := (rowsC ss.length).map encR) (σ1 := σ) (i_seq (e_call (es_cons (e_blt (es_cons (e_var rfl) es_nil) (hl σ)) (es_cons (e_bin (e_blt (es_cons (e_var rfl) es_nil) (hl σ)) e_cst p_sub) es_nil)) (g25 σ)) rfl rfl) (lc_pure (e := encR) (p := fun es => ht ⟨2, ss, es⟩ (nodes ss.length)) (f := encR) (xs := rowsC ss.length) fun es hes => ⟨_, rfl, ts_one (t_val (e_call (es_cons (e_call (es_cons (e_var rfl) (es_cons (e_var rfl) es_nil)) (g24 es σ)) (es_cons (e_var rfl) es_nil)) (g19 es σ)) rfl), fun _ => e_var rfl⟩)) rfl))
def madeC (ss : List (List Int)) : List (List (Int × Int)) := (rowsC ss.length).filter fun es => makesL ss.length (scf ss) es
include ok h4 in
def firstC (ss : List (List Int)) : D := match madeC ss with
  | [] => .non
  | es :: _ => encR es
include ok h4 in
end
end Tk54

namespace Pu
open PySem L2
theorem ints_as : ∀ l : List Int, asInts (l.map D.int) = some l := fun l => by
  induction l with
  | nil => rfl
  | cons x l ih => show (asInts (l.map D.int)).map (x :: ·) = _; rw [ih]; rfl
theorem p_max {ns : List Int} {m : Int} {σ : Strm} (h : mostI ns = some m) : rds (bltM .max1) [.v (.fz (ns.map D.int))] σ = .ok (.v (.int m)) σ := by
  refine lift_v (m := max1M [.fz (ns.map D.int)]) ?_
  show (match (asInts (ns.map D.int)).bind mostI with | some n => R.ok (D.int n) [] | none => .bad) = _
  rw [ints_as, Option.bind_some, h]
theorem p_maxB {ns : List Int} {m : Int} {σ : Strm} (h : mostI ns = some m) : rds (bltM .max1) [.b (ns.map D.int)] σ = .ok (.v (.int m)) σ := p_max h
theorem p_max2 {a b : Int} {σ : Strm} : rds (bltM .max2) [.v (.int a), .v (.int b)] σ = .ok (.v (.int (if b > a then b else a))) σ := lift_v (m := max2M [.int a, .int b]) rfl
end Pu
namespace Tk54
open PySem L2 Pu Pth Rmv Dat
def numI (ss : List (List Int)) (es : List (Int × Int)) : Int := ((inE ⟨2, ss, es⟩ : Nat) : Int)
theorem numI_eq {ss : List (List Int)} {es : List (Int × Int)} : (es.map fun e => (((sh ⟨2, ss, es⟩ e).length : Nat) : Int)).sum = numI ss es := castSum (fun e => (sh ⟨2, ss, es⟩ e).length) es
section
variable (k : Nat) {ss : List (List Int)} (ok : OkS ss) (h4 : ss.length ≤ 4)
include ok in
theorem q29 {es : List (Int × Int)} (h : es.Sublist (prs ss.length)) (σ : Strm) : pvF gs fs (k + 2) 29 [.v (.tup (ss.map encS)), .v (encR es)] σ = .ok (.v (.int (numI ss es))) σ := by
  rw [pvF_at rfl rfl]
  have g24 := q24g k (ss := ss) es
  have g18 := fun (e : Int × Int) (he : e ∈ es) => by
    have b := mem_prs.mp (h.subset he)
    exact i18 k ⟨2, ss, es⟩ e.1 e.2 _ _ b.1 (by omega) (scp_at (g := ⟨2, ss, es⟩) b.1 (by show e.1 < (ss.length : Int); omega)) (scp_at (g := ⟨2, ss, es⟩) (by omega) (by show e.2 < (ss.length : Int); omega))
  generalize pvF gs fs (k + 1) = F at g24 g18
  have ps := p_sum (σ := σ) (ns := es.map fun e => (((sh ⟨2, ss, es⟩ e).length : Nat) : Int))
  rw [numI_eq] at ps
  refine b_run (ss_ret rfl (e_blt (es_cons (w := .v (.fz ((es.map fun e => (((sh ⟨2, ss, es⟩ e).length : Nat) : Int)).map D.int))) (σ1 := σ) ?_ es_nil) ps) rfl)
  rw [List.map_map]
  exact e_lcF (items := es.map encP) (σ1 := σ) (i_seq (d := encR es) (e_var rfl) rfl rfl) (lc_pure0 (e := encP) (f := fun e => D.int (((sh ⟨2, ss, es⟩ e).length : Nat) : Int)) fun e he => ⟨_, rfl, e_blt (es_cons (e_call (es_cons (e_call (es_cons (e_var rfl) (es_cons (e_var rfl) es_nil)) (g24 σ)) (es_cons (e_var rfl) (es_cons (e_var rfl) es_nil))) (g18 e he σ)) es_nil) p_lenT⟩)
include ok in
theorem q22 {es : List (Int × Int)} (h : es.Sublist (prs ss.length)) (σ : Strm) : pvF gs fs (k + 6) 22 [.v (.tup (ss.map encS)), .v (encR es)] σ = .ok (.v (.int (numI ss es))) σ := by
  rw [pvF_at rfl rfl]
  have g23 := q23 k ok h
  have g29 := q29 (k + 3) ok h
  generalize pvF gs fs (k + 5) = F at g23 g29
  exact b_run (ss_expr rfl (e_call (es_cons (e_var rfl) (es_cons (e_var rfl) es_nil)) (g23 σ)) (ss_ret rfl (e_call (es_cons (e_var rfl) (es_cons (e_var rfl) es_nil)) (g29 σ)) rfl))
def dueI (ss : List (List Int)) : Int := ((allV ⟨2, ss, []⟩).map fun v => ((having ⟨2, ss, []⟩ v).length : Int) - 1).sum
include ok in
theorem q23d (σ : Strm) : pvF gs fs (k + 5) 23 [.v (.tup (ss.map encS))] σ = .ok (.v (.int (dueI ss))) σ := by
  rw [pvF_at rfl rfl]
  have g6 := q6 k ok
  have g0 := i0 (k + 3)
  have g24 := q24g (k + 3) (ss := ss) []
  have g9 := i11 (k + 3) ⟨2, ss, []⟩ (okG ok (List.nil_sublist _))
  have g12 := i15r (k + 3) ⟨2, ss, []⟩
  generalize pvF gs fs (k + 4) = F at g6 g0 g24 g9 g12
  have ps := p_sum (σ := σ) (ns := (allV ⟨2, ss, []⟩).map fun v => ((having ⟨2, ss, []⟩ v).length : Int) - 1)
  refine b_run (ss_expr rfl (e_call (es_cons (e_call (es_cons (e_var rfl) es_nil) (g6 σ)) (es_cons e_cst es_nil)) (g0 _ σ)) (ss_set (w := .v (encG ⟨2, ss, []⟩)) rfl (e_call (es_cons (e_var rfl) (es_cons (e_tup es_nil rfl) es_nil)) (g24 σ)) rfl (ss_ret rfl (e_blt (es_cons (w := .v (.fz (((allV ⟨2, ss, []⟩).map fun v => ((having ⟨2, ss, []⟩ v).length : Int) - 1).map D.int))) (σ1 := σ) ?_ es_nil) ps) rfl)))
  rw [List.map_map]
  exact e_lcF (items := (allV ⟨2, ss, []⟩).map D.int) (σ1 := σ) (i_seq (d := encS (allV ⟨2, ss, []⟩)) (e_call (es_cons (e_var rfl) es_nil) (g9 σ)) rfl rfl) (lc_pure0 (e := D.int) (f := fun v => D.int (((having ⟨2, ss, []⟩ v).length : Int) - 1)) fun v hv => ⟨_, rfl, e_bin (e_blt (es_cons (e_call (es_cons (e_var rfl) (es_cons (e_var rfl) es_nil)) (g12 v σ)) es_nil) p_lenT) e_cst p_sub⟩)
def treesC (ss : List (List Int)) : List (List (Int × Int)) := (rowsC ss.length).filter fun es => hangL (nodes ss.length) es
include ok h4 in
theorem trees_eq : ((rowsC ss.length).filter fun es => ht ⟨2, ss, es⟩ (nodes ss.length)) = treesC ss := by
  unfold treesC
  refine List.filter_congr fun es hes => ?_
  have c := List.all_eq_true.mp (chkJ_of ⟨ok.n.1, h4⟩) es (rowsC_sub ⟨ok.n.1, h4⟩ hes)
  rw [Bool.and_eq_true] at c
  have := List.all_eq_true.mp c.2 (nodes ss.length) (by
    have := filter_subs (l := nodes ss.length) fun _ => true
    have e : (nodes ss.length).filter (fun _ => true) = nodes ss.length := List.filter_eq_self.mpr fun _ _ => rfl
    rwa [e] at this)
  have he : (nodes ss.length).isEmpty = false := by
    cases q : nodes ss.length with
    | nil =>
      have hl : (nodes ss.length).length = ss.length := nodesL
      have := ok.n.1
      rw [q] at hl
      simp only [List.length_nil] at hl; omega
    | cons => rfl
  rw [he, Bool.false_or] at this
  exact eq_of_beq this
include ok h4 in
theorem q24m {m : Int} (hm : mostI ((treesC ss).map (numI ss)) = some m) (σ : Strm) : pvF gs fs (k + 6) 24 [.v (.tup (ss.map encS))] σ = .ok (.v (.int m)) σ := by
  rw [pvF_at rfl rfl]
  have g6 := q6 (k + 1) ok
  have g0 := i0 (k + 4)
  have g26 := q26 k ok h4
  rw [trees_eq ok h4] at g26
  have hsub : ∀ es ∈ treesC ss, es.Sublist (prs ss.length) := fun es hes => ((mem_rowsC ⟨ok.n.1, h4⟩).mp (List.mem_filter.mp hes).1).1
  have g29 := fun es (hes : es ∈ treesC ss) => q29 (k + 3) ok (hsub es hes)
  generalize pvF gs fs (k + 5) = F at g6 g0 g26 g29
  refine b_run (ss_expr rfl (e_call (es_cons (e_call (es_cons (e_var rfl) es_nil) (g6 σ)) (es_cons e_cst es_nil)) (g0 _ σ)) (ss_ret rfl (e_blt (es_cons (w := .v (.fz (((treesC ss).map (numI ss)).map D.int))) (σ1 := σ) ?_ es_nil) (p_max hm)) rfl))
  rw [List.map_map]
  exact e_lcF (items := (treesC ss).map encR) (σ1 := σ) (i_seq (e_call (es_cons (e_var rfl) es_nil) (g26 σ)) rfl rfl) (lc_pure0 (e := encR) (f := fun es => D.int (numI ss es)) fun es hes => ⟨_, rfl, e_call (es_cons (e_var rfl) (es_cons (e_var rfl) es_nil)) (g29 es hes σ)⟩)
theorem scL {x : Int} (hx : x ∈ nodes ss.length) : scf ss x = scp ⟨2, ss, []⟩ x.toNat := rfl
/-- the law's own count -/
theorem q39 {es : List (Int × Int)} (h : es.Sublist (prs ss.length)) (σ : Strm) : pvF gs fs (k + 1) 39 [.v (.tup (ss.map encS)), .v (encR es)] σ = .ok (.v (.int (numI ss es))) σ := by
  rw [pvF_at rfl rfl]
  generalize pvF gs fs k = F
  let part : List (Int × Int) → Int := fun ds => (ds.map fun e => (((sh ⟨2, ss, es⟩ e).length : Nat) : Int)).sum
  let R : List (Int × Int) → Option W → Option W → Env2 := fun ds a b => [some (.v (.tup (ss.map encS))), some (.v (encR es)), some (.v (.int (part ds))), a, b, none]
  obtain ⟨ρ2, σ2, ⟨hσ, a, b, rfl⟩, hl⟩ := for_all (body := pvSs F [(.set 2 (.cat false (.var 2) (.blt .len [(.lc false (.var 5) (.nm 5) (.seq (.idx (.var 0) (.var 3))) [(.bv (.cmp .In (.var 5) (.idx (.var 0) (.var 4))))] [5])])))]) (tg := .tp [(.nm 3), (.nm 4)]) (g := some 1) (e := encP) (P := fun ds ρ τ => τ = σ ∧ ∃ a b, ρ = R ds a b) (xs := es) (ds := []) (ρ := R [] none none) (σ := σ) (by
    rintro ds e r ρ τ hx ⟨rfl, a, b, rfl⟩
    have he : e ∈ es := by rw [hx]; simp
    have bb := mem_prs.mp (h.subset he)
    have h1 : e.1 ∈ nodes ss.length := mem_nodes.mpr ⟨bb.1, by omega⟩
    have h2 : e.2 ∈ nodes ss.length := mem_nodes.mpr ⟨by omega, bb.2.2⟩
    refine ⟨R ds (some (.v (.int e.1))) (some (.v (.int e.2))), rfl, R (ds ++ [e]) (some (.v (.int e.1))) (some (.v (.int e.2))), τ, ?_, by unfold stays; simp [R], rfl, _, _, rfl⟩
    have hp : part (ds ++ [e]) = part ds + (((sh ⟨2, ss, es⟩ e).length : Nat) : Int) := by
      show ((ds ++ [e]).map _).sum = _
      rw [List.map_append, List.sum_append]
      simp [part]
    refine ss_set (w := .v (.int (part (ds ++ [e])))) rfl (e_cat (e_var rfl) (e_blt (es_cons (e_lcF (i_seq (d := encS (scf ss e.1)) (e_idx (e_var rfl) (e_var rfl) (sc_idx h1)) rfl rfl) (lc_pure (e := D.int) (p := fun x => decide (x ∈ scf ss e.2)) (f := D.int) (xs := scf ss e.1) fun x hx => ⟨_, rfl, ts_one (t_bv (e_cmp (e_var rfl) (e_idx (e_var rfl) (e_var rfl) (sc_idx h2)) p_in)), fun _ => e_var rfl⟩)) es_nil) p_lenL) ?_) rfl ss_nil
    rw [hp]; rfl) ⟨rfl, none, none, rfl⟩
  subst hσ
  have : part es = numI ss es := numI_eq
  refine b_run (ss_set (w := .v (.int 0)) rfl e_cst rfl (ss_nx (s_for rfl (is_var rfl rfl) hl) (ss_rt ?_)))
  rw [← this]
  exact s_retv rfl rfl
end
end Tk54

namespace Tk54
open PySem L2 Pu Pth Rmv Dat
theorem gsOk : GsOk gs fs := fun f g hf k ws σ S ds B0 hB h1 s r => by
  unfold gs at hf
  split at hf
  · rename_i e
    subst e
    injection hf with hf
    subst hf
    exact next_ag (tab := fs) (f := 31) rfl k ws σ S ds B0 hB h1 s r
  · cases hf
/-! ## the due number -/
theorem sum_filt {α : Type} (p : α → Bool) (f : α → Int) : ∀ l : List α, (∀ x ∈ l, p x = false → f x = 0) → ((l.filter p).map f).sum = (l.map f).sum
  | [], _ => rfl
  | x :: l, h => by
    have ih := sum_filt p f l fun y hy => h y (List.mem_cons_of_mem _ hy)
    cases q : p x with
    | true => rw [List.filter_cons_of_pos q]; simp only [List.map_cons, List.sum_cons]; omega
    | false =>
      rw [List.filter_cons_of_neg (by rw [q]; decide)]
      have := h x List.mem_cons_self q
      simp only [List.map_cons, List.sum_cons]; omega
theorem sum_perm {l m : List Int} (h : l.Perm m) : l.sum = m.sum := by
  induction h with
  | nil => rfl
  | cons x _ ih => simp only [List.sum_cons, ih]
  | swap x y l => simp only [List.sum_cons]; omega
  | trans _ _ h1 h2 => exact h1.trans h2
theorem sum_six {V : List Int} (nd : V.Nodup) (hb : ∀ v ∈ V, 0 ≤ v ∧ v < 6) (f : Int → Int) (h0 : ∀ v, v ∉ V → f v = 0) : (V.map f).sum = (((List.range 6).map fun (i : Nat) => (i : Int)).map f).sum := by
  rw [← sum_filt (fun v => decide (v ∈ V)) f ((List.range 6).map fun (i : Nat) => (i : Int)) fun x _ q => h0 x (of_decide_eq_false q)]
  refine sum_perm (List.Perm.map f ?_)
  refine (List.perm_ext_iff_of_nodup nd (List.Nodup.sublist List.filter_sublist (by decide))).mpr fun v => ?_
  rw [List.mem_filter, decide_eq_true_eq, List.mem_map]
  constructor
  · intro hv
    have := hb v hv
    exact ⟨⟨v.toNat, List.mem_range.mpr (by omega), by omega⟩, hv⟩
  · exact fun q => q.2
def cntv (ss : List (List Int)) (v : Int) : Nat := (ss.filter fun s => decide (v ∈ s)).length
theorem range_getD (ss : List (List Int)) : (List.range ss.length).map (fun i => ss.getD i []) = ss := by
  refine List.ext_getElem (by simp) fun i h1 h2 => ?_
  simp [List.getD_eq_getElem?_getD, List.getElem?_eq_getElem h2]
theorem having_len {ss : List (List Int)} {es : List (Int × Int)} {v : Int} : (having ⟨2, ss, es⟩ v).length = cntv ss v := by
  unfold having cntv
  rw [List.length_map]
  conv => rhs; rw [← range_getD ss]
  rw [List.filter_map, List.length_map]
  rfl
def dv (ss : List (List Int)) (v : Int) : Int := if (cntv ss v : Int) - 1 > 0 then (cntv ss v : Int) - 1 else 0
def dueL (ss : List (List Int)) : Int := (((List.range 6).map fun (i : Nat) => (i : Int)).map (dv ss)).sum
theorem due_eq {ss : List (List Int)} (ok : OkS ss) : dueI ss = dueL ss := by
  have nd : (allV ⟨2, ss, []⟩).Nodup := (dedI_asc ss.flatten).imp fun {a b} q => by omega
  have hb : ∀ v ∈ allV ⟨2, ss, []⟩, 0 ≤ v ∧ v < 6 := fun v hv => by
    obtain ⟨s, hs, hvs⟩ := mem_allV.mp hv
    have := (ok.s s hs).2.2 v hvs
    omega
  unfold dueI dueL
  rw [← sum_six nd hb (dv ss) fun v hv => ?_]
  · congr 1
    refine List.map_congr_left fun v hv => ?_
    rw [having_len]
    have h1 : 1 ≤ cntv ss v := by
      rw [← having_len (es := [])]
      cases q : having ⟨2, ss, []⟩ v with
      | nil => exact absurd q (having_ne hv)
      | cons => simp
    unfold dv
    split <;> omega
  · have : cntv ss v = 0 := by
      unfold cntv
      rw [List.length_eq_zero_iff, List.filter_eq_nil_iff]
      intro s hs
      rw [decide_eq_true_eq]
      exact fun h => hv (mem_allV.mpr ⟨s, hs, h⟩)
    unfold dv
    rw [this]
    simp
/-- the two counts, of a tree -/
theorem tree_counts {ss : List (List Int)} (ok : OkS ss) (h4 : ss.length ≤ 4) {es : List (Int × Int)} (hes : es ∈ treesC ss) : numI ss es ≤ dueI ss ∧ (junc ⟨2, ss, es⟩ = decide (numI ss es = dueI ss)) := by
  obtain ⟨hr, hh⟩ := List.mem_filter.mp hes
  have hsub := (mem_rowsC ⟨ok.n.1, h4⟩).mp hr
  have okg := okG ok hsub.1
  have c := List.all_eq_true.mp (chkJ_of ⟨ok.n.1, h4⟩) es (rowsC_sub ⟨ok.n.1, h4⟩ hr)
  rw [Bool.and_eq_true] at c
  have c1 := eq_of_beq c.1
  have hlen : decide (es.length + 1 = ss.length) = true := decide_eq_true hsub.2
  rw [hlen, hh, Bool.and_true, Bool.and_eq_true] at c1
  have ac : cyc? ⟨2, ss, es⟩ = none := Option.isNone_iff_eq_none.mp c1.1
  obtain ⟨_, k2, k3⟩ := counts okg (cyc_none.mp ac)
  have hd : dueI ss = (inS ⟨2, ss, es⟩ : Int) - (allV ⟨2, ss, es⟩).length := by
    have e1 := inS_eq okg
    have e2 := castSum (fun v => (having ⟨2, ss, es⟩ v).length) (allV ⟨2, ss, es⟩)
    rw [← e1] at e2
    rw [← e2]
    have : ∀ l : List Int, (l.map fun v => ((having ⟨2, ss, []⟩ v).length : Int) - 1).sum = (l.map fun v => (((having ⟨2, ss, es⟩ v).length : Nat) : Int)).sum - l.length := fun l => by
      induction l with
      | nil => rfl
      | cons x l ih =>
        simp only [List.map_cons, List.sum_cons, List.length_cons, ih]
        rw [having_len, having_len (es := es)]
        omega
    exact this _
  have hn : numI ss es = (inE ⟨2, ss, es⟩ : Int) := rfl
  refine ⟨by rw [hd, hn]; omega, ?_⟩
  rw [Bool.eq_iff_iff, decide_eq_true_eq, k3, hd, hn]
  constructor
  · rintro ⟨_, h⟩; omega
  · intro h; exact ⟨hsub.2, by omega⟩
end Tk54

namespace Tk54
open PySem L2 Pu Pth Rmv Dat
theorem trees_ne {n : Nat} (h : 1 ≤ n ∧ n ≤ 4) : ((rowsC n).filter fun es => hangL (nodes n) es) ≠ [] :=
  in4 (p := fun n => ((rowsC n).filter fun es => hangL (nodes n) es) ≠ []) h (by decide +kernel) (by decide +kernel) (by decide +kernel) (by decide +kernel)
theorem most_some {l : List Int} (h : l ≠ []) : ∃ m, mostI l = some m := by
  cases l with
  | nil => exact absurd rfl h
  | cons x r => exact ⟨_, rfl⟩
def depth : Nat := 60
theorem hrun : ∀ ns : List Int, ns.length ≤ 63 → ∃ S', runF fs depth 40 [.fr (ns.map D.int)] [] = .ok (.bl true) S' := fun ns hns => by
  suffices h : ∃ σ', pvSs (pvF gs fs (58 + 1)) (f40.body.drop 1) ([some (.v (.fr (ns.map D.int))), some .s] ++ List.replicate 9 none) (strm0 ns hns) = .ok (.rt (.v (.bl true))) σ' by
    obtain ⟨σ', h⟩ := h
    exact law_run (gs := gs) (k := 58) (n := 9) (rest := f40.body.drop 1) (fs := 30) gsOk rfl rfl ns hns σ' h
  obtain ⟨ss, σ1, h15, hn, hs⟩ := l15 57 4 4 (by omega) (by omega) (strm0 ns hns)
  have h4 : ss.length ≤ 4 := hn.2
  have ok : OkS ss := ⟨⟨hn.1, by omega⟩, fun s h => ⟨(hs s h).a, (hs s h).l, fun x hx => by have := (hs s h).b x hx; omega⟩⟩
  obtain ⟨m, hm⟩ : ∃ m, mostI ((treesC ss).map (numI ss)) = some m := most_some (by
    intro q
    exact trees_ne ⟨hn.1, h4⟩ (List.map_eq_nil_iff.mp q))
  have g38 := l20x 57 ss.length ⟨hn.1, h4⟩
  have g37 := fun {es : List (Int × Int)} {ed : D} => l18 57 (ss := ss) ok.n.2 (es := es) (ed := ed)
  have g23 := q23d 54 ok
  have g22 := fun {es : List (Int × Int)} (h : es.Sublist (prs ss.length)) => q22 53 ok h
  have g21 := fun {es : List (Int × Int)} (h : es.Sublist (prs ss.length)) => q20 53 ok h
  have g24 := q24m 53 ok h4 hm
  have g39 := fun {es : List (Int × Int)} (h : es.Sublist (prs ss.length)) => q39 58 h
  have g33 := fun (i : Int) => l14 57 0 (.int i) (.int i)
  have g35 := l16 58 ss.length ok.n.2
  have g31 := nextF 58
  generalize pvF gs fs (58 + 1) = F at h15 g38 g37 g23 g22 g21 g24 g39 g33 g35 g31
  have hR : ∀ es ∈ rowsC ss.length, es.Sublist (prs ss.length) := fun es hes => ((mem_rowsC ⟨hn.1, h4⟩).mp hes).1
  let A : Option W → Option W → Option W → Env2 := fun d v o => [some (.v (.fr (ns.map D.int))), some .s, some (.v (.tup (ss.map encS))), d, v, none, o, none, none, none, none]
  -- the due number
  let part : Nat → Int := fun j => (((List.range j).map fun (i : Nat) => (i : Int)).map (dv ss)).sum
  obtain ⟨ρ1, σ2, ⟨hσ, z1, rfl⟩, hl1⟩ := for_all (body := pvSs F [(.set 3 (.cat false (.var 3) (.blt .max2 [(.cst (.int 0)), (.bin .Sub (.blt .len [(.lc false (.var 5) (.nm 5) (.seq (.var 2)) [(.bv (.cmp .In (.var 4) (.var 5)))] [5])]) (.cst (.int 1)))])))]) (tg := .nm 4) (g := none) (e := fun (k : Nat) => D.int (0 + (k : Int))) (P := fun ds ρ τ => τ = σ1 ∧ ∃ z, ρ = A (some (.v (.int (part ds.length)))) z none) (xs := List.range 6) (ds := []) (ρ := A (some (.v (.int 0))) none none) (σ := σ1) (by
    rintro ds j r ρ τ hx ⟨rfl, z, rfl⟩
    have hj : j = ds.length := (range_at hx).1
    subst hj
    have hp : part (ds.length + 1) = part ds.length + dv ss (ds.length : Int) := by
      show (((List.range (ds.length + 1)).map _).map _).sum = _
      rw [List.range_succ]
      simp only [List.map_append, List.map_cons, List.map_nil, List.sum_append, List.sum_cons, List.sum_nil]
      show part ds.length + (dv ss (ds.length : Int) + 0) = _
      omega
    refine ⟨A (some (.v (.int (part ds.length)))) (some (.v (.int (ds.length : Int)))) none, by rw [show (0 : Int) + (ds.length : Int) = (ds.length : Int) by omega]; rfl, A (some (.v (.int (part (ds.length + 1))))) (some (.v (.int (ds.length : Int)))) none, τ, ?_, rfl, rfl, _, by rw [List.length_append]; rfl⟩
    refine ss_set (w := .v (.int (part (ds.length + 1)))) rfl (e_cat (e_var rfl) (e_blt (es_cons e_cst (es_cons (e_bin (e_blt (es_cons (e_lcF (i_seq (e_var rfl) rfl rfl) (lc_pure (e := encS) (p := fun s => decide ((ds.length : Int) ∈ s)) (f := encS) (xs := ss) fun s hs => ⟨_, rfl, ts_one (t_bv (e_cmp (e_var rfl) (e_var rfl) p_in)), fun _ => e_var rfl⟩)) es_nil) p_lenL) e_cst p_sub) es_nil)) p_max2) ?_) rfl ss_nil
    rw [hp]; rfl) ⟨rfl, none, rfl⟩
  subst hσ
  have hdue : part (List.range 6).length = dueI ss := by
    rw [due_eq ok, List.length_range]; rfl
  rw [hdue] at hl1
  -- each tree
  let B : List (List (Int × Int)) → Option W → Option W → Env2 := fun ds a b => [some (.v (.fr (ns.map D.int))), some .s, some (.v (.tup (ss.map encS))), some (.v (.int (dueI ss))), z1, none, some (.o (((ds.filter fun es => hangL (nodes ss.length) es).map (numI ss)).map D.int)), a, b, none, none]
  obtain ⟨ρ2, σ3, ⟨hσ, a2, b2, rfl⟩, hl2⟩ := for_all (body := pvSs F [(.ife (.val (.call 37 [(.var 2), (.var 7)])) [(.set 8 (.call 39 [(.var 2), (.var 7)])), (.expr (.mth .append (.var 6) [(.var 8)])), (.ife (.or (.not (.val (.call 33 [(.call 22 [(.var 2), (.var 7)]), (.var 8)]))) (.or (.bv (.cmp .Gt (.var 8) (.var 3))) (.bv (.cmp .NotEq (.call 21 [(.var 2), (.var 7)]) (.cmp .Eq (.var 8) (.var 3)))))) [(.ret (.cst (.bl false)))] [])] [])]) (tg := .nm 7) (g := none) (e := encR) (P := fun ds ρ τ => τ = σ2 ∧ ∃ a b, ρ = B ds a b) (xs := rowsC ss.length) (ds := []) (ρ := B [] none none) (σ := σ2) (by
    rintro ds es r ρ τ hx ⟨rfl, a, b, rfl⟩
    have hes : es ∈ rowsC ss.length := by rw [hx]; simp
    have hlen : (es.length + 1 = ss.length) := ((mem_rowsC ⟨hn.1, h4⟩).mp hes).2
    have t37 : pvT F (.val (.call 37 [(.var 2), (.var 7)])) (B ds (some (.v (encR es))) b) τ = .ok (hangL (nodes ss.length) es) τ := by
      have q := g37 (es := es) (ed := encR es) rfl (fun σ => p_lenT) τ
      rw [decide_eq_true hlen, Bool.true_and] at q
      exact t_val (e_call (es_cons (e_var rfl) (es_cons (e_var rfl) es_nil)) q) rfl
    by_cases hh : hangL (nodes ss.length) es = true
    · have htr : es ∈ treesC ss := List.mem_filter.mpr ⟨hes, hh⟩
      obtain ⟨c1, c2⟩ := tree_counts ok h4 htr
      refine ⟨B ds (some (.v (encR es))) b, rfl, B (ds ++ [es]) (some (.v (encR es))) (some (.v (.int (numI ss es)))), τ, ?_, rfl, rfl, _, _, rfl⟩
      rw [hh] at t37
      have hl : (((ds.filter fun es => hangL (nodes ss.length) es).map (numI ss)).map D.int).length < line := by
        have h1 : (rowsC ss.length).length ≤ 1000 := in4 (p := fun n => (rowsC n).length ≤ 1000) ⟨hn.1, h4⟩ (by decide +kernel) (by decide +kernel) (by decide +kernel) (by decide +kernel)
        have h2 : ds.length ≤ (rowsC ss.length).length := by rw [hx]; simp
        have h3 := List.length_filter_le (fun es => hangL (nodes ss.length) es) ds
        rw [List.length_map, List.length_map, line_val]; omega
      have hB : B (ds ++ [es]) (some (.v (encR es))) (some (.v (.int (numI ss es)))) = (B ds (some (.v (encR es))) (some (.v (.int (numI ss es))))).set 6 (some (.o (((ds.filter fun es => hangL (nodes ss.length) es).map (numI ss)).map D.int ++ [D.int (numI ss es)]))) := by
        simp only [B, List.filter_append, List.filter_cons_of_pos hh, List.filter_nil, List.map_append, List.map_cons, List.map_nil, List.set_cons_succ, List.set_cons_zero]
      have e33 : ∀ ρ : Env2, ρ[2]? = some (some (.v (.tup (ss.map encS)))) → ρ[7]? = some (some (.v (encR es))) → ρ[8]? = some (some (.v (.int (numI ss es)))) → pvE F (.call 33 [(.call 22 [(.var 2), (.var 7)]), (.var 8)]) ρ τ = .ok (.v (.bl true)) τ := fun ρ h1 h2 h3 => e_call (es_cons (e_call (es_cons (e_var h1) (es_cons (e_var h2) es_nil)) (g22 (hR es hes) τ)) (es_cons (e_var h3) es_nil)) (g33 _ τ)
      refine ss_nx (s_ifT t37 (ss_set (w := .v (.int (numI ss es))) rfl (e_call (es_cons (e_var rfl) (es_cons (e_var rfl) es_nil)) (g39 (hR es hes) τ)) rfl (ss_nx (s_app (d := D.int (numI ss es)) rfl (e_var rfl) hl) (ss_skip ?_ ss_nil)))) ?_
      · refine t_or (p := false) (q := false) (t_not (p := true) (t_val (e33 _ rfl rfl rfl) rfl)) fun _ => t_or (p := false) (q := false) (t_bv (e_cmp (e_var rfl) (e_var rfl) ?_)) fun _ => t_bv (e_cmp (e_call (es_cons (e_var rfl) (es_cons (e_var rfl) es_nil)) (g21 (hR es hes) τ)) (e_cmp (x := .v (.int (numI ss es))) (y := .v (.int (dueI ss))) (w := .v (.bl (decide (numI ss es = dueI ss)))) (e_var rfl) (e_var rfl) rfl) ?_)
        · show lift (mret (.bl (decide (dueI ss < numI ss es)))) τ = _
          rw [decide_eq_false (by omega)]; rfl
        · rw [c2, neB]; simp
      · rw [hB]; exact ss_nil
    · have hh : hangL (nodes ss.length) es = false := by simpa using hh
      refine ⟨B ds (some (.v (encR es))) b, rfl, B (ds ++ [es]) (some (.v (encR es))) b, τ, ?_, rfl, rfl, _, _, rfl⟩
      rw [hh] at t37
      have hB : B (ds ++ [es]) (some (.v (encR es))) b = B ds (some (.v (encR es))) b := by
        simp only [B, List.filter_append, List.filter_cons_of_neg (show ¬ hangL (nodes ss.length) es = true by rw [hh]; decide), List.filter_nil, List.append_nil]
      rw [hB]
      exact ss_skip t37 ss_nil) ⟨rfl, none, none, rfl⟩
  subst hσ
  -- some drawn pairs
  obtain ⟨ys, σ4, hc, hsb⟩ := lc_some (elt := pvE F (.var 10)) (ifs := pvTs F [(.bv (.cmp .Eq (.call 31 [(.var 1), (.cst (.int 2))]) (.cst (.int 1))))]) (tg := .nm 10) (ρ := B (rowsC ss.length) a2 b2) (e := encP) (f := encP) (xs := prs ss.length) (σ := σ3) (by
    intro p hp σ
    obtain ⟨d, σ5, q1, q2⟩ := next_drew (m := 2) (by omega) σ
    refine ⟨(B (rowsC ss.length) a2 b2).set 10 (some (.v (encP p))), rfl, decide (d = 1), σ5, ts_one (t_bv (e_cmp (e_call (es_cons (e_vs rfl) (es_cons e_cst es_nil)) (by rw [g31]; exact q1)) e_cst rfl)), fun _ => e_var rfl⟩)
  refine ⟨σ4, ?_⟩
  refine ss_set (w := .v (.tup (ss.map encS))) rfl (e_call (es_cons (e_vs rfl) (es_cons e_cst (es_cons e_cst es_nil))) h15) rfl ?_
  refine ss_set (w := .v (.int 0)) rfl e_cst rfl ?_
  refine ss_nx (s_for (items := (List.range 6).map fun (k : Nat) => D.int (0 + (k : Int))) (σ1 := σ3) rfl (i_rng (n := 6) e_cst (by omega)) hl1) ?_
  refine ss_skip (t_not (p := true) (t_val (e_call (es_cons (e_call (es_cons (e_var rfl) es_nil) (g23 σ3)) (es_cons (e_var rfl) es_nil)) (g33 _ σ3)) rfl)) ?_
  refine ss_set (w := .o []) rfl (e_lst es_nil rfl) rfl ?_
  refine ss_nx (s_for rfl (is_seq rfl (e_call (es_cons (e_blt (es_cons (e_var rfl) es_nil) p_lenT) es_nil) (g38 σ3)) rfl rfl) hl2) ?_
  refine ss_set (w := .v (encR ys)) rfl (e_blt (es_cons (e_lcF (i_seq (e_call (es_cons (e_blt (es_cons (e_var rfl) es_nil) p_lenT) es_nil) (g35 σ3)) rfl rfl) hc) es_nil) p_tupL) rfl ?_
  refine ss_skip (t_not (p := true) (t_val (e_call (es_cons (e_call (es_cons (e_var rfl) (es_cons (e_var rfl) es_nil)) (g22 hsb σ4)) (es_cons (e_call (es_cons (e_var rfl) (es_cons (e_var rfl) es_nil)) (g39 hsb σ4)) es_nil)) (g33 _ σ4)) rfl)) ?_
  exact ss_ret rfl (e_call (es_cons (e_call (es_cons (e_var rfl) es_nil) (g24 σ4)) (es_cons (e_blt (es_cons (e_vo rfl) es_nil) (p_maxB hm)) es_nil)) (g33 _ σ4)) rfl
end Tk54

namespace Tk54
open PySem PySem.Spec PyProof.Rows L2 Pu
theorem head_mk {K : PySem.W.Frag} {h : Heap} {mg : Str → Option Value} {p0 p1 p2 p3 p4 p5 p6 p7 p8 p9 p10 p11 p12 p13 p14 p15 p16 p17 p18 p19 p20 p21 p22 p23 p24 p25 p26 p27 p28 p29 p30 p31 p32 p33 p34 p35 p36 p37 p38 p39 p40 : Addr} {od0 an0 od1 an1 od2 an2 od3 an3 od4 an4 od5 an5 od6 an6 od7 an7 od8 an8 od9 an9 od10 an10 od11 an11 od12 an12 od13 an13 od14 an14 od15 an15 od16 an16 od17 an17 od18 an18 od19 an19 od20 an20 od21 an21 od22 an22 od23 an23 od24 an24 od25 an25 od26 an26 od27 an27 od28 an28 od29 an29 od30 an30 od31 an31 od32 an32 od33 an33 od34 an34 od35 an35 od36 an36 od37 an37 od38 an38 od39 an39 od40 an40 : Option Addr} {sl0 sl1 sl2 sl3 sl4 sl5 sl6 sl7 sl8 sl9 sl10 sl11 sl12 sl13 sl14 sl15 sl16 sl17 sl18 sl19 sl20 sl21 sl22 sl23 sl24 sl25 sl26 sl27 sl28 sl29 sl30 sl31 sl32 sl33 sl34 sl35 sl36 sl37 sl38 sl39 sl40 : Array (Option Value)} {oc0 kv0 dc0 pm0 cd0 ct0 oc1 kv1 dc1 pm1 cd1 ct1 oc2 kv2 dc2 pm2 cd2 ct2 oc3 kv3 dc3 pm3 cd3 ct3 oc4 kv4 dc4 pm4 cd4 ct4 oc5 kv5 dc5 pm5 cd5 ct5 oc6 kv6 dc6 pm6 cd6 ct6 oc7 kv7 dc7 pm7 cd7 ct7 oc8 kv8 dc8 pm8 cd8 ct8 oc9 kv9 dc9 pm9 cd9 ct9 oc10 kv10 dc10 pm10 cd10 ct10 oc11 kv11 dc11 pm11 cd11 ct11 oc12 kv12 dc12 pm12 cd12 ct12 oc13 kv13 dc13 pm13 cd13 ct13 oc14 kv14 dc14 pm14 cd14 ct14 oc15 kv15 dc15 pm15 cd15 ct15 oc16 kv16 dc16 pm16 cd16 ct16 oc17 kv17 dc17 pm17 cd17 ct17 oc18 kv18 dc18 pm18 cd18 ct18 oc19 kv19 dc19 pm19 cd19 ct19 oc20 kv20 dc20 pm20 cd20 ct20 oc21 kv21 dc21 pm21 cd21 ct21 oc22 kv22 dc22 pm22 cd22 ct22 oc23 kv23 dc23 pm23 cd23 ct23 oc24 kv24 dc24 pm24 cd24 ct24 oc25 kv25 dc25 pm25 cd25 ct25 oc26 kv26 dc26 pm26 cd26 ct26 oc27 kv27 dc27 pm27 cd27 ct27 oc28 kv28 dc28 pm28 cd28 ct28 oc29 kv29 dc29 pm29 cd29 ct29 oc30 kv30 dc30 pm30 cd30 ct30 oc31 kv31 dc31 pm31 cd31 ct31 oc32 kv32 dc32 pm32 cd32 ct32 oc33 kv33 dc33 pm33 cd33 ct33 oc34 kv34 dc34 pm34 cd34 ct34 oc35 kv35 dc35 pm35 cd35 ct35 oc36 kv36 dc36 pm36 cd36 ct36 oc37 kv37 dc37 pm37 cd37 ct37 oc38 kv38 dc38 pm38 cd38 ct38 oc39 kv39 dc39 pm39 cd39 ct39 oc40 kv40 dc40 pm40 cd40 ct40 : Value} (X : K.In h) (Gm : h.Ns mainGlobals mg)
    (a0 : PySem.W.nsIn K mainGlobals "require" = some (some (.ref p0))) (l0 : K.lookup p0 = some ⟨oc0, od0, .func (PySem.W.fnOf "require" "require" (defArgs (topS 5)) (defBody (topS 5)) (defScope (topS 5)) .none kv0 dc0 pm0 an0 cd0 ct0), sl0⟩) (c0 : PySem.W.codeIn K cd0 "require" = true) (k0 : PySem.W.keepIn K (.ref p0) = true)
    (a1 : PySem.W.nsIn K mainGlobals "is_integer" = some (some (.ref p1))) (l1 : K.lookup p1 = some ⟨oc1, od1, .func (PySem.W.fnOf "is_integer" "is_integer" (defArgs (topS 6)) (defBody (topS 6)) (defScope (topS 6)) .none kv1 dc1 pm1 an1 cd1 ct1), sl1⟩) (c1 : PySem.W.codeIn K cd1 "is_integer" = true) (k1 : PySem.W.keepIn K (.ref p1) = true)
    (a2 : PySem.W.nsIn K mainGlobals "is_tuple" = some (some (.ref p2))) (l2 : K.lookup p2 = some ⟨oc2, od2, .func (PySem.W.fnOf "is_tuple" "is_tuple" (defArgs (topS 7)) (defBody (topS 7)) (defScope (topS 7)) .none kv2 dc2 pm2 an2 cd2 ct2), sl2⟩) (c2 : PySem.W.codeIn K cd2 "is_tuple" = true) (k2 : PySem.W.keepIn K (.ref p2) = true)
    (a3 : PySem.W.nsIn K mainGlobals "is_ascending" = some (some (.ref p3))) (l3 : K.lookup p3 = some ⟨oc3, od3, .func (PySem.W.fnOf "is_ascending" "is_ascending" (defArgs (topS 8)) (defBody (topS 8)) (defScope (topS 8)) .none kv3 dc3 pm3 an3 cd3 ct3), sl3⟩) (c3 : PySem.W.codeIn K cd3 "is_ascending" = true) (k3 : PySem.W.keepIn K (.ref p3) = true)
    (a4 : PySem.W.nsIn K mainGlobals "is_some" = some (some (.ref p4))) (l4 : K.lookup p4 = some ⟨oc4, od4, .func (PySem.W.fnOf "is_some" "is_some" (defArgs (topS 13)) (defBody (topS 13)) (defScope (topS 13)) .none kv4 dc4 pm4 an4 cd4 ct4), sl4⟩) (c4 : PySem.W.codeIn K cd4 "is_some" = true) (k4 : PySem.W.keepIn K (.ref p4) = true)
    (a5 : PySem.W.nsIn K mainGlobals "is_scope" = some (some (.ref p5))) (l5 : K.lookup p5 = some ⟨oc5, od5, .func (PySem.W.fnOf "is_scope" "is_scope" (defArgs (topS 14)) (defBody (topS 14)) (defScope (topS 14)) .none kv5 dc5 pm5 an5 cd5 ct5), sl5⟩) (c5 : PySem.W.codeIn K cd5 "is_scope" = true) (k5 : PySem.W.keepIn K (.ref p5) = true)
    (a6 : PySem.W.nsIn K mainGlobals "are_scopes" = some (some (.ref p6))) (l6 : K.lookup p6 = some ⟨oc6, od6, .func (PySem.W.fnOf "are_scopes" "are_scopes" (defArgs (topS 17)) (defBody (topS 17)) (defScope (topS 17)) .none kv6 dc6 pm6 an6 cd6 ct6), sl6⟩) (c6 : PySem.W.codeIn K cd6 "are_scopes" = true) (k6 : PySem.W.keepIn K (.ref p6) = true)
    (a7 : PySem.W.nsIn K mainGlobals "is_edge" = some (some (.ref p7))) (l7 : K.lookup p7 = some ⟨oc7, od7, .func (PySem.W.fnOf "is_edge" "is_edge" (defArgs (topS 18)) (defBody (topS 18)) (defScope (topS 18)) .none kv7 dc7 pm7 an7 cd7 ct7), sl7⟩) (c7 : PySem.W.codeIn K cd7 "is_edge" = true) (k7 : PySem.W.keepIn K (.ref p7) = true)
    (a8 : PySem.W.nsIn K mainGlobals "are_edges" = some (some (.ref p8))) (l8 : K.lookup p8 = some ⟨oc8, od8, .func (PySem.W.fnOf "are_edges" "are_edges" (defArgs (topS 19)) (defBody (topS 19)) (defScope (topS 19)) .none kv8 dc8 pm8 an8 cd8 ct8), sl8⟩) (c8 : PySem.W.codeIn K cd8 "are_edges" = true) (k8 : PySem.W.keepIn K (.ref p8) = true)
    (a9 : PySem.W.nsIn K mainGlobals "all_variables" = some (some (.ref p9))) (l9 : K.lookup p9 = some ⟨oc9, od9, .func (PySem.W.fnOf "all_variables" "all_variables" (defArgs (topS 20)) (defBody (topS 20)) (defScope (topS 20)) .none kv9 dc9 pm9 an9 cd9 ct9), sl9⟩) (c9 : PySem.W.codeIn K cd9 "all_variables" = true) (k9 : PySem.W.keepIn K (.ref p9) = true)
    (a10 : PySem.W.nsIn K mainGlobals "is_join_tree" = some (some (.ref p10))) (l10 : K.lookup p10 = some ⟨oc10, od10, .func (PySem.W.fnOf "is_join_tree" "is_join_tree" (defArgs (topS 22)) (defBody (topS 22)) (defScope (topS 22)) .none kv10 dc10 pm10 an10 cd10 ct10), sl10⟩) (c10 : PySem.W.codeIn K cd10 "is_join_tree" = true) (k10 : PySem.W.keepIn K (.ref p10) = true)
    (a11 : PySem.W.nsIn K mainGlobals "all_nodes" = some (some (.ref p11))) (l11 : K.lookup p11 = some ⟨oc11, od11, .func (PySem.W.fnOf "all_nodes" "all_nodes" (defArgs (topS 23)) (defBody (topS 23)) (defScope (topS 23)) .none kv11 dc11 pm11 an11 cd11 ct11), sl11⟩) (c11 : PySem.W.codeIn K cd11 "all_nodes" = true) (k11 : PySem.W.keepIn K (.ref p11) = true)
    (a12 : PySem.W.nsIn K mainGlobals "nodes_with" = some (some (.ref p12))) (l12 : K.lookup p12 = some ⟨oc12, od12, .func (PySem.W.fnOf "nodes_with" "nodes_with" (defArgs (topS 24)) (defBody (topS 24)) (defScope (topS 24)) .none kv12 dc12 pm12 an12 cd12 ct12), sl12⟩) (c12 : PySem.W.codeIn K cd12 "nodes_with" = true) (k12 : PySem.W.keepIn K (.ref p12) = true)
    (a13 : PySem.W.nsIn K mainGlobals "are_neighbours" = some (some (.ref p13))) (l13 : K.lookup p13 = some ⟨oc13, od13, .func (PySem.W.fnOf "are_neighbours" "are_neighbours" (defArgs (topS 25)) (defBody (topS 25)) (defScope (topS 25)) .none kv13 dc13 pm13 an13 cd13 ct13), sl13⟩) (c13 : PySem.W.codeIn K cd13 "are_neighbours" = true) (k13 : PySem.W.keepIn K (.ref p13) = true)
    (a14 : PySem.W.nsIn K mainGlobals "neighbours" = some (some (.ref p14))) (l14 : K.lookup p14 = some ⟨oc14, od14, .func (PySem.W.fnOf "neighbours" "neighbours" (defArgs (topS 26)) (defBody (topS 26)) (defScope (topS 26)) .none kv14 dc14 pm14 an14 cd14 ct14), sl14⟩) (c14 : PySem.W.codeIn K cd14 "neighbours" = true) (k14 : PySem.W.keepIn K (.ref p14) = true)
    (a15 : PySem.W.nsIn K mainGlobals "shared" = some (some (.ref p15))) (l15 : K.lookup p15 = some ⟨oc15, od15, .func (PySem.W.fnOf "shared" "shared" (defArgs (topS 27)) (defBody (topS 27)) (defScope (topS 27)) .none kv15 dc15 pm15 an15 cd15 ct15), sl15⟩) (c15 : PySem.W.codeIn K cd15 "shared" = true) (k15 : PySem.W.keepIn K (.ref p15) = true)
    (a16 : PySem.W.nsIn K mainGlobals "ways" = some (some (.ref p16))) (l16 : K.lookup p16 = some ⟨oc16, od16, .func (PySem.W.fnOf "ways" "ways" (defArgs (topS 28)) (defBody (topS 28)) (defScope (topS 28)) .none kv16 dc16 pm16 an16 cd16 ct16), sl16⟩) (c16 : PySem.W.codeIn K cd16 "ways" = true) (k16 : PySem.W.keepIn K (.ref p16) = true)
    (a17 : PySem.W.nsIn K mainGlobals "first_cycle" = some (some (.ref p17))) (l17 : K.lookup p17 = some ⟨oc17, od17, .func (PySem.W.fnOf "first_cycle" "first_cycle" (defArgs (topS 29)) (defBody (topS 29)) (defScope (topS 29)) .none kv17 dc17 pm17 an17 cd17 ct17), sl17⟩) (c17 : PySem.W.codeIn K cd17 "first_cycle" = true) (k17 : PySem.W.keepIn K (.ref p17) = true)
    (a18 : PySem.W.nsIn K mainGlobals "hanging" = some (some (.ref p18))) (l18 : K.lookup p18 = some ⟨oc18, od18, .func (PySem.W.fnOf "hanging" "hanging" (defArgs (topS 30)) (defBody (topS 30)) (defScope (topS 30)) .none kv18 dc18 pm18 an18 cd18 ct18), sl18⟩) (c18 : PySem.W.codeIn K cd18 "hanging" = true) (k18 : PySem.W.keepIn K (.ref p18) = true)
    (a19 : PySem.W.nsIn K mainGlobals "is_near" = some (some (.ref p19))) (l19 : K.lookup p19 = some ⟨oc19, od19, .func (PySem.W.fnOf "is_near" "is_near" (defArgs (topS 31)) (defBody (topS 31)) (defScope (topS 31)) .none kv19 dc19 pm19 an19 cd19 ct19), sl19⟩) (c19 : PySem.W.codeIn K cd19 "is_near" = true) (k19 : PySem.W.keepIn K (.ref p19) = true)
    (a20 : PySem.W.nsIn K mainGlobals "hang_together" = some (some (.ref p20))) (l20 : K.lookup p20 = some ⟨oc20, od20, .func (PySem.W.fnOf "hang_together" "hang_together" (defArgs (topS 32)) (defBody (topS 32)) (defScope (topS 32)) .none kv20 dc20 pm20 an20 cd20 ct20), sl20⟩) (c20 : PySem.W.codeIn K cd20 "hang_together" = true) (k20 : PySem.W.keepIn K (.ref p20) = true)
    (a21 : PySem.W.nsIn K mainGlobals "makes_tree" = some (some (.ref p21))) (l21 : K.lookup p21 = some ⟨oc21, od21, .func (PySem.W.fnOf "makes_tree" "makes_tree" (defArgs (topS 34)) (defBody (topS 34)) (defScope (topS 34)) .none kv21 dc21 pm21 an21 cd21 ct21), sl21⟩) (c21 : PySem.W.codeIn K cd21 "makes_tree" = true) (k21 : PySem.W.keepIn K (.ref p21) = true)
    (a22 : PySem.W.nsIn K mainGlobals "shared_number" = some (some (.ref p22))) (l22 : K.lookup p22 = some ⟨oc22, od22, .func (PySem.W.fnOf "shared_number" "shared_number" (defArgs (topS 35)) (defBody (topS 35)) (defScope (topS 35)) .none kv22 dc22 pm22 an22 cd22 ct22), sl22⟩) (c22 : PySem.W.codeIn K cd22 "shared_number" = true) (k22 : PySem.W.keepIn K (.ref p22) = true)
    (a23 : PySem.W.nsIn K mainGlobals "due_number" = some (some (.ref p23))) (l23 : K.lookup p23 = some ⟨oc23, od23, .func (PySem.W.fnOf "due_number" "due_number" (defArgs (topS 36)) (defBody (topS 36)) (defScope (topS 36)) .none kv23 dc23 pm23 an23 cd23 ct23), sl23⟩) (c23 : PySem.W.codeIn K cd23 "due_number" = true) (k23 : PySem.W.keepIn K (.ref p23) = true)
    (a24 : PySem.W.nsIn K mainGlobals "most_shared" = some (some (.ref p24))) (l24 : K.lookup p24 = some ⟨oc24, od24, .func (PySem.W.fnOf "most_shared" "most_shared" (defArgs (topS 37)) (defBody (topS 37)) (defScope (topS 37)) .none kv24 dc24 pm24 an24 cd24 ct24), sl24⟩) (c24 : PySem.W.codeIn K cd24 "most_shared" = true) (k24 : PySem.W.keepIn K (.ref p24) = true)
    (a25 : PySem.W.nsIn K mainGlobals "check_edges" = some (some (.ref p25))) (l25 : K.lookup p25 = some ⟨oc25, od25, .func (PySem.W.fnOf "check_edges" "check_edges" (defArgs (topS 38)) (defBody (topS 38)) (defScope (topS 38)) .none kv25 dc25 pm25 an25 cd25 ct25), sl25⟩) (c25 : PySem.W.codeIn K cd25 "check_edges" = true) (k25 : PySem.W.keepIn K (.ref p25) = true)
    (a26 : PySem.W.nsIn K mainGlobals "graph_of" = some (some (.ref p26))) (l26 : K.lookup p26 = some ⟨oc26, od26, .func (PySem.W.fnOf "graph_of" "graph_of" (defArgs (topS 39)) (defBody (topS 39)) (defScope (topS 39)) .none kv26 dc26 pm26 an26 cd26 ct26), sl26⟩) (c26 : PySem.W.codeIn K cd26 "graph_of" = true) (k26 : PySem.W.keepIn K (.ref p26) = true)
    (a27 : PySem.W.nsIn K mainGlobals "sets_of_edges" = some (some (.ref p27))) (l27 : K.lookup p27 = some ⟨oc27, od27, .func (PySem.W.fnOf "sets_of_edges" "sets_of_edges" (defArgs (topS 40)) (defBody (topS 40)) (defScope (topS 40)) .none kv27 dc27 pm27 an27 cd27 ct27), sl27⟩) (c27 : PySem.W.codeIn K cd27 "sets_of_edges" = true) (k27 : PySem.W.keepIn K (.ref p27) = true)
    (a28 : PySem.W.nsIn K mainGlobals "trees" = some (some (.ref p28))) (l28 : K.lookup p28 = some ⟨oc28, od28, .func (PySem.W.fnOf "trees" "trees" (defArgs (topS 41)) (defBody (topS 41)) (defScope (topS 41)) .none kv28 dc28 pm28 an28 cd28 ct28), sl28⟩) (c28 : PySem.W.codeIn K cd28 "trees" = true) (k28 : PySem.W.keepIn K (.ref p28) = true)
    (a29 : PySem.W.nsIn K mainGlobals "number_shared" = some (some (.ref p29))) (l29 : K.lookup p29 = some ⟨oc29, od29, .func (PySem.W.fnOf "number_shared" "number_shared" (defArgs (topS 42)) (defBody (topS 42)) (defScope (topS 42)) .none kv29 dc29 pm29 an29 cd29 ct29), sl29⟩) (c29 : PySem.W.codeIn K cd29 "number_shared" = true) (k29 : PySem.W.keepIn K (.ref p29) = true)
    (a30 : PySem.W.nsIn K mainGlobals "_law_stream" = some (some (.ref p30))) (l30 : K.lookup p30 = some ⟨oc30, od30, .func (PySem.W.fnOf "_law_stream" "_law_stream" (defArgs (topS 44)) (defBody (topS 44)) (defScope (topS 44)) .none kv30 dc30 pm30 an30 cd30 ct30), sl30⟩) (c30 : PySem.W.codeIn K cd30 "_law_stream" = true) (k30 : PySem.W.keepIn K (.ref p30) = true)
    (a31 : PySem.W.nsIn K mainGlobals "_law_next" = some (some (.ref p31))) (l31 : K.lookup p31 = some ⟨oc31, od31, .func (PySem.W.fnOf "_law_next" "_law_next" (defArgs (topS 45)) (defBody (topS 45)) (defScope (topS 45)) .none kv31 dc31 pm31 an31 cd31 ct31), sl31⟩) (c31 : PySem.W.codeIn K cd31 "_law_next" = true) (k31 : PySem.W.keepIn K (.ref p31) = true)
    (a32 : PySem.W.nsIn K mainGlobals "_law_is_integer" = some (some (.ref p32))) (l32 : K.lookup p32 = some ⟨oc32, od32, .func (PySem.W.fnOf "_law_is_integer" "_law_is_integer" (defArgs (topS 46)) (defBody (topS 46)) (defScope (topS 46)) .none kv32 dc32 pm32 an32 cd32 ct32), sl32⟩) (c32 : PySem.W.codeIn K cd32 "_law_is_integer" = true) (k32 : PySem.W.keepIn K (.ref p32) = true)
    (a33 : PySem.W.nsIn K mainGlobals "_law_equal" = some (some (.ref p33))) (l33 : K.lookup p33 = some ⟨oc33, od33, .func (PySem.W.fnOf "_law_equal" "_law_equal" (defArgs (topS 47)) (defBody (topS 47)) (defScope (topS 47)) .none kv33 dc33 pm33 an33 cd33 ct33), sl33⟩) (c33 : PySem.W.codeIn K cd33 "_law_equal" = true) (k33 : PySem.W.keepIn K (.ref p33) = true)
    (a34 : PySem.W.nsIn K mainGlobals "_law_scopes" = some (some (.ref p34))) (l34 : K.lookup p34 = some ⟨oc34, od34, .func (PySem.W.fnOf "_law_scopes" "_law_scopes" (defArgs (topS 48)) (defBody (topS 48)) (defScope (topS 48)) .none kv34 dc34 pm34 an34 cd34 ct34), sl34⟩) (c34 : PySem.W.codeIn K cd34 "_law_scopes" = true) (k34 : PySem.W.keepIn K (.ref p34) = true)
    (a35 : PySem.W.nsIn K mainGlobals "_law_pairs" = some (some (.ref p35))) (l35 : K.lookup p35 = some ⟨oc35, od35, .func (PySem.W.fnOf "_law_pairs" "_law_pairs" (defArgs (topS 49)) (defBody (topS 49)) (defScope (topS 49)) .none kv35 dc35 pm35 an35 cd35 ct35), sl35⟩) (c35 : PySem.W.codeIn K cd35 "_law_pairs" = true) (k35 : PySem.W.keepIn K (.ref p35) = true)
    (a36 : PySem.W.nsIn K mainGlobals "_law_hang" = some (some (.ref p36))) (l36 : K.lookup p36 = some ⟨oc36, od36, .func (PySem.W.fnOf "_law_hang" "_law_hang" (defArgs (topS 50)) (defBody (topS 50)) (defScope (topS 50)) .none kv36 dc36 pm36 an36 cd36 ct36), sl36⟩) (c36 : PySem.W.codeIn K cd36 "_law_hang" = true) (k36 : PySem.W.keepIn K (.ref p36) = true)
    (a37 : PySem.W.nsIn K mainGlobals "_law_is_tree" = some (some (.ref p37))) (l37 : K.lookup p37 = some ⟨oc37, od37, .func (PySem.W.fnOf "_law_is_tree" "_law_is_tree" (defArgs (topS 51)) (defBody (topS 51)) (defScope (topS 51)) .none kv37 dc37 pm37 an37 cd37 ct37), sl37⟩) (c37 : PySem.W.codeIn K cd37 "_law_is_tree" = true) (k37 : PySem.W.keepIn K (.ref p37) = true)
    (a38 : PySem.W.nsIn K mainGlobals "_law_edge_sets" = some (some (.ref p38))) (l38 : K.lookup p38 = some ⟨oc38, od38, .func (PySem.W.fnOf "_law_edge_sets" "_law_edge_sets" (defArgs (topS 52)) (defBody (topS 52)) (defScope (topS 52)) .none kv38 dc38 pm38 an38 cd38 ct38), sl38⟩) (c38 : PySem.W.codeIn K cd38 "_law_edge_sets" = true) (k38 : PySem.W.keepIn K (.ref p38) = true)
    (a39 : PySem.W.nsIn K mainGlobals "_law_shared" = some (some (.ref p39))) (l39 : K.lookup p39 = some ⟨oc39, od39, .func (PySem.W.fnOf "_law_shared" "_law_shared" (defArgs (topS 53)) (defBody (topS 53)) (defScope (topS 53)) .none kv39 dc39 pm39 an39 cd39 ct39), sl39⟩) (c39 : PySem.W.codeIn K cd39 "_law_shared" = true) (k39 : PySem.W.keepIn K (.ref p39) = true)
    (a40 : PySem.W.nsIn K mainGlobals "law" = some (some (.ref p40))) (l40 : K.lookup p40 = some ⟨oc40, od40, .func (PySem.W.fnOf "law" "law" (defArgs (topS 54)) (defBody (topS 54)) (defScope (topS 54)) .none kv40 dc40 pm40 an40 cd40 ct40), sl40⟩) (c40 : PySem.W.codeIn K cd40 "law" = true) (k40 : PySem.W.keepIn K (.ref p40) = true)
    (z_len : PySem.W.nsIn K mainGlobals "len" = some none)
    (z_all : PySem.W.nsIn K mainGlobals "all" = some none)
    (z_any : PySem.W.nsIn K mainGlobals "any" = some none)
    (z_abs : PySem.W.nsIn K mainGlobals "abs" = some none)
    (z_int : PySem.W.nsIn K mainGlobals "int" = some none)
    (z_list : PySem.W.nsIn K mainGlobals "list" = some none)
    (z_tuple : PySem.W.nsIn K mainGlobals "tuple" = some none)
    (z_sorted : PySem.W.nsIn K mainGlobals "sorted" = some none)
    (z_sum : PySem.W.nsIn K mainGlobals "sum" = some none)
    (z_min : PySem.W.nsIn K mainGlobals "min" = some none)
    (z_max : PySem.W.nsIn K mainGlobals "max" = some none)
    (z_isinstance : PySem.W.nsIn K mainGlobals "isinstance" = some none)
    (z_bool : PySem.W.nsIn K mainGlobals "bool" = some none)
    (z_str : PySem.W.nsIn K mainGlobals "str" = some none)
    (z_dict : PySem.W.nsIn K mainGlobals "dict" = some none)
    (z_range : PySem.W.nsIn K mainGlobals "range" = some none)
    (z_zip : PySem.W.nsIn K mainGlobals "zip" = some none)
    (z_enumerate : PySem.W.nsIn K mainGlobals "enumerate" = some none)
    (z_set : PySem.W.nsIn K mainGlobals "set" = some none)
    (q_cmb : PySem.W.nsIn K mainGlobals "combinations" = some (some (.type "itertools.combinations")))
    {t0 : Tok} (y0 : PySem.W.nsIn K mainGlobals "LEAST_VALUES" = some (some (.int 2 t0)))
    {t1 : Tok} (y1 : PySem.W.nsIn K mainGlobals "MOST_VARIABLE" = some (some (.int 5 t1)))
    {t2 : Tok} (y2 : PySem.W.nsIn K mainGlobals "MOST_IN_SCOPE" = some (some (.int 3 t2)))
    {t3 : Tok} (y3 : PySem.W.nsIn K mainGlobals "MOST_NODES" = some (some (.int 5 t3)))
    : HeadOk K mg G tab ∧ (mg "law" = some (.ref p40) ∧ Fun K "law" "law" (topS 54) p40 (PySem.W.fnOf "law" "law" (defArgs (topS 54)) (defBody (topS 54)) (defScope (topS 54)) .none kv40 dc40 pm40 an40 cd40 ct40) ∧ Binds K (PySem.W.fnOf "law" "law" (defArgs (topS 54)) (defBody (topS 54)) (defScope (topS 54)) .none kv40 dc40 pm40 an40 cd40 ct40) ["script"] [] ∧ ∀ (s : Shared) (u : Value), BindsTo s (PySem.W.fnOf "law" "law" (defArgs (topS 54)) (defBody (topS 54)) (defScope (topS 54)) .none kv40 dc40 pm40 an40 cd40 ct40) ⟨[u], []⟩ [("script", u)]) := by
  have F0 := fun_mk (st := topS 5) l0 c0 k0
  have B0 := F0.binds (ps := ["holds", "name"]) fun _ _ _ _ _ _ us hl => match us, hl with | [_, _], _ => rfl
  have F1 := fun_mk (st := topS 6) l1 c1 k1
  have B1 := F1.binds (ps := ["value", "low", "high"]) fun _ _ _ _ _ _ us hl => match us, hl with | [_, _, _], _ => rfl
  have F2 := fun_mk (st := topS 7) l2 c2 k2
  have B2 := F2.binds (ps := ["value", "low", "high"]) fun _ _ _ _ _ _ us hl => match us, hl with | [_, _, _], _ => rfl
  have F3 := fun_mk (st := topS 8) l3 c3 k3
  have B3 := F3.binds (ps := ["items"]) fun _ _ _ _ _ _ us hl => match us, hl with | [_], _ => rfl
  have F4 := fun_mk (st := topS 13) l4 c4 k4
  have B4 := F4.binds (ps := ["value"]) fun _ _ _ _ _ _ us hl => match us, hl with | [_], _ => rfl
  have F5 := fun_mk (st := topS 14) l5 c5 k5
  have B5 := F5.binds (ps := ["value"]) fun _ _ _ _ _ _ us hl => match us, hl with | [_], _ => rfl
  have F6 := fun_mk (st := topS 17) l6 c6 k6
  have B6 := F6.binds (ps := ["value"]) fun _ _ _ _ _ _ us hl => match us, hl with | [_], _ => rfl
  have F7 := fun_mk (st := topS 18) l7 c7 k7
  have B7 := F7.binds (ps := ["many", "value"]) fun _ _ _ _ _ _ us hl => match us, hl with | [_, _], _ => rfl
  have F8 := fun_mk (st := topS 19) l8 c8 k8
  have B8 := F8.binds (ps := ["many", "value"]) fun _ _ _ _ _ _ us hl => match us, hl with | [_, _], _ => rfl
  have F9 := fun_mk (st := topS 20) l9 c9 k9
  have B9 := F9.binds (ps := ["graph"]) fun _ _ _ _ _ _ us hl => match us, hl with | [_], _ => rfl
  have F10 := fun_mk (st := topS 22) l10 c10 k10
  have B10 := F10.binds (ps := ["graph"]) fun _ _ _ _ _ _ us hl => match us, hl with | [_], _ => rfl
  have F11 := fun_mk (st := topS 23) l11 c11 k11
  have B11 := F11.binds (ps := ["graph"]) fun _ _ _ _ _ _ us hl => match us, hl with | [_], _ => rfl
  have F12 := fun_mk (st := topS 24) l12 c12 k12
  have B12 := F12.binds (ps := ["graph", "variable"]) fun _ _ _ _ _ _ us hl => match us, hl with | [_, _], _ => rfl
  have F13 := fun_mk (st := topS 25) l13 c13 k13
  have B13 := F13.binds (ps := ["graph", "one", "other"]) fun _ _ _ _ _ _ us hl => match us, hl with | [_, _, _], _ => rfl
  have F14 := fun_mk (st := topS 26) l14 c14 k14
  have B14 := F14.binds (ps := ["graph", "node"]) fun _ _ _ _ _ _ us hl => match us, hl with | [_, _], _ => rfl
  have F15 := fun_mk (st := topS 27) l15 c15 k15
  have B15 := F15.binds (ps := ["graph", "one", "other"]) fun _ _ _ _ _ _ us hl => match us, hl with | [_, _, _], _ => rfl
  have F16 := fun_mk (st := topS 28) l16 c16 k16
  have B16 := F16.binds (ps := ["graph", "many"]) fun _ _ _ _ _ _ us hl => match us, hl with | [_, _], _ => rfl
  have F17 := fun_mk (st := topS 29) l17 c17 k17
  have B17 := F17.binds (ps := ["graph"]) fun _ _ _ _ _ _ us hl => match us, hl with | [_], _ => rfl
  have F18 := fun_mk (st := topS 30) l18 c18 k18
  have B18 := F18.binds (ps := ["graph", "among", "node"]) fun _ _ _ _ _ _ us hl => match us, hl with | [_, _, _], _ => rfl
  have F19 := fun_mk (st := topS 31) l19 c19 k19
  have B19 := F19.binds (ps := ["graph", "nodes", "other"]) fun _ _ _ _ _ _ us hl => match us, hl with | [_, _, _], _ => rfl
  have F20 := fun_mk (st := topS 32) l20 c20 k20
  have B20 := F20.binds (ps := ["graph", "among"]) fun _ _ _ _ _ _ us hl => match us, hl with | [_, _], _ => rfl
  have F21 := fun_mk (st := topS 34) l21 c21 k21
  have B21 := F21.binds (ps := ["scopes", "edges"]) fun _ _ _ _ _ _ us hl => match us, hl with | [_, _], _ => rfl
  have F22 := fun_mk (st := topS 35) l22 c22 k22
  have B22 := F22.binds (ps := ["scopes", "edges"]) fun _ _ _ _ _ _ us hl => match us, hl with | [_, _], _ => rfl
  have F23 := fun_mk (st := topS 36) l23 c23 k23
  have B23 := F23.binds (ps := ["scopes"]) fun _ _ _ _ _ _ us hl => match us, hl with | [_], _ => rfl
  have F24 := fun_mk (st := topS 37) l24 c24 k24
  have B24 := F24.binds (ps := ["scopes"]) fun _ _ _ _ _ _ us hl => match us, hl with | [_], _ => rfl
  have F25 := fun_mk (st := topS 38) l25 c25 k25
  have B25 := F25.binds (ps := ["scopes", "edges"]) fun _ _ _ _ _ _ us hl => match us, hl with | [_, _], _ => rfl
  have F26 := fun_mk (st := topS 39) l26 c26 k26
  have B26 := F26.binds (ps := ["scopes", "edges"]) fun _ _ _ _ _ _ us hl => match us, hl with | [_, _], _ => rfl
  have F27 := fun_mk (st := topS 40) l27 c27 k27
  have B27 := F27.binds (ps := ["nodes", "many"]) fun _ _ _ _ _ _ us hl => match us, hl with | [_, _], _ => rfl
  have F28 := fun_mk (st := topS 41) l28 c28 k28
  have B28 := F28.binds (ps := ["scopes"]) fun _ _ _ _ _ _ us hl => match us, hl with | [_], _ => rfl
  have F29 := fun_mk (st := topS 42) l29 c29 k29
  have B29 := F29.binds (ps := ["scopes", "edges"]) fun _ _ _ _ _ _ us hl => match us, hl with | [_, _], _ => rfl
  have F30 := fun_mk (st := topS 44) l30 c30 k30
  have B30 := F30.binds (ps := ["script"]) fun _ _ _ _ _ _ us hl => match us, hl with | [_], _ => rfl
  have F31 := fun_mk (st := topS 45) l31 c31 k31
  have B31 := F31.binds (ps := ["stream", "many"]) fun _ _ _ _ _ _ us hl => match us, hl with | [_, _], _ => rfl
  have F32 := fun_mk (st := topS 46) l32 c32 k32
  have B32 := F32.binds (ps := ["actual"]) fun _ _ _ _ _ _ us hl => match us, hl with | [_], _ => rfl
  have F33 := fun_mk (st := topS 47) l33 c33 k33
  have B33 := F33.binds (ps := ["actual", "due"]) fun _ _ _ _ _ _ us hl => match us, hl with | [_, _], _ => rfl
  have F34 := fun_mk (st := topS 48) l34 c34 k34
  have B34 := F34.binds (ps := ["stream", "most", "variables"]) fun _ _ _ _ _ _ us hl => match us, hl with | [_, _, _], _ => rfl
  have F35 := fun_mk (st := topS 49) l35 c35 k35
  have B35 := F35.binds (ps := ["many"]) fun _ _ _ _ _ _ us hl => match us, hl with | [_], _ => rfl
  have F36 := fun_mk (st := topS 50) l36 c36 k36
  have B36 := F36.binds (ps := ["nodes", "edges"]) fun _ _ _ _ _ _ us hl => match us, hl with | [_, _], _ => rfl
  have F37 := fun_mk (st := topS 51) l37 c37 k37
  have B37 := F37.binds (ps := ["scopes", "edges"]) fun _ _ _ _ _ _ us hl => match us, hl with | [_, _], _ => rfl
  have F38 := fun_mk (st := topS 52) l38 c38 k38
  have B38 := F38.binds (ps := ["many"]) fun _ _ _ _ _ _ us hl => match us, hl with | [_], _ => rfl
  have F39 := fun_mk (st := topS 53) l39 c39 k39
  have B39 := F39.binds (ps := ["scopes", "edges"]) fun _ _ _ _ _ _ us hl => match us, hl with | [_, _], _ => rfl
  have F40 := fun_mk (st := topS 54) l40 c40 k40
  have B40 := F40.binds (ps := ["script"]) fun _ _ _ _ _ _ us hl => match us, hl with | [_], _ => rfl
  refine ⟨⟨fun i d hi => ?_, fun x hx hn => ?_, fun x d hx => ?_, fun _ => PySem.W.mg_of X Gm q_cmb⟩, PySem.W.mg_of X Gm a40, F40, B40, fun s u => .of_eq rfl⟩
  · match i, hi with
    | 0, hi => cases hi; exact ⟨_, _, PySem.W.mg_of X Gm a0, F0, B0⟩
    | 1, hi => cases hi; exact ⟨_, _, PySem.W.mg_of X Gm a1, F1, B1⟩
    | 2, hi => cases hi; exact ⟨_, _, PySem.W.mg_of X Gm a2, F2, B2⟩
    | 3, hi => cases hi; exact ⟨_, _, PySem.W.mg_of X Gm a3, F3, B3⟩
    | 4, hi => cases hi; exact ⟨_, _, PySem.W.mg_of X Gm a4, F4, B4⟩
    | 5, hi => cases hi; exact ⟨_, _, PySem.W.mg_of X Gm a5, F5, B5⟩
    | 6, hi => cases hi; exact ⟨_, _, PySem.W.mg_of X Gm a6, F6, B6⟩
    | 7, hi => cases hi; exact ⟨_, _, PySem.W.mg_of X Gm a7, F7, B7⟩
    | 8, hi => cases hi; exact ⟨_, _, PySem.W.mg_of X Gm a8, F8, B8⟩
    | 9, hi => cases hi; exact ⟨_, _, PySem.W.mg_of X Gm a9, F9, B9⟩
    | 10, hi => cases hi; exact ⟨_, _, PySem.W.mg_of X Gm a10, F10, B10⟩
    | 11, hi => cases hi; exact ⟨_, _, PySem.W.mg_of X Gm a11, F11, B11⟩
    | 12, hi => cases hi; exact ⟨_, _, PySem.W.mg_of X Gm a12, F12, B12⟩
    | 13, hi => cases hi; exact ⟨_, _, PySem.W.mg_of X Gm a13, F13, B13⟩
    | 14, hi => cases hi; exact ⟨_, _, PySem.W.mg_of X Gm a14, F14, B14⟩
    | 15, hi => cases hi; exact ⟨_, _, PySem.W.mg_of X Gm a15, F15, B15⟩
    | 16, hi => cases hi; exact ⟨_, _, PySem.W.mg_of X Gm a16, F16, B16⟩
    | 17, hi => cases hi; exact ⟨_, _, PySem.W.mg_of X Gm a17, F17, B17⟩
    | 18, hi => cases hi; exact ⟨_, _, PySem.W.mg_of X Gm a18, F18, B18⟩
    | 19, hi => cases hi; exact ⟨_, _, PySem.W.mg_of X Gm a19, F19, B19⟩
    | 20, hi => cases hi; exact ⟨_, _, PySem.W.mg_of X Gm a20, F20, B20⟩
    | 21, hi => cases hi; exact ⟨_, _, PySem.W.mg_of X Gm a21, F21, B21⟩
    | 22, hi => cases hi; exact ⟨_, _, PySem.W.mg_of X Gm a22, F22, B22⟩
    | 23, hi => cases hi; exact ⟨_, _, PySem.W.mg_of X Gm a23, F23, B23⟩
    | 24, hi => cases hi; exact ⟨_, _, PySem.W.mg_of X Gm a24, F24, B24⟩
    | 25, hi => cases hi; exact ⟨_, _, PySem.W.mg_of X Gm a25, F25, B25⟩
    | 26, hi => cases hi; exact ⟨_, _, PySem.W.mg_of X Gm a26, F26, B26⟩
    | 27, hi => cases hi; exact ⟨_, _, PySem.W.mg_of X Gm a27, F27, B27⟩
    | 28, hi => cases hi; exact ⟨_, _, PySem.W.mg_of X Gm a28, F28, B28⟩
    | 29, hi => cases hi; exact ⟨_, _, PySem.W.mg_of X Gm a29, F29, B29⟩
    | 30, hi => cases hi; exact ⟨_, _, PySem.W.mg_of X Gm a30, F30, B30⟩
    | 31, hi => cases hi; exact ⟨_, _, PySem.W.mg_of X Gm a31, F31, B31⟩
    | 32, hi => cases hi; exact ⟨_, _, PySem.W.mg_of X Gm a32, F32, B32⟩
    | 33, hi => cases hi; exact ⟨_, _, PySem.W.mg_of X Gm a33, F33, B33⟩
    | 34, hi => cases hi; exact ⟨_, _, PySem.W.mg_of X Gm a34, F34, B34⟩
    | 35, hi => cases hi; exact ⟨_, _, PySem.W.mg_of X Gm a35, F35, B35⟩
    | 36, hi => cases hi; exact ⟨_, _, PySem.W.mg_of X Gm a36, F36, B36⟩
    | 37, hi => cases hi; exact ⟨_, _, PySem.W.mg_of X Gm a37, F37, B37⟩
    | 38, hi => cases hi; exact ⟨_, _, PySem.W.mg_of X Gm a38, F38, B38⟩
    | 39, hi => cases hi; exact ⟨_, _, PySem.W.mg_of X Gm a39, F39, B39⟩
    | 40, hi => cases hi; exact ⟨_, _, PySem.W.mg_of X Gm a40, F40, B40⟩
    | _ + 41, hi => simp [tab] at hi
  · simp only [bltNames, List.mem_cons, List.not_mem_nil, or_false] at hx
    rcases hx with rfl | rfl | rfl | rfl | rfl | rfl | rfl | rfl | rfl | rfl | rfl | rfl | rfl | rfl | rfl | rfl | rfl | rfl | rfl
    · exact PySem.W.mg_none_of X Gm z_len
    · exact PySem.W.mg_none_of X Gm z_all
    · exact PySem.W.mg_none_of X Gm z_any
    · exact PySem.W.mg_none_of X Gm z_abs
    · exact PySem.W.mg_none_of X Gm z_int
    · exact PySem.W.mg_none_of X Gm z_list
    · exact PySem.W.mg_none_of X Gm z_tuple
    · exact PySem.W.mg_none_of X Gm z_sorted
    · exact PySem.W.mg_none_of X Gm z_sum
    · exact PySem.W.mg_none_of X Gm z_min
    · exact PySem.W.mg_none_of X Gm z_max
    · exact PySem.W.mg_none_of X Gm z_isinstance
    · exact PySem.W.mg_none_of X Gm z_bool
    · exact PySem.W.mg_none_of X Gm z_str
    · exact PySem.W.mg_none_of X Gm z_dict
    · exact PySem.W.mg_none_of X Gm z_range
    · exact PySem.W.mg_none_of X Gm z_zip
    · exact PySem.W.mg_none_of X Gm z_enumerate
    · exact PySem.W.mg_none_of X Gm z_set
  · have hm := lookup_mem hx
    simp only [G, List.mem_cons, List.not_mem_nil, or_false, Prod.mk.injEq] at hm
    rcases hm with ⟨rfl, rfl⟩ | ⟨rfl, rfl⟩ | ⟨rfl, rfl⟩ | ⟨rfl, rfl⟩
    · exact ⟨.int (2), _, PySem.W.mg_of X Gm y0, ⟨_, rfl⟩, fun _ _ => rfl⟩
    · exact ⟨.int (5), _, PySem.W.mg_of X Gm y1, ⟨_, rfl⟩, fun _ _ => rfl⟩
    · exact ⟨.int (3), _, PySem.W.mg_of X Gm y2, ⟨_, rfl⟩, fun _ _ => rfl⟩
    · exact ⟨.int (5), _, PySem.W.mg_of X Gm y3, ⟨_, rfl⟩, fun _ _ => rfl⟩
theorem fin_mk {P : Program} {w : World} {K : PySem.W.Frag} {mg : Str → Option Value} {fa p : Addr} {fd : FuncData} (hfa : mg "law" = some (.ref fa)) (HH : HeadOk K mg G tab ∧ (mg "law" = some (.ref p) ∧ Fun K "law" "law" (topS 54) p fd ∧ Binds K fd ["script"] [] ∧ ∀ (s : Shared) (u : Value), BindsTo s fd ⟨[u], []⟩ [("script", u)])) :
    ∃ fd : FuncData, (∀ (s : Shared) (u : Value), BindsTo s fd ⟨[u], []⟩ [("script", u)]) ∧ ∀ base : Heap, K.In base → base.Ns mainGlobals mg → FnOk P w K mg base CX0 depth fa fd ["script"] (spLaw K) := by
  obtain ⟨hd, hm, hF, hB, hb⟩ := HH
  have e := hfa.symm.trans hm
  cases e
  exact ⟨fd, hb, fun base _ _ => law_ok (d := d40) (i := 40) hd okT rfl hm hF hB rfl (by rw [fs_eq]; exact hrun)⟩
end Tk54
open PySem PySem.W PyProof.Rows
set_option maxHeartbeats 0 in
theorem PySem.Challenge.cw_tabletalk_k54_whole_shared_numbers_holds : PySem.Challenge.rw_tabletalk_k54_whole_shared_numbers.Holds := by
  w_on; o_law; k_head; (case hw => w_witness2)
  k_fill
  refine L2.walk_of (l := PySem.Challenge.rw_tabletalk_k54_whole_shared_numbers) (n := 63) (k := Tk54.depth) (x := "script") (CX := fun _ => L2.CX0) (sp := fun w => Pu.spLaw _) rfl (by decide) rfl ⟨rfl, by decide, by decide⟩ (fun w h Y => PySem.W.kIn_of Y) ?F (fun _ _ a ns hl hO hS => ⟨a, ns, rfl, Pu.frl_of hO hS, hl, fun _ => rfl⟩) (fun _ _ _ _ _ h => h)
  case F =>
    intro w mg fa h KX Gm hmg
    refine' Tk54.fin_mk hmg (Tk54.head_mk KX Gm ?a0 ?l0 ?c0 ?k0 ?a1 ?l1 ?c1 ?k1 ?a2 ?l2 ?c2 ?k2 ?a3 ?l3 ?c3 ?k3 ?a4 ?l4 ?c4 ?k4 ?a5 ?l5 ?c5 ?k5 ?a6 ?l6 ?c6 ?k6 ?a7 ?l7 ?c7 ?k7 ?a8 ?l8 ?c8 ?k8 ?a9 ?l9 ?c9 ?k9 ?a10 ?l10 ?c10 ?k10 ?a11 ?l11 ?c11 ?k11 ?a12 ?l12 ?c12 ?k12 ?a13 ?l13 ?c13 ?k13 ?a14 ?l14 ?c14 ?k14 ?a15 ?l15 ?c15 ?k15 ?a16 ?l16 ?c16 ?k16 ?a17 ?l17 ?c17 ?k17 ?a18 ?l18 ?c18 ?k18 ?a19 ?l19 ?c19 ?k19 ?a20 ?l20 ?c20 ?k20 ?a21 ?l21 ?c21 ?k21 ?a22 ?l22 ?c22 ?k22 ?a23 ?l23 ?c23 ?k23 ?a24 ?l24 ?c24 ?k24 ?a25 ?l25 ?c25 ?k25 ?a26 ?l26 ?c26 ?k26 ?a27 ?l27 ?c27 ?k27 ?a28 ?l28 ?c28 ?k28 ?a29 ?l29 ?c29 ?k29 ?a30 ?l30 ?c30 ?k30 ?a31 ?l31 ?c31 ?k31 ?a32 ?l32 ?c32 ?k32 ?a33 ?l33 ?c33 ?k33 ?a34 ?l34 ?c34 ?k34 ?a35 ?l35 ?c35 ?k35 ?a36 ?l36 ?c36 ?k36 ?a37 ?l37 ?c37 ?k37 ?a38 ?l38 ?c38 ?k38 ?a39 ?l39 ?c39 ?k39 ?a40 ?l40 ?c40 ?k40 ?z_len ?z_all ?z_any ?z_abs ?z_int ?z_list ?z_tuple ?z_sorted ?z_sum ?z_min ?z_max ?z_isinstance ?z_bool ?z_str ?z_dict ?z_range ?z_zip ?z_enumerate ?z_set ?q_cmb ?y0 ?y1 ?y2 ?y3)
    (case a0 => k_is); (case l0 => k_is); (case c0 => k_is); (case k0 => k_is); (case a1 => k_is); (case l1 => k_is); (case c1 => k_is); (case k1 => k_is); (case a2 => k_is); (case l2 => k_is); (case c2 => k_is); (case k2 => k_is); (case a3 => k_is); (case l3 => k_is); (case c3 => k_is); (case k3 => k_is); (case a4 => k_is); (case l4 => k_is); (case c4 => k_is); (case k4 => k_is); (case a5 => k_is); (case l5 => k_is); (case c5 => k_is); (case k5 => k_is); (case a6 => k_is); (case l6 => k_is); (case c6 => k_is); (case k6 => k_is); (case a7 => k_is); (case l7 => k_is); (case c7 => k_is); (case k7 => k_is); (case a8 => k_is); (case l8 => k_is); (case c8 => k_is); (case k8 => k_is); (case a9 => k_is); (case l9 => k_is); (case c9 => k_is); (case k9 => k_is); (case a10 => k_is); (case l10 => k_is); (case c10 => k_is); (case k10 => k_is); (case a11 => k_is); (case l11 => k_is); (case c11 => k_is); (case k11 => k_is); (case a12 => k_is); (case l12 => k_is); (case c12 => k_is); (case k12 => k_is); (case a13 => k_is); (case l13 => k_is); (case c13 => k_is); (case k13 => k_is); (case a14 => k_is); (case l14 => k_is); (case c14 => k_is); (case k14 => k_is); (case a15 => k_is); (case l15 => k_is); (case c15 => k_is); (case k15 => k_is); (case a16 => k_is); (case l16 => k_is); (case c16 => k_is); (case k16 => k_is); (case a17 => k_is); (case l17 => k_is); (case c17 => k_is); (case k17 => k_is); (case a18 => k_is); (case l18 => k_is); (case c18 => k_is); (case k18 => k_is); (case a19 => k_is); (case l19 => k_is); (case c19 => k_is); (case k19 => k_is); (case a20 => k_is); (case l20 => k_is); (case c20 => k_is); (case k20 => k_is); (case a21 => k_is); (case l21 => k_is); (case c21 => k_is); (case k21 => k_is); (case a22 => k_is); (case l22 => k_is); (case c22 => k_is); (case k22 => k_is); (case a23 => k_is); (case l23 => k_is); (case c23 => k_is); (case k23 => k_is); (case a24 => k_is); (case l24 => k_is); (case c24 => k_is); (case k24 => k_is); (case a25 => k_is); (case l25 => k_is); (case c25 => k_is); (case k25 => k_is); (case a26 => k_is); (case l26 => k_is); (case c26 => k_is); (case k26 => k_is); (case a27 => k_is); (case l27 => k_is); (case c27 => k_is); (case k27 => k_is); (case a28 => k_is); (case l28 => k_is); (case c28 => k_is); (case k28 => k_is); (case a29 => k_is); (case l29 => k_is); (case c29 => k_is); (case k29 => k_is); (case a30 => k_is); (case l30 => k_is); (case c30 => k_is); (case k30 => k_is); (case a31 => k_is); (case l31 => k_is); (case c31 => k_is); (case k31 => k_is); (case a32 => k_is); (case l32 => k_is); (case c32 => k_is); (case k32 => k_is); (case a33 => k_is); (case l33 => k_is); (case c33 => k_is); (case k33 => k_is); (case a34 => k_is); (case l34 => k_is); (case c34 => k_is); (case k34 => k_is); (case a35 => k_is); (case l35 => k_is); (case c35 => k_is); (case k35 => k_is); (case a36 => k_is); (case l36 => k_is); (case c36 => k_is); (case k36 => k_is); (case a37 => k_is); (case l37 => k_is); (case c37 => k_is); (case k37 => k_is); (case a38 => k_is); (case l38 => k_is); (case c38 => k_is); (case k38 => k_is); (case a39 => k_is); (case l39 => k_is); (case c39 => k_is); (case k39 => k_is); (case a40 => k_is); (case l40 => k_is); (case c40 => k_is); (case k40 => k_is); (case z_len => k_is); (case z_all => k_is); (case z_any => k_is); (case z_abs => k_is); (case z_int => k_is); (case z_list => k_is); (case z_tuple => k_is); (case z_sorted => k_is); (case z_sum => k_is); (case z_min => k_is); (case z_max => k_is); (case z_isinstance => k_is); (case z_bool => k_is); (case z_str => k_is); (case z_dict => k_is); (case z_range => k_is); (case z_zip => k_is); (case z_enumerate => k_is); (case z_set => k_is); (case q_cmb => k_is); (case y0 => k_is); (case y1 => k_is); (case y2 => k_is); (case y3 => k_is)

