import PyProof.Rows.All
import Wide.All
import OpenK.AllK
import Wide.FinOn
import PySem.Challenge.RW_treelaws_k02_trees_and_paths
import HandS.ForMost
import HandS.Exc
import HandS.CallSlots
import HandS.IsInst
import HandS.Walk
import HandS.Wide
import HandS.ExcValue
import HandS.ExcInit
import HandS.TupAny
import HandS.TupMul
import HandS.Style
import HandS.Zip
import HandS.ExcOwn
import HandS.WordsExc
import HandS.Conv
import HandS.More
import HandS.Dict
import KE.KEqDict
import HandS.DictComp
import HandS.Text
import PyProof.ReprRoads
import HandS.RaiseMore
import HandS.Rev
import HandS.RevRange
import HandS.Deep
import PyProof.EqKinds
import PyProof.ListStr
import HandS.TryOnly
import HandS.Set
import HandS.SetFor
import PyProof.Rows.SetFrom
import PyProof.Rows.SortShellAny
import HandS.Defaults
import HandS.FStr
import HandS.Nested
import HandS.ExcField
import KE.KExcIs
import KE.KExcSuper
import HandS.Ends
import HandS.HeadEnd
import HandS.Head0
import HandS.Head1
import HandS.Head2
import HandS.HeadHook1
import HandS.HeadHook2
import KE.GoesEnum
import KE.GoesZip
import KE.GoesMore
import KE.KItemsList
import PyProof.ListNew
import HandS.ListItems
import PyProof.NeKinds
section
set_option Elab.async false
set_option linter.all false
set_option maxRecDepth 100000
/-! DL: what a program does, told of data alone. -/
namespace DL
open PySem PySem.Spec PyProof.Rows L2

/-- data -/
inductive D where
  | non | bl (b : Bool) | int (i : Int) | str (x : Str)
  | tup (xs : List D) | lst (xs : List D)
  | dic (ks : List Key) (xs : List D)
  | dit (ks : List (List Key)) (xs : List D)
  | ins (C : Str) (ks : List Str) (xs : List D)
  | exv (C : Str) (ks : List Str) (xs : List D)
  | opq
instance : Inhabited D := ⟨.non⟩

abbrev Ft := Addr → Prop
/-- the written part and the module's names -/
structure Gd where
  K : PySem.W.Frag
  mg : Str → Option Value

mutual
inductive Fr (G : Gd) (H : Hp) : D → V → Prop
  | non : Fr G H .non .non
  | bl (b : Bool) : Fr G H (.bl b) (.bl b)
  | int (i : Int) : Fr G H (.int i) (.int i)
  | str (x : Str) : Fr G H (.str x) (.str x)
  | tup {a : Addr} {ds : List D} {vs : List V} : H a = some (.tup vs) → Frs G H ds vs → Fr G H (.tup ds) (.ref a)
  | lst {a : Addr} {ds : List D} {vs : List V} : Rd H a (.lst vs) → Frs G H ds vs → Fr G H (.lst ds) (.ref a)
  | dic {a : Addr} {ks : List Key} {ds : List D} {vs : List V} : Rd H a (.dK (ks.zip vs)) → ks.length = vs.length → Frs G H ds vs → Fr G H (.dic ks ds) (.ref a)
  | dit {a : Addr} {ks : List (List Key)} {ds : List D} {vs : List V} : Rd H a (.dT (ks.zip vs)) → ks.length = vs.length → Frs G H ds vs → Fr G H (.dit ks ds) (.ref a)
  | ins {a dx c : Addr} {C : Str} {ks : List Str} {ds : List D} {vs : List V} : G.mg C = some (.ref c) → Rd H a (.ins c dx (ks.zip vs)) → ks.length = vs.length → Frs G H ds vs → Fr G H (.ins C ks ds) (.ref a)
  | exv {a c : Addr} {C : Str} : G.mg C = some (.ref c) → Rd H a (ExO (.ref c) a) → Fr G H (.exv C [] []) (.ref a)
  | exw {a c dx : Addr} {C : Str} {ks : List Str} {ds : List D} {vs : List V} : G.mg C = some (.ref c) → Rd H a (exo a c (some dx)) → Rd H dx (exd dx (ks.zip vs)) → ks.length = vs.length → Frs G H ds vs → Fr G H (.exv C ks ds) (.ref a)
  | opq (a : Addr) : Fr G H .opq (.ref a)
inductive Frs (G : Gd) (H : Hp) : List D → List V → Prop
  | nil : Frs G H [] []
  | cons {d : D} {ds : List D} {v : V} {vs : List V} : Fr G H d v → Frs G H ds vs → Frs G H (d :: ds) (v :: vs)
end

section
variable {G : Gd} {H H' Kn : Hp}
/-- H' tells what Kn told -/
structure Le (Kn H : Hp) : Prop where
  rd : ∀ a u, Rd Kn a u → Rd H a u
  tp : ∀ a vs, Kn a = some (.tup vs) → H a = some (.tup vs)
theorem Le.refl : Le H H := ⟨fun _ _ h => h, fun _ _ h => h⟩
theorem Le.trans {A B C : Hp} (x : Le A B) (y : Le B C) : Le A C := ⟨fun a u h => y.rd a u (x.rd a u h), fun a u h => y.tp a u (x.tp a u h)⟩
theorem Le.of_sub (h : ∀ a u, Kn a = some u → H a = some u) : Le Kn H := ⟨fun a u r => by
  rcases r with r | ⟨o, r⟩
  · exact .inl (h _ _ r)
  · exact .inr ⟨o, h _ _ r⟩, fun a vs e => h a _ e⟩
mutual
theorem Fr.mono (e : Le Kn H) : ∀ {d : D} {v : V}, Fr G Kn d v → Fr G H d v
  | _, _, .non => .non
  | _, _, .bl b => .bl b
  | _, _, .int i => .int i
  | _, _, .str x => .str x
  | _, _, .tup h hs => .tup (e.tp _ _ h) (Frs.mono e hs)
  | _, _, .lst h hs => .lst (e.rd _ _ h) (Frs.mono e hs)
  | _, _, .dic h hl hs => .dic (e.rd _ _ h) hl (Frs.mono e hs)
  | _, _, .dit h hl hs => .dit (e.rd _ _ h) hl (Frs.mono e hs)
  | _, _, .ins hc h hl hs => .ins hc (e.rd _ _ h) hl (Frs.mono e hs)
  | _, _, .exv hc h => .exv hc (e.rd _ _ h)
  | _, _, .exw hc h h2 hl hs => .exw hc (e.rd _ _ h) (e.rd _ _ h2) hl (Frs.mono e hs)
  | _, _, .opq a => .opq a
theorem Frs.mono (e : Le Kn H) : ∀ {ds : List D} {vs : List V}, Frs G Kn ds vs → Frs G H ds vs
  | _, _, .nil => .nil
  | _, _, .cons h hs => .cons (Fr.mono e h) (Frs.mono e hs)
end
theorem Frs.length : ∀ {ds : List D} {vs : List V}, Frs G H ds vs → vs.length = ds.length
  | _, _, .nil => rfl
  | _, _, .cons _ t => by simp [Frs.length t]
theorem Frs.get : ∀ {ds : List D} {vs : List V} {i : Nat} {d : D}, Frs G H ds vs → ds[i]? = some d → ∃ v, vs[i]? = some v ∧ Fr G H d v
  | _, _, _, _, .nil, e => by simp at e
  | _, _, 0, _, .cons h _, e => by simp at e; subst e; exact ⟨_, rfl, h⟩
  | _, _, i + 1, d, .cons _ t, e => by
    obtain ⟨v, h1, h2⟩ := Frs.get (i := i) (d := d) t (by simpa using e)
    exact ⟨v, by simpa using h1, h2⟩
theorem Frs.getv : ∀ {ds : List D} {vs : List V} {i : Nat} {v : V}, Frs G H ds vs → vs[i]? = some v → ∃ d, ds[i]? = some d ∧ Fr G H d v
  | _, _, _, _, .nil, e => by simp at e
  | _, _, 0, _, .cons h _, e => by simp at e; subst e; exact ⟨_, rfl, h⟩
  | _, _, i + 1, v, .cons _ t, e => by
    obtain ⟨d, h1, h2⟩ := Frs.getv (i := i) (v := v) t (by simpa using e)
    exact ⟨d, by simpa using h1, h2⟩
theorem Frs.append : ∀ {ds es : List D} {vs us : List V}, Frs G H ds vs → Frs G H es us → Frs G H (ds ++ es) (vs ++ us)
  | _, _, _, _, .nil, s => s
  | _, _, _, _, .cons r t, s => .cons r (Frs.append t s)
theorem Frs.one {d : D} {v : V} (h : Fr G H d v) : Frs G H [d] [v] := .cons h .nil
theorem Frs.of_get : ∀ {ds : List D} {vs : List V}, vs.length = ds.length → (∀ (i : Nat) (d : D), ds[i]? = some d → ∃ v, vs[i]? = some v ∧ Fr G H d v) → Frs G H ds vs
  | [], [], _, _ => .nil
  | [], _ :: _, e, _ => by simp at e
  | _ :: _, [], e, _ => by simp at e
  | d :: ds, v :: vs, e, h => by
    obtain ⟨u, e1, h1⟩ := h 0 d rfl
    have e1' : v = u := by simpa using e1
    subst e1'
    exact .cons h1 (Frs.of_get (by simpa using e) fun i d' q => by
      obtain ⟨u, e2, h2⟩ := h (i + 1) d' (by simpa using q)
      exact ⟨u, by simpa using e2, h2⟩)
theorem Frs.set {v : V} {d : D} (h : Fr G H d v) : ∀ {ds : List D} {vs : List V} (i : Nat), Frs G H ds vs → Frs G H (ds.set i d) (vs.set i v)
  | _, _, _, .nil => .nil
  | _, _, 0, .cons _ t => .cons h t
  | _, _, i + 1, .cons q t => .cons q (Frs.set h i t)
theorem Frs.take : ∀ {ds : List D} {vs : List V} (n : Nat), Frs G H ds vs → Frs G H (ds.take n) (vs.take n)
  | _, _, 0, _ => .nil
  | _, _, _ + 1, .nil => .nil
  | _, _, n + 1, .cons r t => .cons r (Frs.take n t)
theorem Frs.drop : ∀ {ds : List D} {vs : List V} (n : Nat), Frs G H ds vs → Frs G H (ds.drop n) (vs.drop n)
  | _, _, 0, r => r
  | _, _, _ + 1, .nil => .nil
  | _, _, n + 1, .cons _ t => Frs.drop n t
theorem Frs.eraseIdx : ∀ {ds : List D} {vs : List V} (n : Nat), Frs G H ds vs → Frs G H (ds.eraseIdx n) (vs.eraseIdx n)
  | _, _, _, .nil => .nil
  | _, _, 0, .cons _ t => t
  | _, _, n + 1, .cons r t => .cons r (Frs.eraseIdx n t)
theorem Frs.reverse {ds : List D} {vs : List V} (h : Frs G H ds vs) : Frs G H ds.reverse vs.reverse := by
  induction ds generalizing vs with
  | nil => cases h; exact .nil
  | cons d ds ih =>
    cases h with
    | cons h t =>
      rw [List.reverse_cons, List.reverse_cons]
      exact (ih t).append (.one h)
theorem Frs.dropLast {ds : List D} {vs : List V} (h : Frs G H ds vs) : Frs G H ds.dropLast vs.dropLast := by
  rw [List.dropLast_eq_take, List.dropLast_eq_take, h.length]
  exact h.take _
theorem Frs.rep {ds : List D} {vs : List V} (h : Frs G H ds vs) : ∀ k : Nat, Frs G H (List.replicate k ds).flatten (List.replicate k vs).flatten
  | 0 => .nil
  | k + 1 => by
    rw [List.replicate_succ, List.replicate_succ, List.flatten_cons, List.flatten_cons]
    exact h.append (Frs.rep h k)
end

/-- what stands at a node that may be written -/
inductive Own (G : Gd) : D → HO → List D → List V → Prop
  | lst {ds : List D} {vs : List V} : vs.length = ds.length → Own G (.lst ds) (.lst vs) ds vs
  | dic {ks : List Key} {ds : List D} {vs : List V} : vs.length = ds.length → ks.length = vs.length → Own G (.dic ks ds) (.dK (ks.zip vs)) ds vs
  | dit {ks : List (List Key)} {ds : List D} {vs : List V} : vs.length = ds.length → ks.length = vs.length → Own G (.dit ks ds) (.dT (ks.zip vs)) ds vs
  | ins {c dx : Addr} {C : Str} {ks : List Str} {ds : List D} {vs : List V} : G.mg C = some (.ref c) → vs.length = ds.length → ks.length = vs.length → Own G (.ins C ks ds) (.ins c dx (ks.zip vs)) ds vs

def D.box : D → Bool
  | .lst _ => true
  | .dic _ _ => true
  | .dit _ _ => true
  | .ins _ _ _ => true
  | _ => false

/-- the datum d at v; the nodes of L are ours, k levels of them -/
def Ow (G : Gd) (Kn H : Hp) : Nat → D → V → Ft → Prop
  | 0, d, v, L => Fr G Kn d v ∧ ∀ a, ¬ L a
  | k + 1, d, v, L => (d.box = false ∧ Fr G Kn d v ∧ ∀ a, ¬ L a) ∨
      ∃ (a : Addr) (o : HO) (ds : List D) (vs : List V) (Lc : Nat → Ft), v = .ref a ∧ H a = some o ∧ Own G d o ds vs ∧
        (∀ (i : Nat) (e : D), ds[i]? = some e → ∃ u, vs[i]? = some u ∧ Ow G Kn H k e u (Lc i)) ∧ (∀ (i j : Nat) (x : Addr), i ≠ j → Lc i x → ¬ Lc j x) ∧ (∀ i, ¬ Lc i a) ∧ ∀ x : Addr, L x ↔ x = a ∨ ∃ i, i < ds.length ∧ Lc i x

section
variable {G : Gd} {Kn Kn' H H' : Hp}
theorem Own.fr {d : D} {o : HO} {ds : List D} {vs : List V} {a : Addr} (w : Own G d o ds vs) (h : Rd H a o) (hs : Frs G H ds vs) : Fr G H d (.ref a) := by
  cases w with
  | lst => exact .lst h hs
  | dic _ hk => exact .dic h hk hs
  | dit _ hk => exact .dit h hk hs
  | ins hc _ hk => exact .ins hc h hk hs
theorem Own.len {d : D} {o : HO} {ds : List D} {vs : List V} (w : Own G d o ds vs) : vs.length = ds.length := by
  cases w <;> assumption
theorem Own.mut {d : D} {o : HO} {ds : List D} {vs : List V} (w : Own G d o ds vs) : Mut (some o) := by
  cases w <;> trivial
theorem Own.box {d : D} {o : HO} {ds : List D} {vs : List V} (w : Own G d o ds vs) : d.box = true := by
  cases w <;> rfl

/-- it can be read -/
theorem Ow.fr (e : Le Kn H) : ∀ {k : Nat} {d : D} {v : V} {L : Ft}, Ow G Kn H k d v L → Fr G H d v
  | 0, _, _, _, h => h.1.mono e
  | k + 1, d, v, L, h => by
    rcases h with h | ⟨a, o, ds, vs, Lc, rfl, ho, w, hc, _⟩
    · exact h.2.1.mono e
    · exact w.fr (.inl ho) (Frs.of_get w.len fun i d' q => by
        obtain ⟨u, h1, h2⟩ := hc i d' q
        exact ⟨u, h1, Ow.fr e h2⟩)
/-- its nodes stand -/
theorem Ow.dom : ∀ {k : Nat} {d : D} {v : V} {L : Ft}, Ow G Kn H k d v L → ∀ a, L a → ∃ o, H a = some o ∧ Mut (some o)
  | 0, _, _, _, h, a, q => (h.2 a q).elim
  | k + 1, d, v, L, h, x, q => by
    rcases h with h | ⟨a, o, ds, vs, Lc, rfl, ho, w, hc, _, _, hL⟩
    · exact (h.2.2 x q).elim
    · rcases (hL x).mp q with rfl | ⟨i, hi, z⟩
      · exact ⟨o, ho, w.mut⟩
      · obtain ⟨u, _, h2⟩ := hc i ds[i] (by simp [hi])
        exact Ow.dom h2 x z
/-- carried to another state -/
theorem Ow.move (kn : ∀ a u, Kn a = some u → Kn' a = some u) : ∀ {k : Nat} {d : D} {v : V} {L : Ft}, Ow G Kn H k d v L → (∀ a o, L a → H a = some o → H' a = some o) → Ow G Kn' H' k d v L
  | 0, _, _, _, h, _ => ⟨h.1.mono (Le.of_sub kn), h.2⟩
  | k + 1, d, v, L, h, st => by
    rcases h with h | ⟨a, o, ds, vs, Lc, rfl, ho, w, hc, dj, na, hL⟩
    · exact .inl ⟨h.1, h.2.1.mono (Le.of_sub kn), h.2.2⟩
    · refine .inr ⟨a, o, ds, vs, Lc, rfl, st a o ((hL a).mpr (.inl rfl)) ho, w, fun i d' q => ?_, dj, na, hL⟩
      obtain ⟨u, h1, h2⟩ := hc i d' q
      have hi : i < ds.length := (List.getElem?_eq_some_iff.mp q).1
      exact ⟨u, h1, Ow.move kn h2 fun b o' l e => st b o' ((hL b).mpr (.inr ⟨i, hi, l⟩)) e⟩
/-- frozen: all its nodes are known from now on -/
theorem Ow.freeze (kn : ∀ a u, Kn a = some u → Kn' a = some u) : ∀ {k : Nat} {d : D} {v : V} {L : Ft}, Ow G Kn H k d v L → (∀ a o, L a → H a = some o → Kn' a = some o) → Fr G Kn' d v
  | 0, _, _, _, h, _ => h.1.mono (Le.of_sub kn)
  | k + 1, d, v, L, h, st => by
    rcases h with h | ⟨a, o, ds, vs, Lc, rfl, ho, w, hc, dj, na, hL⟩
    · exact h.2.1.mono (Le.of_sub kn)
    · refine w.fr (.inl (st a o ((hL a).mpr (.inl rfl)) ho)) (Frs.of_get w.len fun i d' q => ?_)
      obtain ⟨u, h1, h2⟩ := hc i d' q
      have hi : i < ds.length := (List.getElem?_eq_some_iff.mp q).1
      exact ⟨u, h1, Ow.freeze kn h2 fun b o' l e => st b o' ((hL b).mpr (.inr ⟨i, hi, l⟩)) e⟩
theorem Ow.of_fr {d : D} {v : V} (h : Fr G Kn d v) : Ow G Kn H 0 d v (fun _ => False) := ⟨h, fun _ z => z⟩
end
end DL
end
section
set_option Elab.async false
set_option linter.all false
set_option maxRecDepth 100000
/-! DL: states, and what may happen to them. -/
namespace DL
open PySem PySem.Spec PyProof.Rows L2

/-- a datum, and how many levels of its nodes are ours -/
abbrev Val := D × Nat
abbrev Rho := List (Option Val)
def U (Lf : Nat → Ft) : Ft := fun a => ∃ i, Lf i a
def Jn (L M : Ft) : Ft := fun a => L a ∨ M a
def No : Ft := fun _ => False

/-- nothing that is known is told as locked -/
def Plain (Kn : Hp) : Prop := ∀ a o u, Kn a ≠ some (.frz o u)
/-- the slots hold the data -/
structure SI (G : Gd) (Kn H : Hp) (σ : L2.St) (ρ : Rho) (Lf : Nat → Ft) : Prop where
  le : Le Kn H
  len : σ.length = ρ.length
  at_ : ∀ (i : Nat) (d : D) (k : Nat), ρ[i]? = some (some (d, k)) → ∃ v, σ[i]? = some (some v) ∧ Ow G Kn H k d v (Lf i)
  off : ∀ (i : Nat), (∀ d k, ρ[i]? ≠ some (some (d, k))) → ∀ a, ¬ Lf i a
  dj : ∀ (i j : Nat) (a : Addr), i ≠ j → Lf i a → ¬ Lf j a
  kn : ∀ a, U Lf a → Kn a = none
  pl : Plain Kn

/-- what code that owns L may do -/
structure Tr (Kn H : Hp) (L : Ft) (Kn' H' : Hp) (L' : Ft) : Prop where
  kn : ∀ a u, Kn a = some u → Kn' a = some u
  nk : ∀ a, Kn a = none → Kn' a ≠ none → L a ∨ H a = none
  keep : ∀ a o, H a = some o → ¬ L a → H' a = some o
  nl : ∀ a, L' a → L a ∨ H a = none
  pl : Plain Kn → Plain Kn'

section
variable {G : Gd} {Kn H Kn1 H1 Kn2 H2 : Hp} {L L1 L2' M : Ft} {σ : L2.St} {ρ : Rho} {Lf : Nat → Ft}
theorem Tr.refl : Tr Kn H L Kn H L := ⟨fun _ _ h => h, fun _ h n => (n h).elim, fun _ _ h _ => h, fun _ h => .inl h, fun h => h⟩
theorem Tr.back (t : Tr Kn H L Kn1 H1 L1) {a : Addr} (h : H1 a = none) : L a ∨ H a = none := by
  by_cases hl : L a
  · exact .inl hl
  · refine .inr ?_
    cases e : H a with
    | none => rfl
    | some o => rw [t.keep a o e hl] at h; cases h
theorem Tr.trans (t : Tr Kn H L Kn1 H1 L1) (u : Tr Kn1 H1 L1 Kn2 H2 L2') : Tr Kn H L Kn2 H2 L2' where
  kn := fun a x h => u.kn a x (t.kn a x h)
  nk := fun a h n => by
    cases e : Kn1 a with
    | none => exact (u.nk a e n).elim (t.nl a) t.back
    | some x => exact t.nk a h (by rw [e]; exact fun z => nomatch z)
  keep := fun a o h hl => by
    have h1 := t.keep a o h hl
    refine u.keep a o h1 fun z => ?_
    rcases t.nl a z with q | q
    · exact hl q
    · rw [h] at q; cases q
  nl := fun a h => (u.nl a h).elim (t.nl a) t.back
  pl := fun h => u.pl (t.pl h)
theorem Tr.frame (t : Tr Kn H L Kn1 H1 L1) (M : Ft) : Tr Kn H (Jn L M) Kn1 H1 (Jn L1 M) where
  kn := t.kn
  nk := fun a h n => (t.nk a h n).elim (fun z => .inl (.inl z)) .inr
  keep := fun a o h hl => t.keep a o h fun z => hl (.inl z)
  nl := fun a h => by
    rcases h with h | h
    · exact (t.nl a h).elim (fun z => .inl (.inl z)) .inr
    · exact .inl (.inr h)
  pl := t.pl
theorem Tr.less (t : Tr Kn H L Kn1 H1 L1) (h : ∀ a, M a → L1 a) : Tr Kn H L Kn1 H1 M := ⟨t.kn, t.nk, t.keep, fun a z => t.nl a (h a z), t.pl⟩
theorem Tr.more (t : Tr Kn H L Kn1 H1 L1) (h : ∀ a, L a → M a) : Tr Kn H M Kn1 H1 L1 :=
  ⟨t.kn, fun a z n => (t.nk a z n).elim (fun q => .inl (h a q)) .inr, fun a o z q => t.keep a o z fun w => q (h a w), fun a z => (t.nl a z).elim (fun q => .inl (h a q)) .inr, t.pl⟩
theorem Tr.eqv (t : Tr Kn H L Kn1 H1 L1) {M M1 : Ft} (h : ∀ a, M a ↔ L a) (h1 : ∀ a, M1 a ↔ L1 a) : Tr Kn H M Kn1 H1 M1 := (t.less fun a z => (h1 a).mp z).more fun a z => (h a).mpr z
theorem Tr.fresh (t : Tr Kn H L Kn1 H1 L1) {a : Addr} (h : H1 a = none) (hl : ¬ L a) : H a = none := (t.back h).resolve_left hl

theorem SI.get (S : SI G Kn H σ ρ Lf) {i : Nat} {d : D} {k : Nat} (e : ρ[i]? = some (some (d, k))) : ∃ v, σ[i]? = some (some v) ∧ Ow G Kn H k d v (Lf i) := S.at_ i d k e
theorem SI.dom (S : SI G Kn H σ ρ Lf) {a : Addr} (h : U Lf a) : ∃ o, H a = some o ∧ Mut (some o) := by
  obtain ⟨i, hi⟩ := h
  by_cases q : ∀ d k, ρ[i]? ≠ some (some (d, k))
  · exact (S.off i q a hi).elim
  · have : ∃ d k, ρ[i]? = some (some (d, k)) := Classical.byContradiction fun n => q fun d k e => n ⟨d, k, e⟩
    obtain ⟨d, k, e⟩ := this
    obtain ⟨v, _, w⟩ := S.at_ i d k e
    exact w.dom a hi
/-- what others own stays theirs -/
theorem Ow.past {k : Nat} {d : D} {v : V} {F : Ft} (w : Ow G Kn H k d v F) (t : Tr Kn H L Kn1 H1 L1) (sep : ∀ a, F a → ¬ L a) : Ow G Kn1 H1 k d v F :=
  w.move t.kn fun a o l e => t.keep a o e (sep a l)
theorem sep_past {F : Ft} (t : Tr Kn H L Kn1 H1 L1) (dom : ∀ a, F a → ∃ o, H a = some o) (sep : ∀ a, F a → ¬ L a) : ∀ a, F a → ¬ L1 a := fun a h q => by
  rcases t.nl a q with z | z
  · exact sep a h z
  · obtain ⟨o, e⟩ := dom a h; rw [z] at e; cases e
theorem kn_past {F : Ft} (t : Tr Kn H L Kn1 H1 L1) (dom : ∀ a, F a → ∃ o, H a = some o) (sep : ∀ a, F a → ¬ L a) (kn : ∀ a, F a → Kn a = none) : ∀ a, F a → Kn1 a = none := fun a h => by
  cases e : Kn1 a with
  | none => rfl
  | some u =>
    rcases t.nk a (kn a h) (by rw [e]; exact fun z => nomatch z) with z | z
    · exact (sep a h z).elim
    · obtain ⟨o, e⟩ := dom a h; rw [z] at e; cases e
/-- a whole frame of slots stays, while other code runs -/
theorem SI.past (S : SI G Kn H σ ρ Lf) (t : Tr Kn H L Kn1 H1 L1) (sep : ∀ a, U Lf a → ¬ L a) (le : Le Kn1 H1) : SI G Kn1 H1 σ ρ Lf where
  le := le
  len := S.len
  at_ := fun i d k e => by
    obtain ⟨v, e1, w⟩ := S.at_ i d k e
    exact ⟨v, e1, w.past t fun a h => sep a ⟨i, h⟩⟩
  off := S.off
  dj := S.dj
  kn := kn_past t (fun a h => let ⟨o, e, _⟩ := S.dom h; ⟨o, e⟩) sep S.kn
  pl := t.pl S.pl

/-- the knowledge of Kn and of L -/
def plus (Kn H : Hp) (P : Ft) [DecidablePred P] : Hp := fun a => if P a then H a else Kn a
noncomputable def plusC (Kn H : Hp) (P : Ft) : Hp := by
  classical
  exact fun a => if P a then H a else Kn a
theorem plusC_in {P : Ft} {a : Addr} (h : P a) : plusC Kn H P a = H a := by
  classical
  unfold plusC
  simp only [if_pos h]
theorem plusC_out {P : Ft} {a : Addr} (h : ¬ P a) : plusC Kn H P a = Kn a := by
  classical
  unfold plusC
  simp only [if_neg h]
theorem plusC_kn {P : Ft} (h : ∀ a, P a → Kn a = none) : ∀ a u, Kn a = some u → plusC Kn H P a = some u := fun a u e => by
  have : ¬ P a := fun z => by rw [h a z] at e; cases e
  rw [plusC_out this]
  exact e
theorem plusC_le {P : Ft} (le : Le Kn H) : Le (plusC Kn H P) H := ⟨fun a u r => by
  by_cases h : P a
  · unfold Rd at r
    rw [plusC_in h] at r
    exact r
  · unfold Rd at r
    rw [plusC_out h] at r
    exact le.rd a u r, fun a vs r => by
  by_cases h : P a
  · rw [plusC_in h] at r
    exact r
  · rw [plusC_out h] at r
    exact le.tp a vs r⟩
/-- P is made known: a step -/
theorem Tr.know {P : Ft} (hP : ∀ a, P a → L a) (hk : ∀ a, P a → Kn a = none) (hm : ∀ a, L a → ∃ o, H a = some o ∧ Mut (some o)) : Tr Kn H L (plusC Kn H P) H (fun a => L a ∧ ¬ P a) where
  kn := plusC_kn hk
  nk := fun a h n => by
    by_cases z : P a
    · exact .inl (hP a z)
    · rw [plusC_out z] at n; exact (n h).elim
  keep := fun _ _ h _ => h
  nl := fun a h => .inl h.1
  pl := fun h a o u e => by
    by_cases z : P a
    · rw [plusC_in z] at e
      obtain ⟨o', e', m⟩ := hm a (hP a z)
      rw [e'] at e; cases e; exact m
    · rw [plusC_out z] at e; exact h a o u e

/-- slot i is told anew -/
def put (Lf : Nat → Ft) (i : Nat) (L : Ft) : Nat → Ft := fun j => if j = i then L else Lf j
theorem put_same {Lf : Nat → Ft} {i : Nat} {L : Ft} : put Lf i L i = L := by simp [put]
theorem put_ne {Lf : Nat → Ft} {i j : Nat} {L : Ft} (h : j ≠ i) : put Lf i L j = Lf j := by simp [put, h]
theorem U_put {Lf : Nat → Ft} {i : Nat} {L : Ft} {a : Addr} (h : U (put Lf i L) a) : L a ∨ ∃ j, j ≠ i ∧ Lf j a := by
  obtain ⟨j, h⟩ := h
  by_cases e : j = i
  · subst e; rw [put_same] at h; exact .inl h
  · rw [put_ne e] at h; exact .inr ⟨j, e, h⟩
theorem SI.bare (S : SI G Kn H σ ρ Lf) {i : Nat} {L : Ft} (hi : ρ.length ≤ i) : ∀ a, ¬ Lf i a := S.off i fun d k e => by
  rw [List.getElem?_eq_none_iff.mpr hi] at e; cases e
/-- a slot stored: the value v with its own nodes L, apart from the others -/
theorem SI.set (S : SI G Kn H σ ρ Lf) {i : Nat} {d : D} {k : Nat} {v : V} {L : Ft} (hi : i < ρ.length) (hs : i < σ.length) (w : Ow G Kn H k d v L) (sep : ∀ a, L a → ¬ U Lf a) (hk : ∀ a, L a → Kn a = none) :
    SI G Kn H (σ.set i (some v)) (ρ.set i (some (d, k))) (put Lf i L) where
  le := S.le
  len := by simp [S.len]
  at_ := fun j e m q => by
    by_cases h : j = i
    · subst h
      rw [List.getElem?_set_self hi] at q
      cases q
      rw [put_same]
      exact ⟨v, List.getElem?_set_self hs, w⟩
    · rw [List.getElem?_set_ne (Ne.symm h)] at q
      obtain ⟨u, e1, w1⟩ := S.at_ j e m q
      rw [put_ne h]
      exact ⟨u, by rw [List.getElem?_set_ne (Ne.symm h)]; exact e1, w1⟩
  off := fun j n a => by
    by_cases h : j = i
    · subst h
      exact (n d k (List.getElem?_set_self hi)).elim
    · rw [put_ne h]
      exact S.off j (fun e m q => n e m (by rw [List.getElem?_set_ne (Ne.symm h)]; exact q)) a
  dj := fun j l a hjl hj hl => by
    by_cases h : j = i
    · subst h
      rw [put_same] at hj
      rw [put_ne (Ne.symm hjl)] at hl
      exact sep a hj ⟨l, hl⟩
    · rw [put_ne h] at hj
      by_cases h' : l = i
      · subst h'
        rw [put_same] at hl
        exact sep a hl ⟨j, hj⟩
      · rw [put_ne h'] at hl
        exact S.dj j l a hjl hj hl
  kn := fun a h => by
    rcases U_put h with z | ⟨j, _, z⟩
    · exact hk a z
    · exact S.kn a ⟨j, z⟩
  pl := S.pl
/-- slot i alone changes, its value as it was: the others are kept by t -/
theorem SI.alter (S : SI G Kn H σ ρ Lf) {i : Nat} {d : D} {k : Nat} {v : V} {L : Ft} (hi : i < ρ.length) (hv : σ[i]? = some (some v)) (t : Tr Kn H (Lf i) Kn1 H1 L) (w : Ow G Kn1 H1 k d v L) (hk : ∀ a, L a → Kn1 a = none) (le : Le Kn1 H1) :
    SI G Kn1 H1 σ (ρ.set i (some (d, k))) (put Lf i L) ∧ Tr Kn H (U Lf) Kn1 H1 (U (put Lf i L)) := by
  have oth : ∀ j, j ≠ i → ∀ a, Lf j a → ¬ Lf i a := fun j h a hj hi => S.dj j i a h hj hi
  have dom : ∀ j, ∀ a, Lf j a → ∃ o, H a = some o := fun j a h => let ⟨o, e, _⟩ := S.dom ⟨j, h⟩; ⟨o, e⟩
  refine ⟨⟨le, by simp [S.len], fun j e m q => ?_, fun j n a => ?_, fun j l a hjl hj hl => ?_, fun a h => ?_, t.pl S.pl⟩, ?_⟩
  · by_cases h : j = i
    · subst h
      rw [List.getElem?_set_self hi] at q
      cases q
      rw [put_same]
      exact ⟨v, hv, w⟩
    · rw [List.getElem?_set_ne (Ne.symm h)] at q
      obtain ⟨u, e1, w1⟩ := S.at_ j e m q
      rw [put_ne h]
      exact ⟨u, e1, w1.past t (oth j h)⟩
  · by_cases h : j = i
    · subst h
      exact (n d k (List.getElem?_set_self hi)).elim
    · rw [put_ne h]
      exact S.off j (fun e m q => n e m (by rw [List.getElem?_set_ne (Ne.symm h)]; exact q)) a
  · by_cases h : j = i
    · subst h
      rw [put_same] at hj
      rw [put_ne (Ne.symm hjl)] at hl
      exact sep_past t (dom l) (oth l (Ne.symm hjl)) a hl hj
    · rw [put_ne h] at hj
      by_cases h' : l = i
      · subst h'
        rw [put_same] at hl
        exact sep_past t (dom j) (oth j h) a hj hl
      · rw [put_ne h'] at hl
        exact S.dj j l a hjl hj hl
  · rcases U_put h with z | ⟨j, hj, z⟩
    · exact hk a z
    · exact kn_past t (dom j) (oth j hj) (fun a q => S.kn a ⟨j, q⟩) a z
  · refine ⟨t.kn, fun a h n => (t.nk a h n).elim (fun z => .inl ⟨i, z⟩) .inr, fun a o h hl => t.keep a o h fun z => hl ⟨i, z⟩, fun a h => ?_, t.pl⟩
    rcases U_put h with z | ⟨j, _, z⟩
    · exact (t.nl a z).elim (fun z => .inl ⟨i, z⟩) .inr
    · exact .inl ⟨j, z⟩
/-- slot i is forgotten: what it owned is loose -/
theorem SI.drop (S : SI G Kn H σ ρ Lf) (i : Nat) : SI G Kn H σ (ρ.set i none) (put Lf i No) where
  le := S.le
  len := by simp [S.len]
  at_ := fun j e m q => by
    by_cases h : j = i
    · subst h
      by_cases hi : j < ρ.length
      · rw [List.getElem?_set_self hi] at q; cases q
      · rw [List.getElem?_eq_none_iff.mpr (by simpa using hi)] at q; cases q
    · rw [List.getElem?_set_ne (Ne.symm h)] at q
      rw [put_ne h]
      exact S.at_ j e m q
  off := fun j n a => by
    by_cases h : j = i
    · subst h; rw [put_same]; exact fun z => z
    · rw [put_ne h]
      exact S.off j (fun e m q => n e m (by rw [List.getElem?_set_ne (Ne.symm h)]; exact q)) a
  dj := fun j l a hjl hj hl => by
    by_cases h : j = i
    · subst h; rw [put_same] at hj; exact hj
    · rw [put_ne h] at hj
      by_cases h' : l = i
      · subst h'; rw [put_same] at hl; exact hl
      · rw [put_ne h'] at hl
        exact S.dj j l a hjl hj hl
  kn := fun a h => by
    rcases U_put h with z | ⟨j, _, z⟩
    · exact z.elim
    · exact S.kn a ⟨j, z⟩
  pl := S.pl
theorem U_drop {Lf : Nat → Ft} {i : Nat} {a : Addr} (h : U (put Lf i No) a) : U Lf a := by
  rcases U_put h with z | ⟨j, _, z⟩
  · exact z.elim
  · exact ⟨j, z⟩
/-- a slot is frozen -/
theorem SI.freeze (S : SI G Kn H σ ρ Lf) {i : Nat} {d : D} {k : Nat} (e : ρ[i]? = some (some (d, k))) : ∃ Kn1 v, σ[i]? = some (some v) ∧ Fr G Kn1 d v ∧ SI G Kn1 H σ (ρ.set i (some (d, 0))) (put Lf i No) ∧ Tr Kn H (U Lf) Kn1 H (U (put Lf i No)) := by
  obtain ⟨v, hv, w⟩ := S.at_ i d k e
  have hi : i < ρ.length := (List.getElem?_eq_some_iff.mp e).1
  have hk : ∀ a, Lf i a → Kn a = none := fun a h => S.kn a ⟨i, h⟩
  have t0 : Tr Kn H (Lf i) (plusC Kn H (Lf i)) H No := (Tr.know (L := Lf i) (P := Lf i) (fun _ h => h) hk w.dom).less fun _ z => z.elim
  have f : Fr G (plusC Kn H (Lf i)) d v := w.freeze (plusC_kn hk) fun a o l e => by rw [plusC_in l]; exact e
  obtain ⟨S', t⟩ := S.alter (k := 0) hi hv t0 ⟨f, fun _ z => z⟩ (fun _ z => z.elim) (plusC_le S.le)
  exact ⟨_, v, hv, f, S', t⟩
end
end DL
end
section
set_option Elab.async false
set_option linter.all false
set_option maxRecDepth 100000
/-! DL: what expressions tell. -/
namespace DL
open PySem PySem.Spec PyProof.Rows L2

/-- an exception -/
structure Exn where
  C : Str
  ks : List Str
  xs : List D
inductive Out (α : Type) where
  | ok (a : α) (ρ : Rho) | exc (x : Exn) (ρ : Rho) | bad
abbrev ME := Rho → Out Val
def bindO {α β : Type} (x : Out α) (f : α → Rho → Out β) : Out β :=
  match x with
  | .ok a ρ => f a ρ
  | .exc x ρ => .exc x ρ
  | .bad => .bad
@[simp] theorem bindO_ok {α β : Type} (a : α) (ρ : Rho) (f : α → Rho → Out β) : bindO (.ok a ρ) f = f a ρ := rfl
@[simp] theorem bindO_exc {α β : Type} (x : Exn) (ρ : Rho) (f : α → Rho → Out β) : bindO (.exc x ρ) f = .exc x ρ := rfl
@[simp] theorem bindO_bad {α β : Type} (f : α → Rho → Out β) : bindO .bad f = .bad := rfl

/-- an exception's class, its own dict -/
def XR (G : Gd) (H : Hp) (x : Exn) (c : Value) (dx : Option Addr) : Prop := ∃ C, G.mg x.C = some (.ref C) ∧ c = .ref C ∧
  match dx with
  | none => x.ks = []
  | some d => ∃ vs, H d = some (.xd (x.ks.zip vs)) ∧ x.ks.length = vs.length ∧ Frs G H x.xs vs
/-- what is wanted of an exception -/
def XW (G : Gd) (W : WX) (Kn H : Hp) (L : Ft) (σ : L2.St) (x : Exn) (ρ' : Rho) : Prop :=
  ∀ Kn' H' Lf' c dx, SI G Kn' H' σ ρ' Lf' → XR G H' x c dx → Tr Kn H L Kn' H' (U Lf') → W c dx σ H'
/-- what is wanted of a value -/
def VW (G : Gd) (Q : VK) (Kn H : Hp) (L : Ft) (σ : L2.St) (r : Val) (ρ' : Rho) : Prop :=
  ∀ Kn' H' Lf' v M, SI G Kn' H' σ ρ' Lf' → Ow G Kn' H' r.2 r.1 v M → (∀ a, M a → ¬ U Lf' a) → (∀ a, M a → Kn' a = none) → Tr Kn H L Kn' H' (Jn (U Lf') M) → Q v H'
/-- an expression's reading -/
def TEd (G : Gd) (W : WX) (m : ME) : TE := fun σ H Q => ∃ Kn ρ Lf, SI G Kn H σ ρ Lf ∧
  match m ρ with
  | .ok r ρ' => VW G Q Kn H (U Lf) σ r ρ'
  | .exc x ρ' => XW G W Kn H (U Lf) σ x ρ'
  | .bad => False
/-- a test's -/
abbrev MT := Rho → Out Bool
def TTd (G : Gd) (W : WX) (m : MT) : TT := fun σ H Q => ∃ Kn ρ Lf, SI G Kn H σ ρ Lf ∧
  match m ρ with
  | .ok b ρ' => ∀ Kn' H' Lf', SI G Kn' H' σ ρ' Lf' → Tr Kn H (U Lf) Kn' H' (U Lf') → Q b H'
  | .exc x ρ' => XW G W Kn H (U Lf) σ x ρ'
  | .bad => False

/-- operands: a name is looked at when all others have been reckoned -/
inductive Opn where
  | nm (i : Nat) | ex (m : ME)
def TOd (G : Gd) (W : WX) : Opn → TE
  | .nm i => tVar i
  | .ex m => TEd G W m
def evO (o : Opn) (ρ : Rho) : Out (Option D) :=
  match o with
  | .nm i => match ρ[i]? with
    | some (some _) => .ok none ρ
    | _ => .bad
  | .ex m => bindO (m ρ) fun r ρ' => .ok (some r.1) ρ'
def evOs : List Opn → Rho → Out (List (Option D))
  | [], ρ => .ok [] ρ
  | o :: os, ρ => bindO (evO o ρ) fun t ρ1 => bindO (evOs os ρ1) fun ts ρ2 => .ok (t :: ts) ρ2
/-- a name's slot keeps one level at most -/
def cap (i : Nat) (ρ : Rho) : Rho :=
  match ρ[i]? with
  | some (some (d, k)) => if k ≤ 1 then ρ else ρ.set i (some (d, 1))
  | _ => ρ
def lookO (o : Opn) (t : Option D) (ρ : Rho) : Option (D × Rho) :=
  match o, t with
  | .nm i, _ => match ρ[i]? with
    | some (some (d, _)) => some (d, cap i ρ)
    | _ => none
  | .ex _, some d => some (d, ρ)
  | .ex _, none => none
def lookOs : List Opn → List (Option D) → Rho → Option (List D × Rho)
  | [], _, ρ => some ([], ρ)
  | o :: os, t :: ts, ρ => match lookO o t ρ with
    | some (d, ρ1) => match lookOs os ts ρ1 with
      | some (ds, ρ2) => some (d :: ds, ρ2)
      | none => none
    | none => none
  | _ :: _, [], _ => none
def fin (f : List D → Option Val) (os : List Opn) (ts : List (Option D)) (ρ : Rho) : Out Val :=
  match lookOs os ts ρ with
  | some (ds, ρ2) => match f ds with
    | some r => .ok r ρ2
    | none => .bad
  | none => .bad
/-- an operation by values -/
def opN (os : List Opn) (f : List D → Option Val) : ME := fun ρ => bindO (evOs os ρ) fun ts ρ1 => fin f os ts ρ1

/-- its top can be read, its parts are known -/
def Tp (G : Gd) (Kn H : Hp) (d : D) (v : V) : Prop := Fr G Kn d v ∨ ∃ a o ds vs, v = .ref a ∧ H a = some o ∧ Own G d o ds vs ∧ Frs G Kn ds vs
inductive Tps (G : Gd) (Kn H : Hp) : List D → List V → Prop
  | nil : Tps G Kn H [] []
  | cons {d : D} {ds : List D} {v : V} {vs : List V} : Tp G Kn H d v → Tps G Kn H ds vs → Tps G Kn H (d :: ds) (v :: vs)
section
variable {G : Gd} {Kn H Kn1 H1 Kn2 H2 : Hp} {L L1 M F : Ft} {σ : L2.St} {ρ ρ1 ρ2 : Rho} {Lf Lf1 : Nat → Ft}
theorem Tp.kn (kn : ∀ a u, Kn a = some u → Kn1 a = some u) {d : D} {v : V} (h : Tp G Kn H d v) : Tp G Kn1 H d v := by
  rcases h with h | ⟨a, o, ds, vs, rfl, e, w, hs⟩
  · exact .inl (h.mono (Le.of_sub kn))
  · exact .inr ⟨a, o, ds, vs, rfl, e, w, hs.mono (Le.of_sub kn)⟩
theorem Tps.kn (kn : ∀ a u, Kn a = some u → Kn1 a = some u) : ∀ {ds : List D} {vs : List V}, Tps G Kn H ds vs → Tps G Kn1 H ds vs
  | _, _, .nil => .nil
  | _, _, .cons h t => .cons (h.kn kn) (Tps.kn kn t)
theorem Tp.fr (le : Le Kn H) {d : D} {v : V} (h : Tp G Kn H d v) : Fr G H d v := by
  rcases h with h | ⟨a, o, ds, vs, rfl, e, w, hs⟩
  · exact h.mono le
  · exact w.fr (.inl e) (hs.mono le)
theorem Ow.tp {k : Nat} {d : D} {v : V} {L : Ft} (w : Ow G Kn H k d v L) (hk : k ≤ 1) : Tp G Kn H d v := by
  cases k with
  | zero => exact .inl w.1
  | succ k =>
    have : k = 0 := by omega
    subst this
    rcases w with h | ⟨a, o, ds, vs, Lc, rfl, ho, w, hc, _⟩
    · exact .inl h.2.1
    · refine .inr ⟨a, o, ds, vs, rfl, ho, w, Frs.of_get w.len fun i d' q => ?_⟩
      obtain ⟨u, h1, h2⟩ := hc i d' q
      exact ⟨u, h1, h2.1⟩
/-- below its top all is made known -/
theorem Ow.cap {k : Nat} {d : D} {v : V} {L : Ft} (w : Ow G Kn H (k + 1) d v L) (hk : ∀ a, L a → Kn a = none) : ∃ P : Ft, (∀ a, P a → L a) ∧ Ow G (plusC Kn H P) H 1 d v (fun a => L a ∧ ¬ P a) := by
  rcases w with h | ⟨a, o, ds, vs, Lc, rfl, ho, w, hc, dj, na, hL⟩
  · exact ⟨No, fun _ z => z.elim, .inl ⟨h.1, h.2.1.mono (Le.of_sub (plusC_kn fun _ z => z.elim)), fun a z => h.2.2 a z.1⟩⟩
  · refine ⟨fun x => L x ∧ x ≠ a, fun _ z => z.1, .inr ⟨a, o, ds, vs, fun _ => No, rfl, ho, w, fun i d' q => ?_, fun _ _ _ _ z => z.elim, fun _ z => z, fun x => ?_⟩⟩
    · obtain ⟨u, h1, h2⟩ := hc i d' q
      have hi : i < ds.length := (List.getElem?_eq_some_iff.mp q).1
      refine ⟨u, h1, h2.freeze (plusC_kn fun a z => hk a z.1) fun b o' l e => ?_, fun _ z => z⟩
      have hb : L b ∧ b ≠ a := ⟨(hL b).mpr (.inr ⟨i, hi, l⟩), fun z => na i (z ▸ l)⟩
      rw [plusC_in hb]
      exact e
    · constructor
      · intro z
        by_cases hx : x = a
        · exact .inl hx
        · exact (z.2 ⟨z.1, hx⟩).elim
      · intro z
        rcases z with rfl | ⟨_, _, z⟩
        · exact ⟨(hL x).mpr (.inl rfl), fun q => q.2 rfl⟩
        · exact z.elim
theorem SI.cap (S : SI G Kn H σ ρ Lf) {i : Nat} {d : D} {k : Nat} (e : ρ[i]? = some (some (d, k))) : ∃ Kn1 Lf1 v, σ[i]? = some (some v) ∧ Tp G Kn1 H d v ∧ SI G Kn1 H σ (DL.cap i ρ) Lf1 ∧ Tr Kn H (U Lf) Kn1 H (U Lf1) := by
  obtain ⟨v, hv, w⟩ := S.at_ i d k e
  have hi : i < ρ.length := (List.getElem?_eq_some_iff.mp e).1
  unfold DL.cap
  rw [e]
  by_cases hk : k ≤ 1
  · simp only [if_pos hk]
    exact ⟨Kn, Lf, v, hv, w.tp hk, S, .refl⟩
  · simp only [if_neg hk]
    obtain ⟨k, rfl⟩ : ∃ j, k = j + 1 := ⟨k - 1, by omega⟩
    have kn : ∀ a, Lf i a → Kn a = none := fun a h => S.kn a ⟨i, h⟩
    obtain ⟨P, hP, w1⟩ := w.cap kn
    have t0 := Tr.know (H := H) (L := Lf i) hP (fun a z => kn a (hP a z)) w.dom
    obtain ⟨S', t⟩ := S.alter (k := 1) hi hv t0 w1 (fun a z => by rw [plusC_out z.2]; exact kn a z.1) (plusC_le S.le)
    exact ⟨_, _, v, hv, w1.tp (Nat.le_refl _), S', t⟩

/-- operands that were reckoned, the names among them not looked at yet -/
inductive Held (G : Gd) (Kn H : Hp) (σ : L2.St) : List Opn → List (Option D) → List V → Ft → Prop
  | nil : Held G Kn H σ [] [] [] No
  | nm {i : Nat} {t : Option D} {v : V} {os : List Opn} {ts : List (Option D)} {vs : List V} {F : Ft} : σ[i]? = some (some v) → Held G Kn H σ os ts vs F → Held G Kn H σ (.nm i :: os) (t :: ts) (v :: vs) F
  | ex {m : ME} {d : D} {k : Nat} {v : V} {L : Ft} {os : List Opn} {ts : List (Option D)} {vs : List V} {F : Ft} : Ow G Kn H k d v L → (∀ a, L a → Kn a = none) → (∀ a, L a → ¬ F a) → Held G Kn H σ os ts vs F →
      Held G Kn H σ (.ex m :: os) (some d :: ts) (v :: vs) (Jn L F)
theorem Held.dom : ∀ {os : List Opn} {ts : List (Option D)} {vs : List V} {F : Ft}, Held G Kn H σ os ts vs F → ∀ a, F a → ∃ o, H a = some o
  | _, _, _, _, .nil, _, z => z.elim
  | _, _, _, _, .nm _ h, a, z => Held.dom h a z
  | _, _, _, _, .ex w _ _ h, a, z => z.elim (fun z => let ⟨o, e, _⟩ := w.dom a z; ⟨o, e⟩) (Held.dom h a)
theorem Held.kn : ∀ {os : List Opn} {ts : List (Option D)} {vs : List V} {F : Ft}, Held G Kn H σ os ts vs F → ∀ a, F a → Kn a = none
  | _, _, _, _, .nil, _, z => z.elim
  | _, _, _, _, .nm _ h, a, z => Held.kn h a z
  | _, _, _, _, .ex _ k _ h, a, z => z.elim (k a) (Held.kn h a)
theorem Held.past (t : Tr Kn H L Kn1 H1 L1) : ∀ {os : List Opn} {ts : List (Option D)} {vs : List V} {F : Ft}, Held G Kn H σ os ts vs F → (∀ a, F a → ¬ L a) → Held G Kn1 H1 σ os ts vs F
  | _, _, _, _, .nil, _ => .nil
  | _, _, _, _, .nm e h, s => .nm e (Held.past t h s)
  | _, _, _, _, .ex w k d h, s => .ex (w.past t fun a z => s a (.inl z)) (kn_past t (fun a z => let ⟨o, e, _⟩ := w.dom a z; ⟨o, e⟩) (fun a z => s a (.inl z)) k) d (Held.past t h fun a z => s a (.inr z))
theorem Held.snoc_nm {i : Nat} {t' : Option D} {v : V} (e : σ[i]? = some (some v)) : ∀ {os : List Opn} {ts : List (Option D)} {vs : List V} {F : Ft}, Held G Kn H σ os ts vs F → Held G Kn H σ (os ++ [.nm i]) (ts ++ [t']) (vs ++ [v]) F
  | _, _, _, _, .nil => .nm e .nil
  | _, _, _, _, .nm e' h => .nm e' (Held.snoc_nm e h)
  | _, _, _, _, .ex w k d h => .ex w k d (Held.snoc_nm e h)
theorem Held.snoc_ex {m : ME} {d : D} {k : Nat} {v : V} {L : Ft} (w : Ow G Kn H k d v L) (hk : ∀ a, L a → Kn a = none) : ∀ {os : List Opn} {ts : List (Option D)} {vs : List V} {F : Ft}, Held G Kn H σ os ts vs F → (∀ a, L a → ¬ F a) →
    ∃ F', (∀ a, F' a ↔ Jn F L a) ∧ Held G Kn H σ (os ++ [.ex m]) (ts ++ [some d]) (vs ++ [v]) F'
  | _, _, _, _, .nil, _ => ⟨Jn L No, fun a => ⟨fun z => z.elim .inr .inl, fun z => z.elim .inr .inl⟩, .ex w hk (fun _ _ z => z) .nil⟩
  | _, _, _, _, .nm e' h, s => let ⟨F', e, h'⟩ := Held.snoc_ex w hk h s; ⟨F', e, .nm e' h'⟩
  | _, _, _, _, .ex (L := L') (F := F0) w' k' d' h, s => by
    obtain ⟨F', e, h'⟩ := Held.snoc_ex w hk h fun a z q => s a z (.inr q)
    refine ⟨Jn L' F', fun a => ?_, .ex w' k' (fun a z q => ?_) h'⟩
    · constructor
      · rintro (z | z)
        · exact .inl (.inl z)
        · exact ((e a).mp z).elim (fun z => .inl (.inr z)) .inr
      · rintro ((z | z) | z)
        · exact .inl z
        · exact .inr ((e a).mpr (.inl z))
        · exact .inr ((e a).mpr (.inr z))
    · exact ((e a).mp q).elim (d' a z) fun q => s a q (.inl z)

/-- all are looked at -/
theorem Held.look : ∀ {os : List Opn} {ts : List (Option D)} {vs : List V} {F : Ft} {Kn : Hp} {ρ : Rho} {Lf : Nat → Ft} {ds : List D} {ρ2 : Rho}, Held G Kn H σ os ts vs F → SI G Kn H σ ρ Lf → (∀ a, F a → ¬ U Lf a) → lookOs os ts ρ = some (ds, ρ2) →
    ∃ Kn2 Lf2, SI G Kn2 H σ ρ2 Lf2 ∧ Tps G Kn2 H ds vs ∧ Tr Kn H (Jn (U Lf) F) Kn2 H (U Lf2)
  | _, _, _, _, Kn, ρ, Lf, ds, ρ2, .nil, S, _, e => by
    simp only [lookOs, Option.some.injEq, Prod.mk.injEq] at e
    obtain ⟨rfl, rfl⟩ := e
    exact ⟨Kn, Lf, S, .nil, Tr.refl.less fun a z => .inl z⟩
  | _, _, _, F, Kn, ρ, Lf, ds, ρ2, .nm (i := i) hv h, S, sep, e => by
    simp only [lookOs, lookO] at e
    cases e1 : ρ[i]? with
    | none => rw [e1] at e; cases e
    | some x =>
      cases x with
      | none => rw [e1] at e; cases e
      | some p =>
        obtain ⟨d, k⟩ := p
        rw [e1] at e
        simp only at e
        obtain ⟨Kn1, Lf1, v', hv', tp, S1, t1⟩ := S.cap e1
        rw [hv] at hv'; cases hv'
        cases e2 : lookOs _ _ (DL.cap i ρ) with
        | none => rw [e2] at e; cases e
        | some q =>
          obtain ⟨ds', ρ'⟩ := q
          rw [e2] at e
          simp only [Option.some.injEq, Prod.mk.injEq] at e
          obtain ⟨rfl, rfl⟩ := e
          have dom := h.dom
          obtain ⟨Kn2, Lf2, S2, tps, t2⟩ := Held.look (h.past t1 sep) S1 (sep_past t1 dom sep) e2
          exact ⟨Kn2, Lf2, S2, .cons (tp.kn t2.kn) tps, (t1.frame F).trans t2⟩
  | _, _, _, _, Kn, ρ, Lf, ds, ρ2, .ex (m := m) (d := d) (k := k) (v := v) (L := L) (F := F) w hk dj h, S, sep, e => by
    simp only [lookOs, lookO] at e
    cases e2 : lookOs _ _ ρ with
    | none => rw [e2] at e; cases e
    | some q =>
      obtain ⟨ds', ρ'⟩ := q
      rw [e2] at e
      simp only [Option.some.injEq, Prod.mk.injEq] at e
      obtain ⟨rfl, rfl⟩ := e
      -- the value is capped
      obtain ⟨Kn1, L', tp, t0, le1⟩ : ∃ Kn1 L', Tp G Kn1 H d v ∧ Tr Kn H L Kn1 H L' ∧ Le Kn1 H := by
        cases k with
        | zero => exact ⟨Kn, L, w.tp (by omega), .refl, S.le⟩
        | succ k =>
          obtain ⟨P, hP, w1⟩ := w.cap hk
          exact ⟨_, _, w1.tp (Nat.le_refl _), Tr.know hP (fun a z => hk a (hP a z)) w.dom, plusC_le S.le⟩
      have sL : ∀ a, U Lf a → ¬ L a := fun a z q => sep a (.inl q) z
      have sF : ∀ a, F a → ¬ L a := fun a z q => dj a q z
      have S1 : SI G Kn1 H σ ρ Lf := S.past t0 sL le1
      obtain ⟨Kn2, Lf2, S2, tps, t2⟩ := Held.look (h.past t0 sF) S1 (fun a z q => sep a (.inr z) q) e2
      refine ⟨Kn2, Lf2, S2, .cons (tp.kn t2.kn) tps, ?_⟩
      refine ((t0.frame (Jn (U Lf) F)).eqv (M := Jn (U Lf) (Jn L F)) (M1 := Jn L' (Jn (U Lf) F)) (fun a => ?_) fun a => Iff.rfl).trans (t2.more fun a z => .inr z)
      constructor
      · rintro (z | z | z)
        · exact .inr (.inl z)
        · exact .inl z
        · exact .inr (.inr z)
      · rintro (z | z | z)
        · exact .inr (.inl z)
        · exact .inl z
        · exact .inr (.inr z)

/-- what is wanted of what an operation makes -/
def Post (G : Gd) (Kn H : Hp) (r : Val) (Q : VK) : Prop := ∀ Kn' H' v L, Tr Kn H No Kn' H' L → Le Kn' H' → Ow G Kn' H' r.2 r.1 v L → (∀ a, L a → Kn' a = none) → Q v H'
/-- the operands are there, the operation is possible -/
def Rdy (G : Gd) (f : List D → Option Val) (vs : List V) (H : Hp) (Q : VK) : Prop := ∃ Kn ds r, Le Kn H ∧ Tps G Kn H ds vs ∧ f ds = some r ∧ Post G Kn H r Q
/-- the operands' reading, one after another -/
def TOs (G : Gd) (W : WX) : List Opn → TA
  | [] => tNil
  | o :: os => tCons (TOd G W o) (TOs G W os)
/-- what is wanted of an outcome -/
def OW (G : Gd) (W : WX) (Q : VK) (Kn H : Hp) (L : Ft) (σ : L2.St) (o : Out Val) : Prop :=
  match o with
  | .ok r ρ' => VW G Q Kn H L σ r ρ'
  | .exc x ρ' => XW G W Kn H L σ x ρ'
  | .bad => False
theorem XW.past {W : WX} {x : Exn} {ρ' : Rho} (h : XW G W Kn H L σ x ρ') (t : Tr Kn H L Kn1 H1 L1) (hm : ∀ a, M a → L1 a) : XW G W Kn1 H1 M σ x ρ' := fun Kn' H' Lf' c dx S r u => h Kn' H' Lf' c dx S r (t.trans (u.more hm))
theorem VW.past {Q : VK} {r : Val} {ρ' : Rho} (h : VW G Q Kn H L σ r ρ') (t : Tr Kn H L Kn1 H1 L1) (hm : ∀ a, M a → L1 a) : VW G Q Kn1 H1 M σ r ρ' := fun Kn' H' Lf' v N S w s k u => h Kn' H' Lf' v N S w s k (t.trans (u.more hm))
theorem OW.past {W : WX} {Q : VK} {o : Out Val} (h : OW G W Q Kn H L σ o) (t : Tr Kn H L Kn1 H1 L1) (hm : ∀ a, M a → L1 a) : OW G W Q Kn1 H1 M σ o := by
  cases o with
  | ok r ρ' => exact VW.past h t hm
  | exc x ρ' => exact XW.past h t hm
  | bad => exact h
/-- one operand is reckoned -/
theorem evO_run {W : WX} {o : Opn} {R : VK} (S : SI G Kn H σ ρ Lf) (hb : evO o ρ ≠ .bad) (hx : ∀ x ρ', evO o ρ = .exc x ρ' → XW G W Kn H (U Lf) σ x ρ')
    (h : ∀ t ρ1, evO o ρ = .ok t ρ1 → ∀ Kn1 H1 Lf1 v F, SI G Kn1 H1 σ ρ1 Lf1 → Held G Kn1 H1 σ [o] [t] [v] F → (∀ a, F a → ¬ U Lf1 a) → Tr Kn H (U Lf) Kn1 H1 (Jn (U Lf1) F) → R v H1) : TOd G W o σ H R := by
  cases o with
  | nm i =>
    simp only [evO] at hb h
    cases e : ρ[i]? with
    | none => rw [e] at hb; exact (hb rfl).elim
    | some x =>
      cases x with
      | none => rw [e] at hb; exact (hb rfl).elim
      | some p =>
        rw [e] at h
        obtain ⟨v, hv, _⟩ := S.at_ i p.1 p.2 e
        exact ⟨v, hv, h none ρ rfl Kn H Lf v No S (.nm hv .nil) (fun _ z => z.elim) (Tr.refl.less fun a z => z.elim (fun z => z) fun z => z.elim)⟩
  | ex m =>
    refine ⟨Kn, ρ, Lf, S, ?_⟩
    simp only [evO] at hb hx h
    cases e : m ρ with
    | bad => rw [e] at hb; exact (hb rfl).elim
    | exc x ρ' => rw [e] at hx; exact hx x ρ' rfl
    | ok r ρ1 =>
      rw [e] at h
      intro Kn1 H1 Lf1 v M S1 w s k t
      exact h (some r.1) ρ1 rfl Kn1 H1 Lf1 v (Jn M No) S1 (.ex w k (fun _ _ z => z) .nil) (fun a z => z.elim (s a) fun z => z.elim) (t.less fun a z => z.elim .inl fun z => z.elim .inr fun z => z.elim)
def bindG {α γ : Type} (ex : Exn → Rho → γ) (bd : γ) (x : Out α) (f : α → Rho → γ) : γ :=
  match x with
  | .ok a ρ => f a ρ
  | .exc x ρ => ex x ρ
  | .bad => bd
@[simp] theorem bindG_ok {α γ : Type} (ex : Exn → Rho → γ) (bd : γ) (a : α) (ρ : Rho) (f : α → Rho → γ) : bindG ex bd (.ok a ρ) f = f a ρ := rfl
@[simp] theorem bindG_exc {α γ : Type} (ex : Exn → Rho → γ) (bd : γ) (x : Exn) (ρ : Rho) (f : α → Rho → γ) : bindG ex bd (.exc x ρ) f = ex x ρ := rfl
@[simp] theorem bindG_bad {α γ : Type} (ex : Exn → Rho → γ) (bd : γ) (f : α → Rho → γ) : bindG ex bd .bad f = bd := rfl
/-- all operands, one after another; g: what is done with them; Z: what is wanted of the outcome -/
theorem evOs_gen {γ : Type} {W : WX} {Z : γ → Prop} {ex : Exn → Rho → γ} {bd : γ} {g : List (Option D) → Rho → γ} {Kn0 H0 : Hp} {L0 : Ft} {R : List V → Hp → Prop} (hbd : ¬ Z bd) (hex : ∀ x ρ', Z (ex x ρ') → XW G W Kn0 H0 L0 σ x ρ') : ∀ (os os0 : List Opn) (ts0 : List (Option D)) (vs0 : List V) (F : Ft) (Kn H : Hp) (ρ : Rho) (Lf : Nat → Ft), SI G Kn H σ ρ Lf →
    Held G Kn H σ os0 ts0 vs0 F → (∀ a, F a → ¬ U Lf a) → Tr Kn0 H0 L0 Kn H (Jn (U Lf) F) → Z (bindG ex bd (evOs os ρ) fun ts ρ1 => g (ts0 ++ ts) ρ1) →
    (∀ ts vs F' Kn' H' ρ' Lf', SI G Kn' H' σ ρ' Lf' → Held G Kn' H' σ (os0 ++ os) (ts0 ++ ts) (vs0 ++ vs) F' → (∀ a, F' a → ¬ U Lf' a) → Tr Kn0 H0 L0 Kn' H' (Jn (U Lf') F') → Z (g (ts0 ++ ts) ρ') → R (vs0 ++ vs) H') →
    TOs G W os σ H (fun vs H' => R (vs0 ++ vs) H')
  | [], os0, ts0, vs0, F, Kn, H, ρ, Lf, S, hd, sep, t, ow, k => by
    have k' := k [] [] F Kn H ρ Lf S (by simpa using hd) sep t (by simpa [evOs] using ow)
    exact k'
  | o :: os, os0, ts0, vs0, F, Kn, H, ρ, Lf, S, hd, sep, t, ow, k => by
    show TOd G W o σ H fun v H1 => TOs G W os σ H1 fun vs H2 => R (vs0 ++ v :: vs) H2
    refine evO_run S (fun e => ?_) (fun x ρ' e => ?_) fun t1 ρ1 e Kn1 H1 Lf1 v F1 S1 h1 sep1 tr1 => ?_
    · rw [evOs, e] at ow; exact hbd ow
    · rw [evOs, e] at ow
      exact XW.past (hex _ _ ow) t fun a z => .inl z
    · have hd1 : Held G Kn1 H1 σ os0 ts0 vs0 F := hd.past tr1 sep
      have sF : ∀ a, F a → ¬ Jn (U Lf1) F1 a := sep_past tr1 hd.dom sep
      have ow1 : Z (bindG ex bd (evOs os ρ1) fun ts ρ2 => g ((ts0 ++ [t1]) ++ ts) ρ2) := by
        rw [evOs, e, bindO_ok] at ow
        cases e2 : evOs os ρ1 with
        | bad => rw [e2] at ow; exact ow
        | exc x ρ' => rw [e2] at ow; exact ow
        | ok ts ρ2 =>
          rw [e2] at ow
          simpa using ow
      obtain ⟨F2, eF, hd2⟩ : ∃ F2, (∀ a, F2 a ↔ Jn F F1 a) ∧ Held G Kn1 H1 σ (os0 ++ [o]) (ts0 ++ [t1]) (vs0 ++ [v]) F2 := by
        cases h1 with
        | nm e1 hn =>
          cases hn
          exact ⟨F, fun a => ⟨.inl, fun z => z.elim (fun z => z) fun z => z.elim⟩, hd1.snoc_nm e1⟩
        | ex w kk dj hn =>
          cases hn
          obtain ⟨F2, eF, hd2⟩ := hd1.snoc_ex w kk fun a z q => sF a q (.inr (.inl z))
          exact ⟨F2, fun a => (eF a).trans ⟨fun z => z.elim .inl fun z => .inr (.inl z), fun z => z.elim .inl fun z => z.elim .inr fun z => z.elim⟩, hd2⟩
      have sep2 : ∀ a, F2 a → ¬ U Lf1 a := fun a z q => ((eF a).mp z).elim (fun z => sF a z (.inl q)) fun z => sep1 a z q
      have tr2 : Tr Kn0 H0 L0 Kn1 H1 (Jn (U Lf1) F2) := (t.trans (tr1.frame F)).less fun a z => z.elim (fun z => .inl (.inl z)) fun z => ((eF a).mp z).elim .inr fun z => .inl (.inr z)
      have r := evOs_gen hbd hex os (os0 ++ [o]) (ts0 ++ [t1]) (vs0 ++ [v]) F2 Kn1 H1 ρ1 Lf1 S1 hd2 sep2 tr2 ow1 (R := R) fun ts vs F' Kn' H' ρ' Lf' S' h' s' t' o' => by
        have := k (t1 :: ts) (v :: vs) F' Kn' H' ρ' Lf' S' (by simpa using h') s' t' (by simpa using o')
        simpa using this
      simpa using r
theorem evOs_run {W : WX} {Q : VK} {g : List (Option D) → Rho → Out Val} {Kn0 H0 : Hp} {L0 : Ft} {R : List V → Hp → Prop} (os os0 : List Opn) (ts0 : List (Option D)) (vs0 : List V) (F : Ft) (Kn H : Hp) (ρ : Rho) (Lf : Nat → Ft) (S : SI G Kn H σ ρ Lf)
    (hd : Held G Kn H σ os0 ts0 vs0 F) (sep : ∀ a, F a → ¬ U Lf a) (t : Tr Kn0 H0 L0 Kn H (Jn (U Lf) F)) (ow : OW G W Q Kn0 H0 L0 σ (bindO (evOs os ρ) fun ts ρ1 => g (ts0 ++ ts) ρ1))
    (k : ∀ ts vs F' Kn' H' ρ' Lf', SI G Kn' H' σ ρ' Lf' → Held G Kn' H' σ (os0 ++ os) (ts0 ++ ts) (vs0 ++ vs) F' → (∀ a, F' a → ¬ U Lf' a) → Tr Kn0 H0 L0 Kn' H' (Jn (U Lf') F') → OW G W Q Kn0 H0 L0 σ (g (ts0 ++ ts) ρ') → R (vs0 ++ vs) H') :
    TOs G W os σ H (fun vs H' => R (vs0 ++ vs) H') :=
  evOs_gen (Z := OW G W Q Kn0 H0 L0 σ) (ex := .exc) (bd := .bad) (g := g) (fun z => z) (fun _ _ z => z) os os0 ts0 vs0 F Kn H ρ Lf S hd sep t (by
    cases e2 : evOs os ρ with
    | bad => rw [e2] at ow; exact ow
    | exc x ρ' => rw [e2] at ow; exact ow
    | ok ts ρ2 => rw [e2] at ow; exact ow) k
/-- an operation by values: its operands in a row, then the operation -/
theorem opN_run {W : WX} {os : List Opn} {f : List D → Option Val} {Q : VK} (h : TEd G W (opN os f) σ H Q) : TOs G W os σ H (fun vs H' => Rdy G f vs H' Q) := by
  obtain ⟨Kn, ρ, Lf, S, ow⟩ := h
  have ow' : OW G W Q Kn H (U Lf) σ (opN os f ρ) := ow
  refine evOs_run (R := fun vs H' => Rdy G f vs H' Q) (g := fun ts ρ1 => fin f os ts ρ1) os [] [] [] No Kn H ρ Lf S .nil (fun _ z => z.elim) (Tr.refl.less fun a z => z.elim (fun z => z) fun z => z.elim) ow' fun ts vs F' Kn' H' ρ' Lf' S' h' s' t' o' => ?_
  have o2 : OW G W Q Kn H (U Lf) σ (fin f os ts ρ') := o'
  have h2 : Held G Kn' H' σ os ts vs F' := h'
  unfold fin at o2
  cases e : lookOs os ts ρ' with
  | none => rw [e] at o2; exact o2.elim
  | some q =>
    obtain ⟨ds, ρ2⟩ := q
    rw [e] at o2
    simp only at o2
    cases e3 : f ds with
    | none => rw [e3] at o2; exact o2.elim
    | some r =>
      rw [e3] at o2
      obtain ⟨Kn2, Lf2, S2, tps, t2⟩ := h2.look S' s' e
      refine ⟨Kn2, ds, r, S2.le, tps, e3, fun Kn3 H3 v L t3 le3 w3 k3 => ?_⟩
      have S3 : SI G Kn3 H3 σ ρ2 Lf2 := S2.past t3 (fun _ _ z => z) le3
      have sL : ∀ a, U Lf2 a → ¬ L a := sep_past t3 (fun a z => let ⟨o, e, _⟩ := S2.dom z; ⟨o, e⟩) fun _ _ z => z
      refine o2 Kn3 H3 Lf2 v L S3 w3 (fun a z q => sL a q z) k3 ((t'.trans t2).trans ?_)
      exact (t3.frame (U Lf2)).eqv (fun a => ⟨.inr, fun z => z.elim (fun z => z.elim) fun z => z⟩) fun a => ⟨fun z => z.elim .inr .inl, fun z => z.elim .inr .inl⟩
end
end DL
end
section
set_option Elab.async false
set_option linter.all false
set_option maxRecDepth 100000
/-! DL: rules for expressions. -/
namespace DL
open PySem PySem.Spec PyProof.Rows L2

abbrev gd (X : Cx) : Gd := ⟨X.K, X.mg⟩
def DE (X : Cx) (W : WX) (e : Expr) (m : ME) : Prop := PE X e (TEd (gd X) W m)
def DT (X : Cx) (W : WX) (e : Expr) (m : MT) : Prop := PT X e (TTd (gd X) W m)
def DO (X : Cx) (W : WX) (e : Expr) (o : Opn) : Prop := PE X e (TOd (gd X) W o)
def DA (X : Cx) (W : WX) (es : List Expr) (os : List Opn) : Prop := PA X es (TOs (gd X) W os)

section
variable {X : Cx} {W : WX} {G : Gd}
theorem PE.imp {e : Expr} {t t' : TE} (h : PE X e t) (f : ∀ σ H Q, t' σ H Q → t σ H Q) : PE X e t' := ⟨fun pins s σ H Q I hw => h.run pins s σ H Q I (f σ H Q hw)⟩
theorem PT.imp {e : Expr} {t t' : TT} (h : PT X e t) (f : ∀ σ H Q, t' σ H Q → t σ H Q) : PT X e t' := ⟨fun pins s σ H Q I hw => h.run pins s σ H Q I (f σ H Q hw)⟩
theorem PA.imp {e : List Expr} {t t' : TA} (h : PA X e t) (f : ∀ σ H Q, t' σ H Q → t σ H Q) : PA X e t' := ⟨fun pos pins s σ H Q I hw => h.run pos pins s σ H Q I (f σ H Q hw)⟩
theorem PS.imp {e : Stmt} {t t' : TS} (h : PS X e t) (f : ∀ D σ H, t' D σ H → t D σ H) : PS X e t' := ⟨fun pins s σ H D I hw => h.run pins s σ H D I (f D σ H hw)⟩
theorem PSs.imp {e : List Stmt} {t t' : TS} (h : PSs X e t) (f : ∀ D σ H, t' D σ H → t D σ H) : PSs X e t' := ⟨fun pins s σ H D I hw => h.run pins s σ H D I (f D σ H hw)⟩
theorem PI.imp {tg e : Expr} {t t' : TI} (h : PI X tg e t) (f : ∀ σ H Q, t' σ H Q → t σ H Q) : PI X tg e t' := ⟨fun pins s σ H Q I hw => h.run pins s σ H Q I (f σ H Q hw)⟩

theorem VW.mono {Q Q' : VK} {Kn H : Hp} {L : Ft} {σ : L2.St} {r : Val} {ρ : Rho} (h : ∀ v H, Q v H → Q' v H) (w : VW G Q Kn H L σ r ρ) : VW G Q' Kn H L σ r ρ := fun a b c d e f g i j k => h _ _ (w a b c d e f g i j k)
theorem TEd.mono {m : ME} {σ : L2.St} {H : Hp} {Q Q' : VK} (h : ∀ v H, Q v H → Q' v H) (t : TEd G W m σ H Q) : TEd G W m σ H Q' := by
  obtain ⟨Kn, ρ, Lf, S, o⟩ := t
  refine ⟨Kn, ρ, Lf, S, ?_⟩
  cases e : m ρ with
  | ok r ρ' => rw [e] at o; exact VW.mono h o
  | exc x ρ' => rw [e] at o; exact o
  | bad => rw [e] at o; exact o
theorem TOd.mono {o : Opn} {σ : L2.St} {H : Hp} {Q Q' : VK} (h : ∀ v H, Q v H → Q' v H) (t : TOd G W o σ H Q) : TOd G W o σ H Q' := by
  cases o with
  | nm i => obtain ⟨v, e, q⟩ := t; exact ⟨v, e, h _ _ q⟩
  | ex m => exact TEd.mono h t
theorem TOs.mono : ∀ {os : List Opn} {σ : L2.St} {H : Hp} {Q Q' : List V → Hp → Prop}, (∀ v H, Q v H → Q' v H) → TOs G W os σ H Q → TOs G W os σ H Q'
  | [], _, _, _, _, h, t => h _ _ t
  | _ :: _, _, _, _, _, h, t => TOd.mono (fun _ _ q => TOs.mono (fun _ _ q => h _ _ q) q) t

/-! ### operands -/
theorem do_nm (i : Nat) {x : Str} {pos : Pos} (hN : X.N[i]? = some x := by rfl) (hv : Vis X.env.scope x := by first | exact Or.inl rfl | exact Or.inr (Or.inl rfl) | exact Or.inr (Or.inr rfl)) (hd : (x == ("__debug__" : Str)) = false := by decide)
    (hcd : (x == ("__classdict__" : Str)) = false := by decide) : DO X W (.Name x pos) (.nm i) := pe_var hN hv hd hcd
theorem do_ex {e : Expr} {m : ME} (h : DE X W e m) : DO X W e (.ex m) := h
theorem da_nil : DA X W [] [] := pa_nil
theorem da_cons {e : Expr} {es : List Expr} {o : Opn} {os : List Opn} (h : DO X W e o) (hr : DA X W es os) (hs : starEach (e :: es) X.env = (false, eval e X.env) :: starEach es X.env := by rfl) : DA X W (e :: es) (o :: os) := pa_cons h hr hs

/-! ### what an operation makes -/
section
variable {Kn H : Hp} {Q : VK} {d : D} {k : Nat}
theorem Post.val {v : V} (p : Post G Kn H (d, 0) Q) (le : Le Kn H) (h : Fr G Kn d v) : Q v H := p Kn H v No Tr.refl le ⟨h, fun _ z => z⟩ fun _ z => z.elim
theorem Le.out (le : Le Kn H) {a : Addr} (h : H a = none) : Kn a = none := by
  cases e : Kn a with
  | none => rfl
  | some u =>
    rcases le.rd a u (.inl e) with z | ⟨o, z⟩ <;> (rw [h] at z; cases z)
theorem Le.new (le : Le Kn H) {p : Addr} {o : HO} (h : H p = none) : Le Kn (upd H p o) := ⟨fun a u r => by
  have ha : a ≠ p := fun e => by
    subst e
    rcases le.rd a u r with z | ⟨o, z⟩ <;> (rw [h] at z; cases z)
  unfold Rd
  rw [upd_ne ha]
  exact le.rd a u r, fun a vs r => by
  have z := le.tp a vs r
  rw [upd_ne (ne_of_none z h)]
  exact z⟩
theorem Tr.new (le : Le Kn H) {p : Addr} {o : HO} (h : H p = none) : Tr Kn H No Kn (upd H p o) (fun a => a = p) :=
  ⟨fun _ _ z => z, fun _ z n => (n z).elim, fun a u z _ => by rw [upd_ne (ne_of_none z h)]; exact z, fun a z => .inr (z ▸ h), fun z => z⟩
/-- a new object of ours -/
theorem Post.own {o : HO} {p : Addr} {ds : List D} {vs : List V} (q : Post G Kn H (d, 1) Q) (le : Le Kn H) (h : H p = none) (w : Own G d o ds vs) (hs : Frs G Kn ds vs) : Q (.ref p) (upd H p o) :=
  q Kn (upd H p o) (.ref p) (fun a => a = p) (Tr.new le h) (le.new h) (.inr ⟨p, o, ds, vs, fun _ => No, rfl, upd_same, w, fun i e z => by
      obtain ⟨u, h1, h2⟩ := hs.get z
      exact ⟨u, h1, h2, fun _ z => z⟩, fun _ _ _ _ z => z.elim, fun _ z => z, fun x => ⟨.inl, fun z => z.elim (fun z => z) fun ⟨_, _, z⟩ => z.elim⟩⟩) fun a z => by
    subst z; exact le.out h
theorem Post.lst {p : Addr} {ds : List D} {vs : List V} (q : Post G Kn H (.lst ds, 1) Q) (le : Le Kn H) (h : H p = none) (hs : Frs G Kn ds vs) : Q (.ref p) (upd H p (.lst vs)) := q.own le h (.lst hs.length) hs
theorem Post.dic {p : Addr} {ks : List Key} {ds : List D} {vs : List V} (q : Post G Kn H (.dic ks ds, 1) Q) (le : Le Kn H) (h : H p = none) (hk : ks.length = vs.length) (hs : Frs G Kn ds vs) : Q (.ref p) (upd H p (.dK (ks.zip vs))) := q.own le h (.dic hs.length hk) hs
theorem Le.upd2 (le : Le Kn H) {p : Addr} {o : HO} (h : H p = none) : Le (upd Kn p o) (upd H p o) := ⟨fun a u r => by
  by_cases e : a = p
  · subst e
    unfold Rd at r ⊢
    rw [upd_same] at r ⊢
    exact r
  · unfold Rd at r ⊢
    rw [upd_ne e] at r ⊢
    exact le.rd a u r, fun a vs r => by
  by_cases e : a = p
  · subst e
    rw [upd_same] at r ⊢
    exact r
  · rw [upd_ne e] at r ⊢
    exact le.tp a vs r⟩
/-- a new tuple -/
theorem Post.tup {p : Addr} {ds : List D} {vs : List V} (q : Post G Kn H (.tup ds, 0) Q) (le : Le Kn H) (h : H p = none) (hs : Frs G Kn ds vs) : Q (.ref p) (upd H p (.tup vs)) := by
  have hk : Kn p = none := le.out h
  have kn : ∀ a u, Kn a = some u → upd Kn p (.tup vs) a = some u := fun a u e => by rw [upd_ne (ne_of_none e hk)]; exact e
  refine q (upd Kn p (.tup vs)) (upd H p (.tup vs)) (.ref p) No ⟨kn, fun a z n => ?_, fun a u z _ => by rw [upd_ne (ne_of_none z h)]; exact z, fun _ z => z.elim, fun z b o u e => by
    by_cases hb : b = p
    · subst hb; rw [upd_same] at e; cases e
    · rw [upd_ne hb] at e; exact z b o u e⟩ (le.upd2 h) ⟨.tup upd_same (hs.mono (Le.of_sub kn)), fun _ z => z⟩ fun _ z => z.elim
  by_cases e : a = p
  · subst e; exact .inr h
  · rw [upd_ne e] at n; exact (n z).elim

/-! ### what a datum stands for -/
theorem Tp.non {v : V} (h : Tp G Kn H .non v) : v = .non := by
  rcases h with h | ⟨_, _, _, _, _, _, w, _⟩
  · cases h; rfl
  · cases w
theorem Tp.bl {v : V} {b : Bool} (h : Tp G Kn H (.bl b) v) : v = .bl b := by
  rcases h with h | ⟨_, _, _, _, _, _, w, _⟩
  · cases h; rfl
  · cases w
theorem Tp.int {v : V} {i : Int} (h : Tp G Kn H (.int i) v) : v = .int i := by
  rcases h with h | ⟨_, _, _, _, _, _, w, _⟩
  · cases h; rfl
  · cases w
theorem Tp.str {v : V} {x : Str} (h : Tp G Kn H (.str x) v) : v = .str x := by
  rcases h with h | ⟨_, _, _, _, _, _, w, _⟩
  · cases h; rfl
  · cases w
theorem Tp.lst (le : Le Kn H) {v : V} {ds : List D} (h : Tp G Kn H (.lst ds) v) : ∃ a vs, v = .ref a ∧ Rd H a (.lst vs) ∧ Frs G Kn ds vs := by
  rcases h with h | ⟨a, o, ds, vs, rfl, e, w, hs⟩
  · cases h with
    | lst r hs => exact ⟨_, _, rfl, le.rd _ _ r, hs⟩
  · cases w
    exact ⟨a, vs, rfl, .inl e, hs⟩
theorem Tp.tup (le : Le Kn H) {v : V} {ds : List D} (h : Tp G Kn H (.tup ds) v) : ∃ a vs, v = .ref a ∧ H a = some (.tup vs) ∧ Kn a = some (.tup vs) ∧ Frs G Kn ds vs := by
  rcases h with h | ⟨a, o, ds, vs, rfl, e, w, hs⟩
  · cases h with
    | tup r hs => exact ⟨_, _, rfl, le.tp _ _ r, r, hs⟩
  · cases w
theorem Tp.dic (le : Le Kn H) {v : V} {ks : List Key} {ds : List D} (h : Tp G Kn H (.dic ks ds) v) : ∃ a vs, v = .ref a ∧ Rd H a (.dK (ks.zip vs)) ∧ ks.length = vs.length ∧ Frs G Kn ds vs := by
  rcases h with h | ⟨a, o, ds, vs, rfl, e, w, hs⟩
  · cases h with
    | dic r hk hs => exact ⟨_, _, rfl, le.rd _ _ r, hk, hs⟩
  · cases w with
    | dic _ hk => exact ⟨a, vs, rfl, .inl e, hk, hs⟩
theorem Tp.dit (le : Le Kn H) {v : V} {ks : List (List Key)} {ds : List D} (h : Tp G Kn H (.dit ks ds) v) : ∃ a vs, v = .ref a ∧ Rd H a (.dT (ks.zip vs)) ∧ ks.length = vs.length ∧ Frs G Kn ds vs := by
  rcases h with h | ⟨a, o, ds, vs, rfl, e, w, hs⟩
  · cases h with
    | dit r hk hs => exact ⟨_, _, rfl, le.rd _ _ r, hk, hs⟩
  · cases w with
    | dit _ hk => exact ⟨a, vs, rfl, .inl e, hk, hs⟩
theorem Rdy.one {f : List D → Option Val} {x : V} (h : Rdy G f [x] H Q) : ∃ Kn d r, Le Kn H ∧ Tp G Kn H d x ∧ f [d] = some r ∧ Post G Kn H r Q := by
  obtain ⟨Kn, ds, r, le, tps, e, p⟩ := h
  cases tps with
  | cons t1 tr => cases tr; exact ⟨Kn, _, r, le, t1, e, p⟩
theorem Rdy.two {f : List D → Option Val} {x y : V} (h : Rdy G f [x, y] H Q) : ∃ Kn d e r, Le Kn H ∧ Tp G Kn H d x ∧ Tp G Kn H e y ∧ f [d, e] = some r ∧ Post G Kn H r Q := by
  obtain ⟨Kn, ds, r, le, tps, e, p⟩ := h
  cases tps with
  | cons t1 tr => cases tr with
    | cons t2 tr => cases tr; exact ⟨Kn, _, _, r, le, t1, t2, e, p⟩
theorem Rdy.three {f : List D → Option Val} {x y z : V} (h : Rdy G f [x, y, z] H Q) : ∃ Kn d e c r, Le Kn H ∧ Tp G Kn H d x ∧ Tp G Kn H e y ∧ Tp G Kn H c z ∧ f [d, e, c] = some r ∧ Post G Kn H r Q := by
  obtain ⟨Kn, ds, r, le, tps, e, p⟩ := h
  cases tps with
  | cons t1 tr => cases tr with
    | cons t2 tr => cases tr with
      | cons t3 tr => cases tr; exact ⟨Kn, _, _, _, r, le, t1, t2, t3, e, p⟩
end

/-! ### rules over operands -/
variable {e a b : Expr} {es : List Expr} {oa ob : Opn} {os : List Opn} {f : List D → Option Val} {pos : Pos}
/-- a constant -/
def mC (d : D) : ME := fun ρ => .ok (d, 0) ρ
theorem mC_run {d : D} {v : V} {σ : L2.St} {H : Hp} {Q : VK} (hf : ∀ Kn, Fr G Kn d v) (h : TEd G W (mC d) σ H Q) : Q v H := by
  obtain ⟨Kn, ρ, Lf, S, o⟩ := h
  exact o Kn H Lf v No S ⟨hf Kn, fun _ z => z⟩ (fun _ z => z.elim) (fun _ z => z.elim) (Tr.refl.less fun a z => z.elim (fun z => z) fun z => z.elim)
theorem de_int {i : Int} {j} : DE X W (.Constant (.int i) j pos) (mC (.int i)) := PE.imp pe_int fun _ _ _ h => mC_run (fun _ => .int i) h
theorem de_bl {i : Bool} {j} : DE X W (.Constant (.bool i) j pos) (mC (.bl i)) := PE.imp pe_bl fun _ _ _ h => mC_run (fun _ => .bl i) h
theorem de_str {i : Str} {j} : DE X W (.Constant (.str i) j pos) (mC (.str i)) := PE.imp pe_str fun _ _ _ h => mC_run (fun _ => .str i) h
theorem de_non {j} : DE X W (.Constant .none j pos) (mC .non) := PE.imp pe_non fun _ _ _ h => mC_run (fun _ => .non) h
theorem de_gint {x : Str} {i : Int} {t : Tok} (hg : Gl X x) (hm : X.mg x = some (.int i t)) (hd : (x == ("__debug__" : Str)) = false := by decide) : DE X W (.Name x pos) (mC (.int i)) := PE.imp (pe_glob (v := .int i) hg hm ⟨t, rfl⟩ hd) fun _ _ _ h => mC_run (fun _ => .int i) h
theorem de_gstr {x : Str} {i : Str} {t : Tok} (hg : Gl X x) (hm : X.mg x = some (.str i t)) (hd : (x == ("__debug__" : Str)) = false := by decide) : DE X W (.Name x pos) (mC (.str i)) := PE.imp (pe_glob (v := .str i) hg hm ⟨t, rfl⟩ hd) fun _ _ _ h => mC_run (fun _ => .str i) h
/-- a name as a value: from now on it is known -/
def mN (i : Nat) : ME := fun ρ => match ρ[i]? with
  | some (some (d, k)) => .ok (d, 0) (if k = 0 then ρ else ρ.set i (some (d, 0)))
  | _ => .bad
theorem de_nm (i : Nat) {x : Str} (hN : X.N[i]? = some x := by rfl) (hv : Vis X.env.scope x := by first | exact Or.inl rfl | exact Or.inr (Or.inl rfl) | exact Or.inr (Or.inr rfl)) (hd : (x == ("__debug__" : Str)) = false := by decide)
    (hcd : (x == ("__classdict__" : Str)) = false := by decide) : DE X W (.Name x pos) (mN i) := PE.imp (pe_var hN hv hd hcd) fun σ H Q h => by
  obtain ⟨Kn, ρ, Lf, S, o⟩ := h
  unfold mN at o
  cases e : ρ[i]? with
  | none => rw [e] at o; exact o.elim
  | some x =>
    cases x with
    | none => rw [e] at o; exact o.elim
    | some p =>
      obtain ⟨d, k⟩ := p
      rw [e] at o
      simp only at o
      by_cases hk : k = 0
      · subst hk
        rw [if_pos rfl] at o
        obtain ⟨v, hv, w⟩ := S.at_ i d 0 e
        exact ⟨v, hv, o Kn H Lf v No S ⟨w.1, fun _ z => z⟩ (fun _ z => z.elim) (fun _ z => z.elim) (Tr.refl.less fun a z => z.elim (fun z => z) fun z => z.elim)⟩
      · rw [if_neg hk] at o
        obtain ⟨Kn1, v, hv, f, S1, t⟩ := S.freeze e
        exact ⟨v, hv, o Kn1 H _ v No S1 ⟨f, fun _ z => z⟩ (fun _ z => z.elim) (fun _ z => z.elim) (t.less fun a z => z.elim (fun z => z) fun z => z.elim)⟩

/-- what a rule by values asks is there -/
def Fit1 (f : List D → Option Val) (G : Gd) (r : V → Hp → VK → Prop) : Prop := ∀ x H Q, Rdy G f [x] H Q → r x H Q
def Fit2 (f : List D → Option Val) (G : Gd) (r : R2) : Prop := ∀ x y H Q, Rdy G f [x, y] H Q → r x y H Q
def FitN (f : List D → Option Val) (G : Gd) (r : List V → Hp → VK → Prop) : Prop := ∀ xs H Q, Rdy G f xs H Q → r xs H Q
theorem run1 {r : V → Hp → VK → Prop} (ft : Fit1 f G r) {σ : L2.St} {H : Hp} {Q : VK} (h : TEd G W (opN [oa] f) σ H Q) : tUn r (TOd G W oa) σ H Q := TOd.mono (fun _ _ q => ft _ _ _ q) (opN_run h)
theorem run2 {r : R2} (ft : Fit2 f G r) {σ : L2.St} {H : Hp} {Q : VK} (h : TEd G W (opN [oa, ob] f) σ H Q) : tOp r (TOd G W oa) (TOd G W ob) σ H Q := TOd.mono (fun _ _ q => TOd.mono (fun _ _ q => ft _ _ _ _ q) q) (opN_run h)
theorem runN {r : List V → Hp → VK → Prop} (ft : FitN f G r) {σ : L2.St} {H : Hp} {Q : VK} (h : TEd G W (opN os f) σ H Q) : tCB r (TOs G W os) σ H Q := TOs.mono (fun _ _ q => ft _ _ _ q) (opN_run h)
theorem de_op {op : Operator} {r : R2} (ho : OpR X (binaryOp op) r) (ft : Fit2 f (gd X) r) (ha : DO X W a oa) (hb : DO X W b ob) : DE X W (.BinOp a op b pos) (opN [oa, ob] f) := PE.imp (pe_op ho ha hb) fun _ _ _ h => run2 ft h
theorem de_un {op : UnaryOp} {r : V → Hp → VK → Prop} (ho : UnR X (unaryOp op) r) (ft : Fit1 f (gd X) r) (ha : DO X W a oa) : DE X W (.UnaryOp op a pos) (opN [oa] f) := PE.imp (pe_un ho ha) fun _ _ _ h => run1 ft h
theorem de_cmp {op : CmpOp} {r : R2} (ho : OpR X (compareOp op) r) (ft : Fit2 f (gd X) r) (ha : DO X W a oa) (hb : DO X W b ob) (hm : behindInMarks op b = false) : DE X W (.Compare a [op] [b] pos) (opN [oa, ob] f) := PE.imp (pe_cmpR ho ha hb hm) fun _ _ _ h => run2 ft h
theorem de_ix {r : R2} (hr : IxR X r) (ft : Fit2 f (gd X) r) (ha : DO X W a oa) (hb : DO X W b ob) (hs : PlainIx b) : DE X W (.Subscript a b pos) (opN [oa, ob] f) := PE.imp (pe_ix hr ha hb hs) fun _ _ _ h => run2 ft h
theorem de_callB {r : List V → Hp → VK → Prop} {id : String} {x : Str} {p : Pos} (hc : CallR X (.builtin id) r) (ft : FitN f (gd X) r) (hg : Gl X x) (hm : X.mg x = none) (hv : bootBuiltins x = some (.builtin id)) (ha : DA X W (e :: es) os) (hn : x ≠ "__name__" := by decide) (hdb : (x == ("__debug__" : Str)) = false := by decide)
    (he : starEach (e :: es) X.env = (false, eval e X.env) :: starEach es X.env := by rfl) (hpl : (backTo pos (starEach es X.env)).any (·.1) = false := by rfl) : DE X W (.Call (.Name x p) (e :: es) [] pos) (opN os f) :=
  PE.imp (pe_callB hc hg hm hv ha hn hdb he hpl) fun _ _ _ h => runN ft h
theorem de_callTy {r : List V → Hp → VK → Prop} {T : String} {x : Str} {p : Pos} (hc : CallR X (.type T) r) (ft : FitN f (gd X) r) (hg : Gl X x) (hm : X.mg x = none) (hv : bootBuiltins x = some (.type T)) (ha : DA X W (e :: es) os) (hn : x ≠ "__name__" := by decide) (hdb : (x == ("__debug__" : Str)) = false := by decide)
    (he : starEach (e :: es) X.env = (false, eval e X.env) :: starEach es X.env := by rfl) (hpl : (backTo pos (starEach es X.env)).any (·.1) = false := by rfl) : DE X W (.Call (.Name x p) (e :: es) [] pos) (opN os f) :=
  PE.imp (pe_callTy hc hg hm hv ha hn hdb he hpl) fun _ _ _ h => runN ft h
end
end DL
end
section
set_option Elab.async false
set_option linter.all false
set_option maxRecDepth 100000
/-! DL: operations on data. -/
namespace DL
open PySem PySem.Spec PyProof.Rows L2

/-! ### lists that can be read, written or not -/
section
variable {X : Cx} {pins : List (Addr × Obj)} {σ : L2.St} {H : Hp} {s : Shared} {l : Addr} {xs : List V}
theorem Inv.rdL (I : Inv X pins σ H s) (h : Rd H l (.lst xs)) : xs.length ≤ sizeLine ∧ ∃ (its : List Value) (n : Nat), Vals xs its ∧ xs.length = its.length ∧ s.heap.get? l = some { cls := .type "list", data := .seq its.toArray n } := by
  obtain ⟨z, its, n, r, e⟩ := h.ok I.hok
  exact ⟨z, its, n, r, r.length, e⟩
def rCatL : R2 := fun x y H Q => ∃ l b xs zs, x = .ref l ∧ y = .ref b ∧ Rd H l (.lst xs) ∧ Rd H b (.lst zs) ∧ xs.length + zs.length ≤ sizeLine ∧ ∀ p, H p = none → Q (.ref p) (upd H p (.lst (xs ++ zs)))
theorem op_catL : OpR X (binaryOp .Add) rCatL := by
  intro pins s σ H x y v u Q I rx ry h
  obtain ⟨l, b, xs, zs, rfl, rfl, hH, hB, hz, q⟩ := h
  cases rx
  cases ry
  obtain ⟨z, its, n, r, hl, e⟩ := DL.Inv.rdL I hH
  obtain ⟨z2, its2, n2, r2, hl2, e2⟩ := DL.Inv.rdL I hB
  refine PySem.P.add_list e e2 ?_ (by rw [List.size_toArray, List.size_toArray]; omega)
  have ea : its.toArray ++ its2.toArray = (its ++ its2).toArray := by simp
  rw [ea]
  exact ⟨.ref _, _, I.lnew (t' := s.toks) (r.append r2) (by rw [List.length_append]; omega), rfl, q _ I.fresh⟩
end

section
variable {G : Gd}
/-! ### + - * // % ** -/
def addD : List D → Option Val
  | [.int i, .int j] => some (.int (i + j), 0)
  | [.str x, .str y] => if x.length + y.length ≤ sizeLine then some (.str (x ++ y), 0) else none
  | [.lst xs, .lst ys] => if xs.length + ys.length ≤ sizeLine then some (.lst (xs ++ ys), 1) else none
  | [.tup xs, .tup ys] => if xs.length + ys.length ≤ sizeLine then some (.tup (xs ++ ys), 0) else none
  | _ => none
def rStr2 : R2 := fun x y H Q => ∃ i j, x = .str i ∧ y = .str j ∧ i.length + j.length ≤ sizeLine ∧ Q (.str (i ++ j)) H
def rAddD (K : PySem.W.Frag) : R2 := fun x y H Q => rI0 (fun i j => .int (i + j)) x y H Q ∨ rStr2 x y H Q ∨ rCatL x y H Q ∨ rCatA K x y H Q
theorem op_addD {X : Cx} : OpR X (binaryOp .Add) (rAddD X.K) := op_add.or (op_add_str.or (op_catL.or op_catA))
theorem fit_add : Fit2 addD G (rAddD G.K) := by
  intro x y H Q h
  obtain ⟨Kn, d, e, r, le, t1, t2, hf, p⟩ := h.two
  unfold addD at hf
  split at hf <;> rename_i heq
  · cases heq; cases hf
    exact .inl ⟨_, _, t1.int, t2.int, p.val le (.int _)⟩
  · cases heq
    split at hf <;> cases hf
    rename_i hl
    exact .inr (.inl ⟨_, _, t1.str, t2.str, hl, p.val le (.str _)⟩)
  · cases heq
    split at hf <;> cases hf
    rename_i hl
    obtain ⟨a, vs, rfl, r1, f1⟩ := t1.lst le
    obtain ⟨b, us, rfl, r2, f2⟩ := t2.lst le
    exact .inr (.inr (.inl ⟨a, b, vs, us, rfl, rfl, r1, r2, by rw [f1.length, f2.length]; exact hl, fun q hq => p.lst le hq (f1.append f2)⟩))
  · cases heq
    split at hf <;> cases hf
    rename_i hl
    obtain ⟨a, vs, rfl, r1, k1, f1⟩ := t1.tup le
    obtain ⟨b, us, rfl, r2, k2, f2⟩ := t2.tup le
    refine .inr (.inr (.inr ⟨a, b, vs, us, rfl, rfl, SqT.of r1, SqT.of r2, by rw [f1.length, f2.length]; exact hl, fun e => ?_, fun _ e => ?_, fun _ _ q hq => p.tup le hq (f1.append f2)⟩))
    · subst e
      cases f1
      exact p.val le (.tup k2 f2)
    · subst e
      cases f2
      rw [List.append_nil] at p
      exact p.val le (.tup k1 f1)
  · cases hf
def subD : List D → Option Val
  | [.int i, .int j] => some (.int (i - j), 0)
  | _ => none
theorem fit_sub : Fit2 subD G (rI0 fun i j => .int (i - j)) := by
  intro x y H Q h
  obtain ⟨Kn, d, e, r, le, t1, t2, hf, p⟩ := h.two
  unfold subD at hf
  split at hf <;> rename_i heq
  · cases heq; cases hf
    exact ⟨_, _, t1.int, t2.int, p.val le (.int _)⟩
  · cases hf
def fitMul (i j : Int) : Bool := decide (-(2 ^ 64) < i ∧ i < 2 ^ 64) || decide (-(2 ^ 64) < j ∧ j < 2 ^ 64) || decide (i.natAbs.log2 + j.natAbs.log2 < 1000000)
def mulD : List D → Option Val
  | [.int i, .int j] => if fitMul i j then some (.int (i * j), 0) else none
  | _ => none
def rMulD : R2 := fun x y H Q => rI CMul (fun i j => .int (i * j)) x y H Q ∨ rI CMulW (fun i j => .int (i * j)) x y H Q
theorem op_mulD {X : Cx} : OpR X (binaryOp .Mult) rMulD := op_mul.or op_mulW
theorem fit_mul : Fit2 mulD G rMulD := by
  intro x y H Q h
  obtain ⟨Kn, d, e, r, le, t1, t2, hf, p⟩ := h.two
  unfold mulD at hf
  split at hf <;> rename_i heq
  · cases heq
    split at hf <;> cases hf
    rename_i hc
    unfold fitMul at hc
    rw [Bool.or_eq_true, Bool.or_eq_true, decide_eq_true_eq, decide_eq_true_eq, decide_eq_true_eq] at hc
    rcases hc with hc | hc
    · exact .inl ⟨_, _, t1.int, t2.int, hc, p.val le (.int _)⟩
    · exact .inr ⟨_, _, t1.int, t2.int, hc, p.val le (.int _)⟩
  · cases hf
def fdivD : List D → Option Val
  | [.int i, .int j] => if 0 < j ∧ j.natAbs.log2 < 9000 then some (.int (i / j), 0) else none
  | _ => none
theorem fit_fdiv : Fit2 fdivD G (rI CDivW fun i j => .int (i / j)) := by
  intro x y H Q h
  obtain ⟨Kn, d, e, r, le, t1, t2, hf, p⟩ := h.two
  unfold fdivD at hf
  split at hf <;> rename_i heq
  · cases heq
    split at hf <;> cases hf
    rename_i hc
    exact ⟨_, _, t1.int, t2.int, hc, p.val le (.int _)⟩
  · cases hf
def modD : List D → Option Val
  | [.int i, .int j] => if 0 < j then some (.int (i % j), 0) else none
  | _ => none
theorem fit_mod : Fit2 modD G (rI (fun _ j => 0 < j) fun i j => .int (i % j)) := by
  intro x y H Q h
  obtain ⟨Kn, d, e, r, le, t1, t2, hf, p⟩ := h.two
  unfold modD at hf
  split at hf <;> rename_i heq
  · cases heq
    split at hf <;> cases hf
    rename_i hc
    exact ⟨_, _, t1.int, t2.int, hc, p.val le (.int _)⟩
  · cases hf
def powD : List D → Option Val
  | [.int i, .int j] => if 0 ≤ j ∧ j ≤ 1000000 ∧ i.natAbs < 2 ^ 64 then some (.int (i ^ j.toNat), 0) else none
  | _ => none
theorem fit_pow : Fit2 powD G (rI CPow fun i j => .int (i ^ j.toNat)) := by
  intro x y H Q h
  obtain ⟨Kn, d, e, r, le, t1, t2, hf, p⟩ := h.two
  unfold powD at hf
  split at hf <;> rename_i heq
  · cases heq
    split at hf <;> cases hf
    rename_i hc
    exact ⟨_, _, t1.int, t2.int, hc, p.val le (.int _)⟩
  · cases hf
def negD : List D → Option Val
  | [.int i] => some (.int (-i), 0)
  | _ => none
theorem fit_neg : Fit1 negD G (rU fun i => .int (-i)) := by
  intro x H Q h
  obtain ⟨Kn, d, r, le, t1, hf, p⟩ := h.one
  unfold negD at hf
  split at hf <;> rename_i heq
  · cases heq; cases hf
    exact ⟨_, t1.int, p.val le (.int _)⟩
  · cases hf

/-! ### order -/
def cmpD (f : Int → Int → Bool) : List D → Option Val
  | [.int i, .int j] => some (.bl (f i j), 0)
  | _ => none
theorem fit_cmp {f : Int → Int → Bool} : Fit2 (cmpD f) G (rI0 fun i j => .bl (f i j)) := by
  intro x y H Q h
  obtain ⟨Kn, d, e, r, le, t1, t2, hf, p⟩ := h.two
  unfold cmpD at hf
  split at hf <;> rename_i heq
  · cases heq; cases hf
    exact ⟨_, _, t1.int, t2.int, p.val le (.bl _)⟩
  · cases hf
abbrev ltD : List D → Option Val := cmpD fun i j => decide (i < j)
abbrev leD : List D → Option Val := cmpD fun i j => decide (i ≤ j)
abbrev gtD : List D → Option Val := cmpD fun i j => decide (j < i)
abbrev geD : List D → Option Val := cmpD fun i j => decide (j ≤ i)

/-! ### subscripts -/
def oneSign (c : Nat) : Str := ⟨#[c]⟩
def ixD : List D → Option Val
  | [.lst xs, .int i] => (atI xs i).map fun d => (d, 0)
  | [.tup xs, .int i] => (atI xs i).map fun d => (d, 0)
  | [.str x, .int i] => if x.length ≤ sizeLine then (atI x.cps.toList i).map fun c => (.str (oneSign c), 0) else none
  | _ => none
theorem atI_frs {H : Hp} {ds : List D} {vs : List V} (f : Frs G H ds vs) {i : Int} {d : D} (h : atI ds i = some d) : ∃ v, atI vs i = some v ∧ Fr G H d v := by
  unfold atI at h ⊢
  rw [f.length]
  cases e : ixN ds.length i with
  | none => rw [e] at h; cases h
  | some j =>
    rw [e] at h
    obtain ⟨v, h1, h2⟩ := f.get (i := j) h
    exact ⟨v, h1, h2⟩
theorem fit_ix : Fit2 ixD G (rIx G.K) := by
  intro x y H Q h
  obtain ⟨Kn, d, e, r, le, t1, t2, hf, p⟩ := h.two
  unfold ixD at hf
  split at hf <;> rename_i heq
  · cases heq
    rename_i xs i
    cases hi : atI xs i with
    | none => rw [hi] at hf; cases hf
    | some d' =>
      rw [hi] at hf; cases hf
      obtain ⟨a, vs, rfl, r1, f1⟩ := t1.lst le
      obtain ⟨v, h1, h2⟩ := atI_frs f1 hi
      exact .inl ⟨a, vs, _, v, rfl, t2.int, .inl r1, h1, p.val le h2⟩
  · cases heq
    rename_i xs i
    cases hi : atI xs i with
    | none => rw [hi] at hf; cases hf
    | some d' =>
      rw [hi] at hf; cases hf
      obtain ⟨a, vs, rfl, r1, _, f1⟩ := t1.tup le
      obtain ⟨v, h1, h2⟩ := atI_frs f1 hi
      exact .inr (.inl ⟨a, vs, _, v, rfl, t2.int, SqT.of r1, h1, p.val le h2⟩)
  · cases heq
    rename_i z i
    split at hf
    · rename_i hz
      cases hi : atI z.cps.toList i with
      | none => rw [hi] at hf; cases hf
      | some c =>
        rw [hi] at hf; cases hf
        exact .inr (.inr ⟨_, _, c, t1.str, t2.int, hz, hi, p.val le (.str _)⟩)
    · cases hf
  · cases hf

/-! ### built-in calls -/
def absD : List D → Option Val
  | [.int i] => some (.int (if i < 0 then -i else i), 0)
  | _ => none
theorem fit_abs : FitN absD G (fun xs H Q => ∃ i, xs = [.int i] ∧ Q (.int (if i < 0 then -i else i)) H) := by
  intro xs H Q ⟨Kn, ds, r, le, tps, hf, p⟩
  unfold absD at hf
  split at hf
  · cases hf
    cases tps with
    | cons t1 tr =>
      cases tr
      exact ⟨_, by rw [t1.int], p.val le (.int _)⟩
  · cases hf
def intD : List D → Option Val
  | [.int i] => some (.int i, 0)
  | [.bl b] => some (.int (if b then 1 else 0), 0)
  | _ => none
theorem fit_int : FitN intD G (fun xs H Q => (∃ i, xs = [.int i] ∧ Q (.int i) H) ∨ ∃ k, xs = [.bl k] ∧ Q (.int (if k then 1 else 0)) H) := by
  intro xs H Q ⟨Kn, ds, r, le, tps, hf, p⟩
  unfold intD at hf
  split at hf
  · cases hf
    cases tps with
    | cons t1 tr =>
      cases tr
      exact .inl ⟨_, by rw [t1.int], p.val le (.int _)⟩
  · cases hf
    cases tps with
    | cons t1 tr =>
      cases tr
      exact .inr ⟨_, by rw [t1.bl], p.val le (.int _)⟩
  · cases hf
def lenD : List D → Option Val
  | [.lst xs] => some (.int xs.length, 0)
  | [.tup xs] => some (.int xs.length, 0)
  | [.str x] => if x.length ≤ sizeLine then some (.int x.length, 0) else none
  | [.dic ks _] => some (.int ks.length, 0)
  | _ => none
def rLenStr : List V → Hp → VK → Prop := fun xs H Q => ∃ z, xs = [.str z] ∧ z.length ≤ sizeLine ∧ Q (.int z.length) H
def rLenSeq (K : PySem.W.Frag) : List V → Hp → VK → Prop := fun xs H Q => ∃ p ys, xs = [.ref p] ∧ (SqL K H p ys ∨ SqT K H p ys) ∧ Q (.int ys.length) H
def rLenDic : List V → Hp → VK → Prop := fun xs H Q => ∃ p kvs, xs = [.ref p] ∧ Rd H p (.dK kvs) ∧ Q (.int kvs.length) H
theorem call_lenR {X : Cx} : CallR X (.builtin "len") rLenDic := by
  intro pins s σ H xs us Q I r h
  obtain ⟨p, kvs, rfl, hr, q⟩ := h
  obtain ⟨u, rfl, ru⟩ := vals1 r
  cases (show u = Value.ref p from ru)
  exact d_len I hr fun t s' I' => ⟨.int _, H, I', ⟨t, rfl⟩, q⟩
def rLenD (K : PySem.W.Frag) : List V → Hp → VK → Prop := fun xs H Q => rLenSeq K xs H Q ∨ rLenStr xs H Q ∨ rLenDic xs H Q
theorem call_lenD' {X : Cx} : CallR X (.builtin "len") (rLenD X.K) := call_len_seq.or (call_len_str.or call_lenR)
theorem fit_len : FitN lenD G (rLenD G.K) := by
  intro xs H Q ⟨Kn, ds, r, le, tps, hf, p⟩
  unfold lenD at hf
  split at hf
  · cases hf
    cases tps with
    | cons t1 tr =>
      cases tr
      obtain ⟨a, vs, rfl, r1, f1⟩ := t1.lst le
      exact .inl ⟨a, vs, rfl, .inl (.inl r1), by rw [f1.length]; exact p.val le (.int _)⟩
  · cases hf
    cases tps with
    | cons t1 tr =>
      cases tr
      obtain ⟨a, vs, rfl, r1, _, f1⟩ := t1.tup le
      exact .inl ⟨a, vs, rfl, .inr (SqT.of r1), by rw [f1.length]; exact p.val le (.int _)⟩
  · split at hf <;> cases hf
    cases tps with
    | cons t1 tr =>
      cases tr
      exact .inr (.inl ⟨_, by rw [t1.str], by assumption, p.val le (.int _)⟩)
  · cases hf
    cases tps with
    | cons t1 tr =>
      cases tr
      obtain ⟨a, vs, rfl, r1, hk, f1⟩ := t1.dic le
      refine .inr (.inr ⟨a, _, rfl, r1, ?_⟩)
      rw [List.length_zip, hk, Nat.min_self, ← hk]
      exact p.val le (.int _)
  · cases hf
end
end DL
end
section
set_option Elab.async false
set_option linter.all false
set_option maxRecDepth 100000
/-! DL: tests, and, or, not, choices; displays. -/
namespace DL
open PySem PySem.Spec PyProof.Rows L2
section
variable {X : Cx} {W : WX} {G : Gd} {e a b c : Expr} {es : List Expr} {oa ob oc : Opn} {os : List Opn} {pos : Pos} {m ma mb : ME} {t u : MT}

theorem TTd.mono {m : MT} {σ : L2.St} {H : Hp} {Q Q' : Bool → Hp → Prop} (h : ∀ v H, Q v H → Q' v H) (x : TTd G W m σ H Q) : TTd G W m σ H Q' := by
  obtain ⟨Kn, ρ, Lf, S, o⟩ := x
  refine ⟨Kn, ρ, Lf, S, ?_⟩
  cases e : m ρ with
  | ok r ρ' => rw [e] at o; exact fun a b c d e => h _ _ (o a b c d e)
  | exc x ρ' => rw [e] at o; exact o
  | bad => rw [e] at o; exact o

/-! ### truth -/
def truB : D → Option Bool
  | .non => some false
  | .bl b => some b
  | .int i => some (i != 0)
  | .str x => if x.length ≤ sizeLine then some ((x.length : Int) != 0) else none
  | .lst xs => some (!xs.isEmpty)
  | .tup xs => some (!xs.isEmpty)
  | .dic ks _ => some (!ks.isEmpty)
  | _ => none
def mTru (o : Opn) : MT := fun ρ => bindO (evO o ρ) fun t ρ1 => match lookO o t ρ1 with
  | some (d, ρ2) => match truB d with
    | some k => .ok k ρ2
    | none => .bad
  | none => .bad
theorem zip_isEmpty {α β : Type} {ks : List α} {vs : List β} (h : ks.length = vs.length) : (ks.zip vs).isEmpty = ks.isEmpty := by
  cases ks <;> cases vs <;> simp at h ⊢
/-- truth by what is known -/
theorem tru_run {pins : List (Addr × Obj)} {s : Shared} {σ : L2.St} {H Kn : Hp} {x : V} {v : Value} {d : D} {k : Bool} {Q : Bool → Hp → Prop} (I : Inv X pins σ H s) (rx : RelV x v) (le : Le Kn H) (tp : Tp (gd X) Kn H d x) (hk : truB d = some k) (q : Q k H) :
    wpAny (model X.prog X.w) X.A (truthy v) (TP X pins σ Q) X.xe s := by
  have seq : ∀ {y : V}, TruV X.K x H k → wpAny (model X.prog X.w) X.A (truthy v) (TP X pins σ Q) X.xe s := fun {y} e => tru_ok (X := X) pins s σ H x v Q I rx ⟨k, e, q⟩
  cases d with
  | non => cases hk; rw [tp.non] at seq rx; exact seq (y := .non) rfl
  | bl b => cases hk; rw [tp.bl] at seq rx; exact seq (y := .non) rfl
  | int i => cases hk; rw [tp.int] at seq rx; exact seq (y := .non) rfl
  | str z =>
    unfold truB at hk
    simp only at hk
    split at hk <;> cases hk
    rw [tp.str] at seq rx
    exact seq (y := .non) ⟨by assumption, rfl⟩
  | lst ds =>
    cases hk
    obtain ⟨p, vs, rfl, r, f⟩ := tp.lst le
    refine seq (y := .non) (.inl ⟨vs, .inl r, ?_⟩)
    have := f.length
    cases vs <;> cases ds <;> simp at this ⊢
  | tup ds =>
    cases hk
    obtain ⟨p, vs, rfl, r, _, f⟩ := tp.tup le
    refine seq (y := .non) (.inr (.inl ⟨vs, SqT.of r, ?_⟩))
    have := f.length
    cases vs <;> cases ds <;> simp at this ⊢
  | dic ks ds =>
    cases hk
    obtain ⟨p, vs, rfl, r, hl, f⟩ := tp.dic le
    cases (show v = Value.ref p from rx)
    exact d_truth I r fun s' I' => ⟨H, I', by rw [zip_isEmpty hl]; exact q⟩
  | dit ks ds => cases hk
  | ins C ks ds => cases hk
  | exv C ks ds => cases hk
  | opq => cases hk
theorem dt_tru (ha : DO X W a oa) (he : ∀ whole, isTrue a X.env whole = (do let v ← whole; standAt a.pos; holding [v] (truthy v)) := by intro _; rfl) : DT X W a (mTru oa) := by
  refine ⟨fun pins s σ H Q I h => ?_⟩
  obtain ⟨Kn, ρ, Lf, S, o⟩ := h
  have key : TOd (gd X) W oa σ H fun x H1 => ∃ Kn d k, Le Kn H1 ∧ Tp (gd X) Kn H1 d x ∧ truB d = some k ∧ Q k H1 := by
    refine evO_run S (fun z => ?_) (fun x ρ' z => ?_) fun t1 ρ1 z Kn1 H1 Lf1 v F S1 h1 s1 tr1 => ?_
    · unfold mTru at o; rw [z] at o; exact o
    · unfold mTru at o; rw [z] at o; exact o
    · unfold mTru at o
      rw [z, bindO_ok] at o
      cases e1 : lookO oa t1 ρ1 with
      | none => rw [e1] at o; exact o.elim
      | some q =>
        obtain ⟨d, ρ2⟩ := q
        rw [e1] at o
        simp only at o
        have e2 : lookOs [oa] [t1] ρ1 = some ([d], ρ2) := by simp [lookOs, e1]
        obtain ⟨Kn2, Lf2, S2, tps, t2⟩ := h1.look S1 s1 e2
        cases tps with
        | cons tp tr =>
          cases hk : truB d with
          | none => rw [hk] at o; exact o.elim
          | some k =>
            rw [hk] at o
            exact ⟨Kn2, d, k, S2.le, tp, hk, o Kn2 H1 Lf2 S2 (tr1.trans t2)⟩
  exact isTrue_plain (thn (ha.run pins s σ H _ I key) fun v s1 ⟨x, H1, I1, r1, Kn, d, k, le, tp, hk, q⟩ => tru_run I1 r1 le tp hk q) (he _)

/-! ### comparisons as tests (their answers are truths) -/
def mB (m : ME) : MT := fun ρ => bindO (m ρ) fun r ρ1 => match r.1 with
  | .bl b => .ok b ρ1
  | _ => .bad
theorem mB_run {σ : L2.St} {H : Hp} {Q : Bool → Hp → Prop} (h : TTd G W (mB m) σ H Q) : TEd G W m σ H fun x H1 => ∃ k, x = .bl k ∧ Q k H1 := by
  obtain ⟨Kn, ρ, Lf, S, o⟩ := h
  refine ⟨Kn, ρ, Lf, S, ?_⟩
  unfold mB at o
  cases e : m ρ with
  | bad => rw [e] at o; exact o
  | exc x ρ' => rw [e] at o; exact o
  | ok r ρ1 =>
    rw [e, bindO_ok] at o
    obtain ⟨d, k⟩ := r
    cases d with
    | bl b =>
      simp only at o
      intro Kn1 H1 Lf1 v M S1 w s kn t
      have hv : v = .bl b := by
        cases k with
        | zero => cases w.1; rfl
        | succ k =>
          rcases w with w | ⟨_, _, _, _, _, _, _, w, _⟩
          · cases w.2.1; rfl
          · cases w
      exact ⟨b, hv, o Kn1 H1 Lf1 S1 (t.less fun a z => .inl z)⟩
    | _ => exact o.elim
theorem dt_cmp {op : CmpOp} (h : DE X W (.Compare a [op] [b] pos) m) (ho : ∀ {t : TE}, PE X (.Compare a [op] [b] pos) t → PT X (.Compare a [op] [b] pos) (tB t)) : DT X W (.Compare a [op] [b] pos) (mB m) := PT.imp (ho h) fun _ _ _ q => mB_run q
/-- a test whose value is a truth -/
theorem dt_val (h : DE X W e m) (he : ∀ whole, isTrue e X.env whole = (do let v ← whole; standAt e.pos; holding [v] (truthy v)) := by intro _; rfl) : DT X W e (mB m) := PT.imp (pt_val h he) fun _ _ _ q => mB_run q
theorem dt_cmpR {f : List D → Option Val} {op : CmpOp} {r : R2} (ho : OpR X (compareOp op) r) (ft : Fit2 f (gd X) r) (ha : DO X W a oa) (hb : DO X W b ob) (hm : behindInMarks op b = false) : DT X W (.Compare a [op] [b] pos) (mB (opN [oa, ob] f)) :=
  PT.imp (pt_cmpR ho ha hb hm) fun _ _ _ q => run2 ft (mB_run q)

/-! ### and, or, not -/
def mAnd (t u : MT) : MT := fun ρ => bindO (t ρ) fun b ρ1 => if b then u ρ1 else .ok false ρ1
def mOr (t u : MT) : MT := fun ρ => bindO (t ρ) fun b ρ1 => if b then .ok true ρ1 else u ρ1
def mNot (t : MT) : MT := fun ρ => bindO (t ρ) fun b ρ1 => .ok (!b) ρ1
/-- two in a row -/
theorem TTd.bind {β : Type} {t : MT} {k : Bool → Rho → Out β} {σ : L2.St} {H : Hp} {R : Bool → Hp → Prop} {Kn : Hp} {ρ : Rho} {Lf : Nat → Ft} (S : SI G Kn H σ ρ Lf) (P : Hp → Hp → Ft → Out β → Prop) (hx : ∀ x ρ', P Kn H (U Lf) (.exc x ρ') → XW G W Kn H (U Lf) σ x ρ') (hb : ¬ P Kn H (U Lf) .bad)
    (o : P Kn H (U Lf) (bindO (t ρ) k)) (h : ∀ b ρ1 Kn1 H1 Lf1, SI G Kn1 H1 σ ρ1 Lf1 → Tr Kn H (U Lf) Kn1 H1 (U Lf1) → P Kn H (U Lf) (k b ρ1) → R b H1) : TTd G W t σ H R := by
  refine ⟨Kn, ρ, Lf, S, ?_⟩
  cases e : t ρ with
  | bad => rw [e] at o; exact hb o
  | exc x ρ' => rw [e] at o; exact hx x ρ' o
  | ok b ρ1 =>
    rw [e] at o
    exact fun Kn1 H1 Lf1 S1 t1 => h b ρ1 Kn1 H1 Lf1 S1 t1 o
/-- what is wanted of a test's outcome -/
def OT (G : Gd) (W : WX) (Q : Bool → Hp → Prop) (σ : L2.St) (Kn H : Hp) (L : Ft) (o : Out Bool) : Prop :=
  match o with
  | .ok b ρ' => ∀ Kn' H' Lf', SI G Kn' H' σ ρ' Lf' → Tr Kn H L Kn' H' (U Lf') → Q b H'
  | .exc x ρ' => XW G W Kn H L σ x ρ'
  | .bad => False
theorem OT.past {Q : Bool → Hp → Prop} {σ : L2.St} {Kn H Kn1 H1 : Hp} {L L1 M : Ft} {o : Out Bool} (h : OT G W Q σ Kn H L o) (t : Tr Kn H L Kn1 H1 L1) (hm : ∀ a, M a → L1 a) : OT G W Q σ Kn1 H1 M o := by
  cases o with
  | ok b ρ' => exact fun Kn' H' Lf' S u => h Kn' H' Lf' S (t.trans (u.more hm))
  | exc x ρ' => exact XW.past h t hm
  | bad => exact h
theorem TTd.of {Q : Bool → Hp → Prop} {σ : L2.St} {Kn H : Hp} {ρ : Rho} {Lf : Nat → Ft} {t : MT} (S : SI G Kn H σ ρ Lf) (o : OT G W Q σ Kn H (U Lf) (t ρ)) : TTd G W t σ H Q := ⟨Kn, ρ, Lf, S, o⟩
theorem mAnd_run {σ : L2.St} {H : Hp} {Q : Bool → Hp → Prop} (h : TTd G W (mAnd t u) σ H Q) : tAnd (TTd G W t) (TTd G W u) σ H Q := by
  obtain ⟨Kn, ρ, Lf, S, o⟩ := h
  refine TTd.bind S (OT G W Q σ) (fun _ _ z => z) (fun z => z) (k := fun b ρ1 => if b then u ρ1 else .ok false ρ1) o fun b ρ1 Kn1 H1 Lf1 S1 t1 o1 => ?_
  cases b with
  | true => exact TTd.of S1 (OT.past o1 t1 fun _ z => z)
  | false => exact o1 Kn1 H1 Lf1 S1 t1
theorem mOr_run {σ : L2.St} {H : Hp} {Q : Bool → Hp → Prop} (h : TTd G W (mOr t u) σ H Q) : tOr (TTd G W t) (TTd G W u) σ H Q := by
  obtain ⟨Kn, ρ, Lf, S, o⟩ := h
  refine TTd.bind S (OT G W Q σ) (fun _ _ z => z) (fun z => z) (k := fun b ρ1 => if b then .ok true ρ1 else u ρ1) o fun b ρ1 Kn1 H1 Lf1 S1 t1 o1 => ?_
  cases b with
  | true => exact o1 Kn1 H1 Lf1 S1 t1
  | false => exact TTd.of S1 (OT.past o1 t1 fun _ z => z)
theorem mNot_run {σ : L2.St} {H : Hp} {Q : Bool → Hp → Prop} (h : TTd G W (mNot t) σ H Q) : tNot (TTd G W t) σ H Q := by
  obtain ⟨Kn, ρ, Lf, S, o⟩ := h
  exact TTd.bind S (OT G W Q σ) (fun _ _ z => z) (fun z => z) (k := fun b ρ1 => .ok (!b) ρ1) o fun b ρ1 Kn1 H1 Lf1 S1 t1 o1 => o1 Kn1 H1 Lf1 S1 t1
def DW (X : Cx) (W : WX) (e : Expr) (m : MT) : Prop := PW X e (TTd (gd X) W m)
variable {rest : List Expr}
theorem PW.imp {e : Expr} {t t' : TT} (h : PW X e t) (f : ∀ σ H Q, t' σ H Q → t σ H Q) : PW X e t' := ⟨fun wh pins s σ H Q I hw => h.run wh pins s σ H Q I (f σ H Q hw)⟩
theorem dw_and1 (ha : DT X W a t) : DW X W (.BoolOp .And [a] pos) t := pw_and1 ha
theorem dw_or1 (ha : DT X W a t) : DW X W (.BoolOp .Or [a] pos) t := pw_or1 ha
theorem dw_and (ha : DT X W a t) (hb : DW X W (.BoolOp .And (b :: rest) pos) u) : DW X W (.BoolOp .And (a :: b :: rest) pos) (mAnd t u) := PW.imp (pw_and ha hb) fun _ _ _ q => mAnd_run q
theorem dw_or (ha : DT X W a t) (hb : DW X W (.BoolOp .Or (b :: rest) pos) u) : DW X W (.BoolOp .Or (a :: b :: rest) pos) (mOr t u) := PW.imp (pw_or ha hb) fun _ _ _ q => mOr_run q
theorem dt_w (h : DW X W e t) : DT X W e t := PW.pt h
theorem dt_not (ha : DT X W a t) : DT X W (.UnaryOp .Not a pos) (mNot t) := PT.imp (pt_not ha) fun _ _ _ q => mNot_run q

/-! ### .. as values -/
/-- what is wanted of an outcome; runs in a row -/
theorem TEd.of {Q : VK} {σ : L2.St} {Kn H : Hp} {ρ : Rho} {Lf : Nat → Ft} (S : SI G Kn H σ ρ Lf) (o : OW G W Q Kn H (U Lf) σ (m ρ)) : TEd G W m σ H Q := ⟨Kn, ρ, Lf, S, o⟩
def mAndV (m n : ME) : ME := fun ρ => bindO (m ρ) fun r ρ1 => match r.1 with
  | .bl b => if b then n ρ1 else .ok (.bl false, 0) ρ1
  | _ => .bad
def mOrV (m n : ME) : ME := fun ρ => bindO (m ρ) fun r ρ1 => match r.1 with
  | .bl b => if b then .ok (.bl true, 0) ρ1 else n ρ1
  | _ => .bad
def mNotV (m : ME) : ME := fun ρ => bindO (m ρ) fun r ρ1 => match r.1 with
  | .bl b => .ok (.bl (!b), 0) ρ1
  | _ => .bad
theorem Ow.bl {Kn H : Hp} {b : Bool} {k : Nat} {v : V} {L : Ft} (w : Ow G Kn H k (.bl b) v L) : v = .bl b := by
  cases k with
  | zero => cases w.1; rfl
  | succ k =>
    rcases w with w | ⟨_, _, _, _, _, _, _, w, _⟩
    · cases w.2.1; rfl
    · cases w
theorem blBind {k : Bool → Rho → Out Val} {σ : L2.St} {H Kn : Hp} {ρ : Rho} {Lf : Nat → Ft} {Q : VK} {R : VK} (S : SI G Kn H σ ρ Lf)
    (o : OW G W Q Kn H (U Lf) σ (bindO (m ρ) fun r ρ1 => match r.1 with | .bl b => k b ρ1 | _ => .bad))
    (h : ∀ b ρ1 Kn1 H1 Lf1, SI G Kn1 H1 σ ρ1 Lf1 → Tr Kn H (U Lf) Kn1 H1 (U Lf1) → OW G W Q Kn H (U Lf) σ (k b ρ1) → R (.bl b) H1) : TEd G W m σ H R := by
  refine ⟨Kn, ρ, Lf, S, ?_⟩
  cases e : m ρ with
  | bad => rw [e] at o; exact o
  | exc x ρ' => rw [e] at o; exact o
  | ok r ρ1 =>
    rw [e, bindO_ok] at o
    obtain ⟨d, kk⟩ := r
    cases d with
    | bl b =>
      intro Kn1 H1 Lf1 v M S1 w s kn t
      have hv : v = .bl b := Ow.bl w
      subst hv
      exact h b ρ1 Kn1 H1 Lf1 S1 (t.less fun a z => .inl z) o
    | _ => exact o.elim
theorem out_bl {Q : VK} {σ : L2.St} {Kn H Kn1 H1 : Hp} {L : Ft} {ρ : Rho} {Lf1 : Nat → Ft} {b : Bool} (o : OW G W Q Kn H L σ (.ok (.bl b, 0) ρ)) (S1 : SI G Kn1 H1 σ ρ Lf1) (t : Tr Kn H L Kn1 H1 (U Lf1)) : Q (.bl b) H1 :=
  o Kn1 H1 Lf1 (.bl b) No S1 ⟨.bl b, fun _ z => z⟩ (fun _ z => z.elim) (fun _ z => z.elim) (t.less fun a z => z.elim (fun z => z) fun z => z.elim)
theorem de_andV (ha : DE X W a ma) (hb : DE X W (.BoolOp .And (b :: rest) pos) mb) : DE X W (.BoolOp .And (a :: b :: rest) pos) (mAndV ma mb) := PE.imp (pe_and ha hb) fun σ H Q h => by
  obtain ⟨Kn, ρ, Lf, S, o⟩ := h
  refine blBind S (k := fun b ρ1 => if b then mb ρ1 else .ok (.bl false, 0) ρ1) o fun b ρ1 Kn1 H1 Lf1 S1 t1 o1 => ⟨b, rfl, ?_⟩
  cases b with
  | true => exact TEd.of S1 (OW.past o1 t1 fun _ z => z)
  | false => exact out_bl o1 S1 t1
theorem de_orV (ha : DE X W a ma) (hb : DE X W (.BoolOp .Or (b :: rest) pos) mb) : DE X W (.BoolOp .Or (a :: b :: rest) pos) (mOrV ma mb) := PE.imp (pe_or ha hb) fun σ H Q h => by
  obtain ⟨Kn, ρ, Lf, S, o⟩ := h
  refine blBind S (k := fun b ρ1 => if b then .ok (.bl true, 0) ρ1 else mb ρ1) o fun b ρ1 Kn1 H1 Lf1 S1 t1 o1 => ⟨b, rfl, ?_⟩
  cases b with
  | true => exact out_bl o1 S1 t1
  | false => exact TEd.of S1 (OW.past o1 t1 fun _ z => z)
theorem de_one {op} (h : DE X W a m) : DE X W (.BoolOp op [a] pos) m := pe_one h
theorem de_notV (ha : DE X W a m) : DE X W (.UnaryOp .Not a pos) (mNotV m) := PE.imp (pe_not ha) fun σ H Q h => by
  obtain ⟨Kn, ρ, Lf, S, o⟩ := h
  exact blBind S (k := fun b ρ1 => .ok (.bl (!b), 0) ρ1) o fun b ρ1 Kn1 H1 Lf1 S1 t1 o1 => ⟨b, rfl, out_bl o1 S1 t1⟩
/-- a if t else b -/
def mIf (t : MT) (m n : ME) : ME := fun ρ => bindO (t ρ) fun b ρ1 => if b then m ρ1 else n ρ1
theorem de_if (hc : DT X W c t) (ha : DE X W a ma) (hb : DE X W b mb) : DE X W (.IfExp c a b pos) (mIf t ma mb) := PE.imp (pe_ifExp hc ha hb) fun σ H Q h => by
  obtain ⟨Kn, ρ, Lf, S, o⟩ := h
  refine TTd.bind S (fun Kn H L o => OW (gd X) W Q Kn H L σ o) (fun _ _ z => z) (fun z => z) (k := fun b ρ1 => if b then ma ρ1 else mb ρ1) o fun b ρ1 Kn1 H1 Lf1 S1 t1 o1 => ?_
  cases b with
  | true => exact TEd.of S1 (OW.past o1 t1 fun _ z => z)
  | false => exact TEd.of S1 (OW.past o1 t1 fun _ z => z)

/-! ### displays: all is known from then on -/
def Opn.isEx : Opn → Bool
  | .ex _ => true
  | .nm _ => false
theorem Held.lookF {H : Hp} {σ : L2.St} : ∀ {os : List Opn} {ts : List (Option D)} {vs : List V} {F : Ft} {Kn : Hp} {ρ : Rho} {Lf : Nat → Ft} {ds : List D} {ρ2 : Rho}, Held G Kn H σ os ts vs F → os.all Opn.isEx = true → SI G Kn H σ ρ Lf → (∀ a, F a → ¬ U Lf a) → lookOs os ts ρ = some (ds, ρ2) →
    ∃ Kn2 Lf2, SI G Kn2 H σ ρ2 Lf2 ∧ Frs G Kn2 ds vs ∧ Tr Kn H (Jn (U Lf) F) Kn2 H (U Lf2)
  | _, _, _, _, Kn, ρ, Lf, ds, ρ2, .nil, _, S, _, e => by
    simp only [lookOs, Option.some.injEq, Prod.mk.injEq] at e
    obtain ⟨rfl, rfl⟩ := e
    exact ⟨Kn, Lf, S, .nil, Tr.refl.less fun a z => .inl z⟩
  | _, _, _, _, _, _, _, _, _, .nm _ _, hx, _, _, _ => by simp [Opn.isEx] at hx
  | _, _, _, _, Kn, ρ, Lf, ds, ρ2, .ex (m := m) (d := d) (k := k) (v := v) (L := L) (F := F) w hk dj h, hx, S, sep, e => by
    simp only [lookOs, lookO] at e
    cases e2 : lookOs _ _ ρ with
    | none => rw [e2] at e; cases e
    | some q =>
      obtain ⟨ds', ρ'⟩ := q
      rw [e2] at e
      simp only [Option.some.injEq, Prod.mk.injEq] at e
      obtain ⟨rfl, rfl⟩ := e
      have t0 : Tr Kn H L (plusC Kn H L) H No := (Tr.know (H := H) (L := L) (P := L) (fun _ z => z) hk w.dom).less fun _ z => z.elim
      have f1 : Fr G (plusC Kn H L) d v := w.freeze (plusC_kn hk) fun a o l e => by rw [plusC_in l]; exact e
      have le1 : Le (plusC Kn H L) H := plusC_le S.le
      have sL : ∀ a, U Lf a → ¬ L a := fun a z q => sep a (.inl q) z
      have sF : ∀ a, F a → ¬ L a := fun a z q => dj a q z
      have S1 : SI G (plusC Kn H L) H σ ρ Lf := S.past t0 sL le1
      obtain ⟨Kn2, Lf2, S2, tps, t2⟩ := Held.lookF (h.past t0 sF) (by simpa [Opn.isEx] using hx) S1 (fun a z q => sep a (.inr z) q) e2
      refine ⟨Kn2, Lf2, S2, .cons (f1.mono (Le.of_sub t2.kn)) tps, ?_⟩
      refine ((t0.frame (Jn (U Lf) F)).eqv (M := Jn (U Lf) (Jn L F)) (M1 := Jn No (Jn (U Lf) F)) (fun a => ?_) fun a => Iff.rfl).trans (t2.more fun a z => .inr z)
      constructor
      · rintro (z | z | z)
        · exact .inr (.inl z)
        · exact .inl z
        · exact .inr (.inr z)
      · rintro (z | z | z)
        · exact .inr (.inl z)
        · exact .inl z
        · exact .inr (.inr z)
/-- the operands are known -/
def RdyF (G : Gd) (f : List D → Option Val) (vs : List V) (H : Hp) (Q : VK) : Prop := ∃ Kn ds r, Le Kn H ∧ Frs G Kn ds vs ∧ f ds = some r ∧ Post G Kn H r Q
theorem opN_runF {os : List Opn} {f : List D → Option Val} {Q : VK} {σ : L2.St} {H : Hp} (hx : os.all Opn.isEx = true) (h : TEd G W (opN os f) σ H Q) : TOs G W os σ H (fun vs H' => RdyF G f vs H' Q) := by
  obtain ⟨Kn, ρ, Lf, S, ow⟩ := h
  have ow' : OW G W Q Kn H (U Lf) σ (opN os f ρ) := ow
  refine evOs_run (R := fun vs H' => RdyF G f vs H' Q) (g := fun ts ρ1 => fin f os ts ρ1) os [] [] [] No Kn H ρ Lf S .nil (fun _ z => z.elim) (Tr.refl.less fun a z => z.elim (fun z => z) fun z => z.elim) ow' fun ts vs F' Kn' H' ρ' Lf' S' h' s' t' o' => ?_
  have o2 : OW G W Q Kn H (U Lf) σ (fin f os ts ρ') := o'
  have h2 : Held G Kn' H' σ os ts vs F' := h'
  unfold fin at o2
  cases e : lookOs os ts ρ' with
  | none => rw [e] at o2; exact o2.elim
  | some q =>
    obtain ⟨ds, ρ2⟩ := q
    rw [e] at o2
    simp only at o2
    cases e3 : f ds with
    | none => rw [e3] at o2; exact o2.elim
    | some r =>
      rw [e3] at o2
      obtain ⟨Kn2, Lf2, S2, tps, t2⟩ := Held.lookF h2 hx S' s' e
      refine ⟨Kn2, ds, r, S2.le, tps, e3, fun Kn3 H3 v L t3 le3 w3 k3 => ?_⟩
      have S3 : SI G Kn3 H3 σ ρ2 Lf2 := S2.past t3 (fun _ _ z => z) le3
      have sL : ∀ a, U Lf2 a → ¬ L a := sep_past t3 (fun a z => let ⟨o, e, _⟩ := S2.dom z; ⟨o, e⟩) fun _ _ z => z
      refine o2 Kn3 H3 Lf2 v L S3 w3 (fun a z q => sL a q z) k3 ((t'.trans t2).trans ?_)
      exact (t3.frame (U Lf2)).eqv (fun a => ⟨.inr, fun z => z.elim (fun z => z.elim) fun z => z⟩) fun a => ⟨fun z => z.elim .inr .inl, fun z => z.elim .inr .inl⟩
def lstD (ds : List D) : Option Val := if ds.length ≤ sizeLine then some (.lst ds, 1) else none
def tupD (ds : List D) : Option Val := if ds.length ≤ sizeLine then some (.tup ds, 0) else none
theorem de_lst (ha : DA X W es os) (hx : os.all Opn.isEx = true := by rfl) : DE X W (.List es pos) (opN os lstD) := PE.imp (pe_lst ha) fun σ H Q h => TOs.mono (fun vs H1 q => by
  obtain ⟨Kn, ds, r, le, f, e, p⟩ := q
  unfold lstD at e
  split at e <;> cases e
  exact ⟨by rw [f.length]; assumption, fun a ha => p.lst le ha f⟩) (opN_runF hx h)
theorem de_tup {k} (ha : DA X W es os) (hx : os.all Opn.isEx = true := by rfl) : DE X W (.Tuple es k pos) (opN os tupD) := PE.imp (pe_tup ha) fun σ H Q h => TOs.mono (fun vs H1 q => by
  obtain ⟨Kn, ds, r, le, f, e, p⟩ := q
  unfold tupD at e
  split at e <;> cases e
  exact ⟨by rw [f.length]; assumption, fun a ha => p.tup le ha f⟩) (opN_runF hx h)
def nilD : ME := fun ρ => .ok (.lst [], 1) ρ
def dicD : ME := fun ρ => .ok (.dic [] [], 1) ρ
def ditD : ME := fun ρ => .ok (.dit [] [], 1) ρ
theorem mk_run {σ : L2.St} {H : Hp} {Q : VK} {d : D} {o : HO} (w : Own G d o [] []) (h : TEd G W (fun ρ => .ok (d, 1) ρ) σ H Q) : ∀ p, H p = none → Q (.ref p) (upd H p o) := fun p hp => by
  obtain ⟨Kn, ρ, Lf, S, ow⟩ := h
  have post : Post G Kn H (d, 1) Q := fun Kn' H' v L t le wv hk => by
    have S1 : SI G Kn' H' σ ρ Lf := S.past t (fun _ _ z => z) le
    have sL : ∀ a, U Lf a → ¬ L a := sep_past t (fun a z => let ⟨o, e, _⟩ := S.dom z; ⟨o, e⟩) fun _ _ z => z
    exact ow Kn' H' Lf v L S1 wv (fun a z q => sL a q z) hk ((t.frame (U Lf)).eqv (fun a => ⟨.inr, fun z => z.elim (fun z => z.elim) fun z => z⟩) fun a => ⟨fun z => z.elim .inr .inl, fun z => z.elim .inr .inl⟩)
  exact post.own S.le hp w .nil
theorem de_dnewK : DE X W (.Dict [] [] pos) dicD := PE.imp pe_dnewK fun _ _ _ h => mk_run (.dic rfl rfl) h
theorem de_dnewT : DE X W (.Dict [] [] pos) ditD := PE.imp pe_dnewT fun _ _ _ h => mk_run (.dit rfl rfl) h
end
end DL
end
section
set_option Elab.async false
set_option linter.all false
set_option maxRecDepth 100000
/-! DL: statements. -/
namespace DL
open PySem PySem.Spec PyProof.Rows L2

inductive SOut where
  | nx (ρ : Rho) | rt (r : Val) (ρ : Rho) | bk (ρ : Rho) | ct (ρ : Rho) | exc (x : Exn) (ρ : Rho) | bad
abbrev MS := Rho → SOut
/-- the slots P are never stored to -/
def Kp (P : List Nat) (σ σ' : L2.St) : Prop := ∀ i ∈ P, σ'[i]? = σ[i]?
theorem Kp.refl {P : List Nat} {σ : L2.St} : Kp P σ σ := fun _ _ => rfl
theorem Kp.trans {P : List Nat} {σ σ' σ2 : L2.St} (a : Kp P σ σ') (b : Kp P σ' σ2) : Kp P σ σ2 := fun i h => (b i h).trans (a i h)
theorem Kp.set {P : List Nat} {σ : L2.St} {i : Nat} {v : Option V} (h : i ∉ P) : Kp P σ (σ.set i v) := fun j hj => List.getElem?_set_ne (by intro e; subst e; exact h hj)
/-- what is wanted of a statement's outcome -/
def SW (G : Gd) (W : WX) (P : List Nat) (D : Ends) (Kn H : Hp) (L : Ft) (σ : L2.St) (o : SOut) : Prop :=
  match o with
  | .nx ρ' => ∀ Kn' H' σ' Lf', SI G Kn' H' σ' ρ' Lf' → Tr Kn H L Kn' H' (U Lf') → Kp P σ σ' → D.nx σ' H'
  | .bk ρ' => ∀ Kn' H' σ' Lf', SI G Kn' H' σ' ρ' Lf' → Tr Kn H L Kn' H' (U Lf') → Kp P σ σ' → D.bk σ' H'
  | .ct ρ' => ∀ Kn' H' σ' Lf', SI G Kn' H' σ' ρ' Lf' → Tr Kn H L Kn' H' (U Lf') → Kp P σ σ' → D.ct σ' H'
  | .rt r ρ' => ∀ Kn' H' σ' Lf' v M, SI G Kn' H' σ' ρ' Lf' → Ow G Kn' H' r.2 r.1 v M → (∀ a, M a → ¬ U Lf' a) → (∀ a, M a → Kn' a = none) → Tr Kn H L Kn' H' (Jn (U Lf') M) → Kp P σ σ' → D.rt v H'
  | .exc x ρ' => ∀ Kn' H' σ' Lf' c dx, SI G Kn' H' σ' ρ' Lf' → XR G H' x c dx → Tr Kn H L Kn' H' (U Lf') → Kp P σ σ' → W c dx σ' H'
  | .bad => False
def TSd (G : Gd) (W : WX) (P : List Nat) (m : MS) : TS := fun D σ H => ∃ Kn ρ Lf, SI G Kn H σ ρ Lf ∧ SW G W P D Kn H (U Lf) σ (m ρ)
def DS (X : Cx) (W : WX) (P : List Nat) (st : Stmt) (m : MS) : Prop := PS X st (TSd (gd X) W P m)
def DSs (X : Cx) (W : WX) (P : List Nat) (st : List Stmt) (m : MS) : Prop := PSs X st (TSd (gd X) W P m)

section
variable {X : Cx} {W : WX} {G : Gd} {P : List Nat} {e : Expr} {es : List Expr} {os : List Opn} {pos : Pos} {m : ME} {t : MT} {st : Stmt} {rest : List Stmt} {ms mu : MS}
theorem SW.past {D : Ends} {Kn H Kn1 H1 : Hp} {L L1 M : Ft} {σ σ1 : L2.St} {o : SOut} (h : SW G W P D Kn H L σ o) (t : Tr Kn H L Kn1 H1 L1) (hm : ∀ a, M a → L1 a) (kp : Kp P σ σ1) : SW G W P D Kn1 H1 M σ1 o := by
  cases o with
  | nx ρ' => exact fun a b c d S u k => h a b c d S (t.trans (u.more hm)) (kp.trans k)
  | bk ρ' => exact fun a b c d S u k => h a b c d S (t.trans (u.more hm)) (kp.trans k)
  | ct ρ' => exact fun a b c d S u k => h a b c d S (t.trans (u.more hm)) (kp.trans k)
  | rt r ρ' => exact fun a b c d v M' S w s kn u k => h a b c d v M' S w s kn (t.trans (u.more hm)) (kp.trans k)
  | exc x ρ' => exact fun a b c d cc dx S r u k => h a b c d cc dx S r (t.trans (u.more hm)) (kp.trans k)
  | bad => exact h
theorem TSd.of {D : Ends} {Kn H : Hp} {σ : L2.St} {ρ : Rho} {Lf : Nat → Ft} (S : SI G Kn H σ ρ Lf) (o : SW G W P D Kn H (U Lf) σ (ms ρ)) : TSd G W P ms D σ H := ⟨Kn, ρ, Lf, S, o⟩
theorem SW.exc {D : Ends} {Kn H : Hp} {L : Ft} {σ : L2.St} {x : Exn} {ρ : Rho} (h : SW G W P D Kn H L σ (.exc x ρ)) : XW G W Kn H L σ x ρ := fun a b c d dx S r t => h a b σ c d dx S r t .refl

/-! ### blocks -/
def sSeq (a b : MS) : MS := fun ρ => match a ρ with
  | .nx ρ1 => b ρ1
  | o => o
def sSkip : MS := fun ρ => .nx ρ
theorem dss_nil : DSs X W P [] sSkip := PSs.imp pss_nil fun D σ H h => by
  obtain ⟨Kn, ρ, Lf, S, o⟩ := h
  exact o Kn H σ Lf S .refl .refl
theorem dss_cons (h1 : DS X W P st ms) (h2 : DSs X W P rest mu) : DSs X W P (st :: rest) (sSeq ms mu) := PSs.imp (pss_cons h1 h2) fun D σ H h => by
  obtain ⟨Kn, ρ, Lf, S, o⟩ := h
  refine ⟨Kn, ρ, Lf, S, ?_⟩
  unfold sSeq at o
  cases q : ms ρ with
  | nx ρ1 =>
    rw [q] at o
    exact fun Kn1 H1 σ1 Lf1 S1 t1 k1 => TSd.of S1 (SW.past o t1 (fun _ z => z) k1)
  | bk ρ1 => rw [q] at o; exact o
  | ct ρ1 => rw [q] at o; exact o
  | rt r ρ1 => rw [q] at o; exact o
  | exc x ρ1 => rw [q] at o; exact o
  | bad => rw [q] at o; exact o
theorem dss_one (h1 : DS X W P st ms) : DSs X W P [st] ms := pss_one h1
theorem ds_pass : DS X W P (.Pass pos) sSkip := PS.imp ps_pass fun D σ H h => by
  obtain ⟨Kn, ρ, Lf, S, o⟩ := h
  exact o Kn H σ Lf S .refl .refl
def sBrk : MS := fun ρ => .bk ρ
def sCnt : MS := fun ρ => .ct ρ
theorem ds_break : DS X W P (.Break pos) sBrk := PS.imp ps_break fun D σ H h => by
  obtain ⟨Kn, ρ, Lf, S, o⟩ := h
  exact o Kn H σ Lf S .refl .refl
theorem ds_continue : DS X W P (.Continue pos) sCnt := PS.imp ps_continue fun D σ H h => by
  obtain ⟨Kn, ρ, Lf, S, o⟩ := h
  exact o Kn H σ Lf S .refl .refl
/-- if -/
def sIf (t : MT) (a b : MS) : MS := fun ρ => match t ρ with
  | .ok k ρ1 => if k then a ρ1 else b ρ1
  | .exc x ρ1 => .exc x ρ1
  | .bad => .bad
theorem ds_if {c : Expr} {a b : List Stmt} (hc : DT X W c t) (ha : DSs X W P a ms) (hb : DSs X W P b mu) : DS X W P (.If c a b pos) (sIf t ms mu) := PS.imp (ps_if hc ha hb) fun D σ H h => by
  obtain ⟨Kn, ρ, Lf, S, o⟩ := h
  refine ⟨Kn, ρ, Lf, S, ?_⟩
  unfold sIf at o
  cases q : t ρ with
  | bad => rw [q] at o; exact o
  | exc x ρ1 => rw [q] at o; exact o.exc
  | ok k ρ1 =>
    rw [q] at o
    intro Kn1 H1 Lf1 S1 t1
    cases k with
    | true => exact TSd.of S1 (SW.past o t1 (fun _ z => z) .refl)
    | false => exact TSd.of S1 (SW.past o t1 (fun _ z => z) .refl)
/-- an expression whose value is dropped -/
def sDrop (m : ME) : MS := fun ρ => match m ρ with
  | .ok _ ρ1 => .nx ρ1
  | .exc x ρ1 => .exc x ρ1
  | .bad => .bad
theorem ds_expr (he : DE X W e m) (hs : swapsWith e none pos.line X.env = pure false := by rfl) : DS X W P (.Expr e pos) (sDrop m) := PS.imp (ps_expr he hs) fun D σ H h => by
  obtain ⟨Kn, ρ, Lf, S, o⟩ := h
  refine ⟨Kn, ρ, Lf, S, ?_⟩
  unfold sDrop at o
  cases q : m ρ with
  | bad => rw [q] at o; exact o
  | exc x ρ1 => rw [q] at o; exact o.exc
  | ok r ρ1 =>
    rw [q] at o
    exact fun Kn1 H1 Lf1 v M S1 w s k t => o Kn1 H1 σ Lf1 S1 (t.less fun a z => .inl z) .refl
def sRet (m : ME) : MS := fun ρ => match m ρ with
  | .ok r ρ1 => .rt r ρ1
  | .exc x ρ1 => .exc x ρ1
  | .bad => .bad
theorem ds_ret (he : DE X W e m) : DS X W P (.Return (some e) pos) (sRet m) := PS.imp (ps_ret he) fun D σ H h => by
  obtain ⟨Kn, ρ, Lf, S, o⟩ := h
  refine ⟨Kn, ρ, Lf, S, ?_⟩
  unfold sRet at o
  cases q : m ρ with
  | bad => rw [q] at o; exact o
  | exc x ρ1 => rw [q] at o; exact o.exc
  | ok r ρ1 =>
    rw [q] at o
    exact fun Kn1 H1 Lf1 v M S1 w s k t => o Kn1 H1 σ Lf1 v M S1 w s k t .refl
def sRetN : MS := fun ρ => .rt (.non, 0) ρ
theorem ds_retN : DS X W P (.Return none pos) sRetN := PS.imp ps_retN fun D σ H h => by
  obtain ⟨Kn, ρ, Lf, S, o⟩ := h
  exact o Kn H σ Lf .non No S ⟨.non, fun _ z => z⟩ (fun _ z => z.elim) (fun _ z => z.elim) (Tr.refl.less fun a z => z.elim (fun z => z) fun z => z.elim) .refl

/-! ### a name moved out of its slot -/
def mMv (i : Nat) : ME := fun ρ => match ρ[i]? with
  | some (some r) => .ok r (ρ.set i none)
  | _ => .bad
theorem de_mv (i : Nat) {x : Str} (hN : X.N[i]? = some x := by rfl) (hv : Vis X.env.scope x := by first | exact Or.inl rfl | exact Or.inr (Or.inl rfl) | exact Or.inr (Or.inr rfl)) (hd : (x == ("__debug__" : Str)) = false := by decide)
    (hcd : (x == ("__classdict__" : Str)) = false := by decide) : DE X W (.Name x pos) (mMv i) := PE.imp (pe_var hN hv hd hcd) fun σ H Q h => by
  obtain ⟨Kn, ρ, Lf, S, o⟩ := h
  unfold mMv at o
  cases e : ρ[i]? with
  | none => rw [e] at o; exact o.elim
  | some x =>
    cases x with
    | none => rw [e] at o; exact o.elim
    | some p =>
      obtain ⟨d, k⟩ := p
      rw [e] at o
      simp only at o
      obtain ⟨v, hv, w⟩ := S.at_ i d k e
      refine ⟨v, hv, o Kn H _ v (Lf i) (S.drop i) w (fun a z q => ?_) (fun a z => S.kn a ⟨i, z⟩) (Tr.refl.less fun a z => ?_)⟩
      · rcases U_put q with z' | ⟨j, hj, z'⟩
        · exact z'
        · exact S.dj i j a (Ne.symm hj) z z'
      · exact z.elim U_drop fun z => ⟨i, z⟩

/-! ### name = value -/
def sAsg (i : Nat) (m : ME) : MS := fun ρ => match m ρ with
  | .ok r ρ1 => if i < ρ1.length then .nx (ρ1.set i (some r)) else .bad
  | .exc x ρ1 => .exc x ρ1
  | .bad => .bad
theorem put_sub {Lf : Nat → Ft} {i : Nat} {M : Ft} : ∀ a, U (put Lf i M) a → Jn (U Lf) M a := fun a z => (U_put z).elim .inr fun ⟨j, _, z⟩ => .inl ⟨j, z⟩
theorem asg_run {i : Nat} {D : Ends} {σ : L2.St} {H : Hp} (hP : i ∉ P) (h : TSd G W P (sAsg i m) D σ H) : tAsg (TEd G W m) (gName i) D σ H := by
  obtain ⟨Kn, ρ, Lf, S, o⟩ := h
  refine ⟨Kn, ρ, Lf, S, ?_⟩
  unfold sAsg at o
  cases q : m ρ with
  | bad => rw [q] at o; exact o
  | exc x ρ1 => rw [q] at o; exact o.exc
  | ok r ρ1 =>
    rw [q] at o
    simp only at o
    intro Kn1 H1 Lf1 v M S1 w s k t
    split at o
    · rename_i hi
      exact o Kn1 H1 _ _ (S1.set hi (by rw [S1.len]; exact hi) w s k) (t.less put_sub) (.set hP)
    · exact o.elim
theorem ds_set {i : Nat} {x : Str} {pos' : Pos} (hN : X.N.Nodup) (hi : X.N[i]? = some x) (hx : Loc X.env.scope x) (he : DE X W e m) (hP : i ∉ P := by decide) (hs : swapsWith e (some (.Name x pos')) pos.line X.env = pure false := by rfl)
    (hf : X.fn x = true ∨ X.env.scope.names.lookup x = some .local := by first | exact .inl rfl | exact .inr rfl | assumption) : DS X W P (.Assign [.Name x pos'] e pos) (sAsg i m) := PS.imp (ps_set hN hi hx he hs hf) fun D σ H h => asg_run hP h

/-! ### targets -/
inductive Tg where
  | nm (i : Nat) | tup (ts : List Tg)
mutual
/-- a known datum is stored -/
def asgT : Tg → D → Rho → Option Rho
  | .nm i, d, ρ => if i < ρ.length then some (ρ.set i (some (d, 0))) else none
  | .tup ts, .tup ds, ρ => asgTs ts ds ρ
  | .tup _, _, _ => none
def asgTs : List Tg → List D → Rho → Option Rho
  | [], [], ρ => some ρ
  | t :: ts, d :: ds, ρ => match asgT t d ρ with
    | some ρ1 => asgTs ts ds ρ1
    | none => none
  | _, _, _ => none
end
mutual
def Tg.slots : Tg → List Nat
  | .nm i => [i]
  | .tup ts => Tg.slotss ts
def Tg.slotss : List Tg → List Nat
  | [] => []
  | t :: ts => t.slots ++ Tg.slotss ts
end
mutual
def gT (K : PySem.W.Frag) : Tg → TG
  | .nm i => gName i
  | .tup ts => gTup K (Tg.count ts) (gTs K ts)
def gTs (K : PySem.W.Frag) : List Tg → TGs
  | [] => gNil
  | t :: ts => gCons (gT K t) (gTs K ts)
def Tg.count : List Tg → Nat
  | [] => 0
  | _ :: ts => Tg.count ts + 1
end
/-- the known datum d at v, stored -/
def GW (G : Gd) (t : Tg) (g : TG) : Prop := ∀ (d : D) (v : V) (σ : L2.St) (H Kn : Hp) (ρ ρ' : Rho) (Lf : Nat → Ft) (R : L2.St → Hp → Prop), SI G Kn H σ ρ Lf → Fr G Kn d v → asgT t d ρ = some ρ' →
  (∀ σ' Lf', SI G Kn H σ' ρ' Lf' → (∀ a, U Lf' a → U Lf a) → (∀ j, j ∉ t.slots → σ'[j]? = σ[j]?) → R σ' H) → g v σ H R
def GWs (G : Gd) (ts : List Tg) (g : TGs) : Prop := ∀ (ds : List D) (vs : List V) (σ : L2.St) (H Kn : Hp) (ρ ρ' : Rho) (Lf : Nat → Ft) (R : L2.St → Hp → Prop), SI G Kn H σ ρ Lf → Frs G Kn ds vs → asgTs ts ds ρ = some ρ' →
  (∀ σ' Lf', SI G Kn H σ' ρ' Lf' → (∀ a, U Lf' a → U Lf a) → (∀ j, j ∉ Tg.slotss ts → σ'[j]? = σ[j]?) → R σ' H) → g vs σ H R
theorem asgTs_len : ∀ {ts : List Tg} {ds : List D} {ρ ρ' : Rho}, asgTs ts ds ρ = some ρ' → ds.length = Tg.count ts
  | [], [], _, _, _ => rfl
  | [], _ :: _, _, _, e => by simp [asgTs] at e
  | _ :: _, [], _, _, e => by simp [asgTs] at e
  | t :: ts, d :: ds, ρ, ρ', e => by
    rw [asgTs] at e
    split at e
    · simp [Tg.count, asgTs_len e]
    · cases e
mutual
theorem gw_all : ∀ t : Tg, GW G t (gT G.K t)
  | .nm i => fun d v σ H Kn ρ ρ' Lf R S f e k => by
    unfold asgT at e
    split at e
    · rename_i hl
      cases e
      refine k _ _ (S.set (k := 0) (L := No) hl (by rw [S.len]; exact hl) ⟨f, fun _ z => z⟩ (fun _ z => z.elim) fun _ z => z.elim) (fun a z => U_drop z) fun j hj => ?_
      exact List.getElem?_set_ne fun z => hj (by simp [Tg.slots, z])
    · cases e
  | .tup ts => fun d v σ H Kn ρ ρ' Lf R S f e k => by
    cases d with
    | tup ds =>
      rw [asgT] at e
      cases f with
      | tup r fs => exact ⟨_, _, rfl, SqT.of (S.le.tp _ _ r), by rw [fs.length]; exact asgTs_len e, gws_all ts _ _ _ _ _ _ _ _ _ S fs e fun σ' Lf' S' u q => k σ' Lf' S' u fun j hj => q j (by simpa [Tg.slots] using hj)⟩
    | _ => simp [asgT] at e
theorem gws_all : ∀ ts : List Tg, GWs G ts (gTs G.K ts)
  | [] => fun ds vs σ H Kn ρ ρ' Lf R S f e k => by
    cases ds with
    | nil =>
      cases f
      cases e
      exact ⟨rfl, k σ Lf S (fun _ z => z) fun _ _ => rfl⟩
    | cons _ _ => cases e
  | t :: ts => fun ds vs σ H Kn ρ ρ' Lf R S f e k => by
    cases ds with
    | nil => cases e
    | cons d ds =>
      cases f with
      | cons f fs =>
        rw [asgTs] at e
        cases e1 : asgT t d ρ with
        | none => rw [e1] at e; cases e
        | some ρ1 =>
          rw [e1] at e
          refine ⟨_, _, rfl, gw_all t _ _ _ _ _ _ _ _ _ S f e1 fun σ1 Lf1 S1 u1 k1 => gws_all ts _ _ _ _ _ _ _ _ _ S1 fs e fun σ2 Lf2 S2 u2 k2 => k σ2 Lf2 S2 (fun a z => u1 a (u2 a z)) fun j hj => ?_⟩
          rw [Tg.slotss, List.mem_append] at hj
          exact (k2 j fun z => hj (.inr z)).trans (k1 j fun z => hj (.inl z))
end
def DG (X : Cx) (tg : Expr) (t : Tg) : Prop := PG X tg (gT X.K t)
structure DGs (X : Cx) (tgs : List Expr) (ts : List Tg) : Prop where
  pg : PGs X tgs (gTs X.K ts)
  len : (assignEach tgs X.env).length = Tg.count ts
  st : (assignEach tgs X.env).findIdx? (·.1) = none
theorem dg_nm {i : Nat} {x : Str} (hN : X.N.Nodup) (hi : X.N[i]? = some x) (hx : Loc X.env.scope x) (hf : X.fn x = true ∨ X.env.scope.names.lookup x = some .local := by first | exact .inl rfl | exact .inr rfl | assumption) : DG X (.Name x pos) (.nm i) := pg_name hN hi hx hf
theorem dgs_nil : DGs X [] [] := ⟨pgs_nil, rfl, rfl⟩
theorem dgs_cons {tg : Expr} {tgs : List Expr} {t : Tg} {ts : List Tg} (h1 : DG X tg t) (h2 : DGs X tgs ts)
    (hs : (assignEach (tg :: tgs) X.env).map (·.2) = assign tg X.env :: (assignEach tgs X.env).map (·.2) := by rfl) (hl : (assignEach (tg :: tgs) X.env).length = Tg.count ts + 1 := by rfl) (hn : (assignEach (tg :: tgs) X.env).findIdx? (·.1) = none := by rfl) : DGs X (tg :: tgs) (t :: ts) := ⟨pgs_cons h1 h2.pg hs, hl, hn⟩
theorem dg_tup {tgs : List Expr} {k : Nat} {ts : List Tg} (hc : X.calm = true) (h : DGs X tgs ts) : DG X (.Tuple tgs k pos) (.tup ts) := pg_tup hc h.pg h.len h.st
/-- target = value, the value known from then on -/
def sAsgT (t : Tg) (m : ME) : MS := fun ρ => match m ρ with
  | .ok r ρ1 => match asgT t r.1 ρ1 with
    | some ρ2 => .nx ρ2
    | none => .bad
  | .exc x ρ1 => .exc x ρ1
  | .bad => .bad
theorem ds_asgT {tg : Expr} {t : Tg} (he : DE X W e m) (hg : DG X tg t) (hP : t.slots.all (fun i => !P.contains i) = true := by rfl) (hs : swapsWithSole [tg] e pos.line X.env = pure false := by rfl) (hw : swappedStores [tg] e X.env = pure none := by rfl)
    (h1 : (assignEach [tg] X.env).map (·.2) = [assign tg X.env] := by rfl) : DS X W P (.Assign [tg] e pos) (sAsgT t m) := by
  refine PS.imp (ps_asg he hg hs hw h1) fun D σ H h => ?_
  have w := gw_all (G := gd X) t
  obtain ⟨Kn, ρ, Lf, S, o⟩ := h
  refine ⟨Kn, ρ, Lf, S, ?_⟩
  unfold sAsgT at o
  cases q : m ρ with
  | bad => rw [q] at o; exact o
  | exc x ρ1 => rw [q] at o; exact o.exc
  | ok r ρ1 =>
    rw [q] at o
    simp only at o
    intro Kn1 H1 Lf1 v M S1 w1 s k t1
    cases e2 : asgT t r.1 ρ1 with
    | none => rw [e2] at o; exact o.elim
    | some ρ2 =>
      rw [e2] at o
      have t0 : Tr Kn1 H1 M (plusC Kn1 H1 M) H1 No := (Tr.know (H := H1) (L := M) (P := M) (fun _ z => z) k w1.dom).less fun _ z => z.elim
      have f1 : Fr (gd X) (plusC Kn1 H1 M) r.1 v := w1.freeze (plusC_kn k) fun a o l e => by rw [plusC_in l]; exact e
      have S2 : SI (gd X) (plusC Kn1 H1 M) H1 σ ρ1 Lf1 := S1.past t0 (fun a z q => s a q z) (plusC_le S1.le)
      refine w _ _ _ _ _ _ _ _ _ S2 f1 e2 fun σ' Lf' S' u kp => o _ H1 σ' Lf' S' ?_ fun i hi => kp i fun z => ?_
      · refine (t1.trans (((t0.frame (U Lf1)).eqv (M := Jn (U Lf1) M) (M1 := Jn No (U Lf1)) (fun a => ⟨fun z => z.elim .inr .inl, fun z => z.elim .inr .inl⟩) fun a => Iff.rfl))).less fun a z => .inr (u a z)
      · have := List.all_eq_true.mp hP i z
        simp at this
        exact this hi
end
end DL
end
section
set_option Elab.async false
set_option linter.all false
set_option maxRecDepth 100000
/-! DL: dicts; stores by place; methods that change their object. -/
namespace DL
open PySem PySem.Spec PyProof.Rows L2

/-! ### tables -/
section
variable {κ α β : Type} [DecidableEq κ]
def getG (kvs : List (κ × α)) (k : κ) : Option α := (kvs.find? fun kv => decide (kv.1 = k)).map (·.2)
def putG (kvs : List (κ × α)) (k : κ) (v : α) : List (κ × α) :=
  if (kvs.any fun kv => decide (kv.1 = k)) = true then kvs.map (fun kv => if kv.1 = k then (kv.1, v) else kv) else kvs ++ [(k, v)]
def dropG (kvs : List (κ × α)) (k : κ) : List (κ × α) := kvs.filter fun kv => decide (kv.1 ≠ k)
def hasG (ks : List κ) (k : κ) : Bool := ks.any fun x => decide (x = k)
theorem valV_getG (kvs : List (κ × V)) (k : κ) : valV kvs k = getG kvs k := rfl
theorem putK_putG (kvs : List (κ × V)) (k : κ) (v : V) : putK kvs k v = putG kvs k v := rfl
theorem dropK_dropG (kvs : List (κ × V)) (k : κ) : dropK kvs k = dropG kvs k := rfl
@[simp] theorem zip_fst_snd (kvs : List (κ × α)) : (kvs.map Prod.fst).zip (kvs.map Prod.snd) = kvs := by
  induction kvs with
  | nil => rfl
  | cons p r ih => simp [ih]
theorem zip_fst {ks : List κ} {vs : List α} (h : ks.length = vs.length) : (ks.zip vs).map Prod.fst = ks := List.map_fst_zip (by omega)
theorem zip_snd {ks : List κ} {vs : List α} (h : ks.length = vs.length) : (ks.zip vs).map Prod.snd = vs := List.map_snd_zip (by omega)
/-- two tables with the same keys -/
theorem getG_rel {R : α → β → Prop} : ∀ {ks : List κ} {ds : List α} {vs : List β} {k : κ} {d : α}, ds.length = vs.length → (∀ (i : Nat) d, ds[i]? = some d → ∃ v, vs[i]? = some v ∧ R d v) → getG (ks.zip ds) k = some d → ∃ v, getG (ks.zip vs) k = some v ∧ R d v
  | [], _, _, _, _, _, _, h => by simp [getG] at h
  | _ :: _, [], _, _, _, _, _, h => by simp [getG] at h
  | _ :: _, _ :: _, [], _, _, hl, _, _ => by simp at hl
  | k0 :: ks, d0 :: ds, v0 :: vs, k, d, hl, hr, h => by
    by_cases e : k0 = k
    · have e1 : d0 = d := by simpa [getG, e] using h
      obtain ⟨v, h1, h2⟩ := hr 0 d0 rfl
      have h1' : v0 = v := by simpa using h1
      subst h1' e1
      exact ⟨v0, by simp [getG, e], h2⟩
    · have h' : getG (ks.zip ds) k = some d := by simpa [getG, e] using h
      obtain ⟨v, h1, h2⟩ := getG_rel (ks := ks) (ds := ds) (vs := vs) (R := R) (by simpa using hl) (fun i d q => by
        obtain ⟨v, h1, h2⟩ := hr (i + 1) d (by simpa using q)
        exact ⟨v, by simpa using h1, h2⟩) h'
      exact ⟨v, by simpa [getG, e] using h1, h2⟩
theorem getG_none {ks : List κ} {ds : List α} {vs : List β} {k : κ} (hd : ds.length = vs.length) : getG (ks.zip ds) k = none ↔ getG (ks.zip vs) k = none := by
  induction ks generalizing ds vs with
  | nil => simp [getG]
  | cons k0 ks ih =>
    cases ds with
    | nil =>
      cases vs with
      | nil => simp [getG]
      | cons _ _ => simp at hd
    | cons d ds =>
      cases vs with
      | nil => simp at hd
      | cons v vs =>
        by_cases e : k0 = k
        · simp [getG, e]
        · have := ih (ds := ds) (vs := vs) (by simpa using hd)
          simpa [getG, e] using this
theorem any_zip {ks : List κ} {vs : List α} (h : ks.length = vs.length) (k : κ) : ((ks.zip vs).any fun kv => decide (kv.1 = k)) = hasG ks k := by
  unfold hasG
  induction ks generalizing vs with
  | nil => rfl
  | cons a r ih =>
    cases vs with
    | nil => simp at h
    | cons b s => simp [ih (by simpa using h)]
theorem put_keys {ks : List κ} {vs : List α} (h : ks.length = vs.length) (k : κ) (v : α) : (putG (ks.zip vs) k v).map Prod.fst = if hasG ks k = true then ks else ks ++ [k] := by
  unfold putG
  rw [any_zip h]
  split
  · rw [List.map_map]
    have : (Prod.fst ∘ fun kv : κ × α => if kv.1 = k then (kv.1, v) else kv) = Prod.fst := by
      funext kv
      simp only [Function.comp]
      split <;> rfl
    rw [this, zip_fst h]
  · rw [List.map_append, zip_fst h]
    rfl
theorem put_length {ks : List κ} {vs : List α} (h : ks.length = vs.length) (k : κ) (v : α) : ((putG (ks.zip vs) k v).map Prod.snd).length = (if hasG ks k = true then ks else ks ++ [k]).length := by
  rw [← put_keys h k v]
  simp
theorem drop_keys {ks : List κ} {vs : List α} (h : ks.length = vs.length) (k : κ) : (dropG (ks.zip vs) k).map Prod.fst = ks.filter fun x => decide (x ≠ k) := by
  unfold dropG
  induction ks generalizing vs with
  | nil => rfl
  | cons a r ih =>
    cases vs with
    | nil => simp at h
    | cons b s =>
      have := ih (vs := s) (by simpa using h)
      by_cases e : a = k
      · simpa [e] using this
      · simpa [e] using this
end

section
variable {G : Gd} {H : Hp}
theorem put_frs {κ : Type} [DecidableEq κ] {ks : List κ} {ds : List D} {vs : List V} (f : Frs G H ds vs) (h : ks.length = vs.length) (k : κ) {d : D} {v : V} (fd : Fr G H d v) : Frs G H ((putG (ks.zip ds) k d).map Prod.snd) ((putG (ks.zip vs) k v).map Prod.snd) := by
  have h2 : ks.length = ds.length := by rw [h, f.length]
  unfold putG
  rw [any_zip h, any_zip h2]
  split
  · rename_i hh
    clear h h2 hh
    induction ks generalizing ds vs with
    | nil => exact .nil
    | cons a r ih =>
      cases f with
      | nil => exact .nil
      | cons f0 fs =>
        simp only [List.zip_cons_cons, List.map_cons]
        refine .cons ?_ (ih fs)
        split <;> assumption
  · rw [List.map_append, List.map_append, zip_snd h, zip_snd h2]
    exact f.append (.one fd)
theorem drop_frs {κ : Type} [DecidableEq κ] {ks : List κ} {ds : List D} {vs : List V} (f : Frs G H ds vs) (k : κ) : Frs G H ((dropG (ks.zip ds) k).map Prod.snd) ((dropG (ks.zip vs) k).map Prod.snd) := by
  unfold dropG
  induction ks generalizing ds vs with
  | nil => exact .nil
  | cons a r ih =>
    cases f with
    | nil => exact .nil
    | cons f0 fs =>
      simp only [List.zip_cons_cons, List.filter_cons]
      split
      · exact .cons f0 (ih fs)
      · exact ih fs
end

/-- a dict by its pairs -/
def D.dict (kvs : List (Key × D)) : D := .dic (kvs.map Prod.fst) (kvs.map Prod.snd)
def D.ditt (kvs : List (List Key × D)) : D := .dit (kvs.map Prod.fst) (kvs.map Prod.snd)
/-- a key -/
def keyD : D → Option Key
  | .int i => some (.inl i)
  | .str x => some (.inr x)
  | _ => none
def keysD : List D → Option (List Key)
  | [] => some []
  | d :: ds => match keyD d, keysD ds with
    | some k, some ks => some (k :: ks)
    | _, _ => none
section
variable {G : Gd} {Kn H : Hp}
theorem keyD_fr {d : D} {v : V} {k : Key} (f : Fr G H d v) (h : keyD d = some k) : v = kV k := by
  cases f <;> cases h <;> rfl
theorem keysD_frs : ∀ {ds : List D} {vs : List V} {ks : List Key}, Frs G H ds vs → keysD ds = some ks → vs = ks.map kV
  | _, _, _, .nil, h => by cases h; rfl
  | _, _, _, .cons f fs, h => by
    rw [keysD] at h
    split at h
    · rename_i k ks e1 e2
      cases h
      rw [List.map_cons, keyD_fr f e1, keysD_frs fs e2]
    · cases h
theorem keyD_tp {d : D} {v : V} {k : Key} (le : Le Kn H) (t : Tp G Kn H d v) (h : keyD d = some k) : v = kV k := keyD_fr (t.fr le) h

/-! ### d[k], k in d -/
/-- what a dict holds -/
def dgetD : D → D → Option (Option D)
  | .dic ks ds, k => match keyD k with
    | some k => some (getG (ks.zip ds) k)
    | none => none
  | .dit ks ds, .tup k => match keysD k with
    | some k => some (getG (ks.zip ds) k)
    | none => none
  | _, _ => none
theorem dget_of (le : Le Kn H) {d k : D} {v y : V} {r : Option D} (t1 : Tp G Kn H d v) (t2 : Tp G Kn H k y) (h : dgetD d k = some r) : ∃ a o, v = .ref a ∧ DGet H a y o ∧ (r = none → o = none) ∧ ∀ d', r = some d' → ∃ u, o = some u ∧ Fr G Kn d' u := by
  unfold dgetD at h
  split at h
  · split at h <;> cases h
    rename_i ks ds _ _ kk e
    obtain ⟨a, vs, rfl, rd, hl, f⟩ := t1.dic le
    have ey := keyD_tp le t2 e
    subst ey
    refine ⟨a, _, rfl, .inl ⟨_, _, rd, rfl, rfl⟩, fun z => ?_, fun d' z => ?_⟩
    · exact (getG_none f.length.symm).mp z
    · exact getG_rel (R := Fr G Kn) f.length.symm (fun i d q => f.get q) z
  · split at h <;> cases h
    rename_i ks ds _ _ kk e
    obtain ⟨a, vs, rfl, rd, hl, f⟩ := t1.dit le
    obtain ⟨b, us, rfl, rb, _, fb⟩ := t2.tup le
    have ey := keysD_frs fb e
    subst ey
    refine ⟨a, _, rfl, .inr ⟨_, _, b, rd, rfl, rb, rfl⟩, fun z => ?_, fun d' z => ?_⟩
    · exact (getG_none f.length.symm).mp z
    · exact getG_rel (R := Fr G Kn) f.length.symm (fun i d q => f.get q) z
  · cases h
def rIxD : R2 := fun x y H Q => ∃ a v, x = .ref a ∧ DGet H a y (some v) ∧ Q v H
theorem ix_dict {X : Cx} (hu : X.A.units + 1 < cLine) : IxR X rIxD := by
  intro a b pins s σ H x y v u Q I rx ry h hs
  obtain ⟨p, w, rfl, g, q⟩ := h
  cases (show v = Value.ref p from rx)
  exact tail_any (dict_typeIs I g) PySem.F.slot_dict_getitem.lookup (d_getItem hu I g ry fun w' s' I' r' => ⟨w, H, I', r', q⟩) hs
/-- a subscript of any kind -/
def atD : List D → Option Val
  | [d, i] => match ixD [d, i] with
    | some r => some r
    | none => match dgetD d i with
      | some (some d') => some (d', 0)
      | _ => none
  | _ => none
def rAtD (K : PySem.W.Frag) : R2 := fun x y H Q => rIx K x y H Q ∨ rIxD x y H Q
theorem ix_atD {X : Cx} (hu : X.A.units + 1 < cLine) : IxR X (rAtD X.K) := ix_seq.or (ix_dict hu)
theorem fit_at : Fit2 atD G (rAtD G.K) := by
  intro x y H Q h
  obtain ⟨Kn, d, e, r, le, t1, t2, hf, p⟩ := h.two
  unfold atD at hf
  cases h1 : ixD [d, e] with
  | some r1 =>
    simp only [h1] at hf
    have e1 : r1 = r := Option.some.inj hf
    subst e1
    exact .inl (fit_ix _ _ _ _ ⟨Kn, [d, e], r1, le, .cons t1 (.cons t2 .nil), h1, p⟩)
  | none =>
    simp only [h1] at hf
    cases h2 : dgetD d e with
    | none => rw [h2] at hf; cases hf
    | some o =>
      cases o with
      | none => rw [h2] at hf; cases hf
      | some d' =>
        rw [h2] at hf
        cases hf
        obtain ⟨a, o, rfl, g, _, q⟩ := dget_of le t1 t2 h2
        obtain ⟨u, rfl, fu⟩ := q d' rfl
        exact .inr ⟨a, u, rfl, g, p.val le fu⟩

/-! ### in, not in -/
def flatD : D → Bool
  | .non => true
  | .bl _ => true
  | .int _ => true
  | .str _ => true
  | _ => false
def vOf : D → V
  | .non => .non
  | .bl b => .bl b
  | .int i => .int i
  | .str x => .str x
  | _ => .non
theorem flat_fr {d : D} {v : V} (f : Fr G H d v) (h : flatD d = true) : v = vOf d ∧ flatV v = true := by
  cases f <;> first | exact ⟨rfl, rfl⟩ | cases h
theorem flat_frs : ∀ {ds : List D} {vs : List V}, Frs G H ds vs → ds.all flatD = true → vs = ds.map vOf ∧ vs.all flatV = true
  | _, _, .nil, _ => ⟨rfl, rfl⟩
  | _, _, .cons f fs, h => by
    rw [List.all_cons, Bool.and_eq_true] at h
    obtain ⟨e1, h1⟩ := flat_fr f h.1
    obtain ⟨e2, h2⟩ := flat_frs fs h.2
    exact ⟨by rw [List.map_cons, ← e1, ← e2], by rw [List.all_cons, h1, h2]; rfl⟩
def inStr (x z : Str) : Bool := !(Builtin.Str.occurrences z x 0 z.length 1).isEmpty
/-- whether x is in c -/
def inB : D → D → Option Bool
  | x, .lst ds => if flatD x && ds.all flatD then some (inV (vOf x) (ds.map vOf)) else none
  | x, .tup ds => if flatD x && ds.all flatD then some (inV (vOf x) (ds.map vOf)) else none
  | .str x, .str z => some (inStr x z)
  | x, .dic ks ds => match dgetD (.dic ks ds) x with
    | some o => some o.isSome
    | none => none
  | x, .dit ks ds => match dgetD (.dit ks ds) x with
    | some o => some o.isSome
    | none => none
  | _, _ => none
def inD (neg : Bool) : List D → Option Val
  | [x, c] => (inB x c).map fun b => (.bl (if neg then !b else b), 0)
  | _ => none
def rInStr (neg : Bool) : R2 := fun x y H Q => ∃ i j, x = .str i ∧ y = .str j ∧ Q (.bl (if neg then !(inStr i j) else inStr i j)) H
def rInDic (neg : Bool) : R2 := fun x y H Q => ∃ a o, y = .ref a ∧ DGet H a x o ∧ Q (.bl (if neg then !o.isSome else o.isSome)) H
def rInD (K : PySem.W.Frag) (neg : Bool) : R2 := fun x y H Q => rIn K neg x y H Q ∨ rInStr neg x y H Q ∨ rInDic neg x y H Q
theorem op_inDic {X : Cx} (hu : X.A.units + 1 < cLine) : OpR X (compareOp .In) (rInDic false) := by
  intro pins s σ H x y v u Q I rx ry h
  obtain ⟨a, o, rfl, g, q⟩ := h
  cases (show u = Value.ref a from ry)
  exact d_in hu I g rx fun s' I' => ⟨.bl _, H, I', rfl, q⟩
theorem op_ninDic {X : Cx} (hu : X.A.units + 1 < cLine) : OpR X (compareOp .NotIn) (rInDic true) := by
  intro pins s σ H x y v u Q I rx ry h
  obtain ⟨a, o, rfl, g, q⟩ := h
  cases (show u = Value.ref a from ry)
  exact d_notIn hu I g rx fun s' I' => ⟨.bl _, H, I', rfl, q⟩
theorem op_inD {X : Cx} (hu : X.A.units + 1 < cLine) : OpR X (compareOp .In) (rInD X.K false) := op_in_seq.or (op_in_str.or (op_inDic hu))
theorem op_ninD {X : Cx} (hu : X.A.units + 1 < cLine) : OpR X (compareOp .NotIn) (rInD X.K true) := op_notIn_seq.or (op_notin_str.or (op_ninDic hu))
theorem fit_in {neg : Bool} : Fit2 (inD neg) G (rInD G.K neg) := by
  intro x y H Q h
  obtain ⟨Kn, d, e, r, le, t1, t2, hf, p⟩ := h.two
  have hf : (inB d e).map (fun b => ((D.bl (if neg then !b else b), 0) : Val)) = some r := hf
  cases hb : inB d e with
  | none => rw [hb] at hf; cases hf
  | some b =>
    rw [hb] at hf
    cases hf
    have q : Q (.bl (if neg then !b else b)) H := p.val le (.bl _)
    unfold inB at hb
    split at hb
    · split at hb <;> cases hb
      rename_i ds hfl
      rw [Bool.and_eq_true] at hfl
      obtain ⟨a, vs, rfl, rd, f⟩ := t2.lst le
      obtain ⟨e1, h1⟩ := flat_fr (t1.fr le) hfl.1
      obtain ⟨e2, h2⟩ := flat_frs f hfl.2
      subst e1 e2
      exact .inl ⟨a, _, rfl, .inl (.inl rd), h1, h2, q⟩
    · split at hb <;> cases hb
      rename_i ds hfl
      rw [Bool.and_eq_true] at hfl
      obtain ⟨a, vs, rfl, rd, _, f⟩ := t2.tup le
      obtain ⟨e1, h1⟩ := flat_fr (t1.fr le) hfl.1
      obtain ⟨e2, h2⟩ := flat_frs f hfl.2
      subst e1 e2
      exact .inl ⟨a, _, rfl, .inr (SqT.of rd), h1, h2, q⟩
    · cases hb
      exact .inr (.inl ⟨_, _, t1.str, t2.str, q⟩)
    all_goals first
      | (split at hb <;> cases hb
         rename_i o ho
         obtain ⟨a, o', rfl, g, n, s⟩ := dget_of le t2 t1 ho
         have e : o'.isSome = o.isSome := by
           cases o with
           | none => rw [n rfl] <;> rfl
           | some d' => obtain ⟨u, rfl, _⟩ := s d' rfl; rfl
         exact .inr (.inr ⟨a, o', rfl, g, by rw [e]; exact q⟩))
      | cases hb
end

/-! ### x[i] = e -/
def setID : D → D → D → Option D
  | .lst ds, .int k, d => (ixN ds.length k).map fun j => .lst (ds.set j d)
  | .dic ks ds, k, d => match keyD k with
    | some k => if ks.length < sizeLine then some (D.dict (putG (ks.zip ds) k d)) else none
    | none => none
  | .dit ks ds, .tup k, d => match keysD k with
    | some k => if ks.length < sizeLine then some (D.ditt (putG (ks.zip ds) k d)) else none
    | none => none
  | _, _, _ => none
def rSetD : TSet := fun o i v H Q => ∃ a H', o = .ref a ∧ DPut H a i v H' ∧ Q H'
theorem set_dict {X : Cx} (hu : X.A.units + 1 < cLine) : PSet X rSetD := by
  intro pins s σ H o i v ov iv u Q I ro ri rv h
  obtain ⟨a, H', rfl, g, q⟩ := h
  cases (show ov = Value.ref a from ro)
  exact d_setItem hu I g ri rv fun s' I' => ⟨H', I', q⟩
def rSetA : TSet := fun o i v H Q => rSetL o i v H Q ∨ rSetD o i v H Q
theorem set_any {X : Cx} (hu : X.A.units + 1 < cLine) : PSet X rSetA := by
  intro pins s σ H o i v ov iv u Q I ro ri rv h
  rcases h with h | h
  · exact set_list pins s σ H o i v ov iv u Q I ro ri rv h
  · exact set_dict hu pins s σ H o i v ov iv u Q I ro ri rv h
/-- a store, by what is known -/
theorem set_run {G : Gd} {Kn H : Hp} {a : Addr} {o : HO} {d i e d' : D} {ds : List D} {vs : List V} {y v : V} {Q : Hp → Prop} (le : Le Kn H) (ha : H a = some o) (w : Own G d o ds vs) (hs : Frs G Kn ds vs) (ti : Tp G Kn H i y) (fe : Fr G Kn e v) (h : setID d i e = some d')
    (q : ∀ o' ds' vs', Own G d' o' ds' vs' → Frs G Kn ds' vs' → Q (upd H a o')) : rSetA (.ref a) y v H Q := by
  have fin : ∀ {κ : Type} [DecidableEq κ] {ks : List κ} (kk : κ), ks.length = vs.length → vs.length = ds.length → (putG (ks.zip ds) kk e).map Prod.fst = (putG (ks.zip vs) kk v).map Prod.fst ∧ ((putG (ks.zip vs) kk v).map Prod.snd).length = ((putG (ks.zip ds) kk e).map Prod.snd).length ∧
      ((putG (ks.zip vs) kk v).map Prod.fst).length = ((putG (ks.zip vs) kk v).map Prod.snd).length := fun {κ _ ks} kk hk hl => by
    have hkd : ks.length = ds.length := by rw [hk, hl]
    exact ⟨by rw [put_keys hk, put_keys hkd], by rw [put_length hk, put_length hkd], by simp⟩
  cases w with
  | lst hl =>
    cases i with
    | int k =>
      have h : (ixN ds.length k).map (fun j => D.lst (ds.set j e)) = some d' := h
      cases hj : ixN ds.length k with
      | none => rw [hj] at h; cases h
      | some j =>
        rw [hj] at h; cases h
        exact .inl ⟨a, vs, k, j, rfl, ti.int, ha, by rw [hl]; exact hj, q _ _ _ (.lst (by simp [hl])) (Frs.set fe j hs)⟩
    | _ => cases h
  | @dic ks _ _ hl hk =>
    cases ek : keyD i with
    | none => simp only [setID, ek] at h; cases h
    | some kk =>
      simp only [setID, ek] at h
      split at h <;> cases h
      rename_i hz
      have ey := keyD_tp le ti ek
      subst ey
      obtain ⟨e1, e2, e3⟩ := fin kk hk hl
      refine .inr ⟨a, _, rfl, .inl ⟨_, kk, ha, rfl, by rw [List.length_zip, hk, Nat.min_self, ← hk]; exact hz, rfl⟩, ?_⟩
      have w' := Own.dic (G := G) (ks := (putG (ks.zip vs) kk v).map Prod.fst) (ds := (putG (ks.zip ds) kk e).map Prod.snd) (vs := (putG (ks.zip vs) kk v).map Prod.snd) e2 e3
      rw [zip_fst_snd, ← e1] at w'
      exact q _ _ _ w' (put_frs hs hk kk fe)
  | @dit ks _ _ hl hk =>
    cases i with
    | tup kd =>
      cases ek : keysD kd with
      | none => simp only [setID, ek] at h; cases h
      | some kk =>
        simp only [setID, ek] at h
        split at h <;> cases h
        rename_i hz
        obtain ⟨b, us, rfl, rb, _, fb⟩ := ti.tup le
        have ey := keysD_frs fb ek
        subst ey
        obtain ⟨e1, e2, e3⟩ := fin kk hk hl
        refine .inr ⟨a, _, rfl, .inr ⟨_, kk, b, ha, rfl, rb, by rw [List.length_zip, hk, Nat.min_self, ← hk]; exact hz, rfl⟩, ?_⟩
        have w' := Own.dit (G := G) (ks := (putG (ks.zip vs) kk v).map Prod.fst) (ds := (putG (ks.zip ds) kk e).map Prod.snd) (vs := (putG (ks.zip vs) kk v).map Prod.snd) e2 e3
        rw [zip_fst_snd, ← e1] at w'
        exact q _ _ _ w' (put_frs hs hk kk fe)
    | _ => cases h
  | ins hc hl hk => cases h
end DL
end
section
set_option Elab.async false
set_option linter.all false
set_option maxRecDepth 100000
/-! DL: stores by place, methods that change their object, several targets. -/
namespace DL
open PySem PySem.Spec PyProof.Rows L2
section
variable {X : Cx} {W : WX} {G : Gd} {P : List Nat} {e : Expr} {es : List Expr} {os : List Opn} {oi : Opn} {pos : Pos} {m : ME}

/-- slot i's own object, one level of it -/
def topOf (i : Nat) (ρ : Rho) : Option (D × Rho) := match ρ[i]? with
  | some (some (d, k + 1)) => if d.box then some (d, cap i ρ) else none
  | _ => none
theorem top_run {Kn H : Hp} {σ : L2.St} {ρ ρ1 : Rho} {Lf : Nat → Ft} {i : Nat} {d : D} (S : SI G Kn H σ ρ Lf) (h : topOf i ρ = some (d, ρ1)) :
    ∃ Kn1 Lf1 a o ds vs, σ[i]? = some (some (.ref a)) ∧ H a = some o ∧ Own G d o ds vs ∧ Frs G Kn1 ds vs ∧ SI G Kn1 H σ ρ1 Lf1 ∧ Tr Kn H (U Lf) Kn1 H (U Lf1) ∧ i < ρ1.length ∧ (∀ x, Lf1 i x ↔ x = a) := by
  unfold topOf at h
  split at h
  · rename_i d0 k e
    split at h <;> cases h
    rename_i hb
    obtain ⟨Kn1, Lf1, v, hv, tp, S1, t⟩ := S.cap e
    have hi : i < ρ.length := (List.getElem?_eq_some_iff.mp e).1
    have e1 : (DL.cap i ρ)[i]? = some (some (d, 1)) ∧ i < (DL.cap i ρ).length := by
      unfold DL.cap
      rw [e]
      simp only
      by_cases hk : k + 1 ≤ 1
      · have : k = 0 := by omega
        subst this
        rw [if_pos hk]
        exact ⟨e, hi⟩
      · rw [if_neg hk]
        exact ⟨List.getElem?_set_self hi, by simpa using hi⟩
    obtain ⟨v1, hv1, w⟩ := S1.at_ i d 1 e1.1
    rcases w with w | ⟨a, o, ds, vs, Lc, rfl, ho, w, hc, dj, na, hL⟩
    · rw [w.1] at hb; cases hb
    · refine ⟨Kn1, Lf1, a, o, ds, vs, hv1, ho, w, Frs.of_get w.len fun j d' q => ?_, S1, t, e1.2, fun x => ?_⟩
      · obtain ⟨u, h1, h2⟩ := hc j d' q
        exact ⟨u, h1, h2.1⟩
      · rw [hL x]
        constructor
        · rintro (z | ⟨j, hj, z⟩)
          · exact z
          · obtain ⟨u, h1, h2⟩ := hc j ds[j] (by simp [hj])
            exact (h2.2 x z).elim
        · exact .inl
  · cases h
/-- slot i's object is changed -/
theorem change_run {Kn H : Hp} {σ : L2.St} {ρ : Rho} {Lf : Nat → Ft} {i : Nat} {a : Addr} {o o' : HO} {d' : D} {ds' : List D} {vs' : List V} (S : SI G Kn H σ ρ Lf) (hi : i < ρ.length) (hv : σ[i]? = some (some (.ref a))) (ha : H a = some o) (hL : ∀ x, Lf i x ↔ x = a)
    (w' : Own G d' o' ds' vs') (hs' : Frs G Kn ds' vs') : ∃ Lf', SI G Kn (upd H a o') σ (ρ.set i (some (d', 1))) Lf' ∧ Tr Kn H (U Lf) Kn (upd H a o') (U Lf') := by
  have hk : Kn a = none := S.kn a ⟨i, (hL a).mpr rfl⟩
  have le : Le Kn (upd H a o') := ⟨fun b u r => by
    have hb : b ≠ a := fun e => by
      subst e
      rcases r with r | ⟨_, r⟩ <;> (rw [hk] at r; cases r)
    unfold Rd
    rw [upd_ne hb]
    exact S.le.rd b u r, fun b us r => by
    have hb : b ≠ a := fun e => by subst e; rw [hk] at r; cases r
    rw [upd_ne hb]
    exact S.le.tp b us r⟩
  have t : Tr Kn H (Lf i) Kn (upd H a o') (Lf i) := ⟨fun _ _ z => z, fun _ z n => (n z).elim, fun b u z q => by rw [upd_ne fun e => q ((hL b).mpr e)]; exact z, fun _ z => .inl z, fun z => z⟩
  obtain ⟨S', t'⟩ := S.alter (k := 1) (d := d') (v := .ref a) (L := Lf i) hi hv t (.inr ⟨a, o', ds', vs', fun _ => No, rfl, upd_same, w', fun j e q => by
    obtain ⟨u, h1, h2⟩ := hs'.get q
    exact ⟨u, h1, h2, fun _ z => z⟩, fun _ _ _ _ z => z.elim, fun _ z => z, fun x => (hL x).trans ⟨.inl, fun z => z.elim (fun z => z) fun ⟨_, _, z⟩ => z.elim⟩⟩) (fun x z => by rw [(hL x).mp z]; exact hk) le
  exact ⟨_, S', t'⟩

/-! ### x[i] = e -/
def setFin (j : Nat) (oi : Opn) (e : D) (ts : List (Option D)) (ρ : Rho) : SOut := match lookOs [oi] (ts.drop 1) ρ with
  | some ([i], ρ3) => match topOf j ρ3 with
    | some (d, ρ4) => match setID d i e with
      | some d' => .nx (ρ4.set j (some (d', 1)))
      | none => .bad
    | none => .bad
  | _ => .bad
def sSetI (j : Nat) (oi : Opn) (m : ME) : MS := fun ρ => match m ρ with
  | .ok r ρ1 => bindG .exc .bad (evOs [.nm j, oi] ρ1) fun ts ρ2 => setFin j oi r.1 ts ρ2
  | .exc x ρ1 => .exc x ρ1
  | .bad => .bad
theorem ds_setI {j : Nat} {o i : Expr} {pos' : Pos} (hu : X.A.units + 1 < cLine) (ho : DO X W o (.nm j)) (hi : DO X W i oi) (he : DE X W e m) (hs : swapsWithSole [.Subscript o i pos'] e pos.line X.env = pure false := by rfl) (hw : swappedStores [.Subscript o i pos'] e X.env = pure none := by rfl)
    (h1 : (assignEach [.Subscript o i pos'] X.env).map (·.2) = [assign (.Subscript o i pos') X.env] := by rfl)
    (ha : ∀ v, assign (.Subscript o i pos') X.env v = (do
      let ov ← holding [v] (eval o X.env)
      let iv ← holding [v, ov] (eval i X.env)
      standAt pos'
      holding [v, ov, iv] (setItem ov iv v)
      release [v, ov, iv] []) := by intro _; rfl) : DS X W P (.Assign [.Subscript o i pos'] e pos) (sSetI j oi m) := by
  refine PS.imp (ps_asg he (pg_sub ho hi (set_any hu) ha) hs hw h1) fun D σ H h => ?_
  obtain ⟨Kn, ρ, Lf, S, o⟩ := h
  refine ⟨Kn, ρ, Lf, S, ?_⟩
  unfold sSetI at o
  cases q : m ρ with
  | bad => rw [q] at o; exact o
  | exc x ρ1 => rw [q] at o; exact o.exc
  | ok r ρ1 =>
    rw [q] at o
    simp only at o
    intro Kn1 H1 Lf1 v M S1 w1 sep k t1
    -- the value is known
    have t0 : Tr Kn1 H1 M (plusC Kn1 H1 M) H1 No := (Tr.know (H := H1) (L := M) (P := M) (fun _ z => z) k w1.dom).less fun _ z => z.elim
    have f1 : Fr (gd X) (plusC Kn1 H1 M) r.1 v := w1.freeze (plusC_kn k) fun a o l e => by rw [plusC_in l]; exact e
    have S2 : SI (gd X) (plusC Kn1 H1 M) H1 σ ρ1 Lf1 := S1.past t0 (fun a z q => sep a q z) (plusC_le S1.le)
    have t2 : Tr Kn H (U Lf) (plusC Kn1 H1 M) H1 (U Lf1) := (t1.trans ((t0.frame (U Lf1)).eqv (M := Jn (U Lf1) M) (M1 := Jn No (U Lf1)) (fun a => ⟨fun z => z.elim .inr .inl, fun z => z.elim .inr .inl⟩) fun a => Iff.rfl)).less fun a z => .inr z
    have o2 := SW.past o t2 (fun _ z => z) (Kp.refl (P := P) (σ := σ))
    have run := evOs_gen (W := W) (Z := SW (gd X) W P D (plusC Kn1 H1 M) H1 (U Lf1) σ) (ex := .exc) (bd := .bad) (g := fun ts ρ2 => setFin j oi r.1 ts ρ2) (R := fun vs H' => ∃ x y, vs = [x, y] ∧ rSetA x y v H' fun H3 => D.nx σ H3) (fun z => z) (fun _ _ z => z.exc) [.nm j, oi] [] [] [] No _ _ ρ1 Lf1 S2 .nil (fun _ z => z.elim)
      (Tr.refl.less fun a z => z.elim (fun z => z) fun z => z.elim) o2 fun ts vs F Kn2 H2 ρ2 Lf2 S3 hd s3 t3 o3 => by
        have hd : Held (gd X) Kn2 H2 σ [.nm j, oi] ts vs F := hd
        have o3 : SW (gd X) W P D (plusC Kn1 H1 M) H1 (U Lf1) σ (setFin j oi r.1 ts ρ2) := o3
        cases hd with
        | @nm _ t _ _ ts vs _ hv hd =>
          unfold setFin at o3
          simp only [List.drop_succ_cons, List.drop_zero] at o3
          split at o3
          · rename_i ii ρ3 e3
            split at o3
            · rename_i d ρ4 e4
              split at o3
              · rename_i d' e5
                obtain ⟨Kn3, Lf3, S4, tps, t4⟩ := hd.look S3 s3 e3
                obtain ⟨Kn4, Lf4, a, ob, ds, us, hv', ha', wo, fs, S5, t5, hj, hL⟩ := top_run S4 e4
                have hv2 := hv.symm.trans hv'
                cases hv2
                cases tps with
                | cons tp tr =>
                  cases tr
                  refine ⟨_, _, rfl, set_run S5.le ha' wo fs (tp.kn t5.kn) (f1.mono (Le.of_sub fun b u z => t5.kn b u (t4.kn b u (t3.kn b u z)))) e5 fun o' ds' vs' w' fs' => ?_⟩
                  obtain ⟨Lf', S', t'⟩ := change_run S5 hj hv ha' hL w' fs'
                  exact o3 Kn4 _ σ Lf' S' (((t3.trans t4).trans t5).trans t') .refl
              · exact o3.elim
            · exact o3.elim
          · exact o3.elim
    have run2 : TOd (gd X) W (.nm j) σ H1 fun x H2 => TOd (gd X) W oi σ H2 fun y H3 => ∃ x' y', [] ++ [x, y] = [x', y'] ∧ rSetA x' y' v H3 fun H3 => D.nx σ H3 := run
    exact TOd.mono (fun x H2 q => TOd.mono (fun y H3 q => by
      obtain ⟨x', y', e, q⟩ := q
      cases e
      exact q) q) run2

/-! ### x.m(..), where x changes -/
def mutFin (j : Nat) (os : List Opn) (f : D → List D → Option (D × D)) (ts : List (Option D)) (ρ1 : Rho) : Out Val := match lookOs os ts ρ1 with
  | some (ds, ρ2) => match topOf j ρ2 with
    | some (d, ρ3) => match f d ds with
      | some (d', r) => .ok (r, 0) (ρ3.set j (some (d', 1)))
      | none => .bad
    | none => .bad
  | none => .bad
def mMut (j : Nat) (ty : D → Bool) (os : List Opn) (f : D → List D → Option (D × D)) : ME := fun ρ => match ρ[j]? with
  | some (some (d0, _)) => if ty d0 = true then bindO (evOs os ρ) (mutFin j os f) else .bad
  | _ => .bad
/-- what the method's rule asks is there -/
def MutFit (G : Gd) (f : D → List D → Option (D × D)) (r : V → List V → Hp → VK → Prop) : Prop := ∀ (Kn H : Hp) (a : Addr) (o : HO) (d : D) (ds : List D) (vs : List V) (es : List D) (ws : List V) (d' r' : D) (Q : VK), Le Kn H → H a = some o → Own G d o ds vs → Frs G Kn ds vs → Frs G Kn es ws → f d es = some (d', r') →
  (∀ o' ds' vs' v, Own G d' o' ds' vs' → Frs G Kn ds' vs' → Fr G Kn r' v → Q v (upd H a o')) → r (.ref a) ws H Q
theorem mMut_run {j : Nat} {ty : D → Bool} {f : D → List D → Option (D × D)} {r : V → List V → Hp → VK → Prop} {σ : L2.St} {H : Hp} {Q : VK} (hx : os.all Opn.isEx = true) (ft : MutFit G f r) (h : TEd G W (mMut j ty os f) σ H Q) :
    ∃ x, σ[j]? = some (some x) ∧ (∃ d, ty d = true ∧ Fr G H d x) ∧ TOs G W os σ H fun ws H2 => r x ws H2 Q := by
  obtain ⟨Kn, ρ, Lf, S, o⟩ := h
  have o : OW G W Q Kn H (U Lf) σ (mMut j ty os f ρ) := o
  unfold mMut at o
  cases e0 : ρ[j]? with
  | none => rw [e0] at o; exact o.elim
  | some x0 =>
    cases x0 with
    | none => rw [e0] at o; exact o.elim
    | some p0 =>
      obtain ⟨d0, k0⟩ := p0
      rw [e0] at o
      simp only at o
      by_cases hty : ty d0 = true
      · rw [if_pos hty] at o
        obtain ⟨x, hx0, w0⟩ := S.at_ j d0 k0 e0
        refine ⟨x, hx0, ⟨d0, hty, w0.fr S.le⟩, ?_⟩
        refine evOs_run (R := fun ws H2 => r x ws H2 Q) (g := mutFin j os f) os [] [] [] No Kn H ρ Lf S .nil (fun _ z => z.elim) (Tr.refl.less fun a z => z.elim (fun z => z) fun z => z.elim) o fun ts vs F' Kn' H' ρ' Lf' S' h' s' t' o' => ?_
        have h2 : Held G Kn' H' σ os ts vs F' := h'
        have o' : OW G W Q Kn H (U Lf) σ (mutFin j os f ts ρ') := o'
        unfold mutFin at o'
        cases e2 : lookOs os ts ρ' with
        | none => rw [e2] at o'; exact o'.elim
        | some q2 =>
          obtain ⟨ds, ρ2⟩ := q2
          rw [e2] at o'
          simp only at o'
          cases e3 : topOf j ρ2 with
          | none => rw [e3] at o'; exact o'.elim
          | some q3 =>
            obtain ⟨d, ρ3⟩ := q3
            rw [e3] at o'
            simp only at o'
            cases e4 : f d ds with
            | none => rw [e4] at o'; exact o'.elim
            | some q4 =>
              obtain ⟨d', r'⟩ := q4
              rw [e4] at o'
              obtain ⟨Kn2, Lf2, S2, fes, t2⟩ := Held.lookF h2 hx S' s' e2
              obtain ⟨Kn3, Lf3, a, ob, dds, us, hv', ha', wo, fs, S3, t3, hj, hL⟩ := top_run S2 e3
              have hv2 := hx0.symm.trans hv'
              cases hv2
              refine ft Kn3 H' a ob d dds us ds vs d' r' Q S3.le ha' wo fs (fes.mono (Le.of_sub t3.kn)) e4 fun o1 ds' vs' v w' fs' fv => ?_
              obtain ⟨Lf', S4, t4⟩ := change_run S3 hj hv' ha' hL w' fs'
              exact o' Kn3 _ Lf' v No S4 ⟨fv, fun _ z => z⟩ (fun _ z => z.elim) (fun _ z => z.elim) ((((t'.trans t2).trans t3).trans t4).less fun a z => z.elim (fun z => z) fun z => z.elim)
      · rw [if_neg hty] at o
        exact o.elim
def isLst : D → Bool
  | .lst _ => true
  | _ => false
theorem lst_ty {K : PySem.W.Frag} {H : Hp} {d : D} {x : V} (h : isLst d = true) (f : Fr G H d x) : tyV K "list" x H := by
  cases f with
  | lst r _ => exact .inl ⟨rfl, _, .inl r⟩
  | _ => cases h
/-- a list's method with arguments -/
theorem de_lm {f : D → List D → Option (D × D)} {r : V → List V → Hp → VK → Prop} {j : Nat} {o : Expr} {name : Str} {id : String} {apos : Pos} (slot : Slot "list" name id) (hty : typeOf (.builtin id) = pure (.type "method_descriptor")) (hm : MtR X id r) (ft : MutFit (gd X) f r) (ho : DO X W o (.nm j)) (ha : DA X W (e :: es) os) (hx : os.all Opn.isEx = true := by rfl)
    (hbase : attributeBase o name X.env (eval o X.env) = eval o X.env := by rfl) (hline : (apos.endLine == pos.line) = true := by rfl) (hs : starEach (e :: es) X.env = (false, eval e X.env) :: starEach es X.env := by rfl) (hpl : (backTo pos (starEach es X.env)).any (·.1) = false := by rfl)
    (hfew : ((((backTo pos (starEach (e :: es) X.env)).all fun x => !x.1) && (backToKw pos (keywordEach [] X.env)).all fun x => x.1.isSome) && decide (((e :: es).length + ([] : List Keyword).length + if ([] : List Keyword).isEmpty = true then 0 else 1) < 30)) = true := by rfl) :
    DE X W (.Call (.Attribute o name apos) (e :: es) [] pos) (mMut j isLst os f) := by
  refine PE.imp (pe_bm PySem.F.plainAttrs_list slot hty hm ho ha (hbase := hbase) (hline := hline) (hs := hs) (hplain := hpl) (hfew := hfew)) fun σ H Q h => ?_
  obtain ⟨x, e1, ⟨d, ht, f1⟩, q⟩ := mMut_run hx ft h
  exact ⟨x, e1, lst_ty ht f1, q⟩
theorem de_lm0 {f : D → List D → Option (D × D)} {r : V → List V → Hp → VK → Prop} {j : Nat} {o : Expr} {name : Str} {id : String} {apos : Pos} (slot : Slot "list" name id) (hty : typeOf (.builtin id) = pure (.type "method_descriptor")) (hm : MtR X id r) (ft : MutFit (gd X) f r) (ho : DO X W o (.nm j))
    (hbase : attributeBase o name X.env (eval o X.env) = eval o X.env := by rfl) (hline : (apos.endLine == pos.line) = true := by rfl) :
    DE X W (.Call (.Attribute o name apos) [] [] pos) (mMut j isLst [] f) := by
  refine PE.imp (pe_bm0 PySem.F.plainAttrs_list slot hty hm ho (hbase := hbase) (hline := hline)) fun σ H Q h => ?_
  obtain ⟨x, e1, ⟨d, ht, f1⟩, q⟩ := mMut_run rfl ft h
  exact ⟨x, e1, lst_ty ht f1, q⟩
def appD : D → List D → Option (D × D)
  | .lst xs, [d] => if xs.length < sizeLine then some (.lst (xs ++ [d]), .non) else none
  | _, _ => none
theorem fit_app : MutFit G appD rAppend := by
  intro Kn H a o d ds vs es ws d' r' Q le ha w fs fe h q
  unfold appD at h
  split at h
  · split at h <;> cases h
    rename_i hz
    cases w with
    | lst hl => cases fe with
      | cons f0 ft => cases ft; exact ⟨a, vs, _, rfl, rfl, ha, by rw [hl]; exact hz, q _ _ _ _ (.lst (by simp [hl])) (fs.append (.one f0)) .non⟩
  · cases h
def popD : D → List D → Option (D × D)
  | .lst xs, [] => (xs[xs.length - 1]?).map fun d => (.lst xs.dropLast, d)
  | _, _ => none
theorem fit_pop : MutFit G popD rPop := by
  intro Kn H a o d ds vs es ws d' r' Q le ha w fs fe h q
  unfold popD at h
  split at h
  · rename_i xs
    cases e : xs[xs.length - 1]? with
    | none => rw [e] at h; cases h
    | some x =>
      rw [e] at h; cases h
      cases w with
      | lst hl => cases fe with
        | nil =>
          obtain ⟨u, h1, h2⟩ := fs.get e
          exact ⟨a, vs, u, rfl, rfl, ha, by rw [hl]; exact h1, q _ _ _ _ (.lst (by simp [hl])) fs.dropLast h2⟩
  · cases h
def popAtD : D → List D → Option (D × D)
  | .lst xs, [.int i] => if -(2 ^ 63) ≤ i ∧ i < 2 ^ 63 then (seqIndex? i xs.length).bind fun k => (xs[k]?).map fun d => (.lst (xs.eraseIdx k), d) else none
  | _, _ => none
theorem fit_popAt : MutFit G popAtD rPopAt := by
  intro Kn H a o d ds vs es ws d' r' Q le ha w fs fe h q
  unfold popAtD at h
  split at h
  · rename_i xs i
    split at h
    · rename_i hb
      cases e : seqIndex? i xs.length with
      | none => rw [e] at h; cases h
      | some k =>
        rw [e] at h
        simp only [Option.bind_some] at h
        cases e2 : xs[k]? with
        | none => rw [e2] at h; cases h
        | some x =>
          rw [e2] at h; cases h
          cases w with
          | lst hl => cases fe with
            | cons f0 ft =>
              cases ft
              cases f0
              obtain ⟨u, h1, h2⟩ := fs.get e2
              exact ⟨a, vs, i, k, u, rfl, rfl, ha, hb.1, hb.2, by rw [hl]; exact e, h1, q _ _ _ _ (.lst (by simp [List.length_eraseIdx, hl])) (fs.eraseIdx k) h2⟩
    · cases h
  · cases h
def clrD : D → List D → Option (D × D)
  | .lst _, [] => some (.lst [], .non)
  | _, _ => none
theorem fit_clr : MutFit G clrD rClear := by
  intro Kn H a o d ds vs es ws d' r' Q le ha w fs fe h q
  unfold clrD at h
  split at h
  · cases h
    cases w with
    | lst hl => cases fe with
      | nil => exact ⟨a, vs, rfl, rfl, ha, q _ _ _ _ (.lst rfl) .nil .non⟩
  · cases h

/-! ### a, b = x, y -/
def storeAll : List Nat → List Val → Rho → Option Rho
  | [], [], ρ => some ρ
  | i :: is, r :: rs, ρ => if i < ρ.length then storeAll is rs (ρ.set i (some r)) else none
  | _, _, _ => none
end
end DL
end
section
set_option Elab.async false
set_option linter.all false
set_option maxRecDepth 100000
/-! DL: what is walked; for and while. -/
namespace DL
open PySem PySem.Spec PyProof.Rows L2

/-- a walk over the data ds, from a state on -/
structure Src (G : Gd) (Kn0 H0 : Hp) (L0 : Ft) (J : It) (ds : List D) (Gs : Hp → Prop) (Y : Nat → Hp → V → Hp → Prop) : Prop where
  walk : Walk J ds.length Gs Y
  stays : ∀ Kn H L, Tr Kn0 H0 L0 Kn H L → Le Kn H → Gs H
  item : ∀ i H x H' Kn L, i < ds.length → Tr Kn0 H0 L0 Kn H L → Le Kn H → Y i H x H' → ∃ d, ds[i]? = some d ∧ ∃ Kn', Tr Kn H No Kn' H' No ∧ Le Kn' H' ∧ Fr G Kn' d x
/-- the reading of what is walked -/
def TId (G : Gd) (W : WX) (m : Rho → Out (List D)) : TI := fun σ H R => ∃ Kn ρ Lf, SI G Kn H σ ρ Lf ∧
  match m ρ with
  | .ok ds ρ' => ∀ J Gs Y Kn' H' Lf', SI G Kn' H' σ ρ' Lf' → Tr Kn H (U Lf) Kn' H' (U Lf') → (∀ L0, (∀ a, L0 a → Kn' a = none) → Src G Kn' H' L0 J ds Gs Y) → R J H'
  | .exc x ρ' => XW G W Kn H (U Lf) σ x ρ'
  | .bad => False
def DI (X : Cx) (W : WX) (tg e : Expr) (m : Rho → Out (List D)) : Prop := PI X tg e (TId (gd X) W m)

section
variable {X : Cx} {W : WX} {G : Gd} {P : List Nat} {e tg : Expr} {es : List Expr} {os : List Opn} {pos : Pos} {m : ME} {t : MT} {mi : Rho → Out (List D)}

/-! ### sources -/
theorem Src.lst {Kn0 H0 : Hp} {L0 : Ft} {K : PySem.W.Frag} {a : Addr} {ds : List D} {vs : List V} (h : Kn0 a = some (.lst vs)) (f : Frs G Kn0 ds vs) : Src G Kn0 H0 L0 (Itl K a) ds (fun H => SqL K H a vs) (YAt vs) where
  walk := by rw [← f.length]; exact walk_list
  stays := fun Kn H L t le => .inl (le.rd a _ (.inl (t.kn a _ h)))
  item := fun i H x H' Kn L hi t le y => by
    obtain ⟨rfl, e⟩ := y
    obtain ⟨d, e', fd⟩ := f.getv e
    exact ⟨d, e', Kn, Tr.refl, le, fd.mono (Le.of_sub t.kn)⟩
theorem Src.tup {Kn0 H0 : Hp} {L0 : Ft} {K : PySem.W.Frag} {a : Addr} {ds : List D} {vs : List V} (h : Kn0 a = some (.tup vs)) (f : Frs G Kn0 ds vs) : Src G Kn0 H0 L0 (Itt K a) ds (fun H => SqT K H a vs) (YAt vs) where
  walk := by rw [← f.length]; exact walk_tup
  stays := fun Kn H L t le => SqT.of (le.tp a _ (t.kn a _ h))
  item := fun i H x H' Kn L hi t le y => by
    obtain ⟨rfl, e⟩ := y
    obtain ⟨d, e', fd⟩ := f.getv e
    exact ⟨d, e', Kn, Tr.refl, le, fd.mono (Le.of_sub t.kn)⟩
def signsD (x : Str) : List D := x.cps.toList.map fun c => .str (oneSign c)
theorem Src.str {Kn0 H0 : Hp} {L0 : Ft} (z : Str) : Src G Kn0 H0 L0 (Its z) (signsD z) (fun _ => True) (fun i H v H' => H' = H ∧ ∃ c, z.cps[i]? = some c ∧ v = .str ⟨#[c]⟩) where
  walk := by
    have : (signsD z).length = z.cps.size := by simp [signsD]
    rw [this]; exact walk_str
  stays := fun _ _ _ _ _ => trivial
  item := fun i H x H' Kn L hi t le y => by
    obtain ⟨rfl, c, e, rfl⟩ := y
    refine ⟨.str (oneSign c), ?_, Kn, Tr.refl, le, .str _⟩
    have : z.cps.toList[i]? = some c := by simpa using e
    simp [signsD, this]
def rngD (lo : Int) (n : Nat) : List D := (List.range n).map fun (i : Nat) => .int (lo + (i : Nat))
theorem Src.rng {Kn0 H0 : Hp} {L0 : Ft} (lo : Int) (n : Nat) : Src G Kn0 H0 L0 (Itr lo n) (rngD lo n) (fun _ => True) (YFn fun i => .int (lo + (i : Nat))) where
  walk := by
    have : (rngD lo n).length = n := by simp [rngD]
    rw [this]; exact walk_range
  stays := fun _ _ _ _ _ => trivial
  item := fun i H x H' Kn L hi t le y => by
    obtain ⟨rfl, rfl⟩ := y
    have hi' : i < n := by simpa [rngD] using hi
    exact ⟨.int (lo + (i : Nat)), by simp [rngD, hi'], Kn, Tr.refl, le, .int _⟩
/-- a new pair at each turn -/
theorem pair_item {H H' Kn : Hp} {i : Nat} {xs ys : Nat → Option V} {x : V} {d1 d2 : D} (le : Le Kn H) (y : YPair xs ys i H x H') (f1 : ∀ v, xs i = some v → Fr G Kn d1 v) (f2 : ∀ v, ys i = some v → Fr G Kn d2 v) : ∃ Kn', Tr Kn H No Kn' H' No ∧ Le Kn' H' ∧ Fr G Kn' (.tup [d1, d2]) x := by
  obtain ⟨T, a, b, rfl, hT, rfl, e1, e2⟩ := y
  have hk : Kn T = none := le.out hT
  have kn : ∀ c u, Kn c = some u → upd Kn T (.tup [a, b]) c = some u := fun c u e => by rw [upd_ne (ne_of_none e hk)]; exact e
  refine ⟨upd Kn T (.tup [a, b]), ⟨kn, fun c z n => ?_, fun c u z _ => by rw [upd_ne (ne_of_none z hT)]; exact z, fun _ z => z.elim, fun z c o u e => ?_⟩, le.upd2 hT, .tup upd_same ((Frs.cons (f1 a e1) (.one (f2 b e2))).mono (Le.of_sub kn))⟩
  · by_cases hc : c = T
    · subst hc; exact .inr hT
    · rw [upd_ne hc] at n; exact (n z).elim
  · by_cases hc : c = T
    · subst hc; rw [upd_same] at e; cases e
    · rw [upd_ne hc] at e; exact z c o u e
def enumD (n : Nat) (ds : List D) : List D := match ds with
  | [] => []
  | d :: ds => .tup [.int n, d] :: enumD (n + 1) ds
theorem enumD_length : ∀ (ds : List D) (n : Nat), (enumD n ds).length = ds.length
  | [], _ => rfl
  | _ :: ds, n => by simp [enumD, enumD_length ds]
theorem enumD_get : ∀ (ds : List D) (n i : Nat) (d : D), ds[i]? = some d → (enumD n ds)[i]? = some (.tup [.int (n + i : Nat), d])
  | [], _, _, _, h => by simp at h
  | _ :: _, n, 0, d, h => by
    simp at h; subst h; simp [enumD]
  | _ :: ds, n, i + 1, d, h => by
    have := enumD_get ds (n + 1) i d (by simpa using h)
    simp only [enumD, List.getElem?_cons_succ, this]
    have e : n + 1 + i = n + (i + 1) := by omega
    rw [e]
theorem Src.enum {Kn0 H0 : Hp} {L0 : Ft} {K : PySem.W.Frag} {a : Addr} {ds : List D} {vs : List V} (h : Kn0 a = some (.lst vs)) (f : Frs G Kn0 ds vs) : Src G Kn0 H0 L0 (Ite K a) (enumD 0 ds) (fun H => SqL K H a vs) (YPair (fun i => some (.int (i : Nat))) (fun i => vs[i]?)) where
  walk := by rw [enumD_length, ← f.length]; exact walk_enum
  stays := fun Kn H L t le => .inl (le.rd a _ (.inl (t.kn a _ h)))
  item := fun i H x H' Kn L hi t le y => by
    rw [enumD_length] at hi
    obtain ⟨v, e, fv⟩ := f.get (i := i) (d := ds[i]) (by simp [hi])
    obtain ⟨Kn', t', le', f'⟩ := pair_item (G := G) (d1 := .int (i : Nat)) (d2 := ds[i]) le y (fun v e => by cases e; exact .int _) fun v' e' => by
      rw [e] at e'; cases e'; exact fv.mono (Le.of_sub t.kn)
    exact ⟨_, by rw [enumD_get ds 0 i ds[i] (by simp [hi])]; simp, Kn', t', le', f'⟩
def zipD : List D → List D → List D
  | a :: as, b :: bs => .tup [a, b] :: zipD as bs
  | _, _ => []
theorem zipD_length : ∀ (as bs : List D), (zipD as bs).length = min as.length bs.length
  | [], _ => by simp [zipD]
  | _ :: _, [] => by simp [zipD]
  | _ :: as, _ :: bs => by simp [zipD, zipD_length as bs]
theorem zipD_get : ∀ (as bs : List D) (i : Nat) (a b : D), as[i]? = some a → bs[i]? = some b → (zipD as bs)[i]? = some (.tup [a, b])
  | [], _, _, _, _, h, _ => by simp at h
  | _ :: _, [], _, _, _, _, h => by simp at h
  | _ :: _, _ :: _, 0, _, _, h, h' => by simp at h h'; subst h h'; simp [zipD]
  | _ :: as, _ :: bs, i + 1, a, b, h, h' => by
    have := zipD_get as bs i a b (by simpa using h) (by simpa using h')
    simpa [zipD] using this
theorem Src.zip {Kn0 H0 : Hp} {L0 : Ft} {K : PySem.W.Frag} {a b : Addr} {ds es : List D} {vs us : List V} (h : Kn0 a = some (.lst vs)) (f : Frs G Kn0 ds vs) (h' : Kn0 b = some (.lst us)) (f' : Frs G Kn0 es us) :
    Src G Kn0 H0 L0 (Itz K a b) (zipD ds es) (fun H => SqL K H a vs ∧ SqL K H b us) (YPair (fun i => vs[i]?) (fun i => us[i]?)) where
  walk := walk_zip (by rw [zipD_length, f.length, f'.length])
  stays := fun Kn H L t le => ⟨.inl (le.rd a _ (.inl (t.kn a _ h))), .inl (le.rd b _ (.inl (t.kn b _ h')))⟩
  item := fun i H x H' Kn L hi t le y => by
    rw [zipD_length] at hi
    obtain ⟨v, e, fv⟩ := f.get (i := i) (d := ds[i]) (by simp [show i < ds.length by omega])
    obtain ⟨u, e', fu⟩ := f'.get (i := i) (d := es[i]) (by simp [show i < es.length by omega])
    obtain ⟨Kn', t', le', ff⟩ := pair_item (G := G) (d1 := ds[i]) (d2 := es[i]) le y (fun v' z => by rw [e] at z; cases z; exact fv.mono (Le.of_sub t.kn)) fun v' z => by rw [e'] at z; cases z; exact fu.mono (Le.of_sub t.kn)
    exact ⟨_, zipD_get ds es i _ _ (by simp [show i < ds.length by omega]) (by simp [show i < es.length by omega]), Kn', t', le', ff⟩
theorem Src.rev {Kn0 H0 : Hp} {L0 : Ft} {K : PySem.W.Frag} {a : Addr} {ds : List D} {vs : List V} (h : Kn0 a = some (.lst vs)) (f : Frs G Kn0 ds vs) : Src G Kn0 H0 L0 (Itv K a vs.length) ds.reverse (fun H => SqL K H a vs) (fun i H x H' => H' = H ∧ vs[vs.length - 1 - i]? = some x) where
  walk := by rw [List.length_reverse, ← f.length]; exact walk_rev
  stays := fun Kn H L t le => .inl (le.rd a _ (.inl (t.kn a _ h)))
  item := fun i H x H' Kn L hi t le y => by
    obtain ⟨rfl, e⟩ := y
    rw [List.length_reverse] at hi
    obtain ⟨d, e', fd⟩ := f.getv e
    exact ⟨d, by rw [List.getElem?_reverse hi, ← f.length]; exact e', Kn, Tr.refl, le, fd.mono (Le.of_sub t.kn)⟩
def keyToD : Key → D
  | .inl i => .int i
  | .inr x => .str x
theorem fr_key (k : Key) {H : Hp} : Fr G H (keyToD k) (kV k) := by
  cases k
  · exact .int _
  · exact .str _
theorem zip_getv {ks : List Key} {vs : List V} (h : ks.length = vs.length) {i : Nat} {k : Key} {v : V} (e : (ks.zip vs)[i]? = some (k, v)) : ks[i]? = some k ∧ vs[i]? = some v := by
  rw [List.getElem?_zip_eq_some] at e
  exact e
/-- the locked dict at d, walked -/
theorem Src.keys {Kn0 H0 : Hp} {L0 : Ft} {d : Addr} {o : Obj} {ks : List Key} {vs : List V} (hl : ks.length = vs.length) (h : H0 d = some (.frz o (.dK (ks.zip vs)))) (hn : ¬ L0 d) :
    Src G Kn0 H0 L0 (Itk d o (ks.zip vs)) (ks.map keyToD) (fun H => H d = some (.frz o (.dK (ks.zip vs)))) (fun i H x H' => H' = H ∧ ∃ k v, (ks.zip vs)[i]? = some (k, v) ∧ x = kV k) where
  walk := by
    have : (ks.map keyToD).length = (ks.zip vs).length := by simp [hl]
    rw [this]; exact walk_keys
  stays := fun Kn H L t le => t.keep d _ h hn
  item := fun i H x H' Kn L hi t le y => by
    obtain ⟨rfl, k, v, e, rfl⟩ := y
    obtain ⟨e1, e2⟩ := zip_getv hl e
    exact ⟨keyToD k, by simp [e1], Kn, Tr.refl, le, fr_key k⟩
theorem Src.vals {Kn0 H0 : Hp} {L0 : Ft} {d : Addr} {o : Obj} {ks : List Key} {ds : List D} {vs : List V} (hl : ks.length = vs.length) (h : H0 d = some (.frz o (.dK (ks.zip vs)))) (hn : ¬ L0 d) (f : Frs G Kn0 ds vs) :
    Src G Kn0 H0 L0 (Itd d o (ks.zip vs)) ds (fun H => H d = some (.frz o (.dK (ks.zip vs)))) (fun i H x H' => H' = H ∧ ∃ k, (ks.zip vs)[i]? = some (k, x)) where
  walk := by
    have : ds.length = (ks.zip vs).length := by rw [List.length_zip, hl, Nat.min_self, f.length]
    rw [this]; exact walk_values
  stays := fun Kn H L t le => t.keep d _ h hn
  item := fun i H x H' Kn L hi t le y => by
    obtain ⟨rfl, k, e⟩ := y
    obtain ⟨e1, e2⟩ := zip_getv hl e
    obtain ⟨dd, e', fd⟩ := f.getv e2
    exact ⟨dd, e', Kn, Tr.refl, le, fd.mono (Le.of_sub t.kn)⟩
def itemsD (ks : List Key) (ds : List D) : List D := zipD (ks.map keyToD) ds
theorem Src.items {Kn0 H0 : Hp} {L0 : Ft} {d : Addr} {o : Obj} {ks : List Key} {ds : List D} {vs : List V} (hl : ks.length = vs.length) (h : H0 d = some (.frz o (.dK (ks.zip vs)))) (hn : ¬ L0 d) (f : Frs G Kn0 ds vs) :
    Src G Kn0 H0 L0 (Iti d o (ks.zip vs)) (itemsD ks ds) (fun H => H d = some (.frz o (.dK (ks.zip vs)))) (YPair (fun i => (ks.zip vs)[i]?.map fun kv => kV kv.1) (fun i => (ks.zip vs)[i]?.map Prod.snd)) where
  walk := by
    have : (itemsD ks ds).length = (ks.zip vs).length := by unfold itemsD; rw [zipD_length, List.length_map, List.length_zip, f.length]
    rw [this]; exact walk_items
  stays := fun Kn H L t le => t.keep d _ h hn
  item := fun i H x H' Kn L hi t le y => by
    have hi' : i < ks.length := by unfold itemsD at hi; rw [zipD_length, List.length_map] at hi; omega
    have hid : i < ds.length := by rw [← f.length, ← hl]; exact hi'
    obtain ⟨v, e, fv⟩ := f.get (i := i) (d := ds[i]) (by simp [hid])
    have ez : (ks.zip vs)[i]? = some (ks[i], v) := List.getElem?_zip_eq_some.mpr ⟨by simp [hi'], e⟩
    obtain ⟨Kn', t', le', ff⟩ := pair_item (G := G) (d1 := keyToD ks[i]) (d2 := ds[i]) le y (fun v' z => by rw [ez] at z; cases z; exact fr_key _) fun v' z => by rw [ez] at z; cases z; exact fv.mono (Le.of_sub t.kn)
    exact ⟨_, zipD_get _ _ i (keyToD ks[i]) ds[i] (by simp [hi']) (by simp [hid]), Kn', t', le', ff⟩
end
end DL
end
section
set_option Elab.async false
set_option linter.all false
set_option maxRecDepth 100000
/-! DL: for and while. -/
namespace DL
open PySem PySem.Spec PyProof.Rows L2
section
variable {X : Cx} {W : WX} {G : Gd} {P : List Nat} {e tg : Expr} {es : List Expr} {os : List Opn} {pos : Pos} {m : ME} {t : MT} {mi : Rho → Out (List D)}

/-! ### iterables -/
theorem PI.or {tg e : Expr} {t t' : TI} (h : PI X tg e t) (h' : PI X tg e t') : PI X tg e (fun σ H R => t σ H R ∨ t' σ H R) := ⟨fun pins s σ H R I hw => hw.elim (h.run pins s σ H R I) (h'.run pins s σ H R I)⟩
/-- a value frozen: known from then on -/
theorem freeze_run {Kn H Kn1 H1 : Hp} {σ : L2.St} {ρ1 : Rho} {L : Ft} {Lf1 : Nat → Ft} {r : Val} {v : V} {M : Ft} (S1 : SI G Kn1 H1 σ ρ1 Lf1) (w1 : Ow G Kn1 H1 r.2 r.1 v M) (s : ∀ a, M a → ¬ U Lf1 a) (k : ∀ a, M a → Kn1 a = none) (t1 : Tr Kn H L Kn1 H1 (Jn (U Lf1) M)) :
    ∃ Kn2, SI G Kn2 H1 σ ρ1 Lf1 ∧ Fr G Kn2 r.1 v ∧ Tr Kn H L Kn2 H1 (U Lf1) := by
  have t0 : Tr Kn1 H1 M (plusC Kn1 H1 M) H1 No := (Tr.know (H := H1) (L := M) (P := M) (fun _ z => z) k w1.dom).less fun _ z => z.elim
  have f1 : Fr G (plusC Kn1 H1 M) r.1 v := w1.freeze (plusC_kn k) fun a o l e => by rw [plusC_in l]; exact e
  have S2 : SI G (plusC Kn1 H1 M) H1 σ ρ1 Lf1 := S1.past t0 (fun a z q => s a q z) (plusC_le S1.le)
  exact ⟨_, S2, f1, (t1.trans ((t0.frame (U Lf1)).eqv (M := Jn (U Lf1) M) (M1 := Jn No (U Lf1)) (fun a => ⟨fun z => z.elim .inr .inl, fun z => z.elim .inr .inl⟩) fun a => Iff.rfl)).less fun a z => .inr z⟩
/-- the items of a list, a tuple, a text -/
def itD : D → Option (List D)
  | .lst ds => some ds
  | .tup ds => some ds
  | .str x => some (signsD x)
  | _ => none
def mIt (m : ME) : Rho → Out (List D) := fun ρ => bindO (m ρ) fun r ρ1 => match itD r.1 with
  | some ds => .ok ds ρ1
  | none => .bad
/-- what follows a value that is frozen -/
theorem TEd.frozen {γ : Type} {Z : γ → Prop} {ex : Exn → Rho → γ} {bd : γ} {k : Val → Rho → γ} {Kn H : Hp} {σ : L2.St} {ρ : Rho} {Lf : Nat → Ft} {Q : VK} (S : SI G Kn H σ ρ Lf) (hbd : ¬ Z bd) (hex : ∀ x ρ', Z (ex x ρ') → XW G W Kn H (U Lf) σ x ρ') (o : Z (bindG ex bd (m ρ) k))
    (h : ∀ r ρ1 Kn1 H1 Lf1 v, SI G Kn1 H1 σ ρ1 Lf1 → Fr G Kn1 r.1 v → Tr Kn H (U Lf) Kn1 H1 (U Lf1) → Z (k r ρ1) → Q v H1) : TEd G W m σ H Q := by
  refine ⟨Kn, ρ, Lf, S, ?_⟩
  cases q : m ρ with
  | bad => rw [q] at o; exact hbd o
  | exc x ρ1 => rw [q] at o; exact hex x ρ1 o
  | ok r ρ1 =>
    rw [q] at o
    intro Kn1 H1 Lf1 v M S1 w1 s kk t1
    obtain ⟨Kn2, S2, f2, t2⟩ := freeze_run S1 w1 s kk t1
    exact h r ρ1 Kn2 H1 Lf1 v S2 f2 t2 o
def OI (G : Gd) (W : WX) (R : It → Hp → Prop) (σ : L2.St) (Kn H : Hp) (L : Ft) (o : Out (List D)) : Prop :=
  match o with
  | .ok ds ρ' => ∀ J Gs Y Kn' H' Lf', SI G Kn' H' σ ρ' Lf' → Tr Kn H L Kn' H' (U Lf') → (∀ L0, (∀ a, L0 a → Kn' a = none) → Src G Kn' H' L0 J ds Gs Y) → R J H'
  | .exc x ρ' => XW G W Kn H L σ x ρ'
  | .bad => False
theorem bindG_O {α β : Type} (x : Out α) (f : α → Rho → Out β) : bindG .exc .bad x f = bindO x f := by cases x <;> rfl
theorem rd_plain {Kn : Hp} (p : Plain Kn) {a : Addr} {u : HO} (r : Rd Kn a u) : Kn a = some u := by
  rcases r with r | ⟨o, r⟩
  · exact r
  · exact (p a o u r).elim
theorem it_run {σ : L2.St} {H : Hp} {R : It → Hp → Prop} (h : TId G W (mIt m) σ H R) : iList G.K (TEd G W m) σ H R ∨ iTup G.K (TEd G W m) σ H R ∨ iStr (TEd G W m) σ H R := by
  obtain ⟨Kn, ρ, Lf, S, o⟩ := h
  have o : OI G W R σ Kn H (U Lf) (mIt m ρ) := o
  unfold mIt at o
  cases q : m ρ with
  | bad => rw [q] at o; exact o.elim
  | exc x ρ1 => rw [q] at o; exact .inl ⟨Kn, ρ, Lf, S, by rw [q]; exact o⟩
  | ok r ρ1 =>
    rw [q, bindO_ok] at o
    cases e : itD r.1 with
    | none => rw [e] at o; exact o.elim
    | some ds =>
      rw [e] at o
      unfold itD at e
      split at e
      · cases e
        refine .inl ⟨Kn, ρ, Lf, S, ?_⟩
        rw [q]
        intro Kn1 H1 Lf1 v M S1 w1 s kk t1
        obtain ⟨Kn2, S2, f2, t2⟩ := freeze_run S1 w1 s kk t1
        rename_i hr
        rw [hr] at f2
        cases f2 with
        | @lst a _ vs rd fs =>
          have ek := rd_plain S2.pl rd
          exact ⟨a, rfl, ⟨vs, .inl (S2.le.rd _ _ rd)⟩, o _ _ _ Kn2 H1 Lf1 S2 t2 (fun _ _ => Src.lst ek fs)⟩
      · cases e
        refine .inr (.inl ⟨Kn, ρ, Lf, S, ?_⟩)
        rw [q]
        intro Kn1 H1 Lf1 v M S1 w1 s kk t1
        obtain ⟨Kn2, S2, f2, t2⟩ := freeze_run S1 w1 s kk t1
        rename_i hr
        rw [hr] at f2
        cases f2 with
        | @tup a _ vs rd fs => exact ⟨a, rfl, ⟨vs, SqT.of (S2.le.tp _ _ rd)⟩, o _ _ _ Kn2 H1 Lf1 S2 t2 (fun _ _ => Src.tup rd fs)⟩
      · cases e
        refine .inr (.inr ⟨Kn, ρ, Lf, S, ?_⟩)
        rw [q]
        intro Kn1 H1 Lf1 v M S1 w1 s kk t1
        obtain ⟨Kn2, S2, f2, t2⟩ := freeze_run S1 w1 s kk t1
        rename_i hr
        rw [hr] at f2
        cases f2 with
        | str _ => exact ⟨_, rfl, o _ _ _ Kn2 H1 Lf1 S2 t2 (fun _ _ => Src.str _)⟩
      · cases e
theorem di_it (he : DE X W e m) : DI X W tg e (mIt m) := PI.imp (DL.PI.or (pi_list he) (DL.PI.or (pi_tup he) (pi_str he))) fun _ _ _ h => it_run h
/-- ranges -/
def rangeD1 : List D → Option (Int × Nat)
  | [.int j] => if -(2 ^ 62) ≤ j ∧ j < 2 ^ 62 then some (0, j.toNat) else none
  | _ => none
def rangeD2 : List D → Option (Int × Nat)
  | [.int i, .int j] => if -(2 ^ 62) ≤ i ∧ i < 2 ^ 62 ∧ -(2 ^ 62) ≤ j ∧ j < 2 ^ 62 then some (i, (j - i).toNat) else none
  | _ => none
def rangeFin (f : List D → Option (Int × Nat)) (os : List Opn) (ts : List (Option D)) (ρ1 : Rho) : Out (List D) := match lookOs os ts ρ1 with
  | some (ds, ρ2) => match f ds with
    | some (lo, n) => .ok (rngD lo n) ρ2
    | none => .bad
  | none => .bad
def mRange (f : List D → Option (Int × Nat)) (os : List Opn) : Rho → Out (List D) := fun ρ => bindO (evOs os ρ) fun ts ρ1 => rangeFin f os ts ρ1
theorem range_run {f : List D → Option (Int × Nat)} {σ : L2.St} {H : Hp} {R : It → Hp → Prop} (h : TId G W (mRange f os) σ H R) : TOs G W os σ H fun vs H1 => ∃ Kn ds lo n, Le Kn H1 ∧ Tps G Kn H1 ds vs ∧ f ds = some (lo, n) ∧ R (Itr lo n) H1 := by
  obtain ⟨Kn, ρ, Lf, S, o⟩ := h
  have o : OI G W R σ Kn H (U Lf) (mRange f os ρ) := o
  unfold mRange at o
  rw [← bindG_O] at o
  refine evOs_gen (R := fun vs H1 => ∃ Kn ds lo n, Le Kn H1 ∧ Tps G Kn H1 ds vs ∧ f ds = some (lo, n) ∧ R (Itr lo n) H1) (Z := OI G W R σ Kn H (U Lf)) (ex := .exc) (bd := .bad) (fun z => z) (fun _ _ z => z) os [] [] [] No Kn H ρ Lf S .nil (fun _ z => z.elim) (Tr.refl.less fun a z => z.elim (fun z => z) fun z => z.elim)
    (g := rangeFin f os) o fun ts vs F' Kn' H' ρ' Lf' S' h' s' t' o' => ?_
  have h2 : Held G Kn' H' σ os ts vs F' := h'
  have o' : OI G W R σ Kn H (U Lf) (rangeFin f os ts ρ') := o'
  unfold rangeFin at o'
  cases e2 : lookOs os ts ρ' with
  | none => rw [e2] at o'; exact o'.elim
  | some q2 =>
    obtain ⟨ds, ρ2⟩ := q2
    rw [e2] at o'
    simp only at o'
    cases e3 : f ds with
    | none => rw [e3] at o'; exact o'.elim
    | some q3 =>
      obtain ⟨lo, n⟩ := q3
      rw [e3] at o'
      obtain ⟨Kn2, Lf2, S2, tps, t2⟩ := h2.look S' s' e2
      exact ⟨Kn2, ds, lo, n, S2.le, tps, e3, o' _ _ _ Kn2 H' Lf2 S2 (t'.trans t2) (fun _ _ => Src.rng lo n)⟩
theorem di_range1 {a : Expr} {oa : Opn} {p : Pos} (hg : Gl X "range") (hm : X.mg "range" = none) (ha : DA X W [a] [oa]) (hs : starEach [a] X.env = [(false, eval a X.env)] := by rfl) : DI X W tg (.Call (.Name "range" p) [a] [] pos) (mRange rangeD1 [oa]) :=
  PI.imp (pi_range1 hg hm ha hs) fun σ H R h => TOs.mono (fun vs H1 q => by
    obtain ⟨Kn, ds, lo, n, le, tps, e, r⟩ := q
    unfold rangeD1 at e
    split at e
    · split at e <;> cases e
      rename_i hb
      cases tps with
      | cons t1 tr =>
        cases tr
        exact ⟨_, by rw [t1.int], hb.1, hb.2, r⟩
    · cases e) (range_run h)
theorem di_range2 {a b : Expr} {oa ob : Opn} {p : Pos} (hg : Gl X "range") (hm : X.mg "range" = none) (ha : DA X W [a, b] [oa, ob]) (hs : starEach [a, b] X.env = [(false, eval a X.env), (false, eval b X.env)] := by rfl) (hs2 : starEach [b] X.env = [(false, eval b X.env)] := by rfl) : DI X W tg (.Call (.Name "range" p) [a, b] [] pos) (mRange rangeD2 [oa, ob]) :=
  PI.imp (pi_range2 hg hm ha hs hs2) fun σ H R h => TOs.mono (fun vs H1 q => by
    obtain ⟨Kn, ds, lo, n, le, tps, e, r⟩ := q
    unfold rangeD2 at e
    split at e
    · split at e <;> cases e
      rename_i hb
      cases tps with
      | cons t1 tr => cases tr with
        | cons t2 tr =>
          cases tr
          exact ⟨_, _, by rw [t1.int, t2.int], hb, r⟩
    · cases e) (range_run h)

/-! ### for -/
def forD (t : Tg) (body : MS) : List D → MS
  | [], ρ => .nx ρ
  | d :: ds, ρ => match asgT t d ρ with
    | none => .bad
    | some ρ1 => match body ρ1 with
      | .nx ρ2 => forD t body ds ρ2
      | .ct ρ2 => forD t body ds ρ2
      | .bk ρ2 => .nx ρ2
      | o => o
def sFor (t : Tg) (mi : Rho → Out (List D)) (body : MS) : MS := fun ρ => match mi ρ with
  | .ok ds ρ1 => forD t body ds ρ1
  | .exc x ρ1 => .exc x ρ1
  | .bad => .bad
/-- the loop, from a state on -/
theorem for_run {t : Tg} {body : MS} {g : TG} {tb : TS} {D0 : Ends} {Kn0 H0 Kn1 H1 : Hp} {L0 : Ft} {σ0 : L2.St} {ρ1 : Rho} {Lf1 : Nat → Ft} {J : It} {ds : List D} {Gs : Hp → Prop} {Y : Nat → Hp → V → Hp → Prop} (gw : GW G t g) (hP : t.slots.all (fun i => !P.contains i) = true) (hb : ∀ D σ H, TSd G W P body D σ H → tb D σ H)
    (S1 : SI G Kn1 H1 σ0 ρ1 Lf1) (t1 : Tr Kn0 H0 L0 Kn1 H1 (U Lf1)) (src : Src G Kn1 H1 (U Lf1) J ds Gs Y) (o : SW G W P D0 Kn0 H0 L0 σ0 (forD t body ds ρ1)) :
    ∃ Wd : Nat → Nat → L2.St → Hp → Prop, (∃ m, Wd 0 m σ0 H1) ∧ ∀ i m σ H, Wd i m σ H →
      (J.stop i H ∧ D0.nx σ H) ∨ (J.go i H ∧ ∃ N : L2.St → Hp → Prop, (∀ σ' H', N σ' H' → ∃ m', m' < m ∧ Wd (i + 1) m' σ' H') ∧ ∀ x H', J.yld i H x H' → g x σ H' fun σ2 H2 => tb { D0 with nx := N, ct := N, bk := D0.nx } σ2 H2) := by
  refine for_it src.walk (fun i σ H => ∃ Kn ρ Lf, SI G Kn H σ ρ Lf ∧ Tr Kn1 H1 (U Lf1) Kn H (U Lf) ∧ Kp P σ0 σ ∧ SW G W P D0 Kn0 H0 L0 σ0 (forD t body (ds.drop i) ρ)) ⟨Kn1, ρ1, Lf1, S1, .refl, .refl, o⟩ (fun i σ H _ ⟨Kn, ρ, Lf, S, t, _, _⟩ => src.stays Kn H _ t S.le) (fun i x σ H H' hi hp y => ?_) fun σ H hp => ?_
  · obtain ⟨Kn, ρ, Lf, S, tr, kp, o⟩ := hp
    obtain ⟨d, ed, Kn', t', le', f⟩ := src.item i H x H' Kn _ hi tr S.le y
    have S' : SI G Kn' H' σ ρ Lf := S.past t' (fun _ _ z => z) le'
    have tf : Tr Kn H (U Lf) Kn' H' (U Lf) := (t'.frame (U Lf)).eqv (fun a => ⟨.inr, fun z => z.elim (fun z => z.elim) fun z => z⟩) fun a => ⟨.inr, fun z => z.elim (fun z => z.elim) fun z => z⟩
    have hdr : ds.drop i = d :: ds.drop (i + 1) := by
      have := List.getElem?_eq_some_iff.mp ed
      obtain ⟨h1, h2⟩ := this
      rw [List.drop_eq_getElem_cons h1, h2]
    rw [hdr, forD] at o
    cases e1 : asgT t d ρ with
    | none => rw [e1] at o; exact o.elim
    | some ρ2 =>
      rw [e1] at o
      simp only at o
      refine gw _ _ _ _ _ _ _ _ _ S' f e1 fun σ2 Lf2 S2 u2 k2 => hb _ _ _ ?_
      have kp2 : Kp P σ σ2 := fun j hj => k2 j fun z => by
        have := List.all_eq_true.mp hP j z
        simp at this
        exact this hj
      have tr2 : Tr Kn1 H1 (U Lf1) Kn' H' (U Lf2) := (tr.trans tf).less u2
      refine ⟨Kn', ρ2, Lf2, S2, ?_⟩
      have next : ∀ ρ3, SW G W P D0 Kn0 H0 L0 σ0 (forD t body (ds.drop (i + 1)) ρ3) → ∀ Kn3 H3 σ3 Lf3, SI G Kn3 H3 σ3 ρ3 Lf3 → Tr Kn' H' (U Lf2) Kn3 H3 (U Lf3) → Kp P σ2 σ3 →
          ∃ Kn ρ Lf, SI G Kn H3 σ3 ρ Lf ∧ Tr Kn1 H1 (U Lf1) Kn H3 (U Lf) ∧ Kp P σ0 σ3 ∧ SW G W P D0 Kn0 H0 L0 σ0 (forD t body (ds.drop (i + 1)) ρ) := fun ρ3 o3 Kn3 H3 σ3 Lf3 S3 t3 k3 => ⟨Kn3, ρ3, Lf3, S3, tr2.trans t3, (kp.trans kp2).trans k3, o3⟩
      have tot : Tr Kn0 H0 L0 Kn' H' (U Lf2) := t1.trans tr2
      have kpt : Kp P σ0 σ2 := kp.trans kp2
      cases e2 : body ρ2 with
      | nx ρ3 => rw [e2] at o; exact next ρ3 o
      | ct ρ3 => rw [e2] at o; exact next ρ3 o
      | bk ρ3 =>
        rw [e2] at o
        exact fun Kn3 H3 σ3 Lf3 S3 t3 k3 => o Kn3 H3 σ3 Lf3 S3 (tot.trans t3) (kpt.trans k3)
      | rt r ρ3 =>
        rw [e2] at o
        exact fun Kn3 H3 σ3 Lf3 v M S3 w s k t3 k3 => o Kn3 H3 σ3 Lf3 v M S3 w s k (tot.trans t3) (kpt.trans k3)
      | exc x ρ3 =>
        rw [e2] at o
        exact fun Kn3 H3 σ3 Lf3 c dx S3 r t3 k3 => o Kn3 H3 σ3 Lf3 c dx S3 r (tot.trans t3) (kpt.trans k3)
      | bad => rw [e2] at o; exact o.elim
  · obtain ⟨Kn, ρ, Lf, S, tr, kp, o⟩ := hp
    rw [List.drop_eq_nil_of_le (Nat.le_refl _), forD] at o
    exact o Kn H σ Lf S (t1.trans tr) kp
theorem ds_for {t : Tg} {body : List Stmt} {mb : MS} (hp : PassesOwn (model X.prog X.w) X.A X.env X.xe) (hc : X.calm = true) (hi : DI X W tg e mi) (hg : DG X tg t) (hb : DSs X W P body mb) (hP : t.slots.all (fun i => !P.contains i) = true := by rfl)
    (hs : ∀ x, foldedSetIterable e X.env x = pure x := by intro _; rfl) : DS X W P (.For tg e body [] pos) (sFor t mi mb) := by
  have gw := gw_all (G := gd X) t
  have pg := hg
  refine PS.imp (ps_for hp hc hi pg hb hs) fun D σ H h => ?_
  obtain ⟨Kn, ρ, Lf, S, o⟩ := h
  refine ⟨Kn, ρ, Lf, S, ?_⟩
  unfold sFor at o
  cases q : mi ρ with
  | bad => rw [q] at o; exact o
  | exc x ρ1 => rw [q] at o; exact o.exc
  | ok ds ρ1 =>
    rw [q] at o
    exact fun J Gs Y Kn1 H1 Lf1 S1 t1 src => for_run gw hP (fun _ _ _ z => z) S1 t1 (src _ S1.kn) o

/-! ### while -/
def whileD (t : MT) (body : MS) : Nat → MS
  | 0, _ => .bad
  | n + 1, ρ => match t ρ with
    | .ok k ρ1 => if k then match body ρ1 with
        | .nx ρ2 => whileD t body n ρ2
        | .ct ρ2 => whileD t body n ρ2
        | .bk ρ2 => .nx ρ2
        | o => o
      else .nx ρ1
    | .exc x ρ1 => .exc x ρ1
    | .bad => .bad
/-- n: more turns than there are -/
theorem ds_while {c : Expr} {body : List Stmt} {mb : MS} (n : Nat) (hp : PassesOwn (model X.prog X.w) X.A X.env X.xe) (hc : DT X W c t) (hb : DSs X W P body mb) : DS X W P (.While c body [] pos) (whileD t mb n) := PS.imp (ps_while hp hc hb) fun D σ H h => by
  obtain ⟨Kn, ρ, Lf, S, o⟩ := h
  refine ⟨fun m σ' H' => ∃ Kn' ρ' Lf', SI (gd X) Kn' H' σ' ρ' Lf' ∧ Tr Kn H (U Lf) Kn' H' (U Lf') ∧ Kp P σ σ' ∧ SW (gd X) W P D Kn H (U Lf) σ (whileD t mb m ρ'), ⟨n, Kn, ρ, Lf, S, .refl, .refl, o⟩, ?_⟩
  rintro m σ1 H1 ⟨Kn1, ρ1, Lf1, S1, t1, k1, o1⟩
  refine ⟨Kn1, ρ1, Lf1, S1, ?_⟩
  cases m with
  | zero => exact o1.elim
  | succ m =>
    rw [whileD] at o1
    cases q : t ρ1 with
    | bad => rw [q] at o1; exact o1
    | exc x ρ2 => rw [q] at o1; exact XW.past (G := gd X) (fun a b c d dx Sx r tx => o1 a b σ1 c d dx Sx r tx k1) t1 (fun _ z => z)
    | ok k ρ2 =>
      rw [q] at o1
      simp only at o1
      intro Kn2 H2 Lf2 S2 t2
      cases k with
      | false => exact o1 Kn2 H2 σ1 Lf2 S2 (t1.trans t2) k1
      | true =>
        simp only [if_true] at o1
        refine ⟨fun σ' H' => ∃ Kn' ρ' Lf', SI (gd X) Kn' H' σ' ρ' Lf' ∧ Tr Kn H (U Lf) Kn' H' (U Lf') ∧ Kp P σ σ' ∧ SW (gd X) W P D Kn H (U Lf) σ (whileD t mb m ρ'), fun σ' H' z => ⟨m, Nat.lt_succ_self m, z⟩, Kn2, ρ2, Lf2, S2, ?_⟩
        have tot := t1.trans t2
        cases e2 : mb ρ2 with
        | nx ρ3 => rw [e2] at o1; exact fun Kn3 H3 σ3 Lf3 S3 t3 k3 => ⟨Kn3, ρ3, Lf3, S3, tot.trans t3, k1.trans k3, o1⟩
        | ct ρ3 => rw [e2] at o1; exact fun Kn3 H3 σ3 Lf3 S3 t3 k3 => ⟨Kn3, ρ3, Lf3, S3, tot.trans t3, k1.trans k3, o1⟩
        | bk ρ3 => rw [e2] at o1; exact fun Kn3 H3 σ3 Lf3 S3 t3 k3 => o1 Kn3 H3 σ3 Lf3 S3 (tot.trans t3) (k1.trans k3)
        | rt r ρ3 => rw [e2] at o1; exact fun Kn3 H3 σ3 Lf3 v M S3 w s k t3 k3 => o1 Kn3 H3 σ3 Lf3 v M S3 w s k (tot.trans t3) (k1.trans k3)
        | exc x ρ3 => rw [e2] at o1; exact fun Kn3 H3 σ3 Lf3 c dx S3 r t3 k3 => o1 Kn3 H3 σ3 Lf3 c dx S3 r (tot.trans t3) (k1.trans k3)
        | bad => rw [e2] at o1; exact o1.elim
end
end DL
end
section
set_option Elab.async false
set_option linter.all false
set_option maxRecDepth 100000
/-! DL: loops over a dict, which is locked meanwhile. -/
namespace DL
open PySem PySem.Spec PyProof.Rows L2
section
variable {X : Cx} {W : WX} {G : Gd} {P : List Nat} {e tg : Expr} {pos : Pos} {m : ME}
section
variable {Kn H Kn' H' : Hp} {L L' : Ft} {σ : L2.St} {ρ : Rho} {Lf : Nat → Ft} {d : Addr} {od : Obj} {u : HO}
theorem Ow.off {k : Nat} {e : D} {v : V} {M : Ft} {o : HO} (w : Ow G Kn H k e v M) (hd : ¬ M d) : Ow G Kn (upd H d o) k e v M := w.move (fun _ _ z => z) fun a x l z => by
  rw [upd_ne (by intro q; subst q; exact hd l)]
  exact z
/-- another word for what stands at a known d -/
theorem SI.word {o : HO} (S : SI G Kn H σ ρ Lf) (hk : Kn d = some u) (mu : Mut (some u)) (ho : o = u ∨ ∃ od, o = .frz od u) : SI G Kn (upd H d o) σ ρ Lf where
  le := ⟨fun a w r => by
    have r' := rd_plain S.pl r
    by_cases ha : a = d
    · subst ha; rw [hk] at r'; cases r'
      rcases ho with rfl | ⟨od, rfl⟩
      · exact .inl upd_same
      · exact .inr ⟨od, upd_same⟩
    · unfold Rd; rw [upd_ne ha]; exact S.le.rd a w r, fun a vs r => by
    by_cases ha : a = d
    · subst ha
      rw [hk] at r; cases r; exact mu.elim
    · rw [upd_ne ha]; exact S.le.tp a vs r⟩
  len := S.len
  at_ := fun i e k q => by
    obtain ⟨v, h1, w⟩ := S.at_ i e k q
    exact ⟨v, h1, w.off fun z => by have := S.kn d ⟨i, z⟩; rw [hk] at this; cases this⟩
  off := S.off
  dj := S.dj
  kn := S.kn
  pl := S.pl
/-- a step under the lock is a step without it -/
theorem Tr.unlock (t : Tr Kn (upd H d (.frz od u)) L Kn' H' L') (h : H d = some u) : Tr Kn H L Kn' (upd H' d u) L' where
  kn := t.kn
  nk := fun a z n => (t.nk a z n).imp (fun q => q) fun q => by
    by_cases ha : a = d
    · subst ha; rw [upd_same] at q; cases q
    · rw [upd_ne ha] at q; exact q
  keep := fun a o z hl => by
    by_cases ha : a = d
    · subst ha; rw [h] at z; cases z; exact upd_same
    · rw [upd_ne ha]; exact t.keep a o (by rw [upd_ne ha]; exact z) hl
  nl := fun a z => (t.nl a z).imp (fun q => q) fun q => by
    by_cases ha : a = d
    · subst ha; rw [upd_same] at q; cases q
    · rw [upd_ne ha] at q; exact q
  pl := t.pl
def lockE (d : Addr) (od : Obj) (u : HO) (D : Ends) : Ends := ⟨fun σ' H' => H' d = some (.frz od u) ∧ D.nx σ' (upd H' d u), fun v H' => H' d = some (.frz od u) ∧ D.rt v (upd H' d u), fun σ' H' => H' d = some (.frz od u) ∧ D.bk σ' (upd H' d u), fun σ' H' => H' d = some (.frz od u) ∧ D.ct σ' (upd H' d u)⟩
def SOut.isExc : SOut → Bool
  | .exc _ _ => true
  | _ => false
theorem SW.lock {D : Ends} {o : SOut} (h : SW G W P D Kn H L σ o) (hx : o.isExc = false) (hk : Kn d = some u) (mu : Mut (some u)) (hd : H d = some u) (hl : ¬ L d) : SW G W P (lockE d od u D) Kn (upd H d (.frz od u)) L σ o := by
  have keep : ∀ {Kn' H' L'}, Tr Kn (upd H d (.frz od u)) L Kn' H' L' → H' d = some (.frz od u) := fun t => t.keep d _ upd_same hl
  cases o with
  | nx ρ' => exact fun Kn' H' σ' Lf' S t k => ⟨keep t, h Kn' _ σ' Lf' (S.word (t.kn d u hk) mu (.inl rfl)) (t.unlock hd) k⟩
  | bk ρ' => exact fun Kn' H' σ' Lf' S t k => ⟨keep t, h Kn' _ σ' Lf' (S.word (t.kn d u hk) mu (.inl rfl)) (t.unlock hd) k⟩
  | ct ρ' => exact fun Kn' H' σ' Lf' S t k => ⟨keep t, h Kn' _ σ' Lf' (S.word (t.kn d u hk) mu (.inl rfl)) (t.unlock hd) k⟩
  | rt r ρ' => exact fun Kn' H' σ' Lf' v M S w s kn t k => ⟨keep t, h Kn' _ σ' Lf' v M (S.word (t.kn d u hk) mu (.inl rfl)) (w.off fun z => by have := kn d z; rw [t.kn d u hk] at this; cases this) s kn (t.unlock hd) k⟩
  | exc x ρ' => cases hx
  | bad => exact h
end

theorem PS.or {st : Stmt} {t t' : TS} (h : PS X st t) (h' : PS X st t') : PS X st (fun D σ H => t D σ H ∨ t' D σ H) := ⟨fun pins s σ H D I hw => hw.elim (h.run pins s σ H D I) (h'.run pins s σ H D I)⟩
/-- what of a dict is walked -/
inductive Kd where
  | keys | vals | items
def Kd.ds : Kd → List Key → List D → List D
  | .keys, ks, _ => ks.map keyToD
  | .vals, _, ds => ds
  | .items, ks, ds => itemsD ks ds
def Kd.it : Kd → Addr → Obj → List (Key × V) → It
  | .keys => Itk
  | .vals => Itd
  | .items => Iti
/-- the dict in slot i, walked -/
def mKd (kd : Kd) (i : Nat) : Rho → Out (List D) := fun ρ => match ρ[i]? with
  | some (some (.dic ks ds, k)) => .ok (kd.ds ks ds) (if k = 0 then ρ else ρ.set i (some (.dic ks ds, 0)))
  | _ => .bad
def sForK (t : Tg) (kd : Kd) (i : Nat) (body : MS) : MS := fun ρ => match sFor t (mKd kd i) body ρ with
  | .exc _ _ => .bad
  | o => o
theorem Src.kd (kd : Kd) {Kn0 H0 : Hp} {L0 : Ft} {d : Addr} {o : Obj} {ks : List Key} {ds : List D} {vs : List V} (hl : ks.length = vs.length) (h : H0 d = some (.frz o (.dK (ks.zip vs)))) (hn : ¬ L0 d) (f : Frs G Kn0 ds vs) : ∃ Gs Y, Src G Kn0 H0 L0 (kd.it d o (ks.zip vs)) (kd.ds ks ds) Gs Y := by
  cases kd with
  | keys => exact ⟨_, _, Src.keys hl h hn⟩
  | vals => exact ⟨_, _, Src.vals hl h hn f⟩
  | items => exact ⟨_, _, Src.items hl h hn f⟩
/-- the walk's own rule -/
structure DK (X : Cx) (kd : Kd) (tg e : Expr) (i : Nat) : Prop where
  ex : ∃ wi, PI X tg e wi ∧ ∀ (σ : L2.St) (H : Hp) (R : It → Hp → Prop) (d : Addr) (o : Obj) (kvs : List (Key × V)), σ[i]? = some (some (.ref d)) → H d = some (.frz o (.dK kvs)) → R (kd.it d o kvs) H → wi σ H R
theorem dk_keys {i : Nat} (h : DO X W e (.nm i)) : DK X .keys tg e i := ⟨_, pi_keys h, fun σ H R d o kvs e1 e2 r => ⟨.ref d, e1, d, o, rfl, .inl ⟨kvs, e2, r⟩⟩⟩
theorem dk_vals {i : Nat} {apos cpos : Pos} (h : DO X W e (.nm i)) (hbase : attributeBase e "values" X.env (eval e X.env) = eval e X.env := by rfl) (hline : (apos.endLine == cpos.line) = true := by rfl) : DK X .vals tg (.Call (.Attribute e "values" apos) [] [] cpos) i :=
  ⟨_, pi_values h hbase hline, fun σ H R d o kvs e1 e2 r => ⟨.ref d, e1, d, o, kvs, rfl, e2, r⟩⟩
theorem dk_items {i : Nat} {apos cpos tpos : Pos} {elts : List Expr} {kk : Nat} (h : DO X W e (.nm i)) (hbase : attributeBase e "items" X.env (eval e X.env) = eval e X.env := by rfl) (hline : (apos.endLine == cpos.line) = true := by rfl) : DK X .items (.Tuple elts kk tpos) (.Call (.Attribute e "items" apos) [] [] cpos) i :=
  ⟨_, pi_items h hbase hline, fun σ H R d o kvs e1 e2 r => ⟨.ref d, e1, d, o, kvs, rfl, e2, r⟩⟩
/-- the dict in slot i, known from now on -/
theorem kd_run {Kn H : Hp} {σ : L2.St} {ρ ρ1 : Rho} {Lf : Nat → Ft} {kd : Kd} {i : Nat} {items : List D} (S : SI G Kn H σ ρ Lf) (h : mKd kd i ρ = .ok items ρ1) :
    ∃ Kn1 Lf1 d ks ds vs, σ[i]? = some (some (.ref d)) ∧ SI G Kn1 H σ ρ1 Lf1 ∧ Tr Kn H (U Lf) Kn1 H (U Lf1) ∧ Kn1 d = some (.dK (ks.zip vs)) ∧ ks.length = vs.length ∧ Frs G Kn1 ds vs ∧ items = kd.ds ks ds := by
  unfold mKd at h
  split at h
  · rename_i ks ds k e
    cases h
    by_cases hk : k = 0
    · subst hk
      obtain ⟨v, hv, w⟩ := S.at_ i _ 0 e
      cases w.1 with
      | dic rd hl fs => exact ⟨Kn, Lf, _, ks, ds, _, hv, by simpa using S, .refl, rd_plain S.pl rd, hl, fs, rfl⟩
    · obtain ⟨Kn1, v, hv, f, S1, t⟩ := S.freeze e
      cases f with
      | dic rd hl fs => exact ⟨Kn1, _, _, ks, ds, _, hv, by rw [if_neg hk]; exact S1, t, rd_plain S1.pl rd, hl, fs, rfl⟩
  · cases h
theorem ds_forK {kd : Kd} {i : Nat} {t : Tg} {body : List Stmt} {mb : MS} (hp : PassesOwn (model X.prog X.w) X.A X.env X.xe) (hc : X.calm = true) (hi : DK X kd tg e i) (hg : DG X tg t) (hb : DSs X W P body mb) (hP : t.slots.all (fun i => !P.contains i) = true := by rfl)
    (hs : ∀ x, foldedSetIterable e X.env x = pure x := by intro _; rfl) : DS X W P (.For tg e body [] pos) (sForK t kd i mb) := by
  have gw := gw_all (G := gd X) t
  have pg := hg
  obtain ⟨wi, pi, hwi⟩ := hi.ex
  refine PS.imp (PS.or (ps_lock (ps_for hp hc pi pg hb hs)) (ps_for hp hc pi pg hb hs)) fun D σ H h => ?_
  obtain ⟨Kn, ρ, Lf, S, o⟩ := h
  unfold sForK sFor at o
  cases q : mKd kd i ρ with
  | bad => rw [q] at o; exact o.elim
  | exc x ρ1 => rw [q] at o; exact o.elim
  | ok items ρ1 =>
    rw [q] at o
    simp only at o
    obtain ⟨Kn1, Lf1, d, ks, ds, vs, hv, S1, t1, hk, hl, fs, rfl⟩ := kd_run S q
    have hx : (forD t mb (kd.ds ks ds) ρ1).isExc = false ∧ SW (gd X) W P D Kn H (U Lf) σ (forD t mb (kd.ds ks ds) ρ1) := by
      cases e1 : forD t mb (kd.ds ks ds) ρ1 with
      | exc x ρ2 => rw [e1] at o; exact o.elim
      | nx _ => rw [e1] at o; exact ⟨rfl, o⟩
      | bk _ => rw [e1] at o; exact ⟨rfl, o⟩
      | ct _ => rw [e1] at o; exact ⟨rfl, o⟩
      | rt _ _ => rw [e1] at o; exact ⟨rfl, o⟩
      | bad => rw [e1] at o; exact o.elim
    have nl : ¬ U Lf1 d := fun z => by have := S1.kn d z; rw [hk] at this; cases this
    rcases S1.le.rd d _ (.inl hk) with hd | ⟨od, hd⟩
    · refine .inl ⟨d, _, hd, True.intro, fun od => hwi σ _ _ d od _ hv upd_same ?_⟩
      have S2 : SI (gd X) Kn1 (upd H d (.frz od (.dK (ks.zip vs)))) σ ρ1 Lf1 := S1.word hk True.intro (.inr ⟨od, rfl⟩)
      obtain ⟨Gs, Y, src⟩ := Src.kd (G := gd X) (L0 := U Lf1) kd hl (upd_same (H := H) (a := d) (o := .frz od (.dK (ks.zip vs)))) nl fs
      have o2 := SW.lock (od := od) (SW.past hx.2 t1 (fun _ z => z) (Kp.refl (P := P) (σ := σ))) hx.1 hk True.intro hd nl
      exact for_run (D0 := lockE d od (.dK (ks.zip vs)) D) gw hP (fun _ _ _ z => z) S2 .refl src o2
    · refine .inr (hwi σ _ _ d od _ hv hd ?_)
      obtain ⟨Gs, Y, src⟩ := Src.kd (G := gd X) (L0 := U Lf1) kd hl hd nl fs
      exact for_run gw hP (fun _ _ _ z => z) S1 t1 src hx.2
end
end DL
end
section
set_option Elab.async false
set_option linter.all false
set_option maxRecDepth 100000
/-! DL: comprehensions. -/
namespace DL
open PySem PySem.Spec PyProof.Rows L2
def WF : WX := fun _ _ _ _ => False
def wipeR (ρ : Rho) : List Nat → Rho
  | [] => ρ
  | v :: vs => (wipeR ρ vs).set v none
/-- an element's tests, the element -/
def stepD (tt : MT) (m : ME) (k : List D → Rho → Out (List D)) (acc : List D) (ρ1 : Rho) : Out (List D) := match tt ρ1 with
  | .ok b ρ2 => if b then match m ρ2 with
      | .ok r ρ3 => if acc.length < sizeLine then k (acc ++ [r.1]) ρ3 else .bad
      | _ => .bad
    else k acc ρ2
  | _ => .bad
/-- the turns of a comprehension; then k -/
def compK (t : Tg) (tt : MT) (m : ME) (vs : List Nat) (k : List D → Rho → Out (List D)) : List D → List D → Rho → Out (List D)
  | [], acc, ρ => k acc ρ
  | d :: ds, acc, ρ => match asgT t d ρ with
    | none => .bad
    | some ρ1 => stepD tt m (fun acc ρ2 => compK t tt m vs k ds acc (wipeR ρ2 vs)) acc ρ1
def lcFin (x : Out (List D)) : Out Val := match x with
  | .ok ds ρ => .ok (.lst ds, 1) ρ
  | _ => .bad
def mLc (mi : Rho → Out (List D)) (t : Tg) (tt : MT) (m : ME) (vs : List Nat) : ME := fun ρ => bindO (mi ρ) fun ds ρ1 => lcFin (compK t tt m vs .ok ds [] (wipeR ρ1 vs))
section
variable {X : Cx} {W : WX} {G : Gd} {P : List Nat} {pos : Pos} {m : ME} {tt : MT} {mi : Rho → Out (List D)} {t : Tg} {vs : List Nat}
section
variable {Kn H : Hp} {σ σ' : L2.St} {ρ : Rho} {Lf : Nat → Ft}
/-- only the told slots count -/
theorem SI.slots (S : SI G Kn H σ ρ Lf) (hl : σ'.length = σ.length) (h : ∀ (i : Nat) v, (∃ r, ρ[i]? = some (some r)) → σ[i]? = some (some v) → σ'[i]? = some (some v)) : SI G Kn H σ' ρ Lf :=
  ⟨S.le, by rw [hl]; exact S.len, fun i d k e => by
    obtain ⟨v, h1, w⟩ := S.at_ i d k e
    exact ⟨v, h i v ⟨_, e⟩ h1, w⟩, S.off, S.dj, S.kn, S.pl⟩
theorem SI.unwipe (S : SI G Kn H (wipe σ vs) ρ Lf) : SI G Kn H σ ρ Lf := S.slots (by rw [wipe_length]) fun i v _ e => (wipe_some e).1
theorem SI.wipeR (S : SI G Kn H σ ρ Lf) : ∀ vs : List Nat, ∃ Lf', SI G Kn H σ (DL.wipeR ρ vs) Lf' ∧ ∀ a, U Lf' a → U Lf a
  | [] => ⟨Lf, S, fun _ z => z⟩
  | v :: vs => by
    obtain ⟨Lf1, S1, u1⟩ := SI.wipeR S vs
    exact ⟨_, S1.drop v, fun a z => u1 a (U_drop z)⟩
theorem wipeR_none : ∀ {vs : List Nat} {i : Nat} {r : Val}, (DL.wipeR ρ vs)[i]? = some (some r) → i ∉ vs
  | [], i, r, _ => by simp
  | v :: vs, i, r, h => by
    unfold DL.wipeR at h
    by_cases hi : v = i
    · subst hi
      by_cases hv : v < (DL.wipeR ρ vs).length
      · rw [List.getElem?_set_self hv] at h; cases h
      · rw [List.getElem?_eq_none (by simpa using hv)] at h; cases h
    · rw [List.getElem?_set_ne hi] at h
      have := wipeR_none h
      simp only [List.mem_cons, not_or]
      exact ⟨fun e => hi e.symm, this⟩
/-- the block's own slots are dropped on both sides -/
theorem SI.wiped (S : SI G Kn H σ ρ Lf) (vs : List Nat) : ∃ Lf', SI G Kn H (wipe σ vs) (DL.wipeR ρ vs) Lf' ∧ ∀ a, U Lf' a → U Lf a := by
  obtain ⟨Lf', S', u⟩ := S.wipeR vs
  refine ⟨Lf', S'.slots (by rw [wipe_length]) fun i v ⟨r, e⟩ e1 => ?_, u⟩
  rw [wipe_out (wipeR_none e)]
  exact e1
theorem wipe_get {i : Nat} : ∀ {vs : List Nat}, i ∈ vs → i < σ.length → (wipe σ vs)[i]? = some none
  | [], h, _ => by simp at h
  | v :: vs, h, hl => by
    unfold wipe
    by_cases e : v = i
    · subst e
      rw [List.getElem?_set_self (by rw [wipe_length]; exact hl)]
    · rw [List.getElem?_set_ne e]
      exact wipe_get (by simpa [Ne.symm e] using h) hl
theorem wipe_same (hl : σ'.length = σ.length) (h : ∀ j, j ∉ vs → σ'[j]? = σ[j]?) : wipe σ' vs = wipe σ vs := by
  apply List.ext_getElem?
  intro i
  by_cases hi : i ∈ vs
  · by_cases hs : i < σ.length
    · rw [wipe_get hi hs, wipe_get hi (by omega)]
    · rw [List.getElem?_eq_none (by rw [wipe_length]; omega), List.getElem?_eq_none (by rw [wipe_length]; omega)]
  · rw [wipe_out hi, wipe_out hi, h i hi]
theorem wipe_wipe : wipe (wipe σ vs) vs = wipe σ vs := wipe_same (wipe_length _ _) fun j hj => wipe_out hj
end
mutual
theorem asgT_length : ∀ (t : Tg) (d : D) (ρ ρ' : Rho), asgT t d ρ = some ρ' → ρ'.length = ρ.length
  | .nm i, d, ρ, ρ', e => by
    unfold asgT at e
    split at e
    · cases e; simp
    · cases e
  | .tup ts, d, ρ, ρ', e => by
    cases d with
    | tup ds => rw [asgT] at e; exact asgTs_length ts ds ρ ρ' e
    | _ => simp [asgT] at e
theorem asgTs_length : ∀ (ts : List Tg) (ds : List D) (ρ ρ' : Rho), asgTs ts ds ρ = some ρ' → ρ'.length = ρ.length
  | [], [], ρ, ρ', e => by simp [asgTs] at e; rw [e]
  | [], _ :: _, _, _, e => by simp [asgTs] at e
  | _ :: _, [], _, _, e => by simp [asgTs] at e
  | t :: ts, d :: ds, ρ, ρ', e => by
    rw [asgTs] at e
    cases e1 : asgT t d ρ with
    | none => rw [e1] at e; cases e
    | some ρ1 =>
      rw [e1] at e
      rw [asgTs_length ts ds ρ1 ρ' e, asgT_length t d ρ ρ1 e1]
end
/-- what stays true by any steps -/
def Clos (T : Hp → Hp → Ft → Prop) : Prop := ∀ Kn H L Kn' H' L', T Kn H L → Tr Kn H L Kn' H' L' → T Kn' H' L'
theorem clos_tr {Kn0 H0 : Hp} {L0 : Ft} : Clos (Tr Kn0 H0 L0) := fun _ _ _ _ _ _ a b => a.trans b
theorem Clos.and {T T' : Hp → Hp → Ft → Prop} (a : Clos T) (b : Clos T') : Clos (fun Kn H L => T Kn H L ∧ T' Kn H L) := fun _ _ _ _ _ _ h t => ⟨a _ _ _ _ _ _ h.1 t, b _ _ _ _ _ _ h.2 t⟩
/-- in a comprehension's block; the new list at Dl -/
def CS (G : Gd) (T : Hp → Hp → Ft → Prop) (Dl : Addr) (Z : Out (List D) → Prop) (k : List D → Rho → Out (List D)) (σs : L2.St) (H : Hp) : Prop := ∃ Kn ρ Lf acc ds', SI G Kn H σs ρ Lf ∧ T Kn H (Jn (U Lf) fun a => a = Dl) ∧
  H Dl = some (.lst acc) ∧ Frs G Kn ds' acc ∧ ¬ U Lf Dl ∧ Kn Dl = none ∧ Z (k ds' ρ)
section
variable {T : Hp → Hp → Ft → Prop} {Dl : Addr} {Z : Out (List D) → Prop} {k : List D → Rho → Out (List D)} {σs : L2.St} {H : Hp}
/-- a step of code in the block -/
theorem CS.go {Kn H H' Kn' : Hp} {Lf Lf' : Nat → Ft} {acc : List V} {M : Ft} (hacc : H Dl = some (.lst acc)) (nD : ¬ U Lf Dl) (kD : Kn Dl = none) (t : Tr Kn H (U Lf) Kn' H' (Jn (U Lf') M)) :
    Tr Kn H (Jn (U Lf) fun a => a = Dl) Kn' H' (Jn (Jn (U Lf') M) fun a => a = Dl) ∧ H' Dl = some (.lst acc) ∧ ¬ Jn (U Lf') M Dl ∧ Kn' Dl = none :=
  ⟨t.frame _, t.keep Dl _ hacc nD, sep_past (F := fun a => a = Dl) t (fun a z => ⟨_, z ▸ hacc⟩) (fun a z => z ▸ nD) Dl rfl, kn_past (F := fun a => a = Dl) t (fun a z => ⟨_, z ▸ hacc⟩) (fun a z => z ▸ nD) (fun a z => z ▸ kD) Dl rfl⟩
/-- the new list grows by a known element -/
theorem CS.app {Kn H : Hp} {ρ : Rho} {Lf : Nat → Ft} {acc : List V} {ds' : List D} {M : Ft} {r : Val} {y : V} (hT : Clos T) (S : SI G Kn H σs ρ Lf) (w : Ow G Kn H r.2 r.1 y M) (s : ∀ a, M a → ¬ U Lf a) (kM : ∀ a, M a → Kn a = none) (tr : T Kn H (Jn (Jn (U Lf) M) fun a => a = Dl)) (hacc : H Dl = some (.lst acc)) (fa : Frs G Kn ds' acc)
    (nD : ¬ Jn (U Lf) M Dl) (kD : Kn Dl = none) (z : Z (k (ds' ++ [r.1]) ρ)) : CS G T Dl Z k σs (upd H Dl (.lst (acc ++ [y]))) := by
  have t0 : Tr Kn H M (plusC Kn H M) H No := (Tr.know (H := H) (L := M) (P := M) (fun _ z => z) kM w.dom).less fun _ z => z.elim
  have f1 : Fr G (plusC Kn H M) r.1 y := w.freeze (plusC_kn kM) fun a o l e => by rw [plusC_in l]; exact e
  have S4 : SI G (plusC Kn H M) H σs ρ Lf := S.past t0 (fun a z q => s a q z) (plusC_le S.le)
  have kD4 : plusC Kn H M Dl = none := by rw [plusC_out fun q => nD (.inr q)]; exact kD
  have tw : Tr (plusC Kn H M) H (fun a => a = Dl) (plusC Kn H M) (upd H Dl (.lst (acc ++ [y]))) (fun a => a = Dl) := ⟨fun _ _ q => q, fun _ q n => (n q).elim, fun a o q n => by rw [upd_ne n]; exact q, fun _ q => .inl q, fun q => q⟩
  refine ⟨plusC Kn H M, ρ, Lf, acc ++ [y], ds' ++ [r.1], ?_, ?_, upd_same, (fa.mono (Le.of_sub (plusC_kn kM))).append (.one f1), fun q => nD (.inl q), kD4, z⟩
  · refine S4.past tw (fun a q e => nD (.inl (e ▸ q))) ⟨fun a u q => ?_, fun a us q => ?_⟩
    · have ha : a ≠ Dl := fun e => by subst e; have := rd_plain S4.pl q; rw [kD4] at this; cases this
      unfold Rd; rw [upd_ne ha]; exact S4.le.rd a u q
    · have ha : a ≠ Dl := fun e => by subst e; rw [kD4] at q; cases q
      rw [upd_ne ha]; exact S4.le.tp a us q
  · refine hT _ _ _ _ _ _ tr ?_
    exact (((t0.frame (Jn (U Lf) fun a => a = Dl)).eqv (M := Jn (Jn (U Lf) M) fun a => a = Dl) (M1 := Jn No (Jn (U Lf) fun a => a = Dl)) (fun a => ⟨fun z => z.elim (fun z => z.elim (fun z => .inr (.inl z)) .inl) fun z => .inr (.inr z), fun z => z.elim (fun z => .inl (.inr z)) fun z => z.elim (fun z => .inl (.inl z)) .inr⟩) fun a => Iff.rfl).trans
      ((tw.frame (U Lf)).more fun a z => z.elim (fun z => .inr (.inr z)) fun z => .inr (.inl z))).less fun a z => z.elim .inr .inl
/-- other slots of the block -/
theorem CS.wiped {ρ0 : L2.St} (hT : Clos T) (c : CS G T Dl Z (fun acc ρ => k acc (wipeR ρ vs)) σs H) : CS G T Dl Z k (wipe σs vs) H := by
  obtain ⟨Kn, ρ, Lf, acc, ds', S, tr, hacc, fa, nD, kD, z⟩ := c
  obtain ⟨Lf', S', u⟩ := S.wiped vs
  exact ⟨Kn, _, Lf', acc, ds', S', hT _ _ _ _ _ _ tr (Tr.refl.less fun a z => z.elim (fun z => .inl (u a z)) .inr), hacc, fa, fun q => nD (u _ q), kD, z⟩
theorem elem_run {Nx : Hp → Prop} {tq : TT} {te : TE} (hT : Clos T) (hN : ∀ H, CS G T Dl Z k σs H → Nx H) (ht : ∀ σ H R, TTd G WF tt σ H R → tq σ H R) (he : ∀ σ H R, TEd G WF m σ H R → te σ H R) (hZ : ¬ Z .bad) (c : CS G T Dl Z (stepD tt m k) σs H) :
    tq σs H fun b H3 => if b = true then te σs H3 fun y H4 => ∃ acc, H4 Dl = some (.lst acc) ∧ acc.length < sizeLine ∧ Nx (upd H4 Dl (.lst (acc ++ [y]))) else Nx H3 := by
  obtain ⟨Kn, ρ, Lf, acc, ds', S, tr, hacc, fa, nD, kD, z⟩ := c
  refine ht _ _ _ ⟨Kn, ρ, Lf, S, ?_⟩
  unfold stepD at z
  cases e1 : tt ρ with
  | bad => rw [e1] at z; exact (hZ z).elim
  | exc x ρ2 => rw [e1] at z; exact (hZ z).elim
  | ok b ρ2 =>
    rw [e1] at z
    simp only at z
    intro Kn2 H2 Lf2 S2 t2
    obtain ⟨g2, hacc2, nD2, kD2⟩ := CS.go hacc nD kD (t2.less fun a z => z.elim (fun z => z) fun z => z.elim : Tr Kn H (U Lf) Kn2 H2 (Jn (U Lf2) No))
    have tr2 : T Kn2 H2 (Jn (U Lf2) fun a => a = Dl) := hT _ _ _ _ _ _ tr (g2.less fun a z => z.elim (fun z => .inl (.inl z)) .inr)
    have fa2 : Frs G Kn2 ds' acc := fa.mono (Le.of_sub t2.kn)
    cases b with
    | false => exact hN _ ⟨Kn2, ρ2, Lf2, acc, ds', S2, tr2, hacc2, fa2, fun q => nD2 (.inl q), kD2, z⟩
    | true =>
      simp only [if_true] at z ⊢
      refine he _ _ _ ⟨Kn2, ρ2, Lf2, S2, ?_⟩
      cases e2 : m ρ2 with
      | bad => rw [e2] at z; exact (hZ z).elim
      | exc x ρ3 => rw [e2] at z; exact (hZ z).elim
      | ok r ρ3 =>
        rw [e2] at z
        simp only at z
        intro Kn3 H3 Lf3 y M S3 w3 s3 k3 t3
        obtain ⟨g3, hacc3, nD3, kD3⟩ := CS.go hacc2 (fun q => nD2 (.inl q)) kD2 t3
        have la : acc.length = ds'.length := fa.length
        split at z
        · rename_i hz
          exact ⟨acc, hacc3, by rw [la]; exact hz, hN _ (CS.app hT S3 w3 s3 k3 (hT _ _ _ _ _ _ tr2 g3) hacc3 (fa2.mono (Le.of_sub t3.kn)) nD3 kD3 z)⟩
        · exact (hZ z).elim
/-- a turn's beginning: the target is stored -/
theorem turn_run {g : TG} {J : It} {ds : List D} {Gs : Hp → Prop} {Y : Nat → Hp → V → Hp → Prop} {σ : L2.St} {KnS HS : Hp} {LS : Ft} {i : Nat} {x : V} {H' : Hp} {R : L2.St → Hp → Prop} {k' : List D → Rho → Out (List D)} (hT : Clos T) (hS : ∀ Kn H L, T Kn H L → Tr KnS HS LS Kn H L) (gw : GW G t g) (hsub : t.slots.all (fun i => vs.contains i) = true) (hZ : ¬ Z .bad) (src : Src G KnS HS LS J ds Gs Y) (hlt : i < ds.length) (hy : Y i H x H')
    (c : CS G T Dl Z (fun acc ρ => match asgT t (ds[i]'hlt) ρ with
      | none => .bad
      | some ρ1 => k' acc ρ1) (wipe σ vs) H) (h : ∀ σ2, wipe σ2 vs = wipe σ vs → CS G T Dl Z k' σ2 H' → R σ2 H') : g x (wipe σ vs) H' R := by
  obtain ⟨Kn, ρ, Lf, acc, ds', S, tr, hacc, fa, nD, kD, z⟩ := c
  obtain ⟨d, ed, Kn', t', le', f⟩ := src.item i H x H' Kn _ hlt (hS _ _ _ tr) S.le hy
  have ed' : d = ds[i] := by
    rw [List.getElem?_eq_getElem hlt] at ed
    exact (Option.some.inj ed).symm
  subst ed'
  have S' : SI G Kn' H' (wipe σ vs) ρ Lf := S.past t' (fun _ _ z => z) le'
  have t1 : Tr Kn H (U Lf) Kn' H' (Jn (U Lf) No) := (t'.frame (U Lf)).eqv (fun a => ⟨.inr, fun z => z.elim (fun z => z.elim) fun z => z⟩) fun a => ⟨fun z => z.elim .inr .inl, fun z => z.elim .inr .inl⟩
  obtain ⟨g1, hacc1, nD1, kD1⟩ := CS.go hacc nD kD t1
  cases e1 : asgT t ds[i] ρ with
  | none => simp only [e1] at z; exact (hZ z).elim
  | some ρ2 =>
    simp only [e1] at z
    refine gw _ _ _ _ _ _ _ _ _ S' f e1 fun σ2 Lf2 S2 u2 k2 => h σ2 ?_ ?_
    · rw [← wipe_wipe (σ := σ)]
      refine wipe_same ?_ fun j hj => k2 j fun z => ?_
      · rw [S2.len, asgT_length t _ ρ ρ2 e1, ← S'.len]
      · have := List.all_eq_true.mp hsub j z
        simp at this
        exact hj this
    · exact ⟨Kn', ρ2, Lf2, acc, ds', S2, hT _ _ _ _ _ _ tr (g1.less fun a z => z.elim (fun z => .inl (.inl (u2 a z))) .inr), hacc1, fa.mono (Le.of_sub t'.kn), fun q => nD1 (.inl (u2 _ q)), kD1, z⟩
/-- the turns of a block, from a state on -/
theorem lc_run {g : TG} {tq : TT} {te : TE} {J : It} {ds : List D} {Gs : Hp → Prop} {Y : Nat → Hp → V → Hp → Prop} {En : Hp → Prop} {σ : L2.St} {KnS HS : Hp} {LS : Ft} (hT : Clos T) (hS : ∀ Kn H L, T Kn H L → Tr KnS HS LS Kn H L) (gw : GW G t g) (hsub : t.slots.all (fun i => vs.contains i) = true)
    (ht : ∀ σ H R, TTd G WF tt σ H R → tq σ H R) (he : ∀ σ H R, TEd G WF m σ H R → te σ H R) (hZ : ¬ Z .bad) (src : Src G KnS HS LS J ds Gs Y)
    (c : CS G T Dl Z (fun acc ρ => compK t tt m vs k ds acc ρ) (wipe σ vs) H) (hE : ∀ H, CS G T Dl Z k (wipe σ vs) H → En H) :
    ∃ Wd : Nat → Nat → Hp → Prop, (∃ n, Wd 0 n H) ∧ ∀ i n H, Wd i n H →
      (J.stop i H ∧ En H) ∨ (J.go i H ∧ ∃ Nx : Hp → Prop, (∀ H', Nx H' → ∃ m', m' < n ∧ Wd (i + 1) m' H') ∧ ∀ x H', J.yld i H x H' → g x (wipe σ vs) H' fun σ2 H2 => wipe σ2 vs = wipe σ vs ∧ tq σ2 H2 fun b H3 =>
        if b = true then te σ2 H3 fun y H4 => ∃ acc, H4 Dl = some (.lst acc) ∧ acc.length < sizeLine ∧ Nx (upd H4 Dl (.lst (acc ++ [y]))) else Nx H3) := by
  refine ⟨fun i n H => n = ds.length - i ∧ i ≤ ds.length ∧ CS G T Dl Z (fun acc ρ => compK t tt m vs k (ds.drop i) acc ρ) (wipe σ vs) H, ⟨ds.length, by simp, Nat.zero_le _, c⟩, ?_⟩
  rintro i n H ⟨rfl, hi, c⟩
  have hG : Gs H := let ⟨Kn, ρ, Lf, acc, ds', S, tr, _⟩ := c; src.stays Kn H _ (hS _ _ _ tr) S.le
  by_cases hlt : i < ds.length
  · refine .inr ⟨src.walk.goes i H hlt hG, fun H' => CS G T Dl Z (fun acc ρ => compK t tt m vs k (ds.drop (i + 1)) acc ρ) (wipe σ vs) H', fun H' c' => ⟨_, by omega, rfl, hlt, c'⟩, fun x H' y => ?_⟩
    have y := src.walk.yields i H x H' hlt hG y
    rw [List.drop_eq_getElem_cons hlt] at c
    refine turn_run (k' := stepD tt m fun acc ρ2 => compK t tt m vs k (ds.drop (i + 1)) acc (wipeR ρ2 vs)) hT hS gw hsub hZ src hlt y c fun σ2 ew c2 => ⟨ew, ?_⟩
    refine elem_run hT (fun H3 c3 => ?_) ht he hZ c2
    have := CS.wiped (vs := vs) (ρ0 := σ2) hT c3
    rw [ew] at this
    exact this
  · have e : i = ds.length := by omega
    subst e
    refine .inl ⟨src.walk.stops H hG, hE H ?_⟩
    rw [List.drop_eq_nil_of_le (Nat.le_refl _)] at c
    exact c
end
end
end DL
end
section
set_option Elab.async false
set_option linter.all false
set_option maxRecDepth 100000
/-! DL: comprehensions, the rules. -/
namespace DL
open PySem PySem.Spec PyProof.Rows L2
section
variable {X : Cx} {W : WX} {G : Gd} {P : List Nat} {m : ME} {tt tt1 : MT} {mi mi1 : Rho → Out (List D)} {t t1 : Tg} {vs vs1 : List Nat}
/-- what is wanted behind a comprehension -/
def CW (G : Gd) (Q : VK) (Kn H : Hp) (L : Ft) (σ : L2.St) (x : Out (List D)) : Prop :=
  match x with
  | .ok ds ρ' => VW G Q Kn H L σ (.lst ds, 1) ρ'
  | _ => False
theorem lcFin_ow {Q : VK} {Kn H : Hp} {L : Ft} {σ : L2.St} {x : Out (List D)} (o : OW G W Q Kn H L σ (lcFin x)) : CW G Q Kn H L σ x := by
  cases x with
  | ok ds ρ => exact o
  | exc x ρ => exact o.elim
  | bad => exact o.elim
/-- a block begins: the new list at Dl -/
theorem cs_start {Kn0 H0 Kn1 H1 : Hp} {L0 : Ft} {σ : L2.St} {ρ1 : Rho} {Lf1 : Nat → Ft} {Dl : Addr} {Z : Out (List D) → Prop} {k : List D → Rho → Out (List D)} (S1 : SI G Kn1 H1 σ ρ1 Lf1) (t1 : Tr Kn0 H0 L0 Kn1 H1 (U Lf1)) (hD : H1 Dl = none) (z : Z (k [] (wipeR ρ1 vs))) :
    CS G (fun Kn H L => Tr Kn0 H0 L0 Kn H L ∧ Tr Kn1 H1 (U Lf1) Kn H L) Dl Z k (wipe σ vs) (upd H1 Dl (.lst [])) := by
  obtain ⟨Lf', S', u⟩ := S1.wiped vs
  have nD : ¬ U Lf1 Dl := fun z => by obtain ⟨o, e, _⟩ := S1.dom z; rw [hD] at e; cases e
  have tn : Tr Kn1 H1 No Kn1 (upd H1 Dl (.lst [])) (fun a => a = Dl) := Tr.new S1.le hD
  have tS : Tr Kn1 H1 (U Lf1) Kn1 (upd H1 Dl (.lst [])) (Jn (U Lf') fun a => a = Dl) := ((tn.frame (U Lf1)).eqv (M := U Lf1) (M1 := Jn (fun a => a = Dl) (U Lf1)) (fun a => ⟨.inr, fun z => z.elim (fun z => z.elim) fun z => z⟩) fun _ => Iff.rfl).less fun a z => z.elim (fun z => .inr (u a z)) .inl
  exact ⟨Kn1, _, Lf', [], [], S'.past tn (fun _ _ z => z) (S1.le.new hD), ⟨t1.trans tS, tS⟩, upd_same, .nil, fun z => nD (u _ z), S1.le.out hD, z⟩
/-- a block ends -/
theorem cs_end {T : Hp → Hp → Ft → Prop} {Kn0 H0 H : Hp} {L0 : Ft} {σ : L2.St} {Dl : Addr} {Q : VK} (hT : ∀ Kn H L, T Kn H L → Tr Kn0 H0 L0 Kn H L) (c : CS G T Dl (CW G Q Kn0 H0 L0 σ) .ok (wipe σ vs) H) : Q (.ref Dl) H := by
  obtain ⟨Kn, ρ, Lf, acc, ds', S, tr, hacc, fa, nD, kD, z⟩ := c
  refine z Kn H Lf (.ref Dl) (fun a => a = Dl) S.unwipe (.inr ⟨Dl, .lst acc, ds', acc, fun _ => No, rfl, hacc, .lst fa.length, fun i e q => ?_, fun _ _ _ _ z => z.elim, fun _ z => z, fun x => ⟨.inl, fun z => z.elim (fun z => z) fun ⟨_, _, z⟩ => z.elim⟩⟩) (fun a e q => nD (e ▸ q)) (fun a e => e ▸ kD) (hT _ _ _ tr)
  obtain ⟨u, h1, h2⟩ := fa.get q
  exact ⟨u, h1, h2, fun _ z => z⟩
def DTs (X : Cx) (W : WX) (ifs : List Expr) (m : MT) : Prop := PTs X ifs (TTd (gd X) W m)
def tY : MT := fun ρ => .ok true ρ
theorem dts_nil : DTs X W [] tY := ⟨fun pins s σ H Q I h => pts_nil.run pins s σ H Q I (by
  obtain ⟨Kn, ρ, Lf, S, o⟩ := h
  exact o Kn H Lf S .refl)⟩
theorem dts_one {c : Expr} (h : DT X W c tt) : DTs X W [c] tt := pts_one h
variable {elt tg iter tg1 iter1 : Expr} {ifs ifs1 : List Expr} {scope : Scope} {own : List (Str × Nat)} {pos spos : Pos}
theorem lc_reads {wi : TI} {σ : L2.St} {H : Hp} {Q : VK} (hw : ∀ σ H R, TId G W mi σ H R → wi σ H R) (hsub : t.slots.all (fun i => vs.contains i) = true) (h : TEd G W (mLc mi t tt m vs) σ H Q) : tLc wi (gT G.K t) (TTd G WF tt) (TEd G WF m) vs σ H Q := by
  obtain ⟨Kn, ρ, Lf, S, o⟩ := h
  have o : OW G W Q Kn H (U Lf) σ (mLc mi t tt m vs ρ) := o
  unfold mLc at o
  refine hw _ _ _ ⟨Kn, ρ, Lf, S, ?_⟩
  cases q : mi ρ with
  | bad => rw [q] at o; exact o.elim
  | exc x ρ1 => rw [q] at o; exact o
  | ok ds ρ1 =>
    rw [q, bindO_ok] at o
    intro J Gs Y Kn1 H1 Lf1 S1 t1 src Dl hD
    exact lc_run (Clos.and clos_tr clos_tr) (fun _ _ _ z => z.2) (gw_all t) hsub (fun _ _ _ z => z) (fun _ _ _ z => z) (fun z => z) (src (U Lf1) S1.kn) (cs_start (Z := CW G Q Kn H (U Lf) σ) (k := fun acc ρ => compK t tt m vs .ok ds acc ρ) S1 t1 hD (lcFin_ow o)) fun H c => cs_end (fun _ _ _ z => z.1) c
abbrev Blk (X : Cx) (scope : Scope) (F : Cx → Prop) : Prop := ∀ (s : Shared) (H : Hp) (C : Addr) (cl : List (Str × Addr)) (fp : List Addr), F (X.blk s H scope (compEnvC scope cl C X.env) fp)
theorem de_lc (own : List (Str × Nat)) (hc : X.calm = true) (hN : X.N.Nodup) (hi : DI X W tg iter mi) (ok : BlkOk X.N X.env.scope scope own) (hg : Blk X scope fun Y => DG Y tg t) (ht : Blk X scope fun Y => DTs Y WF ifs tt) (he : Blk X scope fun Y => DE Y WF elt m)
    (hsub : t.slots.all (fun i => (own.map (·.2)).contains i) = true := by rfl) (hs : ∀ x, foldedSetIterable iter X.env x = pure x := by intro _; rfl) : DE X W (.ListComp elt [⟨tg, iter, ifs, 0⟩] scope pos) (mLc mi t tt m (own.map (·.2))) :=
  PE.imp (pe_lc (g := gT X.K t) (tt := TTd (gd X) WF tt) (te := TEd (gd X) WF m) hc hN hi ok hg ht he hs) fun _ _ _ h => lc_reads (fun _ _ _ z => z) hsub h
/-- name = [..] -/
theorem ds_setLc {i : Nat} {y : Str} {py : Pos} (own : List (Str × Nat)) (hc : X.calm = true) (hN : X.N.Nodup) (hy : X.N[i]? = some y) (hyl : X.env.scope.names.lookup y = some .local) (hsw : swapsWith (.ListComp elt [⟨tg, iter, ifs, 0⟩] scope pos) (some (.Name y py)) spos.line X.env = pure true)
    (hi : DI X W tg iter mi) (ok : BlkOk X.N X.env.scope scope own) (hg : Blk X scope fun Y => DG Y tg t) (ht : Blk X scope fun Y => DTs Y WF ifs tt) (he : Blk X scope fun Y => DE Y WF elt m) (hP : i ∉ P := by decide)
    (hsub : t.slots.all (fun i => (own.map (·.2)).contains i) = true := by rfl) (hs : ∀ x, foldedSetIterable iter X.env x = pure x := by intro _; rfl) : DS X W P (.Assign [.Name y py] (.ListComp elt [⟨tg, iter, ifs, 0⟩] scope pos) spos) (sAsg i (mLc mi t tt m (own.map (·.2)))) :=
  PS.imp (ps_setLc (g := gT X.K t) (tt := TTd (gd X) WF tt) (te := TEd (gd X) WF m) hc hN hy hyl hsw hi ok hg ht he hs) fun _ _ _ h => lc_reads (fun _ _ _ z => z) hsub (asg_run hP h)

/-! ### two clauses -/
def comp2K (t : Tg) (tt : MT) (mi1 : Rho → Out (List D)) (t1 : Tg) (tt1 : MT) (m : ME) (vs vs1 : List Nat) : List D → List D → Rho → Out (List D)
  | [], acc, ρ => .ok acc ρ
  | d :: ds, acc, ρ => match asgT t d ρ with
    | none => .bad
    | some ρ1 => match tt ρ1 with
      | .ok b ρ2 => if b then match mi1 ρ2 with
          | .ok ds1 ρ3 => compK t1 tt1 m vs1 (fun acc ρ4 => comp2K t tt mi1 t1 tt1 m vs vs1 ds acc (wipeR ρ4 vs)) ds1 acc (wipeR ρ3 vs1)
          | _ => .bad
        else comp2K t tt mi1 t1 tt1 m vs vs1 ds acc (wipeR ρ2 vs)
      | _ => .bad
def mLc2 (mi : Rho → Out (List D)) (t : Tg) (tt : MT) (mi1 : Rho → Out (List D)) (t1 : Tg) (tt1 : MT) (m : ME) (vs vs1 : List Nat) : ME := fun ρ => bindO (mi ρ) fun ds ρ1 => lcFin (comp2K t tt mi1 t1 tt1 m vs vs1 ds [] (wipeR ρ1 vs))
/-- the turns of two clauses -/
theorem lc2_run {T : Hp → Hp → Ft → Prop} {Dl : Addr} {Z : Out (List D) → Prop} {J : It} {ds : List D} {Gs : Hp → Prop} {Y : Nat → Hp → V → Hp → Prop} {En : Hp → Prop} {σ : L2.St} {H KnS HS : Hp} {LS : Ft} (hT : Clos T) (hS : ∀ Kn H L, T Kn H L → Tr KnS HS LS Kn H L)
    (hsub : t.slots.all (fun i => vs.contains i) = true) (hsub1 : t1.slots.all (fun i => vs1.contains i) = true) (hZ : ¬ Z .bad) (src : Src G KnS HS LS J ds Gs Y)
    (c : CS G T Dl Z (fun acc ρ => comp2K t tt mi1 t1 tt1 m vs vs1 ds acc ρ) (wipe σ vs) H) (hE : ∀ H, CS G T Dl Z .ok (wipe σ vs) H → En H) :
    ∃ Wd : Nat → Nat → Hp → Prop, (∃ n, Wd 0 n H) ∧ ∀ i n H, Wd i n H →
      (J.stop i H ∧ En H) ∨ (J.go i H ∧ ∃ Nx : Hp → Prop, (∀ H', Nx H' → ∃ m', m' < n ∧ Wd (i + 1) m' H') ∧ ∀ x H', J.yld i H x H' → gT G.K t x (wipe σ vs) H' fun σ2 H2 => wipe σ2 vs = wipe σ vs ∧ TTd G WF tt σ2 H2 fun b H3 =>
        if b = true then TId G WF mi1 σ2 H3 fun J1 H4 => ∃ W1 : Nat → Nat → Hp → Prop, (∃ m, W1 0 m H4) ∧ ∀ j k H, W1 j k H →
          (J1.stop j H ∧ Nx H) ∨ (J1.go j H ∧ ∃ Nx1 : Hp → Prop, (∀ H', Nx1 H' → ∃ k', k' < k ∧ W1 (j + 1) k' H') ∧ ∀ x H', J1.yld j H x H' → gT G.K t1 x (wipe σ2 vs1) H' fun σ3 H5 => wipe σ3 vs1 = wipe σ2 vs1 ∧ TTd G WF tt1 σ3 H5 fun b H6 =>
            if b = true then TEd G WF m σ3 H6 fun y H7 => ∃ acc, H7 Dl = some (.lst acc) ∧ acc.length < sizeLine ∧ Nx1 (upd H7 Dl (.lst (acc ++ [y]))) else Nx1 H6)
        else Nx H3) := by
  refine ⟨fun i n H => n = ds.length - i ∧ i ≤ ds.length ∧ CS G T Dl Z (fun acc ρ => comp2K t tt mi1 t1 tt1 m vs vs1 (ds.drop i) acc ρ) (wipe σ vs) H, ⟨ds.length, by simp, Nat.zero_le _, c⟩, ?_⟩
  rintro i n H ⟨rfl, hi, c⟩
  have hG : Gs H := let ⟨Kn, ρ, Lf, acc, ds', S, tr, _⟩ := c; src.stays Kn H _ (hS _ _ _ tr) S.le
  by_cases hlt : i < ds.length
  · refine .inr ⟨src.walk.goes i H hlt hG, fun H' => CS G T Dl Z (fun acc ρ => comp2K t tt mi1 t1 tt1 m vs vs1 (ds.drop (i + 1)) acc ρ) (wipe σ vs) H', fun H' c' => ⟨_, by omega, rfl, hlt, c'⟩, fun x H' y => ?_⟩
    have y := src.walk.yields i H x H' hlt hG y
    rw [List.drop_eq_getElem_cons hlt] at c
    refine turn_run (k' := fun acc ρ1 => match tt ρ1 with
      | .ok b ρ2 => if b then match mi1 ρ2 with
          | .ok ds1 ρ3 => compK t1 tt1 m vs1 (fun acc ρ4 => comp2K t tt mi1 t1 tt1 m vs vs1 (ds.drop (i + 1)) acc (wipeR ρ4 vs)) ds1 acc (wipeR ρ3 vs1)
          | _ => .bad
        else comp2K t tt mi1 t1 tt1 m vs vs1 (ds.drop (i + 1)) acc (wipeR ρ2 vs)
      | _ => .bad) hT hS (gw_all t) hsub hZ src hlt y c fun σ2 ew c2 => ⟨ew, ?_⟩
    obtain ⟨Kn, ρ, Lf, acc, ds', S, tr, hacc, fa, nD, kD, z⟩ := c2
    refine ⟨Kn, ρ, Lf, S, ?_⟩
    cases e1 : tt ρ with
    | bad => simp only [e1] at z; exact (hZ z).elim
    | exc x ρ2 => simp only [e1] at z; exact (hZ z).elim
    | ok b ρ2 =>
      simp only [e1] at z
      intro Kn2 H2 Lf2 S2 t2
      obtain ⟨g2, hacc2, nD2, kD2⟩ := CS.go hacc nD kD (t2.less fun a z => z.elim (fun z => z) fun z => z.elim : Tr Kn _ (U Lf) Kn2 H2 (Jn (U Lf2) No))
      have tr2 : T Kn2 H2 (Jn (U Lf2) fun a => a = Dl) := hT _ _ _ _ _ _ tr (g2.less fun a z => z.elim (fun z => .inl (.inl z)) .inr)
      have fa2 : Frs G Kn2 ds' acc := fa.mono (Le.of_sub t2.kn)
      cases b with
      | false =>
        have := CS.wiped (vs := vs) (ρ0 := σ2) (k := fun acc ρ => comp2K t tt mi1 t1 tt1 m vs vs1 (ds.drop (i + 1)) acc ρ) hT (⟨Kn2, ρ2, Lf2, acc, ds', S2, tr2, hacc2, fa2, fun q => nD2 (.inl q), kD2, z⟩ : CS G T Dl Z _ σ2 H2)
        rw [ew] at this
        exact this
      | true =>
        simp only [if_true] at z ⊢
        refine ⟨Kn2, ρ2, Lf2, S2, ?_⟩
        cases e2 : mi1 ρ2 with
        | bad => simp only [e2] at z; exact (hZ z).elim
        | exc x ρ3 => simp only [e2] at z; exact (hZ z).elim
        | ok ds1 ρ3 =>
          simp only [e2] at z
          intro J1 Gs1 Y1 Kn3 H3 Lf3 S3 t3 src1
          obtain ⟨g3, hacc3, nD3, kD3⟩ := CS.go hacc2 (fun q => nD2 (.inl q)) kD2 (t3.less fun a z => z.elim (fun z => z) fun z => z.elim : Tr Kn2 H2 (U Lf2) Kn3 H3 (Jn (U Lf3) No))
          have tr3 : T Kn3 H3 (Jn (U Lf3) fun a => a = Dl) := hT _ _ _ _ _ _ tr2 (g3.less fun a z => z.elim (fun z => .inl (.inl z)) .inr)
          have src2 := src1 (Jn (U Lf3) fun a => a = Dl) fun a z => z.elim (S3.kn a) fun z => z ▸ kD3
          obtain ⟨Lf4, S4, u4⟩ := S3.wiped vs1
          refine lc_run (T := fun Kn H L => T Kn H L ∧ Tr Kn3 H3 (Jn (U Lf3) fun a => a = Dl) Kn H L) (k := fun acc ρ4 => comp2K t tt mi1 t1 tt1 m vs vs1 (ds.drop (i + 1)) acc (wipeR ρ4 vs)) (Clos.and hT clos_tr) (fun _ _ _ z => z.2) (gw_all t1) hsub1 (fun _ _ _ z => z) (fun _ _ _ z => z) hZ src2
            ⟨Kn3, _, Lf4, acc, ds', S4, ⟨hT _ _ _ _ _ _ tr3 (Tr.refl.less fun a z => z.elim (fun z => .inl (u4 a z)) .inr), Tr.refl.less fun a z => z.elim (fun z => .inl (u4 a z)) .inr⟩, hacc3, fa2.mono (Le.of_sub t3.kn), fun q => nD3 (.inl (u4 _ q)), kD3, z⟩ fun H5 c5 => ?_
          -- the inner loop is through
          obtain ⟨Kn5, ρ5, Lf5, acc5, ds5, S5, tr5, hacc5, fa5, nD5, kD5, z5⟩ := c5
          have := CS.wiped (vs := vs) (ρ0 := σ2) (k := fun acc ρ => comp2K t tt mi1 t1 tt1 m vs vs1 (ds.drop (i + 1)) acc ρ) hT (⟨Kn5, ρ5, Lf5, acc5, ds5, S5.unwipe, tr5.1, hacc5, fa5, nD5, kD5, z5⟩ : CS G T Dl Z _ σ2 H5)
          rw [ew] at this
          exact this
  · have e : i = ds.length := by omega
    subst e
    refine .inl ⟨src.walk.stops H hG, hE H ?_⟩
    rw [List.drop_eq_nil_of_le (Nat.le_refl _)] at c
    exact c

/-! ### over a dict -/
def mLcK (kd : Kd) (i : Nat) (t : Tg) (tt : MT) (m : ME) (vs : List Nat) : ME := mLc (mKd kd i) t tt m vs
theorem pe_orE {e : Expr} {t t' : TE} (h : PE X e t) (h' : PE X e t') : PE X e (fun σ H Q => t σ H Q ∨ t' σ H Q) := ⟨fun pins s σ H Q I hw => hw.elim (h.run pins s σ H Q I) (h'.run pins s σ H Q I)⟩
/-- the block over the dict in slot i: locked anew, or locked already -/
theorem lcK_run {kd : Kd} {i : Nat} {wi : TI} {σ : L2.St} {H : Hp} {Q : VK} (hwi : ∀ (σ : L2.St) (H : Hp) (R : It → Hp → Prop) (d : Addr) (o : Obj) (kvs : List (Key × V)), σ[i]? = some (some (.ref d)) → H d = some (.frz o (.dK kvs)) → R (kd.it d o kvs) H → wi σ H R)
    (hsub : t.slots.all (fun i => vs.contains i) = true) (h : TEd G W (mLcK kd i t tt m vs) σ H Q) : tLockE (tLc wi (gT G.K t) (TTd G WF tt) (TEd G WF m) vs) σ H Q ∨ tLc wi (gT G.K t) (TTd G WF tt) (TEd G WF m) vs σ H Q := by
  obtain ⟨Kn, ρ, Lf, S, o⟩ := h
  have o : OW G W Q Kn H (U Lf) σ (mLc (mKd kd i) t tt m vs ρ) := o
  unfold mLc at o
  cases q : mKd kd i ρ with
  | bad => rw [q] at o; exact o.elim
  | exc x ρ1 => unfold mKd at q; split at q <;> cases q
  | ok items ρ1 =>
    rw [q, bindO_ok] at o
    obtain ⟨Kn1, Lf1, d, ks, ds, us, hv, S1, t1, hk, hl, fs, rfl⟩ := kd_run S q
    have nl : ∀ L0 : Ft, (∀ a, L0 a → Kn1 a = none) → ¬ L0 d := fun L0 hL z => by have := hL d z; rw [hk] at this; cases this
    have cw := lcFin_ow o
    rcases S1.le.rd d _ (.inl hk) with hd | ⟨od, hd⟩
    · refine .inl ⟨d, _, hd, True.intro, fun od => hwi σ _ _ d od _ hv upd_same ?_⟩
      intro Dl hD
      have S2 : SI G Kn1 (upd H d (.frz od (.dK (ks.zip us)))) σ ρ1 Lf1 := S1.word hk True.intro (.inr ⟨od, rfl⟩)
      obtain ⟨Gs, Y, src⟩ := Src.kd (G := G) (L0 := U Lf1) kd hl (upd_same (H := H) (a := d) (o := .frz od (.dK (ks.zip us)))) (nl _ S2.kn) fs
      -- what is wanted, under the lock
      have cw2 : CW G (fun v H' => H' d = some (.frz od (.dK (ks.zip us))) ∧ Q v (upd H' d (.dK (ks.zip us)))) Kn1 (upd H d (.frz od (.dK (ks.zip us)))) (U Lf1) σ (compK t tt m vs .ok (kd.ds ks ds) [] (wipeR ρ1 vs)) := by
        cases e : compK t tt m vs .ok (kd.ds ks ds) [] (wipeR ρ1 vs) with
        | ok ds' ρ' =>
          rw [e] at cw
          intro Kn' H' Lf' v M S' w s kn t'
          refine ⟨t'.keep d _ upd_same (nl _ S2.kn), ?_⟩
          exact cw Kn' _ Lf' v M (S'.word (t'.kn d _ hk) True.intro (.inl rfl)) (w.off fun z => by have := kn d z; rw [t'.kn d _ hk] at this; cases this) s kn (t1.trans (t'.unlock hd))
        | exc x ρ' => rw [e] at cw; exact cw
        | bad => rw [e] at cw; exact cw
      exact lc_run (Clos.and clos_tr clos_tr) (fun _ _ _ z => z.2) (gw_all t) hsub (fun _ _ _ z => z) (fun _ _ _ z => z) (fun z => z) src (cs_start (Z := CW G _ _ _ _ σ) (k := fun acc ρ => compK t tt m vs .ok (kd.ds ks ds) acc ρ) S2 .refl hD cw2) fun H c => cs_end (fun _ _ _ z => z.1) c
    · refine .inr (hwi σ _ _ d od _ hv hd ?_)
      intro Dl hD
      obtain ⟨Gs, Y, src⟩ := Src.kd (G := G) (L0 := U Lf1) kd hl hd (nl _ S1.kn) fs
      exact lc_run (Clos.and clos_tr clos_tr) (fun _ _ _ z => z.2) (gw_all t) hsub (fun _ _ _ z => z) (fun _ _ _ z => z) (fun z => z) src (cs_start (Z := CW G Q Kn H (U Lf) σ) (k := fun acc ρ => compK t tt m vs .ok (kd.ds ks ds) acc ρ) S1 t1 hD cw) fun H c => cs_end (fun _ _ _ z => z.1) c
theorem de_lcK {kd : Kd} {i : Nat} (own : List (Str × Nat)) (hc : X.calm = true) (hN : X.N.Nodup) (hi : DK X kd tg iter i) (ok : BlkOk X.N X.env.scope scope own) (hg : Blk X scope fun Y => DG Y tg t) (ht : Blk X scope fun Y => DTs Y WF ifs tt) (he : Blk X scope fun Y => DE Y WF elt m)
    (hsub : t.slots.all (fun i => (own.map (·.2)).contains i) = true := by rfl) (hs : ∀ x, foldedSetIterable iter X.env x = pure x := by intro _; rfl) : DE X W (.ListComp elt [⟨tg, iter, ifs, 0⟩] scope pos) (mLcK kd i t tt m (own.map (·.2))) := by
  obtain ⟨wi, pi, hwi⟩ := hi.ex
  exact PE.imp (pe_orE (pe_lock (pe_lc (g := gT X.K t) (tt := TTd (gd X) WF tt) (te := TEd (gd X) WF m) hc hN pi ok hg ht he hs)) (pe_lc (g := gT X.K t) (tt := TTd (gd X) WF tt) (te := TEd (gd X) WF m) hc hN pi ok hg ht he hs)) fun _ _ _ h => lcK_run (G := gd X) hwi hsub h
theorem ds_setLcK {kd : Kd} {j i : Nat} {y : Str} {py : Pos} (own : List (Str × Nat)) (hc : X.calm = true) (hN : X.N.Nodup) (hy : X.N[i]? = some y) (hyl : X.env.scope.names.lookup y = some .local) (hsw : swapsWith (.ListComp elt [⟨tg, iter, ifs, 0⟩] scope pos) (some (.Name y py)) spos.line X.env = pure true)
    (hi : DK X kd tg iter j) (ok : BlkOk X.N X.env.scope scope own) (hg : Blk X scope fun Y => DG Y tg t) (ht : Blk X scope fun Y => DTs Y WF ifs tt) (he : Blk X scope fun Y => DE Y WF elt m) (hP : i ∉ P := by decide)
    (hsub : t.slots.all (fun i => (own.map (·.2)).contains i) = true := by rfl) (hs : ∀ x, foldedSetIterable iter X.env x = pure x := by intro _; rfl) : DS X W P (.Assign [.Name y py] (.ListComp elt [⟨tg, iter, ifs, 0⟩] scope pos) spos) (sAsg i (mLcK kd j t tt m (own.map (·.2)))) := by
  obtain ⟨wi, pi, hwi⟩ := hi.ex
  refine PS.imp (PS.or (ps_lock (ps_setLc (g := gT X.K t) (tt := TTd (gd X) WF tt) (te := TEd (gd X) WF m) hc hN hy hyl hsw pi ok hg ht he hs)) (ps_setLc (g := gT X.K t) (tt := TTd (gd X) WF tt) (te := TEd (gd X) WF m) hc hN hy hyl hsw pi ok hg ht he hs)) fun D σ H h => ?_
  rcases lcK_run (G := gd X) hwi hsub (asg_run hP h) with ⟨d, u, hd, mu, q⟩ | q
  · exact .inl ⟨d, u, hd, mu, fun od => q od⟩
  · exact .inr q

/-! ### two clauses, the rules -/
abbrev tLc2d (G : Gd) (wi : TI) (t : Tg) (tt : MT) (mi1 : Rho → Out (List D)) (t1 : Tg) (tt1 : MT) (m : ME) (vs vs1 : List Nat) : TE := tLc2 wi (gT G.K t) (TTd G WF tt) (TId G WF mi1) (gT G.K t1) (TTd G WF tt1) (TEd G WF m) vs vs1
theorem lc2_reads {wi : TI} {σ : L2.St} {H : Hp} {Q : VK} (hw : ∀ σ H R, TId G W mi σ H R → wi σ H R) (hsub : t.slots.all (fun i => vs.contains i) = true) (hsub1 : t1.slots.all (fun i => vs1.contains i) = true) (h : TEd G W (mLc2 mi t tt mi1 t1 tt1 m vs vs1) σ H Q) : tLc2d G wi t tt mi1 t1 tt1 m vs vs1 σ H Q := by
  obtain ⟨Kn, ρ, Lf, S, o⟩ := h
  have o : OW G W Q Kn H (U Lf) σ (mLc2 mi t tt mi1 t1 tt1 m vs vs1 ρ) := o
  unfold mLc2 at o
  refine hw _ _ _ ⟨Kn, ρ, Lf, S, ?_⟩
  cases q : mi ρ with
  | bad => rw [q] at o; exact o.elim
  | exc x ρ1 => rw [q] at o; exact o
  | ok ds ρ1 =>
    rw [q, bindO_ok] at o
    intro J Gs Y Kn1 H1 Lf1 S1 tr1 src Dl hD
    exact lc2_run (Clos.and clos_tr clos_tr) (fun _ _ _ z => z.2) hsub hsub1 (fun z => z) (src (U Lf1) S1.kn) (cs_start (Z := CW G Q Kn H (U Lf) σ) (k := fun acc ρ => comp2K t tt mi1 t1 tt1 m vs vs1 ds acc ρ) S1 tr1 hD (lcFin_ow o)) fun H c => cs_end (fun _ _ _ z => z.1) c
theorem lc2K_run {kd : Kd} {i : Nat} {wi : TI} {σ : L2.St} {H : Hp} {Q : VK} (hwi : ∀ (σ : L2.St) (H : Hp) (R : It → Hp → Prop) (d : Addr) (o : Obj) (kvs : List (Key × V)), σ[i]? = some (some (.ref d)) → H d = some (.frz o (.dK kvs)) → R (kd.it d o kvs) H → wi σ H R)
    (hsub : t.slots.all (fun i => vs.contains i) = true) (hsub1 : t1.slots.all (fun i => vs1.contains i) = true) (h : TEd G W (mLc2 (mKd kd i) t tt mi1 t1 tt1 m vs vs1) σ H Q) : tLockE (tLc2d G wi t tt mi1 t1 tt1 m vs vs1) σ H Q ∨ tLc2d G wi t tt mi1 t1 tt1 m vs vs1 σ H Q := by
  obtain ⟨Kn, ρ, Lf, S, o⟩ := h
  have o : OW G W Q Kn H (U Lf) σ (mLc2 (mKd kd i) t tt mi1 t1 tt1 m vs vs1 ρ) := o
  unfold mLc2 at o
  cases q : mKd kd i ρ with
  | bad => rw [q] at o; exact o.elim
  | exc x ρ1 => unfold mKd at q; split at q <;> cases q
  | ok items ρ1 =>
    rw [q, bindO_ok] at o
    obtain ⟨Kn1, Lf1, d, ks, ds, us, hv, S1, tr1, hk, hl, fs, rfl⟩ := kd_run S q
    have nl : ∀ L0 : Ft, (∀ a, L0 a → Kn1 a = none) → ¬ L0 d := fun L0 hL z => by have := hL d z; rw [hk] at this; cases this
    have cw := lcFin_ow o
    rcases S1.le.rd d _ (.inl hk) with hd | ⟨od, hd⟩
    · refine .inl ⟨d, _, hd, True.intro, fun od => hwi σ _ _ d od _ hv upd_same ?_⟩
      intro Dl hD
      have S2 : SI G Kn1 (upd H d (.frz od (.dK (ks.zip us)))) σ ρ1 Lf1 := S1.word hk True.intro (.inr ⟨od, rfl⟩)
      obtain ⟨Gs, Y, src⟩ := Src.kd (G := G) (L0 := U Lf1) kd hl (upd_same (H := H) (a := d) (o := .frz od (.dK (ks.zip us)))) (nl _ S2.kn) fs
      have cw2 : CW G (fun v H' => H' d = some (.frz od (.dK (ks.zip us))) ∧ Q v (upd H' d (.dK (ks.zip us)))) Kn1 (upd H d (.frz od (.dK (ks.zip us)))) (U Lf1) σ (comp2K t tt mi1 t1 tt1 m vs vs1 (kd.ds ks ds) [] (wipeR ρ1 vs)) := by
        cases e : comp2K t tt mi1 t1 tt1 m vs vs1 (kd.ds ks ds) [] (wipeR ρ1 vs) with
        | ok ds' ρ' =>
          rw [e] at cw
          intro Kn' H' Lf' v M S' w s kn t'
          refine ⟨t'.keep d _ upd_same (nl _ S2.kn), ?_⟩
          exact cw Kn' _ Lf' v M (S'.word (t'.kn d _ hk) True.intro (.inl rfl)) (w.off fun z => by have := kn d z; rw [t'.kn d _ hk] at this; cases this) s kn (tr1.trans (t'.unlock hd))
        | exc x ρ' => rw [e] at cw; exact cw
        | bad => rw [e] at cw; exact cw
      exact lc2_run (Clos.and clos_tr clos_tr) (fun _ _ _ z => z.2) hsub hsub1 (fun z => z) src (cs_start (Z := CW G _ _ _ _ σ) (k := fun acc ρ => comp2K t tt mi1 t1 tt1 m vs vs1 (kd.ds ks ds) acc ρ) S2 .refl hD cw2) fun H c => cs_end (fun _ _ _ z => z.1) c
    · refine .inr (hwi σ _ _ d od _ hv hd ?_)
      intro Dl hD
      obtain ⟨Gs, Y, src⟩ := Src.kd (G := G) (L0 := U Lf1) kd hl hd (nl _ S1.kn) fs
      exact lc2_run (Clos.and clos_tr clos_tr) (fun _ _ _ z => z.2) hsub hsub1 (fun z => z) src (cs_start (Z := CW G Q Kn H (U Lf) σ) (k := fun acc ρ => comp2K t tt mi1 t1 tt1 m vs vs1 (kd.ds ks ds) acc ρ) S1 tr1 hD cw) fun H c => cs_end (fun _ _ _ z => z.1) c
section
theorem de_lc2 (own : List (Str × Nat)) (vs1 : List Nat) (hc : X.calm = true) (hN : X.N.Nodup) (hi : DI X W tg iter mi) (ok : BlkOk X.N X.env.scope scope own) (hg : Blk X scope fun Y => DG Y tg t) (ht : Blk X scope fun Y => DTs Y WF ifs tt) (hi1 : Blk X scope fun Y => DI Y WF tg1 iter1 mi1) (hg1 : Blk X scope fun Y => DG Y tg1 t1) (ht1 : Blk X scope fun Y => DTs Y WF ifs1 tt1) (he : Blk X scope fun Y => DE Y WF elt m)
    (hv : ∀ i ∈ vs1, i ∈ own.map (·.2) := by decide) (hsub : t.slots.all (fun i => (own.map (·.2)).contains i) = true := by rfl) (hsub1 : t1.slots.all (fun i => vs1.contains i) = true := by rfl) (hs : ∀ x, foldedSetIterable iter X.env x = pure x := by intro _; rfl) (hs1 : ∀ env x, foldedSetIterable iter1 env x = pure x := by intro _ _; rfl) :
    DE X W (.ListComp elt [⟨tg, iter, ifs, 0⟩, ⟨tg1, iter1, ifs1, 0⟩] scope pos) (mLc2 mi t tt mi1 t1 tt1 m (own.map (·.2)) vs1) :=
  PE.imp (pe_lc2 (g := gT X.K t) (tt := TTd (gd X) WF tt) (te := TEd (gd X) WF m) (wi1 := TId (gd X) WF mi1) (g1 := gT X.K t1) (tt1 := TTd (gd X) WF tt1) hc hN hi ok hv hg ht hi1 hg1 ht1 he hs hs1) fun _ _ _ h => lc2_reads (G := gd X) (fun _ _ _ z => z) hsub hsub1 h
theorem ds_setLc2 {i : Nat} {y : Str} {py : Pos} (own : List (Str × Nat)) (vs1 : List Nat) (hc : X.calm = true) (hN : X.N.Nodup) (hy : X.N[i]? = some y) (hyl : X.env.scope.names.lookup y = some .local) (hsw : swapsWith (.ListComp elt [⟨tg, iter, ifs, 0⟩, ⟨tg1, iter1, ifs1, 0⟩] scope pos) (some (.Name y py)) spos.line X.env = pure true) (hi : DI X W tg iter mi) (ok : BlkOk X.N X.env.scope scope own) (hg : Blk X scope fun Y => DG Y tg t) (ht : Blk X scope fun Y => DTs Y WF ifs tt) (hi1 : Blk X scope fun Y => DI Y WF tg1 iter1 mi1) (hg1 : Blk X scope fun Y => DG Y tg1 t1) (ht1 : Blk X scope fun Y => DTs Y WF ifs1 tt1) (he : Blk X scope fun Y => DE Y WF elt m)
    (hP : i ∉ P := by decide) (hv : ∀ i ∈ vs1, i ∈ own.map (·.2) := by decide) (hsub : t.slots.all (fun i => (own.map (·.2)).contains i) = true := by rfl) (hsub1 : t1.slots.all (fun i => vs1.contains i) = true := by rfl) (hs : ∀ x, foldedSetIterable iter X.env x = pure x := by intro _; rfl) (hs1 : ∀ env x, foldedSetIterable iter1 env x = pure x := by intro _ _; rfl) :
    DS X W P (.Assign [.Name y py] (.ListComp elt [⟨tg, iter, ifs, 0⟩, ⟨tg1, iter1, ifs1, 0⟩] scope pos) spos) (sAsg i (mLc2 mi t tt mi1 t1 tt1 m (own.map (·.2)) vs1)) :=
  PS.imp (ps_setLc2 (g := gT X.K t) (tt := TTd (gd X) WF tt) (te := TEd (gd X) WF m) (wi1 := TId (gd X) WF mi1) (g1 := gT X.K t1) (tt1 := TTd (gd X) WF tt1) hc hN hy hyl hsw hi ok hv hg ht hi1 hg1 ht1 he hs hs1) fun _ _ _ h => lc2_reads (G := gd X) (fun _ _ _ z => z) hsub hsub1 (asg_run hP h)
theorem de_lc2K {kd : Kd} {i : Nat} (own : List (Str × Nat)) (vs1 : List Nat) (hc : X.calm = true) (hN : X.N.Nodup) (hi : DK X kd tg iter i) (ok : BlkOk X.N X.env.scope scope own) (hg : Blk X scope fun Y => DG Y tg t) (ht : Blk X scope fun Y => DTs Y WF ifs tt) (hi1 : Blk X scope fun Y => DI Y WF tg1 iter1 mi1) (hg1 : Blk X scope fun Y => DG Y tg1 t1) (ht1 : Blk X scope fun Y => DTs Y WF ifs1 tt1) (he : Blk X scope fun Y => DE Y WF elt m)
    (hv : ∀ i ∈ vs1, i ∈ own.map (·.2) := by decide) (hsub : t.slots.all (fun i => (own.map (·.2)).contains i) = true := by rfl) (hsub1 : t1.slots.all (fun i => vs1.contains i) = true := by rfl) (hs : ∀ x, foldedSetIterable iter X.env x = pure x := by intro _; rfl) (hs1 : ∀ env x, foldedSetIterable iter1 env x = pure x := by intro _ _; rfl) :
    DE X W (.ListComp elt [⟨tg, iter, ifs, 0⟩, ⟨tg1, iter1, ifs1, 0⟩] scope pos) (mLc2 (mKd kd i) t tt mi1 t1 tt1 m (own.map (·.2)) vs1) := by
  obtain ⟨wi, pi, hwi⟩ := hi.ex
  exact PE.imp (pe_orE (pe_lock (pe_lc2 (g := gT X.K t) (tt := TTd (gd X) WF tt) (te := TEd (gd X) WF m) (wi1 := TId (gd X) WF mi1) (g1 := gT X.K t1) (tt1 := TTd (gd X) WF tt1) hc hN pi ok hv hg ht hi1 hg1 ht1 he hs hs1)) (pe_lc2 (g := gT X.K t) (tt := TTd (gd X) WF tt) (te := TEd (gd X) WF m) (wi1 := TId (gd X) WF mi1) (g1 := gT X.K t1) (tt1 := TTd (gd X) WF tt1) hc hN pi ok hv hg ht hi1 hg1 ht1 he hs hs1)) fun _ _ _ h => lc2K_run (G := gd X) hwi hsub hsub1 h
end
end
end DL
end
section
set_option Elab.async false
set_option linter.all false
set_option maxRecDepth 100000
/-! DL: defs and their calls. -/
namespace DL
open PySem PySem.Spec PyProof.Rows L2
inductive FOut where
  | ok (r : Val) (ps : Rho) | exc (x : Exn) (ps : Rho) | bad
/-- a def: from its arguments to what it returns, and what has become of the arguments -/
abbrev MF := List Val → FOut
/-- a def's promise -/
def SpD (G : Gd) (n : Nat) (mf : MF) : Sp := fun vs H Q E => vs.length = n ∧ ∃ Kn ds Lf, SI G Kn H (vs.map some) (ds.map some) Lf ∧
  match mf ds with
  | .ok r ps => ∀ Kn' H' Lf' v M, SI G Kn' H' (vs.map some) ps Lf' → Ow G Kn' H' r.2 r.1 v M → (∀ a, M a → ¬ U Lf' a) → (∀ a, M a → Kn' a = none) → Tr Kn H (U Lf) Kn' H' (Jn (U Lf') M) → Q v H'
  | .exc x ps => ∀ Kn' H' Lf' c dx, SI G Kn' H' (vs.map some) ps Lf' → XR G H' x c dx → Tr Kn H (U Lf) Kn' H' (U Lf') → E c dx H'
  | .bad => False
def outP (np : Nat) (P : List Nat) (ρ : Rho) : Rho := (List.range np).map fun i => if P.contains i then (ρ[i]?).join else none
/-- a body, run -/
def runD (np nl : Nat) (P : List Nat) (ms : MS) : MF := fun ds => match ms (ds.map some ++ List.replicate (nl - np) none) with
  | .nx ρ => .ok (.non, 0) (outP np P ρ)
  | .rt r ρ => .ok r (outP np P ρ)
  | .exc x ρ => .exc x (outP np P ρ)
  | _ => .bad
section
variable {G : Gd} {Kn H : Hp} {σ : L2.St} {ρ : Rho} {Lf : Nat → Ft}
theorem SI.extend {n : Nat} (S : SI G Kn H σ ρ Lf) : SI G Kn H (σ ++ List.replicate n none) (ρ ++ List.replicate n none) Lf := by
  have get : ∀ {i : Nat} {d : D} {k : Nat}, (ρ ++ List.replicate n none)[i]? = some (some (d, k)) ↔ ρ[i]? = some (some (d, k)) := by
    intro i d k
    by_cases hi : i < ρ.length
    · rw [List.getElem?_append_left hi]
    · rw [List.getElem?_append_right (by omega), List.getElem?_eq_none (by omega : ρ.length ≤ i)]
      constructor
      · intro e
        rw [List.getElem?_replicate] at e
        split at e <;> cases e
      · intro e; cases e
  refine ⟨S.le, by simp [S.len], fun i d k e => ?_, fun i n' => S.off i fun d k e => n' d k (get.mpr e), S.dj, S.kn, S.pl⟩
  obtain ⟨v, h1, w⟩ := S.at_ i d k (get.mp e)
  exact ⟨v, by rw [List.getElem?_append_left (List.getElem?_eq_some_iff.mp h1).1]; exact h1, w⟩
theorem outP_get {np : Nat} {P : List Nat} {i : Nat} {r : Val} (e : (outP np P ρ)[i]? = some (some r)) : i < np ∧ i ∈ P ∧ ρ[i]? = some (some r) := by
  unfold outP at e
  rw [List.getElem?_map] at e
  by_cases hi : i < np
  · rw [List.getElem?_range hi] at e
    simp only [Option.map_some, Option.some.injEq] at e
    split at e
    · rename_i hc
      refine ⟨hi, by simpa using hc, ?_⟩
      cases q : ρ[i]? with
      | none => rw [q] at e; cases e
      | some x => rw [q] at e; simp at e; rw [e]
    · cases e
  · rw [List.getElem?_eq_none (by simpa using hi)] at e; cases e
theorem SI.outs {np : Nat} {P : List Nat} {vs : List V} (S : SI G Kn H σ ρ Lf) (hl : vs.length = np) (kp : ∀ i, i ∈ P → i < np → σ[i]? = (vs.map some)[i]?) : ∃ Lf', SI G Kn H (vs.map some) (outP np P ρ) Lf' ∧ ∀ a, U Lf' a → U Lf a := by
  refine ⟨fun i a => (∃ r, (outP np P ρ)[i]? = some (some r)) ∧ Lf i a, ⟨S.le, by simp [outP, hl], fun i d k e => ?_, fun i n a z => ?_, fun i j a h z z' => S.dj i j a h z.2 z'.2, fun a ⟨i, z⟩ => S.kn a ⟨i, z.2⟩, S.pl⟩, fun a ⟨i, z⟩ => ⟨i, z.2⟩⟩
  · obtain ⟨hi, hP, e'⟩ := outP_get e
    obtain ⟨v, h1, w⟩ := S.at_ i d k e'
    refine ⟨v, ?_, ?_⟩
    · exact (kp i hP hi).symm.trans h1
    · cases k with
      | zero => exact ⟨w.1, fun a z => w.2 a z.2⟩
      | succ k =>
        have : (fun a => (∃ r, (outP np P ρ)[i]? = some (some r)) ∧ Lf i a) = Lf i := by
          funext a
          exact propext ⟨fun z => z.2, fun z => ⟨⟨_, e⟩, z⟩⟩
        rw [this]
        exact w
  · obtain ⟨⟨r, e⟩, _⟩ := z
    exact n r.1 r.2 e
end
/-- THE RULE for a def -/
theorem fn_d {P : Program} {w : World} {K : PySem.W.Frag} {mg : Str → Option Value} {base : Heap} {x qual : Str} {st : Stmt} {f : Addr} {fd : FuncData} {N ps : List Str} {k : Nat} {Pk : List Nat} {ms : MS} (F : Fun K x qual st f fd) (S : FnScope N ps (defScope st))
    (body : ∀ (cdv : Value) (A : Around) (outer : List Env) (s : Shared) (H : Hp) (E : XK), Room k (A.deeper (envOfC qual (defScope st) s.heap.objs.size f cdv)) →
      DSs (cxOf (L2.CX P w) P w K mg base N qual (defScope st) f cdv A outer s H E) (fun cls d _ H => E cls d H) Pk (defBody st) ms) (hN : ps.length ≤ N.length := by decide) :
    FnOk P w K mg base (L2.CX P w) (k + 1) f fd ps (SpD ⟨K, mg⟩ ps.length (runD ps.length N.length Pk ms)) := by
  refine F.okX S (fun vs H Q E h => h.1) fun cdv A outer s H vs Q E hr h => ⟨_, body cdv A outer s H E hr, ?_⟩
  obtain ⟨hl, Kn, ds, Lf, S0, o⟩ := h
  have hlr : (ds.map some ++ List.replicate (N.length - ps.length) none).length = N.length := by
    have := S0.len
    simp at this ⊢
    omega
  have S1 : SI (gd (cxOf (L2.CX P w) P w K mg base N qual (defScope st) f cdv A outer s H E)) Kn H (L2.start N vs) (ds.map some ++ List.replicate (N.length - ps.length) none) Lf := by
    unfold L2.start
    rw [hl]
    exact S0.extend
  refine ⟨Kn, _, Lf, S1, ?_⟩
  unfold runD at o
  have kpe : ∀ {σ' : L2.St} {ρ' : Rho}, σ'.length = ρ'.length → Kp Pk (L2.start N vs) σ' → ∀ {Kn' H' Lf'}, SI ⟨K, mg⟩ Kn' H' σ' ρ' Lf' → ∃ Lf2, SI ⟨K, mg⟩ Kn' H' (vs.map some) (outP ps.length Pk ρ') Lf2 ∧ ∀ a, U Lf2 a → U Lf' a := by
    intro σ' ρ' _ kp Kn' H' Lf' S'
    refine S'.outs hl fun i hi hn => (kp i hi).trans ?_
    unfold L2.start
    rw [List.getElem?_append_left (by simpa [hl] using hn)]
  cases e : ms (ds.map some ++ List.replicate (N.length - ps.length) none) with
  | nx ρ' =>
    rw [e] at o
    intro Kn' H' σ' Lf' S' t kp
    obtain ⟨Lf2, S2, u⟩ := kpe S'.len kp S'
    exact o Kn' H' Lf2 .non No S2 ⟨.non, fun _ z => z⟩ (fun _ z => z.elim) (fun _ z => z.elim) (t.less fun a z => z.elim (u a) fun z => z.elim)
  | rt r ρ' =>
    rw [e] at o
    intro Kn' H' σ' Lf' v M S' w' s' kn' t kp
    obtain ⟨Lf2, S2, u⟩ := kpe S'.len kp S'
    exact o Kn' H' Lf2 v M S2 w' (fun a z q => s' a z (u a q)) kn' (t.less fun a z => z.elim (fun z => .inl (u a z)) .inr)
  | exc x ρ' =>
    rw [e] at o
    intro Kn' H' σ' Lf' c dx S' r t kp
    obtain ⟨Lf2, S2, u⟩ := kpe S'.len kp S'
    exact o Kn' H' Lf2 c dx S2 r (t.less u)
  | bk ρ' => rw [e] at o; exact o.elim
  | ct ρ' => rw [e] at o; exact o.elim
  | bad => rw [e] at o; exact o.elim
end DL
end
section
set_option Elab.async false
set_option linter.all false
set_option maxRecDepth 100000
/-! DL: a call of a def. -/
namespace DL
open PySem PySem.Spec PyProof.Rows L2
/-- the arguments, handed over -/
def takeOs : List Opn → List (Option D) → Rho → Option (List Val × Rho)
  | [], _, ρ => some ([], ρ)
  | .nm i :: os, _ :: ts, ρ => match ρ[i]? with
    | some (some (d, 0)) => match takeOs os ts ρ with
      | some (ds, ρ2) => some ((d, 0) :: ds, ρ2)
      | none => none
    | some (some (d, k + 1)) => match takeOs os ts (ρ.set i none) with
      | some (ds, ρ2) => some ((d, k + 1) :: ds, ρ2)
      | none => none
    | _ => none
  | .ex _ :: os, some d :: ts, ρ => match takeOs os ts ρ with
    | some (ds, ρ2) => some ((d, 0) :: ds, ρ2)
    | none => none
  | _ :: _, _, _ => none
/-- and back again -/
def giveOs : List Opn → Rho → Rho → Rho
  | .nm i :: os, p :: ps, ρ => giveOs os ps (match ρ[i]? with
    | some none => ρ.set i p
    | _ => ρ)
  | .ex _ :: os, _ :: ps, ρ => giveOs os ps ρ
  | _, _, ρ => ρ
def callF (mf : MF) (os : List Opn) (ts : List (Option D)) (ρ : Rho) : Out Val :=
  match takeOs os ts ρ with
  | some (ds, ρ2) => match mf ds with
    | .ok r ps => .ok r (giveOs os ps ρ2)
    | .exc x ps => .exc x (giveOs os ps ρ2)
    | .bad => .bad
  | none => .bad
def mCall (mf : MF) (os : List Opn) : ME := fun ρ => bindO (evOs os ρ) fun ts ρ1 => callF mf os ts ρ1
def consL (L : Ft) (Lf : Nat → Ft) : Nat → Ft
  | 0 => L
  | i + 1 => Lf i
theorem U_cons {L : Ft} {Lf : Nat → Ft} {a : Addr} : U (consL L Lf) a ↔ (L a ∨ U Lf a) := by
  constructor
  · rintro ⟨i, z⟩
    cases i with
    | zero => exact .inl z
    | succ i => exact .inr ⟨i, z⟩
  · rintro (z | ⟨i, z⟩)
    · exact ⟨0, z⟩
    · exact ⟨i + 1, z⟩
section
variable {G : Gd} {Kn H Kn1 H1 Kn2 H2 : Hp} {L L1 M F : Ft} {σ : L2.St} {ρ ρ1 ρ2 : Rho} {Lf Lf1 : Nat → Ft}
theorem SI.nil (le : Le Kn H) (pl : Plain Kn) : SI G Kn H [] [] fun _ => No :=
  ⟨le, rfl, fun _ _ _ e => (nomatch e), fun _ _ _ z => z, fun _ _ _ _ z => z.elim, fun _ ⟨_, z⟩ => z.elim, pl⟩
theorem SI.cons {v : V} {d : D} {k : Nat} (S : SI G Kn H σ ρ Lf) (w : Ow G Kn H k d v L) (hk : ∀ a, L a → Kn a = none) (dj : ∀ a, L a → ¬ U Lf a) : SI G Kn H (some v :: σ) (some (d, k) :: ρ) (consL L Lf) where
  le := S.le
  len := by simp [S.len]
  at_ := fun i d' k' e => by
    cases i with
    | zero => cases e; exact ⟨v, rfl, w⟩
    | succ i => exact S.at_ i d' k' e
  off := fun i n => by
    cases i with
    | zero => exact (n d k rfl).elim
    | succ i => exact S.off i n
  dj := fun i j a h z z' => by
    cases i with
    | zero =>
      cases j with
      | zero => exact h rfl
      | succ j => exact dj a z ⟨j, z'⟩
    | succ i =>
      cases j with
      | zero => exact dj a z' ⟨i, z⟩
      | succ j => exact S.dj i j a (fun e => h (e ▸ rfl)) z z'
  kn := fun a z => (U_cons.mp z).elim (hk a) fun z => S.kn a z
  pl := S.pl
theorem SI.tail {v : Option V} {p : Option Val} (S : SI G Kn H (v :: σ) (p :: ρ) Lf) : SI G Kn H σ ρ fun i => Lf (i + 1) where
  le := S.le
  len := by simpa using S.len
  at_ := fun i d k e => S.at_ (i + 1) d k e
  off := fun i n => S.off (i + 1) n
  dj := fun i j a h => S.dj (i + 1) (j + 1) a fun e => h (by omega)
  kn := fun a ⟨i, z⟩ => S.kn a ⟨i + 1, z⟩
  pl := S.pl
theorem SI.fill (S : SI G Kn H σ ρ Lf) {i : Nat} {d : D} {k : Nat} {v : V} {L : Ft} (hv : σ[i]? = some (some v)) (w : Ow G Kn H k d v L) (sep : ∀ a, L a → ¬ U Lf a) (hk : ∀ a, L a → Kn a = none) : SI G Kn H σ (ρ.set i (some (d, k))) (put Lf i L) := by
  have hs : i < σ.length := (List.getElem?_eq_some_iff.mp hv).1
  have h := S.set (d := d) (k := k) (v := v) (S.len ▸ hs) hs w sep hk
  have e : σ.set i (some v) = σ := by
    apply List.ext_getElem?
    intro j
    by_cases hj : j = i
    · subst hj; rw [List.getElem?_set_self hs, hv]
    · rw [List.getElem?_set_ne (Ne.symm hj)]
  rwa [e] at h
/-- the arguments are handed over -/
theorem Held.take : ∀ {os : List Opn} {ts : List (Option D)} {vs : List V} {F : Ft} {Kn : Hp} {ρ : Rho} {Lf : Nat → Ft} {ds : List Val} {ρ2 : Rho}, Held G Kn H σ os ts vs F → SI G Kn H σ ρ Lf → (∀ a, F a → ¬ U Lf a) → takeOs os ts ρ = some (ds, ρ2) →
    ∃ Kn2 Lf2 LC, SI G Kn2 H σ ρ2 Lf2 ∧ SI G Kn2 H (vs.map some) (ds.map some) LC ∧ (∀ a, U LC a → ¬ U Lf2 a) ∧ Tr Kn H (Jn (U Lf) F) Kn2 H (Jn (U Lf2) (U LC))
  | _, _, _, _, Kn, ρ, Lf, ds, ρ2, .nil, S, _, e => by
    simp only [takeOs, Option.some.injEq, Prod.mk.injEq] at e
    obtain ⟨rfl, rfl⟩ := e
    exact ⟨Kn, Lf, _, S, SI.nil S.le S.pl, fun _ ⟨_, z⟩ => z.elim, Tr.refl.less fun a z => z.elim .inl fun ⟨_, z⟩ => z.elim⟩
  | _, _, _, F, Kn, ρ, Lf, ds, ρ2, .nm (i := i) (t := t) (v := v) (os := os) (ts := ts) hv h, S, sep, e => by
    simp only [takeOs] at e
    cases e1 : ρ[i]? with
    | none => rw [e1] at e; cases e
    | some x =>
      cases x with
      | none => rw [e1] at e; cases e
      | some p =>
        obtain ⟨d, k⟩ := p
        rw [e1] at e
        obtain ⟨v', hv', w⟩ := S.at_ i d k e1
        rw [hv] at hv'; cases hv'
        cases k with
        | zero =>
          simp only at e
          cases e2 : takeOs os ts ρ with
          | none => rw [e2] at e; cases e
          | some q =>
            obtain ⟨ds', ρ'⟩ := q
            rw [e2] at e
            simp only [Option.some.injEq, Prod.mk.injEq] at e
            obtain ⟨rfl, rfl⟩ := e
            obtain ⟨Kn2, Lf2, LC, S2, SC, dj, t2⟩ := Held.take h S sep e2
            refine ⟨Kn2, Lf2, consL No LC, S2, SC.cons (k := 0) ⟨w.1.mono (Le.of_sub t2.kn), fun _ z => z⟩ (fun _ z => z.elim) (fun _ z => z.elim), fun a z => (U_cons.mp z).elim (fun z => z.elim) (dj a), t2.less fun a z => z.elim .inl fun z => (U_cons.mp z).elim (fun z => z.elim) .inr⟩
        | succ k =>
          simp only at e
          cases e2 : takeOs os ts (ρ.set i none) with
          | none => rw [e2] at e; cases e
          | some q =>
            obtain ⟨ds', ρ'⟩ := q
            rw [e2] at e
            simp only [Option.some.injEq, Prod.mk.injEq] at e
            obtain ⟨rfl, rfl⟩ := e
            have S1 := S.drop i
            obtain ⟨Kn2, Lf2, LC, S2, SC, dj, t2⟩ := Held.take h S1 (fun a z q => sep a z (U_drop q)) e2
            have sL : ∀ a, Lf i a → ¬ Jn (U (put Lf i No)) F a := fun a z q => by
              rcases q with q | q
              · rcases U_put q with q | ⟨j, hj, q⟩
                · exact q
                · exact S.dj i j a (Ne.symm hj) z q
              · exact sep a q ⟨i, z⟩
            have dL : ∀ a, Lf i a → ∃ o, H a = some o := fun a z => let ⟨o, e, _⟩ := w.dom a z; ⟨o, e⟩
            have s2 := sep_past t2 dL sL
            refine ⟨Kn2, Lf2, consL (Lf i) LC, S2, SC.cons (w.past t2 sL) (kn_past t2 dL sL fun a z => S.kn a ⟨i, z⟩) (fun a z q => s2 a z (.inr q)), fun a z => (U_cons.mp z).elim (fun z q => s2 a z (.inl q)) (dj a), ?_⟩
            refine ((t2.frame (Lf i)).more (M := Jn (U Lf) F) fun a z => ?_).less fun a z => ?_
            · rcases z with (z | z) | z
              · exact .inl (U_drop z)
              · exact .inr z
              · exact .inl ⟨i, z⟩
            · rcases z with z | z
              · exact .inl (.inl z)
              · exact (U_cons.mp z).elim .inr fun z => .inl (.inr z)
  | _, _, _, _, Kn, ρ, Lf, ds, ρ2, .ex (m := m) (d := d) (k := k) (v := v) (L := L) (F := F) (os := os) (ts := ts) w hk dj0 h, S, sep, e => by
    simp only [takeOs] at e
    cases e2 : takeOs os ts ρ with
    | none => rw [e2] at e; cases e
    | some q =>
      obtain ⟨ds', ρ'⟩ := q
      rw [e2] at e
      simp only [Option.some.injEq, Prod.mk.injEq] at e
      obtain ⟨rfl, rfl⟩ := e
      have t0 : Tr Kn H L (plusC Kn H L) H No := (Tr.know (L := L) (P := L) (fun _ h => h) hk w.dom).less fun _ z => z.elim
      have f : Fr G (plusC Kn H L) d v := w.freeze (plusC_kn hk) fun a o l e => by rw [plusC_in l]; exact e
      have sL : ∀ a, U Lf a → ¬ L a := fun a z q => sep a (.inl q) z
      have sF : ∀ a, F a → ¬ L a := fun a z q => dj0 a q z
      have S1 : SI G (plusC Kn H L) H σ ρ Lf := S.past t0 sL (plusC_le S.le)
      obtain ⟨Kn2, Lf2, LC, S2, SC, dj, t2⟩ := Held.take (h.past t0 sF) S1 (fun a z q => sep a (.inr z) q) e2
      refine ⟨Kn2, Lf2, consL No LC, S2, SC.cons (k := 0) ⟨f.mono (Le.of_sub t2.kn), fun _ z => z⟩ (fun _ z => z.elim) (fun _ z => z.elim), fun a z => (U_cons.mp z).elim (fun z => z.elim) (dj a), ?_⟩
      refine (((t0.frame (Jn (U Lf) F)).eqv (M := Jn (U Lf) (Jn L F)) (M1 := Jn No (Jn (U Lf) F)) (fun a => ?_) fun a => Iff.rfl).trans (t2.more fun a z => .inr z)).less fun a z => z.elim .inl fun z => (U_cons.mp z).elim (fun z => z.elim) .inr
      constructor
      · rintro (z | z | z)
        · exact .inr (.inl z)
        · exact .inl z
        · exact .inr (.inr z)
      · rintro (z | z | z)
        · exact .inr (.inl z)
        · exact .inl z
        · exact .inr (.inr z)
/-- and back again -/
theorem Held.give : ∀ {os : List Opn} {ts : List (Option D)} {vs : List V} {F : Ft} {ps ρ : Rho} {Lf LC : Nat → Ft}, Held G Kn H σ os ts vs F → SI G Kn1 H1 σ ρ Lf → SI G Kn1 H1 (vs.map some) ps LC → (∀ a, U LC a → ¬ U Lf a) →
    ∃ Lf2, SI G Kn1 H1 σ (giveOs os ps ρ) Lf2 ∧ ∀ a, U Lf2 a → U Lf a ∨ U LC a
  | _, _, _, _, ps, ρ, Lf, LC, .nil, S, SC, dj => ⟨Lf, by simpa [giveOs] using S, fun a z => .inl z⟩
  | _, _, _, _, [], ρ, Lf, LC, .nm _ _, S, SC, dj => by have := SC.len; simp at this
  | _, _, _, _, p :: ps, ρ, Lf, LC, .nm (i := i) (v := v) hv h, S, SC, dj => by
    have ST := SC.tail
    have djT : ∀ a, U (fun i => LC (i + 1)) a → ¬ U Lf a := fun a ⟨j, z⟩ => dj a ⟨j + 1, z⟩
    have skip : ∀ {ρ' Lf'}, SI G Kn1 H1 σ ρ' Lf' → (∀ a, U Lf' a → U Lf a ∨ LC 0 a) → ∃ Lf2, SI G Kn1 H1 σ (giveOs _ ps ρ') Lf2 ∧ ∀ a, U Lf2 a → U Lf a ∨ U LC a := fun S' h' => by
      obtain ⟨Lf2, S2, u⟩ := Held.give h S' ST fun a ⟨j, z⟩ q => (h' a q).elim (djT a ⟨j, z⟩) fun q => SC.dj 0 (j + 1) a (by omega) q z
      exact ⟨Lf2, S2, fun a z => (u a z).elim (fun z => (h' a z).elim .inl fun z => .inr ⟨0, z⟩) fun ⟨j, z⟩ => .inr ⟨j + 1, z⟩⟩
    simp only [giveOs]
    split
    · rename_i e1
      cases p with
      | none =>
        have e : ρ.set i none = ρ := by
          apply List.ext_getElem?
          intro j
          by_cases hj : j = i
          · subst hj; rw [List.getElem?_set_self (List.getElem?_eq_some_iff.mp e1).1, e1]
          · rw [List.getElem?_set_ne (Ne.symm hj)]
        rw [e]
        exact skip S fun a z => .inl z
      | some r =>
        obtain ⟨v', hv', w⟩ := SC.at_ 0 r.1 r.2 rfl
        simp at hv'
        subst hv'
        exact skip (S.fill (d := r.1) (k := r.2) hv w (fun a z => dj a ⟨0, z⟩) fun a z => SC.kn a ⟨0, z⟩) fun a z => (U_put z).elim .inr fun ⟨j, _, z⟩ => .inl ⟨j, z⟩
    · exact skip S fun a z => .inl z
  | _, _, _, _, [], ρ, Lf, LC, .ex _ _ _ _, S, SC, dj => by have := SC.len; simp at this
  | _, _, _, _, p :: ps, ρ, Lf, LC, .ex _ _ _ h, S, SC, dj => by
    obtain ⟨Lf2, S2, u⟩ := Held.give h S SC.tail fun a ⟨j, z⟩ => dj a ⟨j + 1, z⟩
    exact ⟨Lf2, by simpa [giveOs] using S2, fun a z => (u a z).elim .inl fun ⟨j, z⟩ => .inr ⟨j + 1, z⟩⟩
theorem Held.len : ∀ {os : List Opn} {ts : List (Option D)} {vs : List V} {F : Ft}, Held G Kn H σ os ts vs F → vs.length = os.length
  | _, _, _, _, .nil => rfl
  | _, _, _, _, .nm _ h => by simp [Held.len h]
  | _, _, _, _, .ex _ _ _ h => by simp [Held.len h]
theorem call_run {W : WX} {mf : MF} {os : List Opn} {n : Nat} {Q : VK} (hn : os.length = n) (h : TEd G W (mCall mf os) σ H Q) : TOs G W os σ H (fun vs H1 => SpD G n mf vs H1 Q (WE W σ)) := by
  obtain ⟨Kn, ρ, Lf, S, ow⟩ := h
  have ow' : OW G W Q Kn H (U Lf) σ (mCall mf os ρ) := ow
  refine evOs_run (R := fun vs H' => SpD G n mf vs H' Q (WE W σ)) (g := fun ts ρ1 => callF mf os ts ρ1) os [] [] [] No Kn H ρ Lf S .nil (fun _ z => z.elim) (Tr.refl.less fun a z => z.elim (fun z => z) fun z => z.elim) ow' fun ts vs F' Kn' H' ρ' Lf' S' h' s' t' o' => ?_
  have o2 : OW G W Q Kn H (U Lf) σ (callF mf os ts ρ') := o'
  have h2 : Held G Kn' H' σ os ts vs F' := h'
  unfold callF at o2
  cases e : takeOs os ts ρ' with
  | none => rw [e] at o2; exact o2.elim
  | some q =>
    obtain ⟨ds, ρ2⟩ := q
    rw [e] at o2
    simp only at o2
    obtain ⟨Kn2, Lf2, LC, S2, SC, dj, t2⟩ := h2.take S' s' e
    have d2 : ∀ a, U Lf2 a → ∃ o, H' a = some o := fun a z => let ⟨o, e, _⟩ := S2.dom z; ⟨o, e⟩
    have j2 : ∀ a, U Lf2 a → ¬ U LC a := fun a z q => dj a q z
    refine ⟨h2.len.trans hn, Kn2, ds, LC, SC, ?_⟩
    cases e3 : mf ds with
    | ok r ps =>
      rw [e3] at o2
      intro Kn3 H3 L3 v M S3 w3 s3 k3 t3
      have S4 : SI G Kn3 H3 σ ρ2 Lf2 := S2.past t3 j2 S3.le
      have s4 := sep_past t3 d2 j2
      obtain ⟨Lf4, S5, u⟩ := h2.give S4 S3 fun a z q => s4 a q (.inl z)
      refine o2 Kn3 H3 Lf4 v M S5 w3 (fun a z q => (u a q).elim (fun q => s4 a q (.inr z)) fun q => s3 a z q) k3 (((t'.trans t2).trans ((t3.frame (U Lf2)).more fun a z => z.elim .inr .inl)).less fun a z => ?_)
      rcases z with z | z
      · exact (u a z).elim .inr fun z => .inl (.inl z)
      · exact .inl (.inr z)
    | exc x ps =>
      rw [e3] at o2
      intro Kn3 H3 L3 c dx S3 r3 t3
      have S4 : SI G Kn3 H3 σ ρ2 Lf2 := S2.past t3 j2 S3.le
      have s4 := sep_past t3 d2 j2
      obtain ⟨Lf4, S5, u⟩ := h2.give S4 S3 fun a z q => s4 a q z
      refine o2 Kn3 H3 Lf4 c dx S5 r3 (((t'.trans t2).trans ((t3.frame (U Lf2)).more fun a z => z.elim .inr .inl)).less fun a z => ?_)
      exact (u a z).elim .inr .inl
    | bad => rw [e3] at o2; exact o2.elim
end
section
variable {X : Cx} {W : WX}
theorem de_call {k : Nat} {f : Addr} {fd : FuncData} {ps : List Str} {n : Nat} {mf : MF} {x : Str} {p pos : Pos} {e : Expr} {es : List Expr} {os : List Opn}
    (F : FnOk X.prog X.w X.K X.mg X.base (L2.CX X.prog X.w) k f fd ps (SpD (gd X) n mf)) (hr : Room k X.A) (hg : Gl X x) (hm : X.mg x = some (.ref f)) (hk : PySem.W.keepIn X.K (.ref f) = true) (hb : Binds X.K fd ps []) (tk : Takes X W) (ha : DA X W (e :: es) os) (hn : os.length = n := by rfl)
    (hd : (x == Str.ofString "__debug__") = false := by first | rfl | decide) (h1 : starEach (e :: es) X.env = (false, eval e X.env) :: starEach es X.env := by rfl) (h2 : ((backTo pos (starEach es X.env)).any fun x => x.fst) = false := by rfl) : DE X W (.Call (.Name x p) (e :: es) [] pos) (mCall mf os) :=
  PE.imp (pe_callS (E := WE W) F hr hg hm hk hb (fun σ => passAt tk σ) ha hd h1 h2) fun σ H Q h => call_run hn h
end
end DL
end
section
set_option Elab.async false
set_option linter.all false
set_option maxRecDepth 100000
/-! DL: built-in calls. -/
namespace DL
open PySem PySem.Spec PyProof.Rows L2
section
variable {G : Gd} {Kn H : Hp}
/-! ### isinstance -/
def tyD : D → Option String
  | .non => some "NoneType"
  | .bl _ => some "bool"
  | .int _ => some "int"
  | .str _ => some "str"
  | .tup _ => some "tuple"
  | .lst _ => some "list"
  | .dic _ _ => some "dict"
  | _ => none
theorem Tp.ty (le : Le Kn H) {d : D} {v : V} {t : String} (h : Tp G Kn H d v) (e : tyD d = some t) : TyX G.K H v (.type t) := by
  cases d with
  | non => cases e; rw [h.non]; exact .base .non
  | bl b => cases e; rw [h.bl]; exact .base (.bl b)
  | int i => cases e; rw [h.int]; exact .base (.int i)
  | str x => cases e; rw [h.str]; exact .base (.str x)
  | tup ds =>
    cases e
    obtain ⟨a, vs, rfl, r, _⟩ := h.tup le
    exact .base (.tup r)
  | lst ds =>
    cases e
    obtain ⟨a, vs, rfl, r, _⟩ := h.lst le
    rcases r with r | ⟨o, r⟩
    · exact .base (.lst r)
    · exact .base (.frz r)
  | dic ks ds =>
    cases e
    obtain ⟨a, vs, rfl, r, _⟩ := h.dic le
    rcases r with r | ⟨o, r⟩
    · exact .base (.dK r)
    · exact .fDict r
  | dit ks ds => cases e
  | ins C ks ds => cases e
  | exv C ks ds => cases e
  | opq => cases e
def isO (d : D) : List String → Option Bool
  | [] => some false
  | T :: Ts => match tyD d with
    | none => none
    | some t => match kitB t T with
      | none => none
      | some true => some true
      | some false => isO d Ts
def isiD (Ts : List String) : List D → Option Val
  | [d] => match isO d Ts with
    | some b => some (.bl b, 0)
    | none => none
  | _ => none
theorem kit_isO {K : PySem.W.Frag} {d : D} {t : String} (ht : tyD d = some t) : ∀ {Ts : List String} {b : Bool}, isO d Ts = some b → PySem.W.kitAny K (.type t) (Ts.map Value.type) = some b
  | [], b, e => by cases e; exact kitAny_nil
  | T :: Ts, b, e => by
    simp only [isO, ht] at e
    cases e1 : kitB t T with
    | none => rw [e1] at e; cases e
    | some r =>
      rw [e1] at e
      cases r with
      | true => cases e; exact kitAny_cons (kit_ty e1) (fun z => nomatch z) fun _ => rfl
      | false => exact kitAny_cons (kit_ty e1) (fun _ => kit_isO ht e) fun z => nomatch z
theorem isO_ty {d : D} {T : String} {Ts : List String} {b : Bool} (e : isO d (T :: Ts) = some b) : ∃ t, tyD d = some t := by
  cases h : tyD d with
  | none => simp [isO, h] at e
  | some t => exact ⟨t, rfl⟩
theorem isO_one {d : D} {t T : String} {b : Bool} (ht : tyD d = some t) (e : isO d [T] = some b) : kitB t T = some b := by
  simp only [isO, ht] at e
  cases e1 : kitB t T with
  | none => rw [e1] at e; cases e
  | some r =>
    rw [e1] at e
    cases r with
    | true => exact e
    | false => exact e
theorem Rdy.past {f : List D → Option Val} {vs : List V} {Q : VK} {p : Addr} {o : HO} (h : Rdy G f vs H Q) (e : H p = none) : Rdy G f vs (upd H p o) Q := by
  obtain ⟨Kn, ds, r, le, tps, e1, q⟩ := h
  have mv : ∀ {ds : List D} {vs : List V}, Tps G Kn H ds vs → Tps G Kn (upd H p o) ds vs := fun t => by
    induction t with
    | nil => exact .nil
    | cons h _ ih =>
      refine .cons ?_ ih
      rcases h with h | ⟨a, o', ds, vs, rfl, ea, w, hs⟩
      · exact .inl h
      · exact .inr ⟨a, o', ds, vs, rfl, by rw [upd_ne (ne_of_none ea e)]; exact ea, w, hs⟩
  exact ⟨Kn, ds, r, le.new e, mv tps, e1, fun Kn' H' v L t le' w hk => q Kn' H' v L ((((Tr.new le e).less (M := No) fun _ z => z.elim)).trans t) le' w hk⟩
end
section
variable {X : Cx} {W : WX} {a b c : Expr} {oa ob oc : Opn} {pos : Pos}
theorem de_isi {x : Str} {T : String} {p p2 : Pos} (ha : DO X W a oa) (hg : Gl X "isinstance") (hm : X.mg "isinstance" = none) (hgT : Gl X x) (hmT : X.mg x = none) (hvT : bootBuiltins x = some (.type T)) (hn : x ≠ "__name__" := by decide) (hd : (x == ("__debug__" : Str)) = false := by decide)
    (he : starEach [a, .Name x p2] X.env = (false, eval a X.env) :: starEach [.Name x p2] X.env := by rfl) (h1 : starEach [.Name x p2] X.env = (false, eval (.Name x p2) X.env) :: starEach [] X.env := by rfl) (hpl : (backTo pos (starEach [.Name x p2] X.env)).any (·.1) = false := by rfl) : DE X W (.Call (.Name "isinstance" p) [a, .Name x p2] [] pos) (opN [oa] (isiD [T])) :=
  PE.imp (pe_callB call_isi hg hm rfl (pa_cons ha (pa_cons (pe_bltn (v := .ty T) hgT hmT hvT rfl hn hd) pa_nil h1) he) (by decide) (by decide) he hpl) fun σ H Q h => TOd.mono (Q := fun v H' => Rdy (gd X) (isiD [T]) [v] H' Q) (Q' := fun v H' => rIsi X.K [v, .ty T] H' Q) (fun v H1 q => by
    obtain ⟨Kn, ds, r, le, tps, e, p⟩ := q
    unfold isiD at e
    split at e
    · rename_i d
      cases tps with
      | cons t1 tr =>
        cases tr
        split at e
        · rename_i b eb
          cases e
          obtain ⟨t, ht⟩ := isO_ty eb
          exact ⟨_, _, _, _, b, rfl, .ty T, t1.ty le ht, kit_ty (isO_one ht eb), p.val le (.bl b)⟩
        · cases e
    · cases e) (opN_run h)
theorem de_isi2 {x y : Str} {T U : String} {k : Nat} {p p2 p3 p4 : Pos} (ha : DO X W a oa) (hg : Gl X "isinstance") (hm : X.mg "isinstance" = none) (hgT : Gl X x) (hmT : X.mg x = none) (hvT : bootBuiltins x = some (.type T)) (hgU : Gl X y) (hmU : X.mg y = none) (hvU : bootBuiltins y = some (.type U)) (hn : x ≠ "__name__" := by decide) (hd : (x == ("__debug__" : Str)) = false := by decide)
    (hn' : y ≠ "__name__" := by decide) (hd' : (y == ("__debug__" : Str)) = false := by decide)
    (he : starEach [a, .Tuple [.Name x p2, .Name y p3] k p4] X.env = (false, eval a X.env) :: starEach [.Tuple [.Name x p2, .Name y p3] k p4] X.env := by rfl) (h1 : starEach [.Tuple [.Name x p2, .Name y p3] k p4] X.env = (false, eval (.Tuple [.Name x p2, .Name y p3] k p4) X.env) :: starEach [] X.env := by rfl)
    (h2 : starEach [.Name x p2, .Name y p3] X.env = (false, eval (.Name x p2) X.env) :: starEach [.Name y p3] X.env := by rfl) (h3 : starEach [.Name y p3] X.env = (false, eval (.Name y p3) X.env) :: starEach [] X.env := by rfl)
    (hpl : (backTo pos (starEach [.Tuple [.Name x p2, .Name y p3] k p4] X.env)).any (·.1) = false := by rfl) : DE X W (.Call (.Name "isinstance" p) [a, .Tuple [.Name x p2, .Name y p3] k p4] [] pos) (opN [oa] (isiD [T, U])) :=
  PE.imp (pe_callB call_isiT hg hm rfl (pa_cons ha (pa_cons (pe_tup (pa_cons (pe_bltn (v := .ty T) hgT hmT hvT rfl hn hd) (pa_cons (pe_bltn (v := .ty U) hgU hmU hvU rfl hn' hd') pa_nil h3) h2)) pa_nil h1) he) (by decide) (by decide) he hpl) fun σ H Q h =>
    TOd.mono (Q := fun v H' => Rdy (gd X) (isiD [T, U]) [v] H' Q) (Q' := fun v H' => (2 : Nat) ≤ sizeLine ∧ ∀ t, H' t = none → rIsiT X.K [v, .ref t] (upd H' t (.tup [.ty T, .ty U])) Q) (fun v H1 q => by
    refine ⟨by decide, fun t ht => ?_⟩
    obtain ⟨Kn, ds, r, le, tps, e, p⟩ := q.past (o := .tup [.ty T, .ty U]) ht
    unfold isiD at e
    split at e
    · rename_i d
      cases tps with
      | cons t1 tr =>
        cases tr
        split at e
        · rename_i b eb
          cases e
          obtain ⟨ty, hty⟩ := isO_ty eb
          exact ⟨_, t, _, _, [.type T, .type U], b, rfl, upd_same, .cons (.ty T) (.cons (.ty U) .nil), t1.ty le hty, kit_isO (Ts := [T, U]) hty eb, p.val le (.bl b)⟩
        · cases e
    · cases e) (opN_run h)
end
end DL
end
section
set_option Elab.async false
set_option linter.all false
set_option maxRecDepth 100000
/-! DL: all, any, list, tuple, dict, str, is, comparisons in a row. -/
namespace DL
open PySem PySem.Spec PyProof.Rows L2
section
variable {G : Gd} {Kn H : Hp}
def blsD : List D → Option (List Bool)
  | [] => some []
  | .bl b :: ds => match blsD ds with
    | some bs => some (b :: bs)
    | none => none
  | _ => none
theorem bls_frs : ∀ {ds : List D} {vs : List V} {bs : List Bool}, Frs G H ds vs → blsD ds = some bs → vs = bs.map V.bl
  | _, _, _, .nil, e => by cases e; rfl
  | _, _, _, .cons (d := d) (ds := ds) h t, e => by
    cases d with
    | bl b =>
      simp only [blsD] at e
      cases e1 : blsD ds with
      | none => rw [e1] at e; cases e
      | some bs =>
        rw [e1] at e
        cases e
        cases h
        rw [List.map_cons, ← bls_frs t e1]
    | _ => cases e
def allD : List D → Option Val
  | [.lst ds] => match blsD ds with
    | some bs => some (.bl (bs.all id), 0)
    | none => none
  | _ => none
def anyD : List D → Option Val
  | [.lst ds] => match blsD ds with
    | some bs => some (.bl (bs.any id), 0)
    | none => none
  | _ => none
theorem fit_all : FitN allD G (rAll G.K) := by
  intro xs H Q ⟨Kn, ds, r, le, tps, hf, p⟩
  unfold allD at hf
  split at hf
  · cases tps with
    | cons t1 tr =>
      cases tr
      split at hf
      · rename_i bs eb
        cases hf
        obtain ⟨a, vs, rfl, r1, f1⟩ := t1.lst le
        exact ⟨a, bs, rfl, .inl (by rw [← bls_frs f1 eb]; exact r1), p.val le (.bl _)⟩
      · cases hf
  · cases hf
theorem fit_any : FitN anyD G (rAny G.K) := by
  intro xs H Q ⟨Kn, ds, r, le, tps, hf, p⟩
  unfold anyD at hf
  split at hf
  · cases tps with
    | cons t1 tr =>
      cases tr
      split at hf
      · rename_i bs eb
        cases hf
        obtain ⟨a, vs, rfl, r1, f1⟩ := t1.lst le
        exact ⟨a, bs, rfl, .inl (by rw [← bls_frs f1 eb]; exact r1), p.val le (.bl _)⟩
      · cases hf
  · cases hf
/-! ### list, tuple, dict, str -/
def kD : Key → D
  | .inl i => .int i
  | .inr x => .str x
theorem kD_fr (k : Key) : Fr G H (kD k) (kV k) := by
  cases k with
  | inl i => exact .int i
  | inr x => exact .str x
theorem kD_frs : ∀ ks : List Key, Frs G H (ks.map kD) (ks.map kV)
  | [] => .nil
  | k :: ks => .cons (kD_fr k) (kD_frs ks)
def listD : List D → Option Val
  | [.lst xs] => some (.lst xs, 1)
  | [.tup xs] => some (.lst xs, 1)
  | [.dic ks _] => some (.lst (ks.map kD), 1)
  | _ => none
def rListS (K : PySem.W.Frag) : List V → Hp → VK → Prop := fun xs H Q => ∃ p ys, xs = [.ref p] ∧ (SqL K H p ys ∨ SqT K H p ys) ∧ ∀ l, H l = none → Q (.ref l) (upd H l (.lst ys))
def rListK : List V → Hp → VK → Prop := fun xs H Q => ∃ (a : Addr) (kvs : List (Key × V)), xs = [.ref a] ∧ Rd H a (.dK kvs) ∧ ∀ p, H p = none → Q (.ref p) (upd H p (.lst (kvs.map fun kv => kV kv.1)))
def rListD' (K : PySem.W.Frag) : List V → Hp → VK → Prop := fun xs H Q => rListS K xs H Q ∨ rListK xs H Q
theorem call_listD' {X : Cx} (hc : X.calm = true) : CallR X (.type "list") (rListD' X.K) := CallR.or call_list_of (call_listD hc)
theorem fit_list : FitN listD G (rListD' G.K) := by
  intro xs H Q ⟨Kn, ds, r, le, tps, hf, p⟩
  unfold listD at hf
  split at hf
  · cases hf
    cases tps with
    | cons t1 tr =>
      cases tr
      obtain ⟨a, vs, rfl, r1, f1⟩ := t1.lst le
      exact .inl ⟨a, vs, rfl, .inl (.inl r1), fun l hl => p.lst le hl f1⟩
  · cases hf
    cases tps with
    | cons t1 tr =>
      cases tr
      obtain ⟨a, vs, rfl, r1, _, f1⟩ := t1.tup le
      exact .inl ⟨a, vs, rfl, .inr (SqT.of r1), fun l hl => p.lst le hl f1⟩
  · cases hf
    cases tps with
    | cons t1 tr =>
      cases tr
      obtain ⟨a, vs, rfl, r1, hk, f1⟩ := t1.dic le
      refine .inr ⟨a, _, rfl, r1, fun l hl => ?_⟩
      rename_i ks _
      have e : ((ks.zip vs).map fun kv => kV kv.1) = ks.map kV := by
        rw [show (fun kv : Key × V => kV kv.1) = kV ∘ Prod.fst from rfl, ← List.map_map, zip_fst hk]
      rw [e]
      exact p.lst le hl (kD_frs _)
  · cases hf
def tupleD : List D → Option Val
  | [.lst xs] => some (.tup xs, 0)
  | [.tup xs] => some (.tup xs, 0)
  | _ => none
def rTupS (K : PySem.W.Frag) : List V → Hp → VK → Prop := fun xs H Q => ∃ p ys, xs = [.ref p] ∧ ((SqL K H p ys ∧ ∀ l, H l = none → Q (.ref l) (upd H l (.tup ys))) ∨ (SqT K H p ys ∧ Q (.ref p) H))
theorem fit_tuple : FitN tupleD G (rTupS G.K) := by
  intro xs H Q ⟨Kn, ds, r, le, tps, hf, p⟩
  unfold tupleD at hf
  split at hf
  · cases hf
    cases tps with
    | cons t1 tr =>
      cases tr
      obtain ⟨a, vs, rfl, r1, f1⟩ := t1.lst le
      exact ⟨a, vs, rfl, .inl ⟨.inl r1, fun l hl => p.tup le hl f1⟩⟩
  · cases hf
    cases tps with
    | cons t1 tr =>
      cases tr
      obtain ⟨a, vs, rfl, r1, rk, f1⟩ := t1.tup le
      exact ⟨a, vs, rfl, .inr ⟨SqT.of r1, p.val le (.tup rk f1)⟩⟩
  · cases hf
/-- pairs of a key and a value -/
def pairsD : List D → Option (List (Key × D))
  | [] => some []
  | .tup [k, d] :: ds => match keyD k, pairsD ds with
    | some k, some r => some ((k, d) :: r)
    | _, _ => none
  | _ => none
def mergeG (kvs : List (Key × D)) (more : List (Key × D)) : List (Key × D) := more.foldl (fun acc kv => putG acc kv.1 kv.2) kvs
def dictD : List D → Option Val
  | [.dic ks xs] => some (.dic ks xs, 1)
  | [.lst ps] => match pairsD ps with
    | some kvs => some (D.dict (mergeG [] kvs), 1)
    | none => none
  | _ => none
def rDicK : List V → Hp → VK → Prop := fun xs H Q => ∃ (a : Addr) (kvs : List (Key × V)), xs = [.ref a] ∧ Rd H a (.dK kvs) ∧ ∀ p, H p = none → Q (.ref p) (upd H p (.dK kvs))
def rDicP (K : PySem.W.Frag) : List V → Hp → VK → Prop := fun xs H Q => ∃ (a : Addr) (ps : List Addr) (kvs : List (Key × V)), xs = [.ref a] ∧ SqL K H a (ps.map V.ref) ∧ PySem.Paired (fun p kv => SqT K H p [kV kv.1, kv.2]) ps kvs ∧ ∀ p, H p = none → Q (.ref p) (upd H p (.dK (mergeK [] kvs)))
def rDictD' (K : PySem.W.Frag) : List V → Hp → VK → Prop := fun xs H Q => rDicK xs H Q ∨ rDicP K xs H Q
theorem call_dictD' {X : Cx} (hc : X.calm = true) : CallR X (.type "dict") (rDictD' X.K) := CallR.or call_dictD (call_dictP hc)
/-- two tables with the same keys -/
def Tb (G : Gd) (H : Hp) (a : List (Key × D)) (b : List (Key × V)) : Prop := a.map Prod.fst = b.map Prod.fst ∧ Frs G H (a.map Prod.snd) (b.map Prod.snd)
theorem Tb.put {a : List (Key × D)} {b : List (Key × V)} (h : Tb G H a b) {k : Key} {d : D} {v : V} (f : Fr G H d v) : Tb G H (putG a k d) (putG b k v) := by
  have za : a = (a.map Prod.fst).zip (a.map Prod.snd) := (zip_fst_snd a).symm
  have zb : b = (a.map Prod.fst).zip (b.map Prod.snd) := by rw [h.1]; exact (zip_fst_snd b).symm
  have lb : (a.map Prod.fst).length = (b.map Prod.snd).length := by rw [h.1]; simp
  have la : (a.map Prod.fst).length = (a.map Prod.snd).length := by simp
  rw [za, zb]
  exact ⟨by rw [put_keys la, put_keys lb], put_frs h.2 lb k f⟩
theorem Tb.merge : ∀ {m : List (Key × D)} {n : List (Key × V)} {a : List (Key × D)} {b : List (Key × V)}, Tb G H a b → Tb G H m n → Tb G H (mergeG a m) (mergeK b n)
  | [], [], a, b, h, _ => h
  | [], _ :: _, _, _, _, q => by have := q.1; simp at this
  | _ :: _, [], _, _, _, q => by have := q.1; simp at this
  | (k, d) :: m, (k', v) :: n, a, b, h, q => by
    have q1 := q.1
    simp only [List.map_cons, List.cons.injEq] at q1
    obtain ⟨rfl, q1⟩ := q1
    have q2 : Frs G H (d :: m.map Prod.snd) (v :: n.map Prod.snd) := q.2
    cases q2 with
    | cons f fs => exact Tb.merge (m := m) (n := n) (h.put f) ⟨q1, fs⟩
theorem pairs_frs (le : Le Kn H) : ∀ {ds : List D} {vs : List V} {kvs : List (Key × D)}, Frs G Kn ds vs → pairsD ds = some kvs → ∃ (ps : List Addr) (us : List (Key × V)), vs = ps.map V.ref ∧ PySem.Paired (fun p kv => SqT G.K H p [kV kv.1, kv.2]) ps us ∧ Tb G Kn kvs us
  | _, _, _, .nil, e => by cases e; exact ⟨[], [], rfl, .nil, rfl, .nil⟩
  | _, _, _, .cons (d := d) (ds := ds) h t, e => by
    unfold pairsD at e
    split at e
    · rename_i e0; cases e0
    · rename_i k d' ds' e0
      cases e0
      split at e
      · rename_i k' r' e1 e2
        cases e
        obtain ⟨ps, us, rfl, pr, tb⟩ := pairs_frs le t e2
        cases h with
        | tup ha hs =>
          rename_i a vs'
          cases hs with
          | cons f1 hs => cases hs with
            | cons f2 hs =>
              cases hs
              rename_i v1 v2
              have ev : v1 = kV k' := keyD_fr f1 e1
              subst ev
              exact ⟨a :: ps, (k', v2) :: us, rfl, .cons (SqT.of (le.tp _ _ ha)) pr, by simp [tb.1], .cons f2 tb.2⟩
      · cases e
    · cases e
theorem fit_dict : FitN dictD G (rDictD' G.K) := by
  intro xs H Q ⟨Kn, ds, r, le, tps, hf, p⟩
  unfold dictD at hf
  split at hf
  · cases hf
    cases tps with
    | cons t1 tr =>
      cases tr
      obtain ⟨a, vs, rfl, r1, hk, f1⟩ := t1.dic le
      exact .inl ⟨a, _, rfl, r1, fun l hl => p.dic le hl hk f1⟩
  · cases tps with
    | cons t1 tr =>
      cases tr
      split at hf
      · rename_i kvs ek
        cases hf
        obtain ⟨a, vs, rfl, r1, f1⟩ := t1.lst le
        obtain ⟨ps, us, rfl, pr, tb⟩ := pairs_frs le f1 ek
        refine .inr ⟨a, ps, us, rfl, .inl r1, pr, fun l hl => ?_⟩
        have tm : Tb G Kn (mergeG [] kvs) (mergeK [] us) := Tb.merge ⟨rfl, .nil⟩ tb
        have e : mergeK [] us = ((mergeG [] kvs).map Prod.fst).zip ((mergeK [] us).map Prod.snd) := by rw [tm.1]; exact (zip_fst_snd _).symm
        rw [e]
        exact p.dic le hl (by rw [tm.1]; simp) tm.2
      · cases hf
  · cases hf
def strD : List D → Option Val
  | [.int i] => if i.natAbs.log2 < 1920 then some (.str (Str.ofString (toString i)), 0) else none
  | _ => none
theorem fit_str : FitN strD G (fun xs H Q => ∃ i, xs = [V.int i] ∧ i.natAbs.log2 < 1920 ∧ Q (V.str (Str.ofString (toString i))) H) := by
  intro xs H Q ⟨Kn, ds, r, le, tps, hf, p⟩
  unfold strD at hf
  split at hf
  · split at hf
    · cases hf
      cases tps with
      | cons t1 tr =>
        cases tr
        exact ⟨_, by rw [t1.int], by assumption, p.val le (.str _)⟩
    · cases hf
  · cases hf
/-! ### is -/
def isD (neg : Bool) : List D → Option Val
  | [.bl a, .bl b] => some (.bl (if neg then !decide (a = b) else decide (a = b)), 0)
  | _ => none
def isNonB : D → Bool
  | .non => true
  | _ => false
def isNoD (neg : Bool) : List D → Option Val
  | [d, .non] => some (.bl (if neg then !isNonB d else isNonB d), 0)
  | _ => none
theorem fit_is : Fit2 (isD false) G rIsB := by
  intro x y H Q h
  obtain ⟨Kn, d, e, r, le, t1, t2, hf, p⟩ := h.two
  unfold isD at hf
  split at hf
  · rename_i a b e0
    cases e0
    cases hf
    exact ⟨a, b, t1.bl, t2.bl, p.val le (.bl _)⟩
  · cases hf
theorem fit_isnt : Fit2 (isD true) G rNotB := by
  intro x y H Q h
  obtain ⟨Kn, d, e, r, le, t1, t2, hf, p⟩ := h.two
  unfold isD at hf
  split at hf
  · rename_i a b e0
    cases e0
    cases hf
    exact ⟨a, b, t1.bl, t2.bl, p.val le (.bl _)⟩
  · cases hf
theorem Tp.non_iff {d : D} {v : V} (t : Tp G Kn H d v) : (v = .non) ↔ d = .non := by
  constructor
  · intro e
    subst e
    rcases t with t | ⟨_, _, _, _, e, _⟩
    · cases t; rfl
    · cases e
  · rintro rfl; exact t.non
theorem Tp.isNon {d : D} {v : V} (t : Tp G Kn H d v) : decide (v = .non) = isNonB d := by
  by_cases h : d = .non
  · subst h
    rw [t.non]
    rfl
  · rw [decide_eq_false fun z => h (t.non_iff.mp z)]
    cases d <;> first | rfl | exact (h rfl).elim
theorem fit_isN : Fit2 (isNoD false) G (fun x y H Q => y = V.non ∧ Q (V.bl (decide (x = V.non))) H) := by
  intro x y H Q h
  obtain ⟨Kn, d, e, r, le, t1, t2, hf, p⟩ := h.two
  unfold isNoD at hf
  split at hf
  · rename_i d' e0
    cases e0
    cases hf
    refine ⟨t2.non, ?_⟩
    rw [t1.isNon]
    exact p.val le (.bl _)
  · cases hf
theorem fit_isntN : Fit2 (isNoD true) G (fun x y H Q => y = V.non ∧ Q (V.bl (!decide (x = V.non))) H) := by
  intro x y H Q h
  obtain ⟨Kn, d, e, r, le, t1, t2, hf, p⟩ := h.two
  unfold isNoD at hf
  split at hf
  · rename_i d' e0
    cases e0
    cases hf
    refine ⟨t2.non, ?_⟩
    rw [t1.isNon]
    exact p.val le (.bl _)
  · cases hf
end
section
variable {X : Cx} {W : WX} {G : Gd} {a b c : Expr} {oa ob oc : Opn} {pos : Pos} {m : ME}
theorem Ow.flat {Kn H : Hp} {d : D} {k : Nat} {v : V} {L : Ft} (w : Ow G Kn H k d v L) (h : flatD d = true) : v = vOf d := by
  cases k with
  | zero => exact (flat_fr w.1 h).1
  | succ k =>
    rcases w with w | ⟨_, _, _, _, _, _, _, w, _⟩
    · exact (flat_fr w.2.1 h).1
    · cases w <;> cases h
def flatK (m : ME) (k : D → ME) : ME := fun ρ => bindO (m ρ) fun r ρ1 => if flatD r.1 = true then k r.1 ρ1 else .bad
theorem flatK_run {k : D → ME} {σ : L2.St} {H : Hp} {Q : VK} (h : TEd G W (flatK m k) σ H Q) : TEd G W m σ H fun v H1 => ∃ d, flatD d = true ∧ v = vOf d ∧ TEd G W (k d) σ H1 Q := by
  obtain ⟨Kn, ρ, Lf, S, o⟩ := h
  refine ⟨Kn, ρ, Lf, S, ?_⟩
  unfold flatK at o
  cases e : m ρ with
  | bad => rw [e] at o; exact o
  | exc x ρ' => rw [e] at o; exact o
  | ok r ρ1 =>
    rw [e, bindO_ok] at o
    by_cases hr : flatD r.1 = true
    · simp only [if_pos hr] at o
      intro Kn1 H1 Lf1 v M S1 w s kn t
      exact ⟨r.1, hr, w.flat hr, TEd.of S1 (OW.past (Q := Q) o t fun a z => .inl z)⟩
    · simp only [if_neg hr] at o
/-- a f b g c of integers -/
def chainD (f : Int → Int → Bool) : List D → Option Val
  | [.int i, .int j] => if f i j then some (.int j, 0) else some (.bl false, 0)
  | _ => none
def endD (g : Int → Int → Bool) (d : D) : List D → Option Val
  | [.int k] => match d with
    | .int j => some (.bl (g j k), 0)
    | _ => none
  | _ => none
def mChain (f g : Int → Int → Bool) (oa ob oc : Opn) : ME := flatK (opN [oa, ob] (chainD f)) fun d => match d with
  | .int j => opN [oc] (endD g (.int j))
  | .bl false => mC (.bl false)
  | _ => fun _ => .bad
theorem mChain_run {f g : Int → Int → Bool} {σ : L2.St} {H : Hp} {Q : VK} (h : TEd G W (mChain f g oa ob oc) σ H Q) : tChain (rI0 fun i j => .bl (f i j)) (rI0 fun i j => .bl (g i j)) (TOd G W oa) (TOd G W ob) (TOd G W oc) σ H Q := by
  have h1 := opN_run (flatK_run h)
  refine TOd.mono (fun x H1 q => TOd.mono (fun y H2 q => ?_) q) h1
  obtain ⟨Kn, d, e, r, le, t1, t2, hf, p⟩ := q.two
  unfold chainD at hf
  split at hf
  · rename_i i j e0
    cases e0
    refine ⟨i, j, t1.int, t2.int, ?_⟩
    split at hf
    · rename_i hb
      cases hf
      obtain ⟨d, hd, ev, q⟩ := p.val (v := .int j) le (.int j)
      have hd' : d = .int j := by cases d <;> first | (cases ev; rfl) | cases ev | cases hd
      subst hd'
      refine ⟨f i j, rfl, ?_⟩
      rw [if_pos hb]
      have h2 := opN_run q
      refine TOd.mono (fun z H3 q => ?_) h2
      obtain ⟨Kn, d, r, le, t1, hf, p⟩ := q.one
      unfold endD at hf
      split at hf
      · rename_i k e0
        cases e0
        cases hf
        exact ⟨j, k, t2.int, t1.int, p.val le (.bl _)⟩
      · cases hf
    · rename_i hb
      cases hf
      obtain ⟨d, hd, ev, q⟩ := p.val (v := .bl false) le (.bl false)
      have hd' : d = .bl false := by cases d <;> first | (cases ev; rfl) | cases ev | cases hd
      subst hd'
      refine ⟨f i j, rfl, ?_⟩
      rw [if_neg hb]
      exact mC_run (fun _ => .bl false) q
  · cases hf
theorem de_chain {op op' : CmpOp} {f g : Int → Int → Bool} (ho : OpR X (compareOp op) (rI0 fun i j => .bl (f i j))) (ho' : OpR X (compareOp op') (rI0 fun i j => .bl (g i j))) (ha : DO X W a oa) (hb : DO X W b ob) (hc : DO X W c oc) (hm : lastMarks [op, op'] [b, c] = false := by rfl) :
    DE X W (.Compare a [op, op'] [b, c] pos) (mChain f g oa ob oc) := PE.imp (pe_chain ho ho' ha hb hc hm) fun _ _ _ h => mChain_run h
theorem dt_chain {op op' : CmpOp} {f g : Int → Int → Bool} (ho : OpR X (compareOp op) (rI0 fun i j => .bl (f i j))) (ho' : OpR X (compareOp op') (rI0 fun i j => .bl (g i j))) (ha : DO X W a oa) (hb : DO X W b ob) (hc : DO X W c oc) (hm : lastMarks [op, op'] [b, c] = false := by rfl) :
    DT X W (.Compare a [op, op'] [b, c] pos) (mB (mChain f g oa ob oc)) := PT.imp (pt_chain ho ho' ha hb hc hm) fun _ _ _ h => by
  obtain h := mB_run h
  have h1 := mChain_run h
  exact h1
end
end DL
end
section
set_option Elab.async false
set_option linter.all false
set_option maxRecDepth 100000
/-! DL: equality. -/
namespace DL
open PySem PySem.Spec PyProof.Rows L2
mutual
def pd : D → Option PyData
  | .non => some .none
  | .bl b => some (.bool b)
  | .int i => some (.int i)
  | .str x => some (.str x)
  | .lst xs => match pds xs with
    | some ds => some (.list ds)
    | none => none
  | .tup xs => match pds xs with
    | some ds => some (.tuple ds)
    | none => none
  | _ => none
def pds : List D → Option (List PyData)
  | [] => some []
  | x :: xs => match pd x, pds xs with
    | some d, some ds => some (d :: ds)
    | _, _ => none
end
section
variable {G : Gd} {Kn H : Hp}
mutual
theorem pd_fr : ∀ {d : D} {v : V} {p : PyData}, Fr G H d v → pd d = some p → Dp G.K H v p
  | _, _, _, .non, e => by simp only [pd, Option.some.injEq] at e; subst e; exact .non
  | _, _, _, .bl b, e => by simp only [pd, Option.some.injEq] at e; subst e; exact .bl b
  | _, _, _, .int i, e => by simp only [pd, Option.some.injEq] at e; subst e; exact .int i
  | _, _, _, .str x, e => by simp only [pd, Option.some.injEq] at e; subst e; exact .str x
  | _, _, _, .tup (ds := ds) h hs, e => by
    simp only [pd] at e
    cases q : pds ds with
    | none => rw [q] at e; cases e
    | some ps =>
      rw [q] at e
      cases e
      exact .tup (SqT.of h) (pds_frs hs q)
  | _, _, _, .lst (ds := ds) h hs, e => by
    simp only [pd] at e
    cases q : pds ds with
    | none => rw [q] at e; cases e
    | some ps =>
      rw [q] at e
      cases e
      exact .lst (.inl h) (pds_frs hs q)
  | _, _, _, .dic _ _ _, e => by simp only [pd] at e; cases e
  | _, _, _, .dit _ _ _, e => by simp only [pd] at e; cases e
  | _, _, _, .ins _ _ _ _, e => by simp only [pd] at e; cases e
  | _, _, _, .exv _ _, e => by simp only [pd] at e; cases e
  | _, _, _, .exw _ _ _ _ _, e => by simp only [pd] at e; cases e
  | _, _, _, .opq _, e => by simp only [pd] at e; cases e
theorem pds_frs : ∀ {ds : List D} {vs : List V} {ps : List PyData}, Frs G H ds vs → pds ds = some ps → DpAll G.K H vs ps
  | _, _, _, .nil, e => by simp only [pds, Option.some.injEq] at e; subst e; exact .nil
  | _, _, _, .cons (d := d) (ds := ds) h t, e => by
    simp only [pds] at e
    cases q1 : pd d with
    | none => rw [q1] at e; cases e
    | some p =>
      cases q2 : pds ds with
      | none => rw [q1, q2] at e; cases e
      | some ps =>
        rw [q1, q2] at e
        cases e
        exact .cons (pd_fr h q1) (pds_frs t q2)
end
/-- a table is empty -/
def emD : D → D → Option Bool
  | .dic ks _, .dic [] _ => some ks.isEmpty
  | _, _ => none
def eqB (a b : D) : Option Bool :=
  match pd a, pd b with
  | some p, some q => if SeqAt.shaped p && SeqAt.shaped q then some (PyData.eqv p q) else none
  | _, _ => emD a b
def eqD (neg : Bool) : List D → Option Val
  | [a, b] => match eqB a b with
    | some k => some (.bl (if neg then !k else k), 0)
    | none => none
  | _ => none
def rEmE (neg : Bool) : R2 := fun x y H Q => ∃ a b kvs, x = .ref a ∧ y = .ref b ∧ Rd H a (.dK kvs) ∧ Rd H b (.dK []) ∧ Q (.bl (if neg then !kvs.isEmpty else kvs.isEmpty)) H
theorem op_emE {X : Cx} (hu : X.A.units + 64 < cLine) : OpR X (compareOp .Eq) (rEmE false) := by
  intro pins s σ H x y v u Q I rx ry h
  obtain ⟨a, b, ks, rfl, rfl, ea, eb, q⟩ := h
  obtain rfl : v = Value.ref a := rx
  obtain rfl : u = Value.ref b := ry
  obtain ⟨_, ya, va, ra, da⟩ := (show ObjOk X.prog X.w H s.heap a (.dK ks) from ea.ok I.hok)
  obtain ⟨_, yb, vb, rb, db⟩ := (show ObjOk X.prog X.w H s.heap b (.dK []) from eb.ok I.hok)
  cases rb
  refine PySem.W.keq_eq (knd := mixKind X.prog X.w) (r := true) ya yb da db (by omega) (fun e => ?_) (fin_bl I q ?_)
  · cases va with
    | nil => exact .nil
    | cons _ _ => simp at e
  · cases ra <;> rfl
theorem op_emN {X : Cx} (hu : X.A.units + 64 < cLine) : OpR X (compareOp .NotEq) (rEmE true) := by
  intro pins s σ H x y v u Q I rx ry h
  obtain ⟨a, b, ks, rfl, rfl, ea, eb, q⟩ := h
  obtain rfl : v = Value.ref a := rx
  obtain rfl : u = Value.ref b := ry
  obtain ⟨_, ya, va, ra, da⟩ := (show ObjOk X.prog X.w H s.heap a (.dK ks) from ea.ok I.hok)
  obtain ⟨_, yb, vb, rb, db⟩ := (show ObjOk X.prog X.w H s.heap b (.dK []) from eb.ok I.hok)
  cases rb
  refine PySem.W.keq_ne (knd := mixKind X.prog X.w) (r := true) ya yb da db (by omega) (fun e => ?_) (fin_bl I q ?_)
  · cases va with
    | nil => exact .nil
    | cons _ _ => simp at e
  · cases ra <;> rfl
def rEqA (K : PySem.W.Frag) : R2 := fun x y H Q => rEqD K x y H Q ∨ rEmE false x y H Q
def rNeA (K : PySem.W.Frag) : R2 := fun x y H Q => rNeD K x y H Q ∨ rEmE true x y H Q
theorem op_eqA {X : Cx} (hu : X.A.units + 64 < cLine) : OpR X (compareOp .Eq) (rEqA X.K) := (op_eqD hu).or (op_emE hu)
theorem op_neA {X : Cx} (hu : X.A.units + 64 < cLine) : OpR X (compareOp .NotEq) (rNeA X.K) := (op_neD hu).or (op_emN hu)
theorem em_of (le : Le Kn H) {d e : D} {x y : V} {k : Bool} (t1 : Tp G Kn H d x) (t2 : Tp G Kn H e y) (h : emD d e = some k) : ∃ a b kvs, x = .ref a ∧ y = .ref b ∧ Rd H a (.dK kvs) ∧ Rd H b (.dK []) ∧ kvs.isEmpty = k := by
  unfold emD at h
  split at h
  · cases h
    obtain ⟨a, vs, rfl, r1, h1, _⟩ := t1.dic le
    obtain ⟨b, us, rfl, r2, h2, _⟩ := t2.dic le
    exact ⟨a, b, _, rfl, rfl, r1, r2, zip_isEmpty h1⟩
  · cases h
theorem fit_eq : Fit2 (eqD false) G (rEqA G.K) := by
  intro x y H Q h
  obtain ⟨Kn, d, e, r, le, t1, t2, hf, p⟩ := h.two
  simp only [eqD] at hf
  split at hf
  · rename_i k ek
    cases hf
    unfold eqB at ek
    split at ek
    · rename_i p1 q1 e1 e2
      split at ek
      · rename_i hs
        cases ek
        rw [Bool.and_eq_true] at hs
        exact .inl ⟨p1, q1, pd_fr (t1.fr le) e1, pd_fr (t2.fr le) e2, hs.1, hs.2, p.val le (.bl _)⟩
      · cases ek
    · obtain ⟨a, b, kvs, rfl, rfl, r1, r2, e⟩ := em_of le t1 t2 ek
      subst e
      exact .inr ⟨a, b, kvs, rfl, rfl, r1, r2, p.val le (.bl _)⟩
  · cases hf
theorem fit_ne : Fit2 (eqD true) G (rNeA G.K) := by
  intro x y H Q h
  obtain ⟨Kn, d, e, r, le, t1, t2, hf, p⟩ := h.two
  simp only [eqD] at hf
  split at hf
  · rename_i k ek
    cases hf
    unfold eqB at ek
    split at ek
    · rename_i p1 q1 e1 e2
      split at ek
      · rename_i hs
        cases ek
        rw [Bool.and_eq_true] at hs
        exact .inl ⟨p1, q1, pd_fr (t1.fr le) e1, pd_fr (t2.fr le) e2, hs.1, hs.2, p.val le (.bl _)⟩
      · cases ek
    · obtain ⟨a, b, kvs, rfl, rfl, r1, r2, e⟩ := em_of le t1 t2 ek
      subst e
      exact .inr ⟨a, b, kvs, rfl, rfl, r1, r2, p.val le (.bl _)⟩
  · cases hf
end
end DL
end
section
set_option Elab.async false
set_option linter.all false
set_option maxRecDepth 100000
/-! DL: slices, tuples repeated, join. -/
namespace DL
open PySem PySem.Spec PyProof.Rows L2
section
variable {G : Gd} {W : WX} {Kn H : Hp} {m : ME} {σ : L2.St}
/-- an integer -/
def mInt (m : ME) : ME := fun ρ => bindO (m ρ) fun r ρ1 => match r.1 with
  | .int i => .ok (.int i, 0) ρ1
  | _ => .bad
theorem mInt_run {Q : VK} (h : TEd G W (mInt m) σ H Q) : TEd G W m σ H fun v H1 => (∃ i, v = .int i) ∧ Q v H1 := by
  obtain ⟨Kn, ρ, Lf, S, o⟩ := h
  refine ⟨Kn, ρ, Lf, S, ?_⟩
  unfold mInt at o
  cases e : m ρ with
  | bad => rw [e] at o; exact o
  | exc x ρ' => rw [e] at o; exact o
  | ok r ρ1 =>
    rw [e, bindO_ok] at o
    obtain ⟨d, k⟩ := r
    cases d with
    | int i =>
      intro Kn1 H1 Lf1 v M S1 w s kn t
      have hv : v = .int i := w.flat rfl
      subst hv
      exact ⟨⟨i, rfl⟩, o Kn1 H1 Lf1 (.int i) No S1 ⟨.int i, fun _ z => z⟩ (fun _ z => z.elim) (fun _ z => z.elim) (t.less fun a z => z.elim .inl fun z => z.elim)⟩
    | _ => exact o.elim
def cutG {α : Type} (xs : List α) (lo hi : Option Int) : List α := (xs.drop (HT.sIx xs.length 0 lo)).take (HT.sIx xs.length xs.length hi - HT.sIx xs.length 0 lo)
theorem Frs.cut {ds : List D} {vs : List V} (f : Frs G H ds vs) (lo hi : Option Int) : Frs G H (cutG ds lo hi) (cutV vs lo hi) := by
  unfold cutG cutV
  rw [f.length]
  exact (f.drop _).take _
def slV (lo hi : Option Int) : D → Option Val
  | .lst xs => some (.lst (cutG xs lo hi), 1)
  | .tup xs => some (.tup (cutG xs lo hi), 0)
  | .str x => if x.length ≤ sizeLine then some (.str (cutS x lo hi), 0) else none
  | _ => none
def slD : Bool → Bool → List D → Option Val
  | false, false, [a] => slV none none a
  | true, false, [a, .int i] => slV (some i) none a
  | false, true, [a, .int j] => slV none (some j) a
  | true, true, [a, .int i, .int j] => slV (some i) (some j) a
  | _, _, _ => none
def rSlD (K : PySem.W.Frag) : V → Option Int → Option Int → Hp → VK → Prop := fun x lo hi H Q => rSlL K x lo hi H Q ∨ rSlA K x lo hi H Q ∨ rSlS x lo hi H Q
theorem sl_any {X : Cx} : SlR X (rSlD X.K) := by
  intro pins s σ H x v vl vu lo hi sl Q I rx hs p1 p2 h
  rcases h with h | h | h
  · exact sl_list pins s σ H x v vl vu lo hi sl Q I rx hs p1 p2 h
  · exact sl_tupA pins s σ H x v vl vu lo hi sl Q I rx hs p1 p2 h
  · exact sl_str pins s σ H x v vl vu lo hi sl Q I rx hs p1 p2 h
theorem sl_fit (le : Le Kn H) {d : D} {x : V} {lo hi : Option Int} {r : Val} {Q : VK} (t : Tp G Kn H d x) (e : slV lo hi d = some r) (p : Post G Kn H r Q) : rSlD G.K x lo hi H Q := by
  unfold slV at e
  split at e
  · cases e
    obtain ⟨a, vs, rfl, r1, f1⟩ := t.lst le
    exact .inl ⟨a, vs, rfl, .inl r1, fun l hl => p.lst le hl (f1.cut lo hi)⟩
  · cases e
    obtain ⟨a, vs, rfl, r1, rk, f1⟩ := t.tup le
    refine .inr (.inl ⟨a, vs, rfl, SqT.of r1, fun hh => ?_, fun _ l hl => p.tup le hl (f1.cut lo hi)⟩)
    refine p.val le (.tup rk ?_)
    have f2 := f1.cut lo hi
    have e : cutV vs lo hi = vs := by
      unfold cutV
      rw [hh.1, hh.2]
      simp
    rwa [e] at f2
  · split at e
    · cases e
      exact .inr (.inr ⟨_, t.str, by assumption, p.val le (.str _)⟩)
    · cases e
  · cases e
/-! ### tuples repeated -/
def repD : List D → Option Val
  | [.tup xs, .int k] => if -(2 ^ 63) ≤ k ∧ k ≤ 1000 ∧ xs.length ≤ 1000 then some (.tup (List.replicate k.toNat xs).flatten, 0) else none
  | _ => none
theorem tuple_mul0 (l : Addr) (items : Array Value) (n : Nat) (dd : Option Addr) (sl : Array (Option Value)) (x : Int) (u : Tok) (c0 : (decide (x < -(2 ^ 63)) || decide (x ≥ 2 ^ 63)) = false) (c1 : (items.isEmpty || x == 1) = false) (c2 : (decide (x ≤ 0) || items.isEmpty) = true) :
    Meets (Builtin.«tuple.__mul__» ⟨[.ref l, .int x u], []⟩) (fun _ R s => s.heap.get? l = some { cls := .type "tuple", dict := dd, data := .seq items n, slots := sl } ∧
      R (.ok (.ret (Value.ref s.heap.objs.size))) { s with heap := s.heap.push { cls := Value.type "tuple", data := Data.seq #[] }, toks := s.toks }) :=
  .of_wp fun prog w A R s h => by
    obtain ⟨hp, g, d, tk, os⟩ := s
    obtain ⟨hl, h⟩ := h
    have f1 := AutoSeq1.idx_int
    wp_walk using wpAny_loadPart' hl
    repeat (first
      | (refine wpAny_ite_false (decide_eq_false (by rw [c0]; exact Bool.false_ne_true)) ?_; wp_walk using wpAny_loadPart' hl)
      | (refine wpAny_ite_false (decide_eq_false (by rw [c1]; exact Bool.false_ne_true)) ?_; wp_walk using wpAny_loadPart' hl)
      | (refine wpAny_ite_true (decide_eq_true (by rw [c2])) ?_; wp_walk using wpAny_loadPart' hl))
    exact ⟨_, rfl, h⟩
theorem tuple_mul1 (l : Addr) (items : Array Value) (n : Nat) (dd : Option Addr) (sl : Array (Option Value)) (x : Int) (u : Tok) (c0 : (decide (x < -(2 ^ 63)) || decide (x ≥ 2 ^ 63)) = false) (c1 : (items.isEmpty || x == 1) = true) :
    Meets (Builtin.«tuple.__mul__» ⟨[.ref l, .int x u], []⟩) (fun _ R s => s.heap.get? l = some { cls := .type "tuple", dict := dd, data := .seq items n, slots := sl } ∧
      R (.ok (.ret (Value.ref l))) s) :=
  .of_wp fun prog w A R s h => by
    obtain ⟨hp, g, d, tk, os⟩ := s
    obtain ⟨hl, h⟩ := h
    have f1 := AutoSeq1.idx_int
    wp_walk using wpAny_loadPart' hl
    repeat (first
      | (refine wpAny_ite_false (decide_eq_false (by rw [c0]; exact Bool.false_ne_true)) ?_; wp_walk using wpAny_loadPart' hl)
      | (refine wpAny_ite_true (decide_eq_true (by rw [c1])) ?_; wp_walk using wpAny_loadPart' hl))
    exact ⟨_, rfl, h⟩
def rRepLow (K : PySem.W.Frag) : R2 := fun x y H Q => ∃ l k xs, x = .ref l ∧ y = .int k ∧ SqT K H l xs ∧ -(2 ^ 63) ≤ k ∧ (k ≤ 1000 ∧ (k ≤ 1 ∨ xs = [])) ∧ ((xs = [] ∨ k = 1) → Q (.ref l) H) ∧ (xs ≠ [] → k ≤ 0 → ∀ p, H p = none → Q (.ref p) (upd H p (.tup [])))
theorem op_repLow {X : Cx} : OpR X (binaryOp .Mult) (rRepLow X.K) := by
  intro pins s σ H x y v u Q I rx ry h
  obtain ⟨l, k, xs, rfl, rfl, hT, h1, h2, qa, qb⟩ := h
  cases rx
  obtain ⟨t, rfl⟩ := ry
  obtain ⟨its, r, ⟨⟨cls, dd, data, sl⟩, ho, hc, n, hd⟩, hs⟩ := I.tuple hT
  simp only at hc hd
  subst hc hd
  have hle : its.length = xs.length := r.length.symm
  have c0 : (decide (k < -(2 ^ 63)) || decide (k ≥ 2 ^ 63)) = false := by
    rw [decide_eq_false (by omega), decide_eq_false (by omega)] <;> rfl
  by_cases hh : xs = [] ∨ k = 1
  · have c1 : (its.toArray.isEmpty || k == 1) = true := by
      rcases hh with rfl | rfl
      · have : its = [] := List.eq_nil_of_length_eq_zero (by simpa using hle)
        subst this
        rfl
      · simp
    refine wpAny_binaryOp_repeat_ref (T := "tuple") (U := "int") (by decide) ⟨_, ho, rfl⟩ (fun s' => typeIs_int s' k t) noFill_tuple_mul F.fills_int_mul F.slot_int_rmul repeat_tuple F.slot_int_index.lookup
      (call_meets F.slot_int_rmul (typeIs_int s k t) F.entry_int_rmul (F.args_int_rmul_2 _ _) (int_rmul_tuple k t l its.toArray n dd sl)
        ⟨ho, rfl, ⟨_, ho, rfl⟩, call_meets F.slot_tuple_mul ⟨_, ho, rfl⟩ F.entry_tuple_mul (F.args_tuple_mul_2 _ _) (tuple_mul1 l its.toArray n dd sl k t c0 c1) ⟨ho, ?_⟩⟩)
    exact ⟨.ref l, H, I, rfl, qa hh⟩
  · have hx : xs ≠ [] := fun e => hh (.inl e)
    have hk : k ≤ 0 := by
      have : ¬ k = 1 := fun e => hh (.inr e)
      rcases h2.2 with h2 | h2
      · omega
      · exact (hx h2).elim
    have hi : its.toArray.isEmpty = false := by
      cases its with
      | nil => exact absurd (List.eq_nil_of_length_eq_zero (by simpa using hle.symm)) hx
      | cons a b => rfl
    have c1 : (its.toArray.isEmpty || k == 1) = false := by
      rw [hi, Bool.false_or]
      exact beq_eq_false_iff_ne.mpr (by omega)
    have c2 : (decide (k ≤ 0) || its.toArray.isEmpty) = true := by rw [decide_eq_true hk]; rfl
    refine wpAny_binaryOp_repeat_ref (T := "tuple") (U := "int") (by decide) ⟨_, ho, rfl⟩ (fun s' => typeIs_int s' k t) noFill_tuple_mul F.fills_int_mul F.slot_int_rmul repeat_tuple F.slot_int_index.lookup
      (call_meets F.slot_int_rmul (typeIs_int s k t) F.entry_int_rmul (F.args_int_rmul_2 _ _) (int_rmul_tuple k t l its.toArray n dd sl)
        ⟨ho, rfl, ⟨_, ho, rfl⟩, call_meets F.slot_tuple_mul ⟨_, ho, rfl⟩ F.entry_tuple_mul (F.args_tuple_mul_2 _ _) (tuple_mul0 l its.toArray n dd sl k t c0 c1 c2) ⟨ho, ?_⟩⟩)
    refine ⟨.ref s.heap.objs.size, _, I.laid (t' := s.toks) (o := .tup []) (fun b ob q => Heap.get?_push_of_some _ q) (Nat.le_refl _) ?_, rfl, qb hx hk _ (I.hok.fresh (Nat.le_refl _))⟩
    exact ⟨Nat.zero_le _, [], .nil, IsTup.new _ _⟩
def rRepB (K : PySem.W.Frag) : R2 := fun x y H Q => rRepT K x y H Q ∨ rRepLow K x y H Q
theorem op_repB {X : Cx} : OpR X (binaryOp .Mult) (rRepB X.K) := op_repT.or op_repLow
theorem fit_repT : Fit2 repD G (rRepB G.K) := by
  intro x y H Q h
  obtain ⟨Kn, d, e, r, le, t1, t2, hf, p⟩ := h.two
  unfold repD at hf
  split at hf
  · rename_i xs k e0
    cases e0
    split at hf
    · rename_i hk
      cases hf
      obtain ⟨a, vs, rfl, r1, rk, f1⟩ := t1.tup le
      have hl := f1.length
      by_cases h2 : 2 ≤ k ∧ vs ≠ []
      · exact .inl ⟨a, k, vs, rfl, t2.int, SqT.of r1, h2.2, h2.1, hk.2.1, by rw [hl]; exact hk.2.2, fun l hq => p.tup le hq (f1.rep _)⟩
      · by_cases hv : vs = []
        · subst hv
          have hx : xs = [] := List.eq_nil_of_length_eq_zero (by simpa using hl.symm)
          subst hx
          refine .inr ⟨a, k, [], rfl, t2.int, SqT.of r1, hk.1, ⟨hk.2.1, .inr rfl⟩, fun _ => ?_, fun z => (z rfl).elim⟩
          refine p.val le (.tup rk ?_)
          rw [show (List.replicate k.toNat ([] : List D)).flatten = [] by simp]
          exact .nil
        · have h1 : k ≤ 1 := by
            by_cases q : 2 ≤ k
            · exact (h2 ⟨q, hv⟩).elim
            · omega
          refine .inr ⟨a, k, vs, rfl, t2.int, SqT.of r1, hk.1, ⟨hk.2.1, .inl h1⟩, fun hh => ?_, fun _ h0 l hq => ?_⟩
          · rcases hh with hh | rfl
            · exact (hv hh).elim
            · refine p.val le (.tup rk ?_)
              have : (List.replicate (1 : Int).toNat xs).flatten = xs := by simp
              rw [this]
              exact f1
          · have : k.toNat = 0 := by omega
            rw [this] at p
            exact p.tup le hq .nil
    · cases hf
  · cases hf
/-! ### join -/
def strsD : List D → Option (List Str)
  | [] => some []
  | .str x :: ds => match strsD ds with
    | some xs => some (x :: xs)
    | none => none
  | _ => none
theorem strs_frs : ∀ {ds : List D} {vs : List V} {xs : List Str}, Frs G H ds vs → strsD ds = some xs → vs = xs.map V.str
  | _, _, _, .nil, e => by cases e; rfl
  | _, _, _, .cons (d := d) (ds := ds) h t, e => by
    cases d with
    | str x =>
      simp only [strsD] at e
      cases e1 : strsD ds with
      | none => rw [e1] at e; cases e
      | some xs =>
        rw [e1] at e
        cases e
        cases h
        rw [List.map_cons, ← strs_frs t e1]
    | _ => cases e
def joinD (a : Str) : List D → Option Val
  | [.lst ds] => match strsD ds with
    | some ys => if (ys.map (·.length)).sum + ys.length * a.length ≤ 16777216 then some (.str (Txt.join a ys), 0) else none
    | none => none
  | [.tup ds] => match strsD ds with
    | some ys => if (ys.map (·.length)).sum + ys.length * a.length ≤ 16777216 then some (.str (Txt.join a ys), 0) else none
    | none => none
  | _ => none
end
section
variable {X : Cx} {W : WX} {a b c : Expr} {oa ob oc : Opn} {pos p2 : Pos} {m n : ME}
theorem de_mInt (h : DE X W a m) : DE X W a (mInt m) := PE.imp h fun σ H Q q => TEd.mono (fun v H1 z => z.2) (mInt_run q)
theorem po_int (h : DE X W a m) : PO X (some a) (tPart (TEd (gd X) W m)) := po_some h
theorem sl_end {l h : Bool} {ds : List D} {r : Val} (e : slD l h ds = some r) : (l = false ∧ h = false ∧ ∃ a, ds = [a] ∧ slV none none a = some r) ∨ (l = true ∧ h = false ∧ ∃ a i, ds = [a, .int i] ∧ slV (some i) none a = some r) ∨ (l = false ∧ h = true ∧ ∃ a j, ds = [a, .int j] ∧ slV none (some j) a = some r) ∨ (l = true ∧ h = true ∧ ∃ a i j, ds = [a, .int i, .int j] ∧ slV (some i) (some j) a = some r) := by
  unfold slD at e
  split at e
  · exact .inl ⟨rfl, rfl, _, rfl, e⟩
  · exact .inr (.inl ⟨rfl, rfl, _, _, rfl, e⟩)
  · exact .inr (.inr (.inl ⟨rfl, rfl, _, _, rfl, e⟩))
  · exact .inr (.inr (.inr ⟨rfl, rfl, _, _, _, rfl, e⟩))
  · cases e
theorem de_sl00 (ha : DO X W a oa) : DE X W (.Subscript a (.Slice none none none p2) pos) (opN [oa] (slD false false)) := PE.imp (pe_slice sl_any ha po_none po_none) fun σ H Q h => by
  refine TOd.mono (fun x H1 q => ?_) (opN_run h)
  obtain ⟨Kn, d, r, le, t1, hf, p⟩ := q.one
  rcases sl_end hf with ⟨_, _, _, e, e1⟩ | ⟨z, _⟩ | ⟨_, z, _⟩ | ⟨z, _⟩
  · cases e
    exact sl_fit le t1 e1 p
  · cases z
  · cases z
  · cases z
theorem de_sl10 (ha : DO X W a oa) (hb : DE X W b m) : DE X W (.Subscript a (.Slice (some b) none none p2) pos) (opN [oa, .ex (mInt m)] (slD true false)) := PE.imp (pe_slice sl_any ha (po_int hb) po_none) fun σ H Q h => by
  refine TOd.mono (fun x H1 q => ?_) (opN_run h)
  refine TEd.mono (fun y H2 q => ?_) (mInt_run q)
  obtain ⟨⟨i, rfl⟩, q⟩ := q
  refine ⟨i, rfl, ?_⟩
  obtain ⟨Kn, d, e, r, le, t1, t2, hf, p⟩ := q.two
  rcases sl_end hf with ⟨z, _⟩ | ⟨_, _, a, j, e, e1⟩ | ⟨z, _⟩ | ⟨_, z, _⟩
  · cases z
  · cases e
    cases t2.int
    exact sl_fit le t1 e1 p
  · cases z
  · cases z
theorem de_sl01 (ha : DO X W a oa) (hb : DE X W b m) : DE X W (.Subscript a (.Slice none (some b) none p2) pos) (opN [oa, .ex (mInt m)] (slD false true)) := PE.imp (pe_slice sl_any ha po_none (po_int hb)) fun σ H Q h => by
  refine TOd.mono (fun x H1 q => ?_) (opN_run h)
  refine TEd.mono (fun y H2 q => ?_) (mInt_run q)
  obtain ⟨⟨i, rfl⟩, q⟩ := q
  refine ⟨i, rfl, ?_⟩
  obtain ⟨Kn, d, e, r, le, t1, t2, hf, p⟩ := q.two
  rcases sl_end hf with ⟨_, z, _⟩ | ⟨z, _⟩ | ⟨_, _, a, j, e, e1⟩ | ⟨z, _⟩
  · cases z
  · cases z
  · cases e
    cases t2.int
    exact sl_fit le t1 e1 p
  · cases z
theorem de_sl11 (ha : DO X W a oa) (hb : DE X W b m) (hc : DE X W c n) : DE X W (.Subscript a (.Slice (some b) (some c) none p2) pos) (opN [oa, .ex (mInt m), .ex (mInt n)] (slD true true)) := PE.imp (pe_slice sl_any ha (po_int hb) (po_int hc)) fun σ H Q h => by
  refine TOd.mono (fun x H1 q => ?_) (opN_run h)
  refine TEd.mono (fun y H2 q => ?_) (mInt_run q)
  obtain ⟨⟨i, rfl⟩, q⟩ := q
  refine ⟨i, rfl, ?_⟩
  refine TEd.mono (fun z H3 q => ?_) (mInt_run q)
  obtain ⟨⟨j, rfl⟩, q⟩ := q
  refine ⟨j, rfl, ?_⟩
  obtain ⟨Kn, d, e, f, r, le, t1, t2, t3, hf, p⟩ := q.three
  rcases sl_end hf with ⟨z, _⟩ | ⟨_, z, _⟩ | ⟨z, _⟩ | ⟨_, _, a, i', j', e, e1⟩
  · cases z
  · cases z
  · cases z
  · cases e
    cases t2.int
    cases t3.int
    exact sl_fit le t1 e1 p
def revD : List D → Option Val
  | [.lst xs] => some (.lst xs.reverse, 1)
  | _ => none
theorem de_rev {k : Nat} {p1 p2 p3 : Pos} (ha : DO X W a oa) : DE X W (.Subscript a (.Slice none none (some (.UnaryOp .USub (.Constant (.int 1) k p1) p2)) p3) pos) (opN [oa] revD) := PE.imp (pe_revL ha) fun σ H Q h => by
  refine TOd.mono (fun x H1 q => ?_) (opN_run h)
  obtain ⟨Kn, d, r, le, t1, hf, p⟩ := q.one
  unfold revD at hf
  split at hf
  · rename_i xs e0
    cases e0
    cases hf
    obtain ⟨a, vs, rfl, r1, f1⟩ := t1.lst le
    exact ⟨a, vs, rfl, .inl r1, fun l hl => p.lst le hl f1.reverse⟩
  · cases hf
theorem de_join {z : Str} {k} {p3 apos : Pos} (ha : DO X W a oa) (h1 : starEach [a] X.env = [(false, eval a X.env)] := by rfl) (h2 : attributeBase (.Constant (.str z) k p3) "join" X.env (eval (.Constant (.str z) k p3) X.env) = eval (.Constant (.str z) k p3) X.env := by rfl) (h3 : (apos.endLine == pos.line) = true := by rfl) :
    DE X W (.Call (.Attribute (.Constant (.str z) k p3) "join" apos) [a] [] pos) (opN [oa] (joinD z)) := PE.imp (pe_join pe_str ha h1 h2 h3) fun σ H Q h => by
  refine ⟨⟨z, rfl⟩, TOd.mono (fun x H1 q => ?_) (opN_run h)⟩
  obtain ⟨Kn, d, r, le, t1, hf, p⟩ := q.one
  unfold joinD at hf
  split at hf
  · rename_i ds e0
    cases e0
    split at hf
    · rename_i ys ey
      split at hf
      · rename_i hb
        cases hf
        obtain ⟨a, vs, rfl, r1, f1⟩ := t1.lst le
        exact ⟨z, a, ys, rfl, rfl, .inl (.inl (by rw [← strs_frs f1 ey]; exact r1)), hb, p.val le (.str _)⟩
      · cases hf
    · cases hf
  · rename_i ds e0
    cases e0
    split at hf
    · rename_i ys ey
      split at hf
      · rename_i hb
        cases hf
        obtain ⟨a, vs, rfl, r1, rk, f1⟩ := t1.tup le
        exact ⟨z, a, ys, rfl, rfl, .inr (SqT.of (by rw [← strs_frs f1 ey]; exact r1)), hb, p.val le (.str _)⟩
      · cases hf
    · cases hf
  · cases hf
end
end DL
end
section
set_option Elab.async false
set_option linter.all false
set_option maxRecDepth 100000
/-! DL: several targets at once, two rules for one operation, dict.pop. -/
namespace DL
open PySem PySem.Spec PyProof.Rows L2
section
variable {G : Gd} {Kn H Kn1 H1 : Hp} {L L1 : Ft} {σ : L2.St} {W : WX}
def orF (f g : List D → Option Val) : List D → Option Val := fun ds => match f ds with
  | some r => some r
  | none => g ds
theorem fit_or2 {f g : List D → Option Val} {r r' : R2} (h : Fit2 f G r) (h' : Fit2 g G r') : Fit2 (orF f g) G (fun x y H Q => r x y H Q ∨ r' x y H Q) := by
  intro x y H Q ⟨Kn, ds, v, le, tps, e, p⟩
  unfold orF at e
  split at e
  · rename_i v' e1
    cases e
    exact .inl (h x y H Q ⟨Kn, ds, _, le, tps, e1, p⟩)
  · exact .inr (h' x y H Q ⟨Kn, ds, v, le, tps, e, p⟩)
theorem fit_orN {f g : List D → Option Val} {r r' : List V → Hp → VK → Prop} (h : FitN f G r) (h' : FitN g G r') : FitN (orF f g) G (fun xs H Q => r xs H Q ∨ r' xs H Q) := by
  intro xs H Q ⟨Kn, ds, v, le, tps, e, p⟩
  unfold orF at e
  split at e
  · rename_i v' e1
    cases e
    exact .inl (h xs H Q ⟨Kn, ds, _, le, tps, e1, p⟩)
  · exact .inr (h' xs H Q ⟨Kn, ds, v, le, tps, e, p⟩)
/-- values that wait -/
inductive HeldV (G : Gd) (Kn H : Hp) : List Val → List V → Ft → Prop
  | nil : HeldV G Kn H [] [] No
  | cons {d : D} {k : Nat} {v : V} {L : Ft} {rs : List Val} {vs : List V} {F : Ft} : Ow G Kn H k d v L → (∀ a, L a → Kn a = none) → (∀ a, L a → ¬ F a) → HeldV G Kn H rs vs F → HeldV G Kn H ((d, k) :: rs) (v :: vs) (Jn L F)
def evMs : List ME → Rho → Out (List Val)
  | [], ρ => .ok [] ρ
  | m :: ms, ρ => bindO (m ρ) fun r ρ1 => bindO (evMs ms ρ1) fun rs ρ2 => .ok (r :: rs) ρ2
theorem evMs_run : ∀ {ms : List ME} {Kn H : Hp} {ρ : Rho} {Lf : Nat → Ft} {R : List V → Hp → Prop}, SI G Kn H σ ρ Lf → evMs ms ρ ≠ .bad → (∀ x ρ', evMs ms ρ = .exc x ρ' → XW G W Kn H (U Lf) σ x ρ') →
    (∀ rs ρ', evMs ms ρ = .ok rs ρ' → ∀ vs F Kn' H' Lf', SI G Kn' H' σ ρ' Lf' → HeldV G Kn' H' rs vs F → (∀ a, F a → ¬ U Lf' a) → Tr Kn H (U Lf) Kn' H' (Jn (U Lf') F) → R vs H') → TOs G W (ms.map Opn.ex) σ H R
  | [], Kn, H, ρ, Lf, R, S, hb, hx, k => k [] ρ rfl [] No Kn H Lf S .nil (fun _ z => z.elim) (Tr.refl.less fun a z => z.elim (fun z => z) fun z => z.elim)
  | m :: ms, Kn, H, ρ, Lf, R, S, hb, hx, k => by
    show TEd G W m σ H fun v H1 => TOs G W (ms.map Opn.ex) σ H1 fun vs H2 => R (v :: vs) H2
    refine ⟨Kn, ρ, Lf, S, ?_⟩
    simp only [evMs] at hb hx k
    cases e : m ρ with
    | bad => rw [e] at hb; exact (hb rfl).elim
    | exc x ρ' => rw [e] at hx; exact hx x ρ' rfl
    | ok r ρ1 =>
      rw [e] at hb hx k
      simp only [bindO_ok] at hb hx k
      intro Kn1 H1 Lf1 v M S1 w1 s1 k1 t1
      refine evMs_run S1 (fun z => hb (by rw [z]; rfl)) (fun x ρ' z => XW.past (hx x ρ' (by rw [z]; rfl)) t1 fun a z => .inl z) fun rs ρ' z vs F Kn' H' Lf' S' hv s' t' => ?_
      have d1 : ∀ a, M a → ∃ o, H1 a = some o := fun a z => let ⟨o, e, _⟩ := w1.dom a z; ⟨o, e⟩
      have s2 := sep_past t' d1 s1
      refine k (r :: rs) ρ' (by rw [z]; rfl) (v :: vs) (Jn M F) Kn' H' Lf' S' (.cons (w1.past t' s1) (kn_past t' d1 s1 k1) (fun a z q => s2 a z (.inr q)) hv) (fun a z q => z.elim (fun z => s2 a z (.inl q)) fun z => s' a z q) ?_
      refine (t1.trans (t'.frame M)).less fun a z => ?_
      rcases z with z | z | z
      · exact .inl (.inl z)
      · exact .inr z
      · exact .inl (.inr z)
def setVs : List Nat → List V → L2.St → L2.St
  | i :: is, v :: vs, σ => setVs is vs (σ.set i (some v))
  | _, _, σ => σ
def setRs : List Nat → List Val → Rho → Rho
  | i :: is, r :: rs, ρ => setRs is rs (ρ.set i (some r))
  | _, _, ρ => ρ
theorem SI.sets : ∀ {is : List Nat} {rs : List Val} {vs : List V} {F : Ft} {σ : L2.St} {ρ : Rho} {Lf : Nat → Ft}, SI G Kn H σ ρ Lf → HeldV G Kn H rs vs F → (∀ a, F a → ¬ U Lf a) → (∀ i ∈ is, i < ρ.length) → is.length = rs.length →
    ∃ Lf', SI G Kn H (setVs is vs σ) (setRs is rs ρ) Lf' ∧ ∀ a, U Lf' a → U Lf a ∨ F a
  | [], [], _, _, σ, ρ, Lf, S, _, _, _, _ => ⟨Lf, by simpa [setVs, setRs] using S, fun a z => .inl z⟩
  | [], _ :: _, _, _, _, _, _, _, _, _, _, e => by simp at e
  | _ :: _, [], _, _, _, _, _, _, _, _, _, e => by simp at e
  | i :: is, _ :: rs, _, _, σ, ρ, Lf, S, .cons (d := d) (k := k) (v := v) (L := L) (vs := vs) (F := F) w hk dj h, sep, hi, e => by
    have hi0 : i < ρ.length := hi i (by simp)
    have S1 := S.set (d := d) (k := k) (v := v) hi0 (S.len ▸ hi0) w (fun a z => sep a (.inl z)) hk
    obtain ⟨Lf', S', u⟩ := SI.sets (is := is) S1 h (fun a z q => (U_put q).elim (fun q => dj a q z) fun ⟨j, _, q⟩ => sep a (.inr z) ⟨j, q⟩) (fun j hj => by simpa using hi j (by simp [hj])) (by simpa using e)
    exact ⟨Lf', S', fun a z => (u a z).elim (fun z => (U_put z).elim (fun z => .inr (.inl z)) fun ⟨j, _, z⟩ => .inl ⟨j, z⟩) fun z => .inr (.inr z)⟩
theorem setVs_len : ∀ {is : List Nat} {vs : List V} {σ : L2.St}, (setVs is vs σ).length = σ.length
  | [], _, _ => by simp [setVs]
  | _ :: _, [], _ => by simp [setVs]
  | i :: is, v :: vs, σ => by simp [setVs, setVs_len (is := is)]
theorem Kp.sets {P : List Nat} : ∀ {is : List Nat} {vs : List V} {σ : L2.St}, (∀ i ∈ is, i ∉ P) → Kp P σ (setVs is vs σ)
  | [], _, _, _ => by unfold setVs; exact .refl
  | _ :: _, [], _, _ => by unfold setVs; exact .refl
  | i :: is, v :: vs, σ, h => (Kp.set (h i (by simp))).trans (Kp.sets fun j hj => h j (by simp [hj]))
theorem HeldV.length : ∀ {rs : List Val} {vs : List V} {F : Ft}, HeldV G Kn H rs vs F → vs.length = rs.length
  | _, _, _, .nil => rfl
  | _, _, _, .cons _ _ _ h => by simp [HeldV.length h]
theorem evMs_len : ∀ {ms : List ME} {ρ ρ' : Rho} {rs : List Val}, evMs ms ρ = .ok rs ρ' → rs.length = ms.length
  | [], _, _, _, e => by cases e; rfl
  | m :: ms, ρ, ρ', rs, e => by
    simp only [evMs] at e
    cases e1 : m ρ with
    | bad => rw [e1] at e; cases e
    | exc x ρ' => rw [e1] at e; cases e
    | ok r ρ1 =>
      rw [e1, bindO_ok] at e
      cases e2 : evMs ms ρ1 with
      | bad => rw [e2] at e; cases e
      | exc x ρ' => rw [e2] at e; cases e
      | ok rs' ρ2 =>
        rw [e2, bindO_ok] at e
        cases e
        simp [evMs_len e2]
end
section
variable {X : Cx} {W : WX} {P : List Nat} {a b c : Expr} {m1 m2 m3 : ME} {oa : Opn} {pos : Pos}
def sPar (is : List Nat) (ms : List ME) : MS := fun ρ => match evMs ms ρ with
  | .ok rs ρ1 => if is.all (fun i => decide (i < ρ1.length)) then .nx (setRs is rs ρ1) else .bad
  | .exc x ρ1 => .exc x ρ1
  | .bad => .bad
theorem par_run {is : List Nat} {ms : List ME} {D : Ends} {σ : L2.St} {H : Hp} (hl : is.length = ms.length) (hP : ∀ i ∈ is, i ∉ P) (h : TSd (gd X) W P (sPar is ms) D σ H) : TOs (gd X) W (ms.map Opn.ex) σ H fun vs H1 => vs.length = is.length ∧ D.nx (setVs is vs σ) H1 := by
  obtain ⟨Kn, ρ, Lf, S, o⟩ := h
  unfold sPar at o
  refine evMs_run S (fun e => by rw [e] at o; exact o) (fun x ρ' e => by rw [e] at o; exact o.exc) fun rs ρ' e vs F Kn' H' Lf' S' hv s' t' => ?_
  rw [e] at o
  simp only at o
  split at o
  · rename_i hi
    have hlr := evMs_len e
    obtain ⟨Lf2, S2, u⟩ := S'.sets (is := is) hv s' (by simpa [List.all_eq_true] using hi) (by omega)
    refine ⟨by have := hv.length; omega, o Kn' H' _ Lf2 S2 (t'.less fun a z => (u a z).elim .inl .inr) (Kp.sets hP)⟩
  · exact o.elim
theorem ds_par {i j : Nat} {x y : Str} {px py pt : Pos} {kt k2 : Nat} {pt2 : Pos} (hc : X.calm = true) (hN : X.N.Nodup) (hi : X.N[i]? = some x) (hj : X.N[j]? = some y) (hij : i ≠ j) (hx : X.env.scope.names.lookup x = some .local) (hy : X.env.scope.names.lookup y = some .local) (ha : DE X W a m1) (hb : DE X W b m2) (hP : [i, j].all (fun i => !P.contains i) = true := by rfl)
    (h1 : starEach [a, b] X.env = (false, eval a X.env) :: starEach [b] X.env := by rfl) (h2 : starEach [b] X.env = (false, eval b X.env) :: starEach [] X.env := by rfl)
    (hw : swappedStores [.Tuple [.Name x px, .Name y py] kt pt] (.Tuple [a, b] k2 pt2) X.env = pure (some [x, y]) := by rfl) (hs : swapsWithSole [.Tuple [.Name x px, .Name y py] kt pt] (.Tuple [a, b] k2 pt2) pos.line X.env = pure false := by rfl) :
    DS X W P (.Assign [.Tuple [.Name x px, .Name y py] kt pt] (.Tuple [a, b] k2 pt2) pos) (sPar [i, j] [m1, m2]) :=
  PS.imp (ps_par hc hN hi hj hij hx hy (pa_cons ha (pa_cons hb pa_nil h2) h1) hw hs) fun D σ H h => by
    refine TOs.mono (os := [.ex m1, .ex m2]) (fun vs H1 q => ?_) (par_run (is := [i, j]) (ms := [m1, m2]) rfl (by simpa [List.all_eq_true] using hP) h)
    obtain ⟨hl, q⟩ := q
    match vs, hl with
    | [v, w], _ => exact ⟨v, w, rfl, q⟩
theorem ds_par3 {i j l : Nat} {x y z : Str} {px py pz pt : Pos} {kt k2 : Nat} {pt2 : Pos} (hc : X.calm = true) (hN : X.N.Nodup) (hi : X.N[i]? = some x) (hj : X.N[j]? = some y) (hl : X.N[l]? = some z) (hij : i ≠ j) (hil : i ≠ l) (hjl : j ≠ l) (hx : X.env.scope.names.lookup x = some .local) (hy : X.env.scope.names.lookup y = some .local) (hz : X.env.scope.names.lookup z = some .local)
    (ha : DE X W a m1) (hb : DE X W b m2) (hcc : DE X W c m3) (hP : [i, j, l].all (fun i => !P.contains i) = true := by rfl)
    (h1 : starEach [a, b, c] X.env = (false, eval a X.env) :: starEach [b, c] X.env := by rfl) (h2 : starEach [b, c] X.env = (false, eval b X.env) :: starEach [c] X.env := by rfl) (h3 : starEach [c] X.env = (false, eval c X.env) :: starEach [] X.env := by rfl)
    (hw : swappedStores [.Tuple [.Name x px, .Name y py, .Name z pz] kt pt] (.Tuple [a, b, c] k2 pt2) X.env = pure (some [x, y, z]) := by rfl) (hs : swapsWithSole [.Tuple [.Name x px, .Name y py, .Name z pz] kt pt] (.Tuple [a, b, c] k2 pt2) pos.line X.env = pure false := by rfl) :
    DS X W P (.Assign [.Tuple [.Name x px, .Name y py, .Name z pz] kt pt] (.Tuple [a, b, c] k2 pt2) pos) (sPar [i, j, l] [m1, m2, m3]) :=
  PS.imp (ps_par3 hc hN hi hj hl hij hil hjl hx hy hz (pa_cons ha (pa_cons hb (pa_cons hcc pa_nil h3) h2) h1) hw hs) fun D σ H h => by
    refine TOs.mono (os := [.ex m1, .ex m2, .ex m3]) (fun vs H1 q => ?_) (par_run (is := [i, j, l]) (ms := [m1, m2, m3]) rfl (by simpa [List.all_eq_true] using hP) h)
    obtain ⟨hl, q⟩ := q
    match vs, hl with
    | [u, v, w], _ => exact ⟨u, v, w, rfl, q⟩
/-! ### d.pop(k) -/
def isDic : D → Bool
  | .dic _ _ => true
  | _ => false
def dpopD : D → List D → Option (D × D)
  | .dic ks xs, [k] => match keyD k with
    | some k => match getG (ks.zip xs) k with
      | some d => some (D.dict (dropG (ks.zip xs) k), d)
      | none => none
    | none => none
  | _, _ => none
def rDPop : V → List V → Hp → VK → Prop := fun x ws H Q => ∃ a kvs k v, x = .ref a ∧ ws = [kV k] ∧ H a = some (.dK kvs) ∧ valV kvs k = some v ∧ Q v (upd H a (.dK (dropK kvs k)))
theorem fit_dpop {G : Gd} : MutFit G dpopD rDPop := by
  intro Kn H a o d ds vs es ws d' r' Q le ha w fs fe h q
  unfold dpopD at h
  split at h
  · rename_i ks xs k
    split at h
    · rename_i k1 ek
      split at h
      · rename_i d1 ed
        cases h
        cases w with
        | dic hl hk => cases fe with
          | cons f0 ft =>
            cases ft
            have e0 := keyD_fr f0 ek
            subst e0
            have hlen : ds.length = vs.length := by omega
            obtain ⟨u, h1, h2⟩ := getG_rel (R := fun d v => Fr G Kn d v) hlen (fun i d z => fs.get z) ed
            refine ⟨a, _, k1, u, rfl, rfl, ha, h1, ?_⟩
            have e : dropK (ks.zip vs) k1 = ((dropG (ks.zip ds) k1).map Prod.fst).zip ((dropG (ks.zip vs) k1).map Prod.snd) := by
              rw [dropK_dropG, drop_keys (by omega : ks.length = ds.length), ← drop_keys hk k1]
              exact (zip_fst_snd _).symm
            rw [e]
            refine q _ _ _ _ (.dic ?_ ?_) (drop_frs fs k1) h2
            · simpa using (drop_frs (ks := ks) fs k1).length
            · rw [drop_keys (by omega : ks.length = ds.length), ← drop_keys hk k1]
              simp
      · cases h
    · cases h
  · cases h
theorem de_dpop {j : Nat} {o : Expr} {apos : Pos} (ho : DO X W o (.nm j)) (ha : DO X W a oa) (m : M1 X o "pop" apos a pos) (hx : oa.isEx = true := by rfl) : DE X W (.Call (.Attribute o "pop" apos) [a] [] pos) (mMut j isDic [oa] dpopD) := PE.imp (pe_dpop1 ho ha m) fun σ H Q h => by
  obtain ⟨x, e1, ⟨d, ht, f1⟩, q⟩ := mMut_run (by simpa using hx) fit_dpop h
  refine ⟨x, e1, ?_⟩
  cases f1 with
  | dic r hk hs =>
    refine ⟨_, rfl, .inl ⟨_, r⟩, TOd.mono (fun y H2 z => ?_) q⟩
    obtain ⟨a, kvs, k, v, e1, e2, h1, h2, z⟩ := z
    cases e1
    cases e2
    exact ⟨kvs, k, v, h1, rfl, h2, z⟩
  | _ => cases ht
end
end DL
end
section
set_option Elab.async false
set_option linter.all false
set_option maxRecDepth 100000
/-! DL: defs and calls where it is known that no repr is under way. -/
namespace DL
open PySem PySem.Spec PyProof.Rows L2
/-- room, and no repr under way -/
structure Rm (k : Nat) (A : Around) : Prop where
  rm : Room k A
  gs : A.guards = some []
theorem Rm.deeper {k : Nat} {A : Around} (r : Rm (k + 1) A) (env : Env) : Rm k (A.deeper env) := ⟨r.rm.deeper env, r.gs⟩
theorem Rm.mono {j k : Nat} {A : Around} (r : Rm k A) (h : j ≤ k) : Rm j A := ⟨r.rm.mono h, r.gs⟩
/-- a def keeps its promise wherever no repr is under way -/
structure FnG (P : Program) (w : World) (K : PySem.W.Frag) (mg : Str → Option Value) (base : Heap) (k : Nat) (f : Addr) (fd : FuncData) (ps : List Str) (sp : Sp) : Prop where
  len : ∀ vs H Q E, sp vs H Q E → vs.length = ps.length
  go : ∀ (A : Around) (out : List Env) (s : Shared) (H : Hp) (as : Args) (us : List Value) (vs : List V) (Q : VK) (E : XK), Rm k A → Env0 P w K mg base A out s H → BindsTo s fd as (ps.zip us) → Vals vs us → sp vs H Q E →
    codeAny (model P w) A (.call (.ref f) as) (CR (L2.CX P w) out P w H s Q E) s
section
variable {P : Program} {w : World} {K : PySem.W.Frag} {mg : Str → Option Value} {base : Heap}
theorem FnG.mono {j k : Nat} {f : Addr} {fd : FuncData} {ps : List Str} {sp : Sp} (F : FnG P w K mg base j f fd ps sp) (h : j ≤ k) : FnG P w K mg base k f fd ps sp := ⟨F.len, fun A out s H as us vs Q E r => F.go A out s H as us vs Q E (r.mono h)⟩
/-- the body's reading, chosen at each entry -/
theorem fng_of {x qual : Str} {st : Stmt} {f : Addr} {fd : FuncData} {N ps : List Str} {k : Nat} {sp : Sp} (F : Fun K x qual st f fd) (S : FnScope N ps (defScope st)) (len : ∀ vs H Q E, sp vs H Q E → vs.length = ps.length)
    (body : ∀ (cdv : Value) (A : Around) (out : List Env) (s : Shared) (H : Hp) (vs : List V) (Q : VK) (E : XK), Rm k (A.deeper (envOfC qual (defScope st) s.heap.objs.size f cdv)) → sp vs H Q E →
      ∃ t, PSs (cxOf (L2.CX P w) P w K mg base N qual (defScope st) f cdv A out s H E) (defBody st) t ∧ t { nx := fun _ H' => Q .non H', rt := Q } (L2.start N vs) H) : FnG P w K mg base (k + 1) f fd ps sp := by
  obtain ⟨oc, od, kV, doc, pm, an, cdv, ct, osl, rfl, look, hcode⟩ := F.ex
  refine ⟨len, fun A out s H as us vs Q E hrm env bd rv hsp => ?_⟩
  have inK : K.In s.heap := env.mod.kin.keeps fun b o e => (env.bs b o e).1
  have nolim : s.heap.NoLimit := env.mod.nolimit.keeps fun b o e => (env.bs b o e).1
  have binds : ∀ y ∈ ps.zip us, (defScope st).names.lookup y.1 = some .local ∨ ((defScope st).names.lookup y.1 = some .cell ∧ ((cellsFrom (s.heap.objs.size + 1) (defScope st).names []).lookup y.1).isSome = true) := by
    intro y hy
    obtain ⟨n, v⟩ := y
    have mem : n ∈ ps := (List.of_mem_zip hy).1
    exact (S.par n mem).imp id fun q => ⟨q, PySem.W.cellsFrom_some _ _ _ (.inl q)⟩
  refine codeAny_call_function hrm.rm.depth (inK _ _ look) rfl S.co S.gen rfl (PySem.W.codeRec_of inK hcode) (bd _ _ _ _ ?_)
  refine wpAny_newFunctionEnv_cells S.kind binds fun e he s1 ic => ?_
  subst he
  refine ⟨nolim.keeps ic.toInCall.keep, codeAny_func ?_⟩
  obtain ⟨t, ht, hq⟩ := body cdv A out s H vs Q E (hrm.deeper _) hsp
  have I0 := inv_start (CX := L2.CX P w) (K := K) (mg := mg) (base := base) (N := N) (E := E) S hrm.rm.hd env (len _ _ _ _ hsp) rv ic
  refine wpAny_mono (ht.run [] s1 _ H _ I0 hq) (fun fl s' hs => ?_) fun _ _ z => z
  cases fl with
  | ret u =>
    obtain ⟨v, _, H', J, ru, q⟩ := hs
    exact ⟨v, H', J.os, J.bare, J.base, J.hok, ru, q⟩
  | next =>
    obtain ⟨_, H', J, q⟩ := hs
    exact ⟨V.non, H', J.os, J.bare, J.base, J.hok, rfl, q⟩
  | brk => exact hs.elim fun _ z => z.elim fun _ z => z.2.elim
  | cont => exact hs.elim fun _ z => z.elim fun _ z => z.2.elim
end
section
variable {X : Cx} {W : WX}
/-- a call of a def -/
theorem de_callG {k : Nat} {f : Addr} {fd : FuncData} {ps : List Str} {n : Nat} {mf : MF} {x : Str} {p pos : Pos} {e : Expr} {es : List Expr} {os : List Opn}
    (F : FnG X.prog X.w X.K X.mg X.base k f fd ps (SpD (gd X) n mf)) (hr : Rm k X.A) (hg : Gl X x) (hm : X.mg x = some (.ref f)) (hk : PySem.W.keepIn X.K (.ref f) = true) (hb : Binds X.K fd ps []) (tk : Takes X W) (ha : DA X W (e :: es) os) (hn : os.length = n := by rfl)
    (hd : (x == Str.ofString "__debug__") = false := by first | rfl | decide) (h1 : starEach (e :: es) X.env = (false, eval e X.env) :: starEach es X.env := by rfl) (h2 : ((backTo pos (starEach es X.env)).any fun x => x.fst) = false := by rfl) : DE X W (.Call (.Name x p) (e :: es) [] pos) (mCall mf os) := by
  refine ⟨fun pins s σ H Q I h => ?_⟩
  refine wpAny_Call_Name_kw (ld_glob I hg hm ?_ hd)
  refine PySem.W.callWith_K (h₀ := X.base) I.ok.mod.kin hk (thn (ha.run pos pins s σ H _ I (call_run hn h)) fun us s1 z => ?_) h1 h2
  obtain ⟨vs, H1, I1, rv, q⟩ := z
  refine ⟨I1.kIn, ?_⟩
  have hl : (us ++ []).length = ps.length := by rw [List.append_nil, ← rv.length]; exact F.len _ _ _ _ q
  have b0 := hb s1 us I1.kIn hl
  rw [List.append_nil] at b0
  refine wpAny_call (codeAny_mono (F.go X.A X.stack s1 H1 ⟨us, []⟩ us vs Q (WE W σ) hr I1.env0 b0 rv q) fun r s' hq => ?_)
  match r, hq with
  | .error e, hq => exact passAt tk σ pins H1 s1 e s' I1 hq
  | .ok (.ret u), hq => exact I1.after hq
  | .ok .next, hq => exact hq.elim
  | .ok .brk, hq => exact hq.elim
  | .ok .cont, hq => exact hq.elim
end
/-- THE RULE for a def -/
theorem fn_g {P : Program} {w : World} {K : PySem.W.Frag} {mg : Str → Option Value} {base : Heap} {x qual : Str} {st : Stmt} {f : Addr} {fd : FuncData} {N ps : List Str} {k : Nat} {Pk : List Nat} {ms : MS} (F : Fun K x qual st f fd) (S : FnScope N ps (defScope st))
    (body : ∀ (cdv : Value) (A : Around) (outer : List Env) (s : Shared) (H : Hp) (E : XK), Rm k (A.deeper (envOfC qual (defScope st) s.heap.objs.size f cdv)) →
      DSs (cxOf (L2.CX P w) P w K mg base N qual (defScope st) f cdv A outer s H E) (fun cls d _ H => E cls d H) Pk (defBody st) ms) (hN : ps.length ≤ N.length := by decide) :
    FnG P w K mg base (k + 1) f fd ps (SpD ⟨K, mg⟩ ps.length (runD ps.length N.length Pk ms)) := by
  refine fng_of F S (fun vs H Q E h => h.1) fun cdv A outer s H vs Q E hr h => ⟨_, body cdv A outer s H E hr, ?_⟩
  obtain ⟨hl, Kn, ds, Lf, S0, o⟩ := h
  have S1 : SI (gd (cxOf (L2.CX P w) P w K mg base N qual (defScope st) f cdv A outer s H E)) Kn H (L2.start N vs) (ds.map some ++ List.replicate (N.length - ps.length) none) Lf := by
    unfold L2.start
    rw [hl]
    exact S0.extend
  refine ⟨Kn, _, Lf, S1, ?_⟩
  unfold runD at o
  have kpe : ∀ {σ' : L2.St} {ρ' : Rho}, σ'.length = ρ'.length → Kp Pk (L2.start N vs) σ' → ∀ {Kn' H' Lf'}, SI ⟨K, mg⟩ Kn' H' σ' ρ' Lf' → ∃ Lf2, SI ⟨K, mg⟩ Kn' H' (vs.map some) (outP ps.length Pk ρ') Lf2 ∧ ∀ a, U Lf2 a → U Lf' a := by
    intro σ' ρ' _ kp Kn' H' Lf' S'
    refine S'.outs hl fun i hi hn => (kp i hi).trans ?_
    unfold L2.start
    rw [List.getElem?_append_left (by simpa [hl] using hn)]
  cases e : ms (ds.map some ++ List.replicate (N.length - ps.length) none) with
  | nx ρ' =>
    rw [e] at o
    intro Kn' H' σ' Lf' S' t kp
    obtain ⟨Lf2, S2, u⟩ := kpe S'.len kp S'
    exact o Kn' H' Lf2 .non No S2 ⟨.non, fun _ z => z⟩ (fun _ z => z.elim) (fun _ z => z.elim) (t.less fun a z => z.elim (u a) fun z => z.elim)
  | rt r ρ' =>
    rw [e] at o
    intro Kn' H' σ' Lf' v M S' w' s' kn' t kp
    obtain ⟨Lf2, S2, u⟩ := kpe S'.len kp S'
    exact o Kn' H' Lf2 v M S2 w' (fun a z q => s' a z (u a q)) kn' (t.less fun a z => z.elim (fun z => .inl (u a z)) .inr)
  | exc x ρ' =>
    rw [e] at o
    intro Kn' H' σ' Lf' c dx S' r t kp
    obtain ⟨Lf2, S2, u⟩ := kpe S'.len kp S'
    exact o Kn' H' Lf2 c dx S2 r (t.less u)
  | bk ρ' => rw [e] at o; exact o.elim
  | ct ρ' => rw [e] at o; exact o.elim
  | bad => rw [e] at o; exact o.elim
end DL
end
section
set_option Elab.async false
set_option linter.all false
set_option maxRecDepth 100000
/-! DL: repr. -/
namespace DL
open PySem PySem.Spec PyProof.Rows L2
def kP : Key → PyData
  | .inl i => .int i
  | .inr x => .str x
mutual
/-- what is shown of a datum -/
def pr : D → Option PyData
  | .non => some .none
  | .bl b => some (.bool b)
  | .int i => some (.int i)
  | .str x => some (.str x)
  | .lst xs => match prs xs with
    | some ds => some (.list ds)
    | none => none
  | .tup xs => match prs xs with
    | some ds => some (.tuple ds)
    | none => none
  | .dic ks xs => match prs xs with
    | some ds => some (.dict ((ks.map kP).zip ds))
    | none => none
  | _ => none
def prs : List D → Option (List PyData)
  | [] => some []
  | x :: xs => match pr x, prs xs with
    | some d, some ds => some (d :: ds)
    | _, _ => none
end
theorem prs_len : ∀ {xs : List D} {ds : List PyData}, prs xs = some ds → ds.length = xs.length
  | [], _, e => by simp only [prs, Option.some.injEq] at e; subst e; rfl
  | x :: xs, ds, e => by
    simp only [prs] at e
    cases q1 : pr x with
    | none => rw [q1] at e; cases e
    | some p =>
      cases q2 : prs xs with
      | none => rw [q1, q2] at e; cases e
      | some ps =>
        rw [q1, q2] at e
        cases e
        simp [prs_len q2]
section
variable {P : Program} {w : World} {G : Gd} {H : Hp} {h : Heap}
/-- the text of a value, its parts known -/
structure Shw (P : Program) (w : World) (h : Heap) (u : Value) (p : PyData) : Prop where
  rd : ∃ as, Reads h u p as
  sh : ∃ bs, ReadAtMost h p.depth bs ∧ ReprK P w bs h p.depth u p.shown
structure Shws (P : Program) (w : World) (h : Heap) (us : List Value) (ps : List PyData) : Prop where
  rd : ∃ as, ReadsAll h us ps as
  sh : ∃ bs, ReadAtMost h (PyData.depthAll ps) bs ∧ ReprAllK P w bs h (PyData.depthAll ps) us (PyData.shownAll ps)
theorem none_atmost {n : Nat} : ReadAtMost h n [] := fun _ z => nomatch z
theorem shw_lst {a : Addr} {its : List Value} {n : Nat} {ps : List PyData} {o : Obj} (h1 : h.get? a = some o) (h2 : o.cls = .type "list") (h3 : o.data = .seq its.toArray n) (s : Shws P w h its ps) : Shw P w h (.ref a) (.list ps) ∧ ∃ bs, a ∉ bs ∧ ReprAllK P w bs h (PyData.depthAll ps) its (PyData.shownAll ps) := by
  obtain ⟨⟨as, ra⟩, bs, hb, hk⟩ := s
  have r : Reads h (.ref a) (.list ps) (a :: as) := .list h1 h2 h3 (by simpa using ra)
  have na : a ∉ bs := not_mem_of_deeper r (by simp only [PyData.depth]; omega) hb
  refine ⟨⟨⟨_, r⟩, a :: bs, ReadAtMost.cons r (by simp only [PyData.depth]; omega) hb, ?_⟩, bs, na, hk⟩
  simp only [PyData.depth, PyData.shown]
  cases its with
  | nil =>
    cases ra
    simp only [PyData.shownAll, listText_nil]
    exact ReprK.listEmpty h1 h2 h3
  | cons x l => exact ReprK.list h1 h2 h3 na (by simpa using hk.length_eq) fun i y e => hk.item i y (by simpa using e)
theorem shw_tup {a : Addr} {its : List Value} {n : Nat} {ps : List PyData} {o : Obj} (h1 : h.get? a = some o) (h2 : o.cls = .type "tuple") (h3 : o.data = .seq its.toArray n) (s : Shws P w h its ps) : Shw P w h (.ref a) (.tuple ps) ∧ ∃ bs, a ∉ bs ∧ ReprAllK P w bs h (PyData.depthAll ps) its (PyData.shownAll ps) := by
  obtain ⟨⟨as, ra⟩, bs, hb, hk⟩ := s
  have r : Reads h (.ref a) (.tuple ps) as := .tuple h1 h2 h3 (by simpa using ra)
  have na : a ∉ bs := not_mem_of_deeper r (by simp only [PyData.depth]; omega) hb
  refine ⟨⟨⟨_, r⟩, a :: bs, ReadAtMost.cons r (by simp only [PyData.depth]; omega) hb, ?_⟩, bs, na, hk⟩
  simp only [PyData.depth, PyData.shown]
  exact ReprK.tuple h1 h2 h3 na (by simpa using hk)
/-- a dict's keys -/
theorem keys_shw {n : Nat} {bs : List Addr} : ∀ {ks : List Key} {us : List Value}, PySem.Paired (fun k u => keyIs k u = true) ks us → (∀ k ∈ ks, (kP k).showable = true ∧ (kP k).shown.length ≤ sizeLine) →
    (∃ as, ReadsAll h us (ks.map kP) as) ∧ ReprAllK P w bs h n us (PyData.shownAll (ks.map kP))
  | _, _, .nil, _ => ⟨⟨_, .nil⟩, by simp only [List.map_nil, PyData.shownAll]; exact .nil⟩
  | _, _, .cons (a := k) (b := u) (l₁ := ks) e t, hz => by
    obtain ⟨⟨as, r⟩, q⟩ := keys_shw (n := n) (bs := bs) t fun k' z => hz k' (List.mem_cons_of_mem _ z)
    have hk := hz k (List.mem_cons_self ..)
    rcases keyIs_shape e with ⟨i, tk, rfl, rfl⟩ | ⟨x, tk, rfl, rfl⟩
    · refine ⟨⟨_, .cons (.int i tk) r⟩, ?_⟩
      simp only [List.map_cons, PyData.shownAll, kP, PyData.shown]
      exact .cons (.of_is (ReprIs.int tk (by simpa [kP, PyData.showable] using hk.1)) _ _ _) q
    · refine ⟨⟨_, .cons (.str x tk) r⟩, ?_⟩
      simp only [List.map_cons, PyData.shownAll, kP, PyData.shown]
      exact .cons (.of_is (ReprIs.str x tk (by simpa [kP, PyData.shown] using hk.2)) _ _ _) q
structure DicAt (h : Heap) (a : Addr) (ks : List Key) (vs : List V) (us : List Value) (o : Obj) (es : Array DictEntry) (n : Nat) : Prop where
  get : h.get? a = some o
  cls : o.cls = .type "dict"
  dat : o.data = .dict es n
  sys : (a == sysModules) = false
  keys : PySem.Paired (fun k u => keyIs k u = true) ks (es.toList.map (·.key))
  vals : es.toList.map (·.val) = us
  rel : Vals vs us
theorem dic_at {a : Addr} {ks : List Key} {vs : List V} (ok : HOk P w H h) (r : Rd H a (.dK (ks.zip vs))) (hl : ks.length = vs.length) : ∃ us o es n, DicAt h a ks vs us o es n := by
  obtain ⟨_, sy, kus, rel, o, es, ep, e1, e2, e3, _, pr, _⟩ := (show ObjOk P w H h a (.dK (ks.zip vs)) from r.ok ok)
  have split : ∀ {ks : List Key} {vs : List V} {kus : List (Key × Value)} {l : List DictEntry}, ks.length = vs.length → KV (ks.zip vs) kus → Pairs (mixKind P w) l kus → PySem.Paired (fun k u => keyIs k u = true) ks (l.map (·.key)) ∧ Vals vs (l.map (·.val)) := by
    intro ks
    induction ks with
    | nil =>
      intro vs kus l hl rel pr
      cases vs with
      | cons _ _ => simp at hl
      | nil => cases rel; cases pr; exact ⟨.nil, .nil⟩
    | cons k ks ih =>
      intro vs kus l hl rel pr
      cases vs with
      | nil => simp at hl
      | cons v vs =>
        cases rel with
        | cons hk rel => cases pr with
          | cons p1 p2 pr =>
            obtain ⟨a1, a2⟩ := ih (by simpa using hl) rel pr
            refine ⟨.cons ?_ a1, .cons ?_ a2⟩
            · have := hk.1
              simp only at this
              rw [this]
              exact p1
            · have q := hk.2
              rw [← p2] at q
              exact q
  obtain ⟨s1, s2⟩ := split hl rel pr
  exact ⟨_, o, es, ep, e1, e2.1, e3, sy, s1, rfl, s2⟩
theorem shownAll_mem : ∀ {ps : List PyData} {t : Str}, t ∈ PyData.shownAll ps → ∃ p ∈ ps, t = p.shown
  | [], _, z => by simp [PyData.shownAll] at z
  | p :: ps, t, z => by
    simp only [PyData.shownAll, List.mem_cons] at z
    rcases z with rfl | z
    · exact ⟨p, List.mem_cons_self .., rfl⟩
    · obtain ⟨q, hq, e⟩ := shownAll_mem z
      exact ⟨q, List.mem_cons_of_mem _ hq, e⟩
theorem mem_shownAll : ∀ {ps : List PyData} {p : PyData}, p ∈ ps → p.shown ∈ PyData.shownAll ps
  | p :: ps, q, z => by
    simp only [PyData.shownAll, List.mem_cons]
    rcases List.mem_cons.mp z with rfl | z
    · exact .inl rfl
    · exact .inr (mem_shownAll z)
theorem showableAll_mem : ∀ {ps : List PyData} {p : PyData}, PyData.showableAll ps = true → p ∈ ps → p.showable = true
  | p :: ps, q, e, z => by
    have e' : p.showable = true ∧ PyData.showableAll ps = true := by simpa [PyData.showableAll] using e
    rcases List.mem_cons.mp z with rfl | z
    · exact e'.1
    · exact showableAll_mem e'.2 z
theorem dic_shw {a : Addr} {ks : List Key} {vs : List V} {us : List Value} {o : Obj} {es : Array DictEntry} {n : Nat} {ps : List PyData} (d : DicAt h a ks vs us o es n) (hl : ks.length = ps.length) (s : Shws P w h us ps) (hs : (PyData.dict ((ks.map kP).zip ps)).showable = true) (hz : (PyData.dict ((ks.map kP).zip ps)).shown.length ≤ sizeLine) :
    Shw P w h (.ref a) (.dict ((ks.map kP).zip ps)) ∧ ∃ bs, a ∉ bs ∧ ReprEntriesK P w bs h (PyData.depthKv ((ks.map kP).zip ps)) es.toList (PyData.shownKv ((ks.map kP).zip ps)) := by
  have f1 : ((ks.map kP).zip ps).map Prod.fst = ks.map kP := List.map_fst_zip (by simp; omega)
  have f2 : ((ks.map kP).zip ps).map Prod.snd = ps := List.map_snd_zip (by simp; omega)
  generalize hkv : (ks.map kP).zip ps = kvs at *
  have hz' : (dictText (PyData.shownKv kvs)).length ≤ sizeLine := by simpa only [PyData.shown] using hz
  obtain ⟨hs1, _⟩ := PyData.showableKv_split kvs (by simpa [PyData.showable] using hs)
  rw [f1] at hs1
  obtain ⟨⟨as, ra⟩, bs, hb, hk⟩ := s
  obtain ⟨⟨as1, rk⟩, kk⟩ := keys_shw (P := P) (w := w) (h := h) (n := PyData.depthKv kvs) (bs := bs) d.keys fun k z => ⟨showableAll_mem hs1 (List.mem_map_of_mem (f := kP) z), by
    obtain ⟨p, hp, le⟩ := PyData.shownKv_key_le kvs (kP k).shown (by rw [f1]; exact mem_shownAll (List.mem_map_of_mem (f := kP) z))
    exact Nat.le_trans le (Nat.le_trans (dictText_mem_le hp) hz')⟩
  have r : Reads h (.ref a) (.dict kvs) _ := .dict d.get d.cls d.dat (by rw [f1]; exact rk) (by rw [f2, d.vals]; exact ra)
  have dp : PyData.depthAll ps ≤ PyData.depthKv kvs := by have := PyData.depthAll_vals_le kvs; rwa [f2] at this
  have hb' : ReadAtMost h (PyData.depthKv kvs) bs := hb.mono dp
  have na : a ∉ bs := not_mem_of_deeper r (by simp only [PyData.depth]; omega) hb'
  have en : ReprEntriesK P w bs h (PyData.depthKv kvs) es.toList (PyData.shownKv kvs) := by
    rw [PyData.shownKv_eq, f1, f2]
    exact ReprEntriesK.of_two es.toList _ _ kk (by rw [d.vals]; exact hk.more_le (fun _ z => z) dp)
  refine ⟨⟨⟨_, r⟩, a :: bs, ReadAtMost.cons r (by simp only [PyData.depth]; omega) hb', ?_⟩, bs, na, en⟩
  simp only [PyData.depth, PyData.shown]
  exact ReprK.dict d.get d.cls d.dat d.sys na en
mutual
theorem shw_fr (ok : HOk P w H h) : ∀ {d : D} {v : V} {u : Value} {p : PyData}, Fr G H d v → RelV v u → pr d = some p → p.showable = true → p.shown.length ≤ sizeLine → Shw P w h u p
  | _, _, _, _, .non, r, e, _, _ => by
    simp only [pr, Option.some.injEq] at e; subst e
    cases r
    exact ⟨⟨_, .none⟩, [], none_atmost, by simp only [PyData.shown]; exact .of_is ReprIs.none _ _ _⟩
  | _, _, _, _, .bl b, r, e, _, _ => by
    simp only [pr, Option.some.injEq] at e; subst e
    cases r
    exact ⟨⟨_, .bool b⟩, [], none_atmost, by simp only [PyData.shown]; exact .of_is (ReprIs.bool b) _ _ _⟩
  | _, _, _, _, .int i, r, e, hs, _ => by
    simp only [pr, Option.some.injEq] at e; subst e
    obtain ⟨t, rfl⟩ := r
    exact ⟨⟨_, .int i t⟩, [], none_atmost, by simp only [PyData.shown]; exact .of_is (ReprIs.int t (by simpa [PyData.showable] using hs)) _ _ _⟩
  | _, _, _, _, .str x, r, e, _, hz => by
    simp only [pr, Option.some.injEq] at e; subst e
    obtain ⟨t, rfl⟩ := r
    exact ⟨⟨_, .str x t⟩, [], none_atmost, by simp only [PyData.shown]; exact .of_is (ReprIs.str x t (by simpa only [PyData.shown] using hz)) _ _ _⟩
  | _, _, _, _, .tup (ds := ds) (vs := vs) ha hs0, r, e, hs, hz => by
    simp only [pr] at e
    cases q : prs ds with
    | none => rw [q] at e; cases e
    | some ps =>
      rw [q] at e
      cases e
      cases r
      have hz' : (tupleText (PyData.shownAll ps)).length ≤ sizeLine := by simpa only [PyData.shown] using hz
      obtain ⟨_, its, rv, o, h1, h2, n, h3⟩ := (show ObjOk P w H h _ (.tup vs) from ok _ _ ha)
      exact (shw_tup h1 h2 h3 (shws_fr ok hs0 rv q (by simpa [PyData.showable] using hs) fun t z => Nat.le_trans (tupleText_mem_le z) hz')).1
  | _, _, _, _, .lst (ds := ds) (vs := vs) ha hs0, r, e, hs, hz => by
    simp only [pr] at e
    cases q : prs ds with
    | none => rw [q] at e; cases e
    | some ps =>
      rw [q] at e
      cases e
      cases r
      have hz' : (listText (PyData.shownAll ps)).length ≤ sizeLine := by simpa only [PyData.shown] using hz
      obtain ⟨_, its, n, rv, h1⟩ := (show ObjOk P w H h _ (.lst vs) from ha.ok ok)
      exact (shw_lst h1 rfl rfl (shws_fr ok hs0 rv q (by simpa [PyData.showable] using hs) fun t z => Nat.le_trans (listText_mem_le z) hz')).1
  | _, _, _, _, .dic (ks := ks) (ds := ds) (vs := vs) ha hl hs0, r, e, hs, hz => by
    simp only [pr] at e
    cases q : prs ds with
    | none => rw [q] at e; cases e
    | some ps =>
      rw [q] at e
      cases e
      cases r
      obtain ⟨us, o, es, n, dd⟩ := dic_at ok ha hl
      have hlp : ks.length = ps.length := by rw [hl, hs0.length, prs_len q]
      have hz' : (dictText (PyData.shownKv ((ks.map kP).zip ps))).length ≤ sizeLine := by simpa only [PyData.shown] using hz
      obtain ⟨_, hs2⟩ := PyData.showableKv_split ((ks.map kP).zip ps) (by simpa [PyData.showable] using hs)
      have f2 : ((ks.map kP).zip ps).map Prod.snd = ps := List.map_snd_zip (by simp; omega)
      rw [f2] at hs2
      refine (dic_shw dd hlp (shws_fr ok hs0 dd.rel q hs2 fun t z => ?_) hs hz).1
      obtain ⟨p, hp, le⟩ := PyData.shownKv_val_le ((ks.map kP).zip ps) t (by rw [f2]; exact z)
      exact Nat.le_trans le (Nat.le_trans (dictText_mem_le hp) hz')
  | _, _, _, _, .dit _ _ _, _, e, _, _ => by simp only [pr] at e; cases e
  | _, _, _, _, .ins _ _ _ _, _, e, _, _ => by simp only [pr] at e; cases e
  | _, _, _, _, .exv _ _, _, e, _, _ => by simp only [pr] at e; cases e
  | _, _, _, _, .exw _ _ _ _ _, _, e, _, _ => by simp only [pr] at e; cases e
  | _, _, _, _, .opq _, _, e, _, _ => by simp only [pr] at e; cases e
theorem shws_fr (ok : HOk P w H h) : ∀ {ds : List D} {vs : List V} {us : List Value} {ps : List PyData}, Frs G H ds vs → Vals vs us → prs ds = some ps → PyData.showableAll ps = true → (∀ t ∈ PyData.shownAll ps, t.length ≤ sizeLine) → Shws P w h us ps
  | _, _, _, _, .nil, .nil, e, _, _ => by
    simp only [prs, Option.some.injEq] at e; subst e
    exact ⟨⟨_, .nil⟩, [], none_atmost, by simp only [PyData.shownAll]; exact .nil⟩
  | _, _, _, _, .cons (d := d) (ds := ds) f fs, .cons rv rvs, e, hs, hz => by
    simp only [prs] at e
    cases q1 : pr d with
    | none => rw [q1] at e; cases e
    | some p =>
      cases q2 : prs ds with
      | none => rw [q1, q2] at e; cases e
      | some ps =>
        rw [q1, q2] at e
        cases e
        have hs' : p.showable = true ∧ PyData.showableAll ps = true := by simpa [PyData.showableAll] using hs
        have hz' : p.shown.length ≤ sizeLine ∧ ∀ t ∈ PyData.shownAll ps, t.length ≤ sizeLine := by simpa [PyData.shownAll] using hz
        obtain ⟨⟨a1, r1⟩, b1, hb1, k1⟩ := shw_fr ok f rv q1 hs'.1 hz'.1
        obtain ⟨⟨a2, r2⟩, b2, hb2, k2⟩ := shws_fr ok fs rvs q2 hs'.2 hz'.2
        refine ⟨⟨_, .cons r1 r2⟩, b1 ++ b2, ?_, ?_⟩
        · simp only [PyData.depthAll]
          exact (hb1.mono (Nat.le_max_left _ _)).append (hb2.mono (Nat.le_max_right _ _))
        · simp only [PyData.depthAll, PyData.shownAll]
          exact .cons ((k1.more fun b z => List.mem_append_left _ z).level_le (Nat.le_max_left _ _)) (k2.more_le (fun b z => List.mem_append_right _ z) (Nat.le_max_right _ _))
end
end
/-! ### the call -/
def reprD : List D → Option Val
  | [d] => match pr d with
    | some p => if p.showable = true ∧ p.shown.length ≤ sizeLine ∧ p.depth ≤ 60 then some (.str p.shown, 0) else none
    | none => none
  | _ => none
def rRepr (P : Program) (w : World) (G : Gd) : List V → Hp → VK → Prop := fun xs H Q => ∃ d v p, xs = [v] ∧ Fr G H d v ∧ pr d = some p ∧ p.showable = true ∧ p.shown.length ≤ sizeLine ∧ p.depth ≤ 60 ∧ Q (.str p.shown) H
theorem shw_by {P : Program} {w : World} {G : Gd} {H : Hp} {h : Heap} (ok : HOk P w H h) {a : Addr} : ∀ {d : D} {p : PyData}, Fr G H d (.ref a) → pr d = some p → p.showable = true → p.shown.length ≤ sizeLine → ∃ T idr, ShowsBy P w h a p T idr
  | _, _, .tup (ds := ds) (vs := vs) ha hs0, e, hs, hz => by
    simp only [pr] at e
    cases q : prs ds with
    | none => rw [q] at e; cases e
    | some ps =>
      rw [q] at e
      cases e
      have hz' : (tupleText (PyData.shownAll ps)).length ≤ sizeLine := by simpa only [PyData.shown] using hz
      obtain ⟨_, its, rv, o, h1, h2, n, h3⟩ := (show ObjOk P w H h _ (.tup vs) from ok _ _ ha)
      obtain ⟨_, bs, na, hk⟩ := shw_tup h1 h2 h3 (shws_fr ok hs0 rv q (by simpa [PyData.showable] using hs) fun t z => Nat.le_trans (tupleText_mem_le z) hz')
      refine ⟨"tuple", "tuple.__repr__", F.slot_tuple_repr, F.slot_tuple_str, F.slot_tuple_format, fun s k0 => ⟨o, k0 _ _ h1, h2⟩, fun A E s Q hg hu k0 hQ => ?_⟩
      simp only [PyData.depth] at hu
      simp only [PyData.shown] at hQ
      exact call_tuple_reprK h1 h2 h3 na (by simpa using hk) hg (fun b _ => Clear.nil b) hu k0 hQ hz'
  | _, _, .lst (ds := ds) (vs := vs) ha hs0, e, hs, hz => by
    simp only [pr] at e
    cases q : prs ds with
    | none => rw [q] at e; cases e
    | some ps =>
      rw [q] at e
      cases e
      have hz' : (listText (PyData.shownAll ps)).length ≤ sizeLine := by simpa only [PyData.shown] using hz
      obtain ⟨_, its, n, rv, h1⟩ := (show ObjOk P w H h _ (.lst vs) from ha.ok ok)
      obtain ⟨_, bs, na, hk⟩ := shw_lst h1 rfl rfl (shws_fr ok hs0 rv q (by simpa [PyData.showable] using hs) fun t z => Nat.le_trans (listText_mem_le z) hz')
      refine ⟨"list", "list.__repr__", F.slot_list_repr.toG, F.slot_list_str, F.slot_list_format, fun s k0 => ⟨_, k0 _ _ h1, rfl⟩, fun A E s Q hg hu k0 hQ => ?_⟩
      simp only [PyData.depth] at hu
      simp only [PyData.shown] at hQ
      cases its with
      | nil =>
        have hq : PyData.shownAll ps = [] := List.eq_nil_of_length_eq_zero (by simpa using hk.length_eq)
        rw [hq, listText_nil] at hQ
        exact call_list_repr_empty ⟨_, k0 _ _ h1, rfl⟩ (k0 _ _ h1) rfl (hQ s.heap _ _ fun _ _ z => z)
      | cons x l => exact call_list_reprK h1 rfl rfl na (by simpa using hk.length_eq) (fun i y z => hk.item i y (by simpa using z)) hg (fun b _ => Clear.nil b) hu k0 hQ hz'
  | _, _, .dic (ks := ks) (ds := ds) (vs := vs) ha hl hs0, e, hs, hz => by
    simp only [pr] at e
    cases q : prs ds with
    | none => rw [q] at e; cases e
    | some ps =>
      rw [q] at e
      cases e
      obtain ⟨us, o, es, n, dd⟩ := dic_at ok ha hl
      have hlp : ks.length = ps.length := by rw [hl, hs0.length, prs_len q]
      have hz' : (dictText (PyData.shownKv ((ks.map kP).zip ps))).length ≤ sizeLine := by simpa only [PyData.shown] using hz
      obtain ⟨_, hs2⟩ := PyData.showableKv_split ((ks.map kP).zip ps) (by simpa [PyData.showable] using hs)
      have f2 : ((ks.map kP).zip ps).map Prod.snd = ps := List.map_snd_zip (by simp; omega)
      rw [f2] at hs2
      obtain ⟨_, bs, na, en⟩ := dic_shw dd hlp (shws_fr ok hs0 dd.rel q hs2 fun t z => by
        obtain ⟨p, hp, le⟩ := PyData.shownKv_val_le ((ks.map kP).zip ps) t (by rw [f2]; exact z)
        exact Nat.le_trans le (Nat.le_trans (dictText_mem_le hp) hz')) hs hz
      refine ⟨"dict", "dict.__repr__", F.slot_dict_repr, F.slot_dict_str, F.slot_dict_format, fun s k0 => ⟨o, k0 _ _ dd.get, dd.cls⟩, fun A E s Q hg hu k0 hQ => ?_⟩
      simp only [PyData.depth] at hu
      simp only [PyData.shown] at hQ
      exact call_dict_reprK dd.get dd.cls dd.dat dd.sys na en hg (fun b _ => Clear.nil b) hu k0 hQ hz'
  | _, _, .dit _ _ _, e, _, _ => by simp only [pr] at e; cases e
  | _, _, .ins _ _ _ _, e, _, _ => by simp only [pr] at e; cases e
  | _, _, .exv _ _, e, _, _ => by simp only [pr] at e; cases e
  | _, _, .exw _ _ _ _ _, e, _, _ => by simp only [pr] at e; cases e
  | _, _, .opq _, e, _, _ => by simp only [pr] at e; cases e
theorem call_reprD {X : Cx} {k : Nat} (hr : Rm k X.A) : CallR X (.builtin "repr") (rRepr X.prog X.w (gd X)) := by
  intro pins s σ H xs us Q I r h
  obtain ⟨d, v, p, rfl, f, e, hs, hz, hd, q⟩ := h
  obtain ⟨u, rfl, ru⟩ := vals1 r
  have un := hr.rm.units
  cases f with
  | non =>
    simp only [pr, Option.some.injEq] at e; subst e
    cases ru
    exact PySem.P.repr_of_none ⟨.str "None", H, I.tok _, ⟨_, rfl⟩, by simpa only [PyData.shown] using q⟩
  | bl b =>
    simp only [pr, Option.some.injEq] at e; subst e
    cases ru
    exact PySem.P.repr_of_bool ⟨.str (if b then "True" else "False"), H, I.tok _, ⟨_, rfl⟩, by simpa only [PyData.shown] using q⟩
  | int i =>
    simp only [pr, Option.some.injEq] at e; subst e
    obtain ⟨t, rfl⟩ := ru
    exact PySem.P.repr_of_int (by simpa [PyData.showable] using hs) ⟨.str _, H, I.tok _, ⟨_, rfl⟩, by simpa only [PyData.shown] using q⟩
  | str x =>
    simp only [pr, Option.some.injEq] at e; subst e
    obtain ⟨t, rfl⟩ := ru
    exact PySem.P.repr_of_str ⟨.str _, H, I.tok _, ⟨_, rfl⟩, by simpa only [PyData.shown] using q⟩ (by simpa only [PyData.shown] using hz)
  | _ =>
    cases ru
    obtain ⟨T, idr, S⟩ := shw_by (G := gd X) I.hok (by constructor <;> assumption) e hs hz
    exact call_repr_slot (by omega) (S.typeIs s fun _ _ z => z) S.slotRepr (S.call X.A.in1 _ s _ hr.gs (by show X.A.units + 1 + _ < cLine; omega) (fun _ _ z => z) fun h' u tk hk => ⟨_, _, rfl, ⟨.str p.shown, H, I.kept hk, ⟨_, rfl⟩, q⟩⟩)
theorem fit_repr {P : Program} {w : World} {G : Gd} : FitN reprD G (rRepr P w G) := by
  intro xs H Q ⟨Kn, ds, r, le, tps, hf, p⟩
  unfold reprD at hf
  split at hf
  · cases tps with
    | cons t1 tr =>
      cases tr
      split at hf
      · rename_i p1 e1
        split at hf
        · rename_i hb
          cases hf
          exact ⟨_, _, p1, rfl, t1.fr le, e1, hb.1, hb.2.1, hb.2.2, p.val le (.str _)⟩
        · cases hf
      · cases hf
  · cases hf
end DL
end
section
set_option Elab.async false
set_option linter.all false
set_option maxRecDepth 100000
/-! DL: enumerate, zip, reversed. -/
namespace DL
open PySem PySem.Spec PyProof.Rows L2
section
variable {G : Gd} {W : WX} {m n : ME} {σ : L2.St} {H : Hp}
theorem walk_zipT {K : PySem.W.Frag} {a b : Addr} {xs ys : List V} {n : Nat} (hn : n = min xs.length ys.length) : Walk (RZ.ItzT K a b) n (fun H => SqT K H a xs ∧ SqT K H b ys) (YPair (fun i => xs[i]?) (fun i => ys[i]?)) := by
  subst hn
  refine ⟨fun i _ hi q => ⟨xs, ys, xs[i]'(by omega), ys[i]'(by omega), q.1, q.2, by simp [show i < xs.length by omega], by simp [show i < ys.length by omega]⟩, fun _ q => ⟨xs, ys, q.1, q.2, by omega⟩, fun i H v H' _ q y => ?_⟩
  obtain ⟨T, x, z, e1, e2, e3, e4, e5⟩ := y
  exact ⟨T, x, z, e1, e2, e3, e4 xs q.1, e5 ys q.2⟩
theorem Src.zipT {Kn0 H0 : Hp} {L0 : Ft} {K : PySem.W.Frag} {a b : Addr} {ds es : List D} {vs us : List V} (h : Kn0 a = some (.tup vs)) (f : Frs G Kn0 ds vs) (h' : Kn0 b = some (.tup us)) (f' : Frs G Kn0 es us) :
    Src G Kn0 H0 L0 (RZ.ItzT K a b) (zipD ds es) (fun H => SqT K H a vs ∧ SqT K H b us) (YPair (fun i => vs[i]?) (fun i => us[i]?)) where
  walk := walk_zipT (by rw [zipD_length, f.length, f'.length])
  stays := fun Kn H L t le => ⟨SqT.of (le.tp a _ (t.kn a _ h)), SqT.of (le.tp b _ (t.kn b _ h'))⟩
  item := fun i H x H' Kn L hi t le y => by
    rw [zipD_length] at hi
    obtain ⟨v, e, fv⟩ := f.get (i := i) (d := ds[i]) (by simp [show i < ds.length by omega])
    obtain ⟨u, e', fu⟩ := f'.get (i := i) (d := es[i]) (by simp [show i < es.length by omega])
    obtain ⟨Kn', t', le', ff⟩ := pair_item (G := G) (d1 := ds[i]) (d2 := es[i]) le y (fun v' z => by rw [e] at z; cases z; exact fv.mono (Le.of_sub t.kn)) fun v' z => by rw [e'] at z; cases z; exact fu.mono (Le.of_sub t.kn)
    exact ⟨_, zipD_get ds es i _ _ (by simp [show i < ds.length by omega]) (by simp [show i < es.length by omega]), Kn', t', le', ff⟩
def mEnum (m : ME) : Rho → Out (List D) := fun ρ => bindO (m ρ) fun r ρ1 => match r.1 with
  | .lst ds => .ok (enumD 0 ds) ρ1
  | _ => .bad
theorem enum_run {R : It → Hp → Prop} (h : TId G W (mEnum m) σ H R) : TEd G W m σ H fun v H1 => ∃ a xs, v = .ref a ∧ SqL G.K H1 a xs ∧ R (Ite G.K a) H1 := by
  obtain ⟨Kn, ρ, Lf, S, o⟩ := h
  have o : OI G W R σ Kn H (U Lf) (mEnum m ρ) := o
  unfold mEnum at o
  rw [← bindG_O] at o
  refine TEd.frozen (Z := OI G W R σ Kn H (U Lf)) (ex := .exc) (bd := .bad) S (fun z => z) (fun _ _ z => z) o fun r ρ1 Kn1 H1 Lf1 v S1 f1 t1 o1 => ?_
  split at o1
  · rename_i ds e
    rw [e] at f1
    cases f1 with
    | @lst a _ vs rd fs => exact ⟨a, vs, rfl, .inl (S1.le.rd _ _ rd), o1 _ _ _ Kn1 H1 Lf1 S1 t1 (fun _ _ => Src.enum (rd_plain S1.pl rd) fs)⟩
  · exact o1.elim
def mZip (m n : ME) : Rho → Out (List D) := fun ρ => bindO (m ρ) fun r ρ1 => bindO (n ρ1) fun q ρ2 => match r.1, q.1 with
  | .lst ds, .lst es => .ok (zipD ds es) ρ2
  | .tup ds, .tup es => .ok (zipD ds es) ρ2
  | _, _ => .bad
theorem OI.past {Kn H Kn1 H1 : Hp} {L L1 M : Ft} {R : It → Hp → Prop} {o : Out (List D)} (h : OI G W R σ Kn H L o) (t : Tr Kn H L Kn1 H1 L1) (hm : ∀ a, M a → L1 a) : OI G W R σ Kn1 H1 M o := by
  cases o with
  | ok ds ρ' => exact fun J Gs Y Kn' H' Lf' S u => h J Gs Y Kn' H' Lf' S (t.trans (u.more hm))
  | exc x ρ' => exact XW.past h t hm
  | bad => exact h
theorem zip_run {R : It → Hp → Prop} (h : TId G W (mZip m n) σ H R) : TEd G W m σ H fun v H1 => TEd G W n σ H1 fun w H2 => ∃ a b xs ys, [v, w] = [V.ref a, V.ref b] ∧ ((SqL G.K H2 a xs ∧ SqL G.K H2 b ys ∧ R (Itz G.K a b) H2) ∨ (SqT G.K H2 a xs ∧ SqT G.K H2 b ys ∧ R (RZ.ItzT G.K a b) H2)) := by
  obtain ⟨Kn, ρ, Lf, S, o⟩ := h
  have o : OI G W R σ Kn H (U Lf) (mZip m n ρ) := o
  unfold mZip at o
  rw [← bindG_O] at o
  refine TEd.frozen (Z := OI G W R σ Kn H (U Lf)) (ex := .exc) (bd := .bad) S (fun z => z) (fun _ _ z => z) o fun r ρ1 Kn1 H1 Lf1 v S1 f1 t1 o1 => ?_
  rw [← bindG_O] at o1
  have o2 := OI.past o1 t1 fun _ z => z
  refine TEd.frozen (Z := OI G W R σ Kn1 H1 (U Lf1)) (ex := .exc) (bd := .bad) S1 (fun z => z) (fun _ _ z => z) o2 fun q ρ2 Kn2 H2 Lf2 w S2 f2 t2 o3 => ?_
  have f1' := f1.mono (Le.of_sub t2.kn)
  split at o3
  · rename_i ds es e1 e2
    rw [e1] at f1'
    rw [e2] at f2
    cases f1' with
    | @lst a _ vs rd fs => cases f2 with
      | @lst b _ us rd' fs' => exact ⟨a, b, vs, us, rfl, .inl ⟨.inl (S2.le.rd _ _ rd), .inl (S2.le.rd _ _ rd'), o3 _ _ _ Kn2 H2 Lf2 S2 t2 (fun _ _ => Src.zip (rd_plain S2.pl rd) fs (rd_plain S2.pl rd') fs')⟩⟩
  · rename_i ds es e1 e2
    rw [e1] at f1'
    rw [e2] at f2
    cases f1' with
    | @tup a _ vs rd fs => cases f2 with
      | @tup b _ us rd' fs' => exact ⟨a, b, vs, us, rfl, .inr ⟨SqT.of (S2.le.tp _ _ rd), SqT.of (S2.le.tp _ _ rd'), o3 _ _ _ Kn2 H2 Lf2 S2 t2 (fun _ _ => Src.zipT rd fs rd' fs')⟩⟩
  · exact o3.elim
def mRevL (m : ME) : Rho → Out (List D) := fun ρ => bindO (m ρ) fun r ρ1 => match r.1 with
  | .lst ds => .ok ds.reverse ρ1
  | _ => .bad
theorem revL_run {R : It → Hp → Prop} (h : TId G W (mRevL m) σ H R) : RT.iRevA G.K (TEd G W m) σ H R := by
  obtain ⟨Kn, ρ, Lf, S, o⟩ := h
  have o : OI G W R σ Kn H (U Lf) (mRevL m ρ) := o
  unfold mRevL at o
  rw [← bindG_O] at o
  refine TEd.frozen (Z := OI G W R σ Kn H (U Lf)) (ex := .exc) (bd := .bad) S (fun z => z) (fun _ _ z => z) o fun r ρ1 Kn1 H1 Lf1 v S1 f1 t1 o1 => ?_
  split at o1
  · rename_i ds e
    rw [e] at f1
    cases f1 with
    | @lst a _ vs rd fs => exact ⟨a, vs, rfl, .inl ⟨.inl (S1.le.rd _ _ rd), o1 _ _ _ Kn1 H1 Lf1 S1 t1 (fun _ _ => Src.rev (rd_plain S1.pl rd) fs)⟩⟩
  · exact o1.elim
/-- n - 1, .., 0 -/
def downD (n : Nat) : List D := (List.range n).map fun (i : Nat) => .int (((n : Nat) : Int) - 1 + (i : Nat) * (-1))
theorem Src.down {Kn0 H0 : Hp} {L0 : Ft} (n : Nat) : Src G Kn0 H0 L0 (Itc (0 + (n : Int) - 1) (-1) n) (downD n) (fun _ => True) (YFn fun i => .int (0 + (n : Int) - 1 + (i : Nat) * (-1))) where
  walk := by
    have : (downD n).length = n := by simp [downD]
    rw [this]; exact walk_rangeC
  stays := fun _ _ _ _ _ => trivial
  item := fun i H x H' Kn L hi t le y => by
    obtain ⟨rfl, rfl⟩ := y
    have hi' : i < n := by simpa [downD] using hi
    exact ⟨.int (0 + (n : Int) - 1 + (i : Nat) * (-1)), by simp [downD, hi'], Kn, Tr.refl, le, .int _⟩
def mRevR (m : ME) : Rho → Out (List D) := fun ρ => bindO (m ρ) fun r ρ1 => match r.1 with
  | .int j => if -(2 ^ 62) ≤ j ∧ j < 2 ^ 62 then .ok (downD j.toNat) ρ1 else .bad
  | _ => .bad
theorem revR_run {R : It → Hp → Prop} (h : TId G W (mRevR m) σ H R) : iRevR (tRg1 (TEd G W m)) σ H R := by
  obtain ⟨Kn, ρ, Lf, S, o⟩ := h
  have o : OI G W R σ Kn H (U Lf) (mRevR m ρ) := o
  unfold mRevR at o
  rw [← bindG_O] at o
  refine TEd.frozen (Z := OI G W R σ Kn H (U Lf)) (ex := .exc) (bd := .bad) S (fun z => z) (fun _ _ z => z) o fun r ρ1 Kn1 H1 Lf1 v S1 f1 t1 o1 => ?_
  split at o1
  · rename_i j e
    rw [e] at f1
    split at o1
    · rename_i hj
      cases f1
      refine ⟨j, rfl, by omega, by omega, hj.1, hj.2, ?_⟩
      have e0 : (j - 0).toNat = j.toNat := by rw [Int.sub_zero]
      rw [e0]
      exact o1 _ _ _ Kn1 H1 Lf1 S1 t1 (fun _ _ => Src.down j.toNat)
    · exact o1.elim
  · exact o1.elim
end
section
variable {X : Cx} {W : WX} {a b tg : Expr} {m n : ME} {pos p : Pos}
theorem di_enum {elts : List Expr} {kk : Nat} {tpos : Pos} (hg : Gl X "enumerate") (hm : X.mg "enumerate" = none) (ha : DE X W a m) (hs : starEach [a] X.env = [(false, eval a X.env)] := by rfl) : DI X W (.Tuple elts kk tpos) (.Call (.Name "enumerate" p) [a] [] pos) (mEnum m) :=
  PI.imp (pi_enum hg hm (pa_cons ha pa_nil hs) hs) fun σ H R h => TEd.mono (fun v H1 q => by
    obtain ⟨c, xs, rfl, q1, q2⟩ := q
    exact ⟨c, xs, rfl, q1, q2⟩) (enum_run h)
theorem di_zip {elts : List Expr} {kk : Nat} {tpos : Pos} (hg : Gl X "zip") (hm : X.mg "zip" = none) (ha : DE X W a m) (hb : DE X W b n) (hs : starEach [a, b] X.env = (false, eval a X.env) :: starEach [b] X.env := by rfl) (h1 : starEach [b] X.env = (false, eval b X.env) :: starEach [] X.env := by rfl) (hpl : (backTo pos (starEach [b] X.env)).any (·.1) = false := by rfl) :
    DI X W (.Tuple elts kk tpos) (.Call (.Name "zip" p) [a, b] [] pos) (mZip m n) :=
  PI.imp (RZ.pi_zipA hg hm (pa_cons ha (pa_cons hb pa_nil h1) hs) hs hpl) fun σ H R h => zip_run h
theorem di_revL (hg : Gl X "reversed") (hm : X.mg "reversed" = none) (ha : DE X W a m) (hs : starEach [a] X.env = (false, eval a X.env) :: starEach [] X.env := by rfl) : DI X W tg (.Call (.Name "reversed" p) [a] [] pos) (mRevL m) := PI.imp (RT.pi_revA hg hm ha hs) fun _ _ _ h => revL_run h
theorem di_revR {p2 p3 : Pos} (hg : Gl X "reversed") (hm : X.mg "reversed" = none) (hg2 : Gl X "range") (hm2 : X.mg "range" = none) (ha : DE X W a m) (hs2 : starEach [a] X.env = (false, eval a X.env) :: starEach [] X.env := by rfl)
    (hs : starEach [.Call (.Name "range" p2) [a] [] p3] X.env = (false, eval (.Call (.Name "range" p2) [a] [] p3) X.env) :: starEach [] X.env := by rfl) : DI X W tg (.Call (.Name "reversed" p) [.Call (.Name "range" p2) [a] [] p3] [] pos) (mRevR m) :=
  PI.imp (pi_revR hg hm (prg_1 hg2 hm2 ha hs2) hs) fun _ _ _ h => revR_run h
end
end DL
end
section
set_option Elab.async false
set_option linter.all false
set_option maxRecDepth 100000
/-! DL: extend, list of a text, sum, in by data, a text beside a dict. -/
namespace DL
open PySem PySem.Spec PyProof.Rows L2
/-! ### a text beside a dict -/
theorem dict_no_str (l : Addr) (es : Array DictEntry) (ep : Nat) (dd : Option Addr) (sl : Array (Option Value)) (b : Str) (u : Tok) :
    Meets (Builtin.«dict.__eq__» ⟨[.ref l, .str b u], []⟩) (fun _ R s => s.heap.get? l = some { cls := .type "dict", dict := dd, data := .dict es ep, slots := sl } ∧ R (.ok (.ret .notImplemented)) s) :=
  .of_wp fun prog w A R s h => by
    obtain ⟨hp, g, d, tk, os⟩ := s
    obtain ⟨hl, h⟩ := h
    have no := F.sub_str_dict
    wp_walk using wpAny_loadPart' hl
    exact ⟨_, rfl, h⟩
theorem str_no_dict (l : Addr) (es : Array DictEntry) (ep : Nat) (dd : Option Addr) (sl : Array (Option Value)) (b : Str) (u : Tok) :
    Meets (Builtin.«str.__eq__» ⟨[.str b u, .ref l], []⟩) (fun _ R s => s.heap.get? l = some { cls := .type "dict", dict := dd, data := .dict es ep, slots := sl } ∧ R (.ok (.ret .notImplemented)) s) :=
  .of_wp fun prog w A R s h => by
    obtain ⟨hp, g, d, tk, os⟩ := s
    obtain ⟨hl, h⟩ := h
    have no := F.sub_dict_str
    wp_walk using wpAny_loadPart' hl, wpAny_load hl
    exact ⟨_, rfl, h⟩
section
variable {G : Gd} {Kn H : Hp}
/-- x == {..}, x a text -/
def txD : List D → Option Val
  | [.str _, .dic _ _] => some (.bl false, 0)
  | _ => none
def rTxD : R2 := fun x y H Q => ∃ z a kvs, x = .str z ∧ y = .ref a ∧ Rd H a (.dK kvs) ∧ Q (.bl false) H
theorem op_txD {X : Cx} (hu : X.A.units + 64 < cLine) : OpR X (compareOp .Eq) rTxD := by
  intro pins s σ H x y v u Q I rx ry h
  obtain ⟨z, a, kvs, rfl, rfl, r, q⟩ := h
  obtain ⟨t, rfl⟩ := rx
  cases (show u = Value.ref a from ry)
  obtain ⟨_, _, _, _, o, es, ep, e1, e2, e3, _⟩ := (show ObjOk X.prog X.w H s.heap a (.dK kvs) from r.ok I.hok)
  obtain ⟨cls, dd, data, sl⟩ := o
  obtain ⟨c1, c2, c3⟩ := e2
  simp only at c1 c2 c3 e3
  subst c1 c2 c3 e3
  show wpAny _ _ (richCompare .Eq _ _) _ _ _
  refine SeqAt.rc_eq_decline_or (k := false) (typeIs_str s z t) ⟨_, e1, rfl⟩ (by decide) F.sub_dict_str F.slot_str_eq F.slot_dict_eq_refl ?_ ?_ (fun _ hq => wpAny_of_eq (rfl : isSame (.str z t) (.ref a) = pure false) hq) (.inr (by omega)) ⟨.bl false, H, I, rfl, q⟩
  · exact fun _ hq => call_meets F.slot_str_eq (typeIs_str s z t) F.entry_str_eq (F.args_str_eq_2 _ _) (str_no_dict a es ep none #[] z t) ⟨e1, hq⟩
  · exact fun _ hq => call_meets F.slot_dict_eq_refl ⟨_, e1, rfl⟩ F.entry_dict_eq (F.args_dict_eq_2 _ _) (dict_no_str a es ep none #[] z t) ⟨e1, hq⟩
theorem fit_txD : Fit2 txD G rTxD := by
  intro x y H Q h
  obtain ⟨Kn, d, e, r, le, t1, t2, hf, p⟩ := h.two
  unfold txD at hf
  split at hf
  · rename_i e0
    cases e0
    cases hf
    obtain ⟨b, us, rfl, r2, h2, _⟩ := t2.dic le
    exact ⟨_, b, _, t1.str, rfl, r2, p.val le (.bl _)⟩
  · cases hf
/-! ### in, by data -/
def inP (x c : D) : Option Bool :=
  match pd x, c with
  | some p, .lst ds => match pds ds with
    | some qs => if SeqAt.shaped p && SeqAt.shaped (.list qs) then some (qs.any fun z => PyData.eqv z p) else none
    | none => none
  | _, _ => none
def inPD (neg : Bool) : List D → Option Val
  | [x, c] => match inP x c with
    | some k => some (.bl (if neg then !k else k), 0)
    | none => none
  | _ => none
theorem inP_of (le : Le Kn H) {d e : D} {x y : V} {k : Bool} (t1 : Tp G Kn H d x) (t2 : Tp G Kn H e y) (h : inP d e = some k) : ∃ p qs, Dp G.K H x p ∧ Dp G.K H y (.list qs) ∧ SeqAt.shaped p = true ∧ SeqAt.shaped (.list qs) = true ∧ (qs.any fun z => PyData.eqv z p) = k := by
  unfold inP at h
  split at h
  · rename_i p ds e1
    split at h
    · rename_i qs e2
      split at h
      · rename_i hs
        cases h
        rw [Bool.and_eq_true] at hs
        exact ⟨p, qs, pd_fr (t1.fr le) e1, pd_fr (t2.fr le) (by simp only [pd, e2]), hs.1, hs.2, rfl⟩
      · cases h
    · cases h
  · cases h
theorem fit_inP : Fit2 (inPD false) G (L2.rInD G.K) := by
  intro x y H Q h
  obtain ⟨Kn, d, e, r, le, t1, t2, hf, p⟩ := h.two
  simp only [inPD] at hf
  split at hf
  · rename_i k ek
    cases hf
    obtain ⟨a, b, h1, h2, h3, h4, rfl⟩ := inP_of le t1 t2 ek
    exact ⟨a, b, h1, h2, h3, h4, p.val le (.bl _)⟩
  · cases hf
theorem fit_notInP : Fit2 (inPD true) G (L2.rNotInD G.K) := by
  intro x y H Q h
  obtain ⟨Kn, d, e, r, le, t1, t2, hf, p⟩ := h.two
  simp only [inPD] at hf
  split at hf
  · rename_i k ek
    cases hf
    obtain ⟨a, b, h1, h2, h3, h4, rfl⟩ := inP_of le t1 t2 ek
    exact ⟨a, b, h1, h2, h3, h4, p.val le (.bl _)⟩
  · cases hf
/-! ### sum -/
def intsD : List D → Option (List Int)
  | [] => some []
  | .int i :: ds => match intsD ds with
    | some is => some (i :: is)
    | none => none
  | _ => none
theorem ints_frs : ∀ {ds : List D} {vs : List V} {is : List Int}, Frs G H ds vs → intsD ds = some is → vs = is.map V.int
  | _, _, _, .nil, e => by cases e; rfl
  | _, _, _, .cons (d := d) (ds := ds) h t, e => by
    cases d with
    | int i =>
      simp only [intsD] at e
      cases e1 : intsD ds with
      | none => rw [e1] at e; cases e
      | some is =>
        rw [e1] at e
        cases e
        cases h
        rw [List.map_cons, ← ints_frs t e1]
    | _ => cases e
def sumD : List D → Option Val
  | [.lst ds] => match intsD ds with
    | some is => some (.int is.sum, 0)
    | none => none
  | _ => none
theorem fit_sum : FitN sumD G (rSum G.K) := by
  intro xs H Q ⟨Kn, ds, r, le, tps, hf, p⟩
  unfold sumD at hf
  split at hf
  · cases tps with
    | cons t1 tr =>
      cases tr
      split at hf
      · rename_i bs eb
        cases hf
        obtain ⟨a, vs, rfl, r1, f1⟩ := t1.lst le
        exact ⟨a, bs, rfl, .inl (by rw [← ints_frs f1 eb]; exact r1), p.val le (.int _)⟩
      · cases hf
  · cases hf
/-! ### list of a text -/
def lstrD : List D → Option Val
  | [.str x] => if x.cps.size ≤ sizeLine then some (.lst (signsD x), 1) else none
  | _ => none
def rLstr : List V → Hp → VK → Prop := fun xs H Q => ∃ x, xs = [.str x] ∧ x.cps.size ≤ sizeLine ∧ ∀ l, H l = none → Q (.ref l) (upd H l (.lst (x.cps.toList.map fun c => .str ⟨#[c]⟩)))
theorem vals_signs (x : Str) {acc : Array Value} (h : ItemsOf (SignAt x) acc x.cps.size) : Vals (x.cps.toList.map fun c => V.str ⟨#[c]⟩) acc.toList := by
  have go : ∀ (l : List Nat) (us : List Value), us.length = l.length → (∀ (i : Nat) (u : Value), us[i]? = some u → ∃ c t, l[i]? = some c ∧ u = Value.str ⟨#[c]⟩ t) → Vals (l.map fun c => V.str ⟨#[c]⟩) us := by
    intro l
    induction l with
    | nil =>
      intro us hl _
      cases us with
      | nil => exact .nil
      | cons _ _ => simp at hl
    | cons c l ih =>
      intro us hl hu
      cases us with
      | nil => simp at hl
      | cons u us =>
        obtain ⟨c', t, e, rfl⟩ := hu 0 u rfl
        cases e
        exact .cons ⟨t, rfl⟩ (ih us (by simpa using hl) fun i u e => by simpa using hu (i + 1) u (by simpa using e))
  refine go _ _ (by simp [h.1]) fun i u e => ?_
  obtain ⟨c, t, e1, e2⟩ := h.2 i u (by simpa using e)
  exact ⟨c, t, by simpa using e1, e2⟩
theorem call_lstr {X : Cx} (hc : X.calm = true) : CallR X (.type "list") rLstr := by
  intro pins s σ H xs us Q I r h
  obtain ⟨x, rfl, hz, q⟩ := h
  obtain ⟨u, rfl, t, rfl⟩ := vals1 r
  refine call_list_str (I.ok.hd hc) x t (fun h' tk acc c k hg hi => ?_) hz
  have hn : H s.heap.objs.size = none := I.hok.fresh (Nat.le_refl _)
  refine ⟨.ref s.heap.objs.size, _, I.laid (t' := tk) (o := .lst (x.cps.toList.map fun c => .str ⟨#[c]⟩)) k (Nat.le_refl _) ?_, rfl, q _ hn⟩
  exact ⟨by simpa using hz, acc.toList, c, vals_signs x hi, by simpa using hg⟩
theorem signs_frs (l : List Nat) : Frs G H (l.map fun c => D.str (oneSign c)) (l.map fun c => V.str ⟨#[c]⟩) := by
  induction l with
  | nil => exact .nil
  | cons c l ih => exact .cons (.str _) ih
theorem fit_lstr : FitN lstrD G rLstr := by
  intro xs H Q ⟨Kn, ds, r, le, tps, hf, p⟩
  unfold lstrD at hf
  split at hf
  · split at hf
    · cases hf
      cases tps with
      | cons t1 tr =>
        cases tr
        exact ⟨_, by rw [t1.str], by assumption, fun l hl => p.lst le hl (signs_frs _)⟩
    · cases hf
  · cases hf
/-! ### extend -/
def rExt (K : PySem.W.Frag) : V → List V → Hp → VK → Prop := fun x vs H Q => ∃ l b xs zs, x = .ref l ∧ vs = [.ref b] ∧ H l = some (.lst xs) ∧ (SqT K H b zs ∨ Rd H b (.lst zs)) ∧ xs.length + zs.length ≤ sizeLine ∧ Q .non (upd H l (.lst (xs ++ zs)))
theorem extend_tup (l : Addr) (items : Array Value) (n : Nat) (b : Addr) (more : Array Value) (n2 : Nat) (dd : Option Addr) (sl : Array (Option Value)) (h0 : ¬(!items.isEmpty && Builtin.List.listTooLong (items.size + more.size)) = true) (h1 : items.size ≤ sizeLine) (h2 : items.size + more.size ≤ sizeLine + 1) :
    Meets (Builtin.«list.extend» ⟨[.ref l, .ref b], []⟩) (fun _ R s => s.heap.get? l = some { cls := .type "list", dict := none, data := .seq items n, slots := #[] } ∧ s.heap.get? b = some { cls := .type "tuple", dict := dd, data := .seq more n2, slots := sl } ∧
      R (.ok (.ret Value.none)) { s with heap := s.heap.update l (Obj.mapSeq fun x => x ++ more), toks := s.toks }) :=
  .of_wp fun prog w A R s h => by
    obtain ⟨hp, g, d, tk, os⟩ := s
    obtain ⟨hl, hb, h⟩ := h
    have f1 := AutoSeq1.idx_int
    have f2 := AutoSeq1.sub_tuple_tuple
    have f3 := AutoSeq1.sub_list_list
    have f4 := AutoSeq1.sub_tuple_list
    have f5 := AutoSeq1.sub_list_tuple
    have hz : (items ++ more).size ≤ sizeLine + 1 := by rw [Array.size_append]; exact h2
    wp_walk using (wpAny_updateSeq hl rfl (hz := h1) (_hz' := hz)), wpAny_loadPart' hl, wpAny_loadPart' hb
    exact ⟨_, rfl, h⟩
theorem mt_ext {X : Cx} : MtR X "list.extend" (rExt X.K) := by
  intro pins s σ H x vs v us Q I rx rv h
  obtain ⟨l, b, xs, zs, rfl, rfl, hH, hB, hz, q⟩ := h
  cases rx
  obtain ⟨u, rfl, ru⟩ := vals1 rv
  cases ru
  obtain ⟨z, its, n, r, hl, e⟩ := I.lstM hH
  have fin : ∀ {its2 : List Value}, Vals zs its2 → EP X pins σ Q Value.none { s with heap := s.heap.update l (Obj.mapSeq fun x => x ++ its2.toArray), toks := s.toks } := fun r2 =>
    ⟨.non, _, I.lset (its' := its ++ _) hH e (by simp) (r.append r2) (by rw [List.length_append]; omega), rfl, q⟩
  have long : ∀ its2 : List Value, zs.length = its2.length → its.toArray.size + its2.toArray.size ≤ sizeLine ∧ ¬ (!its.toArray.isEmpty && Builtin.List.listTooLong (its.toArray.size + its2.toArray.size)) = true := fun its2 e2 => by
    have hs : its.toArray.size + its2.toArray.size ≤ sizeLine := by rw [List.size_toArray, List.size_toArray, ← hl, ← e2]; exact hz
    exact ⟨hs, by rw [notLongL hs, Bool.and_false]; exact Bool.false_ne_true⟩
  rcases hB with hB | hB
  · obtain ⟨its2, r2, ⟨⟨cls, dd, data, sl⟩, ho, hc, n2, hd⟩, _⟩ := I.tuple hB
    simp only at hc hd
    subst hc hd
    obtain ⟨hs, hg⟩ := long _ r2.length
    exact call_meets F.slot_list_extend ⟨_, e, rfl⟩ F.entry_list_extend (F.args_list_extend_2 _ _) (extend_tup l its.toArray n b its2.toArray n2 dd sl hg (by rw [List.size_toArray]; omega) (by omega)) ⟨e, ho, fin r2⟩
  · obtain ⟨_, its2, n2, r2, e2⟩ := (show ObjOk X.prog X.w H s.heap b (.lst zs) from hB.ok I.hok)
    obtain ⟨hs, hg⟩ := long _ r2.length
    exact call_meets F.slot_list_extend ⟨_, e, rfl⟩ F.entry_list_extend (F.args_list_extend_2 _ _) (AutoSeq1.list_extend_list_list_0 l its.toArray n b its2.toArray n2 hg (by rw [List.size_toArray]; omega) (by omega)) ⟨e, e2, fin r2⟩
def extD : D → List D → Option (D × D)
  | .lst xs, [.lst ys] => if xs.length + ys.length ≤ sizeLine then some (.lst (xs ++ ys), .non) else none
  | .lst xs, [.tup ys] => if xs.length + ys.length ≤ sizeLine then some (.lst (xs ++ ys), .non) else none
  | _, _ => none
theorem fit_ext : MutFit G extD (rExt G.K) := by
  intro Kn H a o d ds vs es ws d' r' Q le ha w fs fe h q
  unfold extD at h
  split at h
  · split at h <;> cases h
    rename_i hz
    cases w with
    | lst hl => cases fe with
      | cons f0 ft =>
        cases ft
        cases f0 with
        | @lst b _ us rd fs' => exact ⟨a, b, vs, us, rfl, rfl, ha, .inr (le.rd _ _ rd), by rw [hl, fs'.length]; exact hz, q _ _ _ _ (.lst (by simp [hl, fs'.length])) (fs.append fs') .non⟩
  · split at h <;> cases h
    rename_i hz
    cases w with
    | lst hl => cases fe with
      | cons f0 ft =>
        cases ft
        cases f0 with
        | @tup b _ us rd fs' => exact ⟨a, b, vs, us, rfl, rfl, ha, .inl (SqT.of (le.tp _ _ rd)), by rw [hl, fs'.length]; exact hz, q _ _ _ _ (.lst (by simp [hl, fs'.length])) (fs.append fs') .non⟩
  · cases h
end
end DL
end
section
set_option Elab.async false
set_option linter.all false
set_option maxRecDepth 100000
/-! DL: raise; try .. except X as e. -/
namespace DL
open PySem PySem.Spec PyProof.Rows L2
section
variable {G : Gd} {W : WX} {P : List Nat} {Kn H : Hp} {σ : L2.St} {ρ : Rho} {Lf : Nat → Ft}
/-- a slot is emptied -/
theorem SI.clear (S : SI G Kn H σ ρ Lf) (i : Nat) : SI G Kn H (σ.set i none) (ρ.set i none) (put Lf i No) := by
  have S1 := S.drop i
  refine ⟨S1.le, by simp [S.len], fun j d k e => ?_, S1.off, S1.dj, S1.kn, S1.pl⟩
  obtain ⟨v, hv, w⟩ := S1.at_ j d k e
  have hj : j ≠ i := by
    rintro rfl
    by_cases h : j < ρ.length
    · rw [List.getElem?_set_self h] at e; cases e
    · rw [List.getElem?_eq_none (by simpa using h)] at e; cases e
  exact ⟨v, by rw [List.getElem?_set_ne (Ne.symm hj)]; exact hv, w⟩
def sRaise (C : Str) : MS := fun ρ => .exc ⟨C, [], []⟩ ρ
/-- except C as i: hs tells which classes are met -/
def catchD (i : Nat) (hs : Str → Option Bool) (mh : MS) (x : Exn) (ρ : Rho) : SOut := match hs x.C with
  | some true => if i < ρ.length then match mh (ρ.set i (some (.opq, 0))) with
      | .nx ρ2 => .nx (ρ2.set i none)
      | .bk ρ2 => .bk (ρ2.set i none)
      | .ct ρ2 => .ct (ρ2.set i none)
      | .rt r ρ2 => .rt r ρ2
      | _ => .bad
    else .bad
  | some false => .exc x ρ
  | none => .bad
def sTryAs (i : Nat) (hs : Str → Option Bool) (ms mh : MS) : MS := fun ρ => match ms ρ with
  | .exc x ρ1 => catchD i hs mh x ρ1
  | o => o
end
section
variable {X : Cx} {W : WX} {P : List Nat}
theorem ds_raise {x m : Str} {j : Nat} {p p2 pos pos' : Pos} {C : Addr} {bmB : List Value} {B newId initId : String} (hc : X.calm = true) (tk : Takes X W) (F : ExcBaseFacts B newId initId bmB) (q : PySem.W.excIn X.K C bmB newId = true) (gC : X.mg x = some (.ref C)) (kC : PySem.W.keepIn X.K (.ref C) = true) (r : Raises X (.ref C)) (hg : Gl X x)
    (hd : (x == ("__debug__" : Str)) = false := by decide) : DS X W P (.Raise (some (.Call (.Name x p) [.Constant (.str m) j p2] [] pos)) none pos') (sRaise x) := PS.imp (ps_raise hc tk (pmk_own F q gC kC r hg hd)) fun D σ H h => by
  obtain ⟨Kn, ρ, Lf, S, o⟩ := h
  have o : SW (gd X) W P D Kn H (U Lf) σ (.exc ⟨x, [], []⟩ ρ) := o
  exact o.exc Kn H Lf (.ref C) none S ⟨C, gC, rfl, rfl⟩ .refl
/-- what is met, goes to the suite -/
theorem try_run {i : Nat} {hs : Str → Option Bool} {ms mh : MS} {c : Value} {D : Ends} {σ : L2.St} {H : Hp} (hP : i ∉ P) (hex : ∀ (x : Str) (b : Bool), hs x = some b → ∀ A, X.mg x = some (.ref A) → PySem.W.exmOne X.K (.ref A) c = some b) (h : TSd (gd X) W P (sTryAs i hs ms mh) D σ H) :
    TSd (gd X) (wAs X.K c i (fun _ _ _ => TSd (gd X) (fun _ _ _ _ => False) P mh) W D) P ms D σ H := by
  obtain ⟨Kn, ρ, Lf, S, o⟩ := h
  refine ⟨Kn, ρ, Lf, S, ?_⟩
  unfold sTryAs at o
  cases e : ms ρ with
  | nx ρ1 => rw [e] at o; exact o
  | bk ρ1 => rw [e] at o; exact o
  | ct ρ1 => rw [e] at o; exact o
  | rt r ρ1 => rw [e] at o; exact o
  | bad => rw [e] at o; exact o
  | exc x ρ1 =>
    rw [e] at o
    simp only [catchD] at o
    intro Kn1 H1 σ1 Lf1 cls dx S1 xr t1 kp
    obtain ⟨A, gA, rfl, xd⟩ := xr
    cases eh : hs x.C with
    | none => rw [eh] at o; exact o.elim
    | some b =>
      rw [eh] at o
      refine ⟨b, hex _ _ eh A gA, fun hb a ha => ?_, fun hb => ?_⟩
      · subst hb
        simp only at o
        split at o
        · rename_i hi
          have hs1 : i < σ1.length := by rw [S1.len]; exact hi
          have S2 := S1.set (i := i) (d := .opq) (k := 0) (v := .ref a) (L := No) hi hs1 ⟨.opq a, fun _ z => z⟩ (fun _ z => z.elim) (fun _ z => z.elim)
          have t2 : Tr Kn H (U Lf) Kn1 H1 (U (put Lf1 i No)) := t1.less fun a z => U_drop z
          have kp2 : Kp P σ (σ1.set i (some (.ref a))) := kp.trans (Kp.set hP)
          refine ⟨Kn1, _, _, S2, ?_⟩
          have nxt : ∀ {F : L2.St → Hp → Prop} {ρ2 : Rho}, (∀ Kn' H' σ' Lf', SI (gd X) Kn' H' σ' (ρ2.set i none) Lf' → Tr Kn H (U Lf) Kn' H' (U Lf') → Kp P σ σ' → F σ' H') →
              ∀ Kn' H' σ' Lf', SI (gd X) Kn' H' σ' ρ2 Lf' → Tr Kn1 H1 (U (put Lf1 i No)) Kn' H' (U Lf') → Kp P (σ1.set i (some (.ref a))) σ' → F (σ'.set i none) H' := fun f Kn' H' σ' Lf' S' t' k' =>
            f Kn' H' _ _ (S'.clear i) ((t2.trans t').less fun a z => U_drop z) ((kp2.trans k').trans (Kp.set hP))
          cases em : mh (ρ1.set i (some (.opq, 0))) with
          | nx ρ2 => rw [em] at o; exact nxt o
          | bk ρ2 => rw [em] at o; exact nxt o
          | ct ρ2 => rw [em] at o; exact nxt o
          | rt r ρ2 =>
            rw [em] at o
            exact fun Kn' H' σ' Lf' v M S' w' s' k' t' kp' => o Kn' H' σ' Lf' v M S' w' s' k' (t2.trans t') (kp2.trans kp')
          | exc _ _ => rw [em] at o; exact o.elim
          | bad => rw [em] at o; exact o.elim
        · exact o.elim
      · subst hb
        exact o Kn1 H1 σ1 Lf1 _ dx S1 ⟨A, gA, rfl, xd⟩ t1 kp
theorem ds_tryAs {x n : Str} {c : Value} {i : Nat} {body suite : List Stmt} {b₀ : Stmt} {np pos pos' : Pos} {hs : Str → Option Bool} {ms mh : MS} (h1 : X.stack = X.env :: X.outer) (h2 : X.env.frame = some X.env.locals) (hN : X.N.Nodup) (hi : X.N[i]? = some n) (hl : X.env.kindOf n = some .local) (hc : Names X x c) (tk : Takes X W) (hP : i ∉ P)
    (hex : ∀ (x : Str) (b : Bool), hs x = some b → ∀ A, X.mg x = some (.ref A) → PySem.W.exmOne X.K (.ref A) c = some b)
    (hb : ∀ (W' : WX) (pn : List (Addr × Obj)) (xe : Value → Shared → Prop), Takes (X.tr pn xe) W' → DSs (X.tr pn xe) W' P body ms)
    (hsu : ∀ (a : Addr) (oe : Obj) (pn : List (Addr × Obj)), DSs (X.suite a ((a, oe) :: pn)) (fun _ _ _ _ => False) P (b₀ :: suite) mh) :
    DS X W P (.Try body [.ExceptHandler (some (.Name x np)) (some n) (b₀ :: suite) pos'] [] [] pos) (sTryAs i hs ms mh) :=
  PS.imp (ps_try_as (tb := fun W' => TSd (gd X) W' P ms) (ts := fun _ _ _ => TSd (gd X) (fun _ _ _ _ => False) P mh) h1 h2 hN hi hl hc tk (fun W' pn xe tk' _ => hb W' pn xe tk') fun a oe cls d pn _ _ => hsu a oe pn) fun D σ H h => try_run hP hex h
end
end DL
end
section
set_option Elab.async false
set_option linter.all false
set_option maxRecDepth 100000
/-! DL: sets of texts and integers. -/
namespace DL
open PySem PySem.Spec PyProof.Rows L2
def keyV : Value → L2.Key
  | .int k _ => .inl k
  | .str x _ => .inr x
  | _ => .inl 0
theorem keyV_of {k : L2.Key} {v : Value} (h : keyIs k v = true) : keyV v = k := by
  rcases keyIs_shape h with ⟨i, t, rfl, rfl⟩ | ⟨x, t, rfl, rfl⟩ <;> rfl
theorem scan_of {k : L2.Key} {v : Value} (h : keyIs k v = true) : v.scannable = true := by
  rcases keyIs_shape h with ⟨i, t, rfl, rfl⟩ | ⟨x, t, rfl, rfl⟩ <;> rfl
def GoodM (w : World) (e : Int × Value) : Prop := keyIs (keyV e.2) e.2 = true ∧ e.1 = keyH w (keyV e.2)
def keysM (es : Array (Int × Value)) : List L2.Key := es.toList.map fun e => keyV e.2
/-- a set at a: its members ks -/
structure SetD (w : World) (h : Heap) (a : Addr) (ks : List L2.Key) (o : Obj) (es : Array (Int × Value)) (ep : Nat) (t : SetTable) : Prop where
  get : h.get? a = some o
  ex : o.ExactSet
  dat : o.data = .set es ep t
  good : ∀ e ∈ es.toList, GoodM w e
  perm : (keysM es).Perm ks
  nd : ks.Nodup
  few : es.size < scanBound
  fits : t.fits es.size = true
  ris : Ris t.place.toList
  led : w.params.followText "set-order" = true ∨ t.led = true
def SetM (w : World) (h : Heap) (a : Addr) (ks : List L2.Key) : Prop := ∃ o es ep t, SetD w h a ks o es ep t
def addK (ks : List L2.Key) (k : L2.Key) : List L2.Key := if hasG ks k = true then ks else ks ++ [k]
theorem hasG_iff {ks : List L2.Key} {k : L2.Key} : hasG ks k = true ↔ k ∈ ks := by
  unfold hasG
  rw [List.any_eq_true]
  constructor
  · rintro ⟨x, hx, e⟩
    rw [← of_decide_eq_true e]
    exact hx
  · intro h
    exact ⟨k, h, decide_eq_true rfl⟩
theorem SetM.keep {w : World} {h h' : Heap} {a : Addr} {ks : List L2.Key} (R : SetM w h a ks) (k : ∀ o, h.get? a = some o → h'.get? a = some o) : SetM w h' a ks := by
  obtain ⟨o, es, ep, t, d⟩ := R
  exact ⟨o, es, ep, t, k o d.get, d.ex, d.dat, d.good, d.perm, d.nd, d.few, d.fits, d.ris, d.led⟩
section
variable {P : Program} {w : World} {A : Around} {E : Value → Shared → Prop} {s : Shared} {a : Addr} {ks : List L2.Key}
theorem SetD.elems {h : Heap} {o : Obj} {es : Array (Int × Value)} {ep : Nat} {t : SetTable} (d : SetD w h a ks o es ep t) : ElemsOf (mixKind P w) es.toList := fun e he => ⟨⟨keyV e.2, (d.good e he).1, (d.good e he).2⟩, scan_of (d.good e he).1⟩
theorem SetD.size {h : Heap} {o : Obj} {es : Array (Int × Value)} {ep : Nat} {t : SetTable} (d : SetD w h a ks o es ep t) : es.size = ks.length := by
  have := d.perm.length_eq
  simpa [keysM] using this
/-- what follows the laying of a new member -/
theorem setM_tail {g : Bool → Sem Unit} (hg : ∀ (b : Bool) (s₁ : Shared) (Q' : Unit → Shared → Prop), Q' () s₁ → wpAny (model P w) A (g b) Q' E s₁) {o : Obj} {es : Array (Int × Value)} {ep : Nat} {t : SetTable} (ho : s.heap.get? a = some o) (hex : o.ExactSet) (hd : o.data = .set es ep t)
    {es1 : Array (Int × Value)} {t2 : SetTable} {ks' : List L2.Key} (g1 : ∀ e ∈ es1.toList, GoodM w e) (p1 : (keysM es1).Perm ks') (n1 : ks'.Nodup) (hb1 : es1.size < scanBound) (hf2 : t2.fits es1.size = true) (hr : Ris t2.place.toList) (hl : w.params.followText "set-order" = true ∨ t2.led = true) {dm : Bool} {R : Option Bool → Shared → Prop}
    (hR : ∀ h', Heap.SameBut a s.heap h' → SetM w h' a ks' → R (some true) { s with heap := h' }) :
    wpAny (model P w) A (do
        storeSet a es1 t2
        if (!dm && t2.tooFull) = true then do
            g (relayAll t2 es1 (SetTable.grown es1.size)).2.2
            storeSet a (relayAll t2 es1 (SetTable.grown es1.size)).1 (relayAll t2 es1 (SetTable.grown es1.size)).2.1
            pure (some true)
          else pure (some true)) R E s := by
  have at1 := store_at (es' := es1) (t' := t2) ho hd
  have b1 := Heap.SameBut.update s.heap a (Obj.putSet es1 t2)
  refine wpAny_bind (wpAny_storeSet_of ho hd ?_ (fits_of_scanBound hb1))
  split
  · have q1 := relayAll_perm t2 es1 (SetTable.grown es1.size)
    have q2 := relayAll_fits t2 es1 (SetTable.grown es1.size)
    have q3 := relayAll_ris t2 es1 (SetTable.grown es1.size)
    have q4 := relayAll_led t2 es1 (SetTable.grown es1.size)
    revert q1 q2 q3 q4
    generalize relayAll t2 es1 (SetTable.grown es1.size) = Z
    obtain ⟨es2, t3, gave⟩ := Z
    intro q1 q2 q3 q4
    dsimp only at q1 q2 q3 q4 ⊢
    have z2 : es2.size = es1.size := by simpa using q1.length_eq
    have b2 : es2.size < scanBound := z2 ▸ hb1
    refine wpAny_bind (hg _ _ _ (wpAny_bind (wpAny_storeSet_of at1 rfl ?_ (fits_of_scanBound b2))))
    have at2 := store_at (es' := es2) (t' := t3) at1 rfl
    exact wpAny_pure (hR _ (b1.trans (Heap.SameBut.update _ a _)) ⟨_, es2, _, t3, at2, hex, rfl, fun e he => g1 e (q1.mem_iff.mp he), (q1.map _).trans p1, n1, b2, q2, q3, hl.imp (fun z => z) fun z => q4 ▸ z⟩)
  · exact wpAny_pure (hR _ b1 ⟨_, es1, _, t2, at1, hex, rfl, g1, p1, n1, hb1, hf2, hr, hl⟩)
/-- a member more -/
theorem setM_add {k : L2.Key} {v : Value} {Q : Bool → Shared → Prop} (R : SetM w s.heap a ks) (room : ks.length + 1 < scanBound) (hk : keyIs k v = true) (hQ : ∀ b h', Heap.SameBut a s.heap h' → SetM w h' a (addK ks k) → Q b { s with heap := h' }) : wpAny (model P w) A (setAddHashed a v (keyH w k)) Q E s := by
  obtain ⟨o, es, ep, t, d⟩ := id R
  have el : ElemsOf (mixKind P w) es.toList := d.elems
  have sc := scan_of hk
  have isk : (mixKind P w).is k v = true := hk
  unfold setAddHashed setAddHashedIn
  refine wpAny_holding (wpAny_bind (wpAny_setState_of d.get d.dat d.fits ?_))
  dsimp only
  rw [byScan_of sc d.few el]
  simp only [↓reduceIte]
  unfold setAddByScan
  refine wpAny_bind ?_
  refine wpAny_bind (wpAny_rule ?_)
  refine wpAny_bind (wpAny_setScan_of (knd := mixKind P w) isk d.get d.dat d.fits el ?_)
  have mem : k ∈ ks ↔ ∃ e ∈ es.toList, keyIs k e.2 = true := by
    rw [← d.perm.mem_iff, keysM, List.mem_map]
    constructor
    · rintro ⟨e, he, rfl⟩
      exact ⟨e, he, (d.good e he).1⟩
    · rintro ⟨e, he, q⟩
      exact ⟨e, he, keyV_of q⟩
  cases hfi : List.findIdx? (fun e => (mixKind P w).is k e.2) es.toList with
  | some j =>
    dsimp only
    obtain ⟨hj, pj, _⟩ := List.findIdx?_eq_some_iff_getElem.mp hfi
    have km : k ∈ ks := mem.mpr ⟨_, List.getElem_mem hj, pj⟩
    have q := hQ false s.heap (Heap.SameBut.refl a s.heap) (by unfold addK; rw [if_pos (hasG_iff.mpr km)]; exact R)
    exact wpAny_pure (wpAny_pure q)
  | none =>
    dsimp only
    have km : k ∉ ks := fun z => by
      obtain ⟨e, he, q⟩ := mem.mp z
      have c := List.findIdx?_eq_none_iff.mp hfi e he
      have q' : (mixKind P w).is k e.2 = true := q
      rw [q'] at c
      cases c
    have gw : ∀ (b : Bool) {s₁ : Shared} {Q' : Unit → Shared → Prop}, Q' () s₁ → wpAny (model P w) A (match b with | true => rule "set.scan.the-table-gave-way" | false => pure ()) Q' E s₁ := by
      intro b s₁ Q' q
      cases b
      · exact wpAny_pure q
      · exact wpAny_rule q
    have q1 := layNew_perm t es (keyH w k) v
    have q2 := layNew_fits t es (keyH w k) v
    have q3 := layNew_ris t es (keyH w k) v d.ris
    have q4 := layNew_led t es (keyH w k) v
    revert q1 q2 q3 q4
    show _ → _ → _ → _ → wpAny _ _ (match layNew t es (keyH w k) v with | (es, t, wasDummy, gave) => _) _ _ _
    generalize layNew t es (keyH w k) v = Z
    obtain ⟨es1, t1, dm, gave⟩ := Z
    intro q1 q2 q3 q4
    dsimp only at q1 q2 q3 q4 ⊢
    rw [Array.toList_push] at q1
    have pc : es1.toList.Perm ((keyH w k, v) :: es.toList) := q1.trans (List.perm_append_singleton _ _)
    have pk : (keysM es1).Perm (addK ks k) := by
      unfold addK
      rw [if_neg fun z => km (hasG_iff.mp z)]
      have e1 := pc.map fun e => keyV e.2
      simp only [List.map_cons, keyV_of hk] at e1
      exact e1.trans ((d.perm.cons k).trans (List.perm_append_singleton _ _).symm)
    have g1 : ∀ e ∈ es1.toList, GoodM w e := fun e he => by
      rcases List.mem_cons.mp (pc.mem_iff.mp he) with z | z
      · rw [z]
        exact ⟨by rw [keyV_of hk]; exact hk, by rw [keyV_of hk]⟩
      · exact d.good e z
    have n1 : (addK ks k).Nodup := by
      unfold addK
      rw [if_neg fun z => km (hasG_iff.mp z)]
      exact (List.perm_append_singleton k ks).symm.nodup_iff.mp (List.nodup_cons.mpr ⟨km, d.nd⟩)
    have z1 : es1.size = ks.length + 1 := by
      have := pc.length_eq
      simp only [Array.length_toList, List.length_cons] at this
      rw [this, d.size]
    have b1 : es1.size < scanBound := by rw [z1]; exact room
    have l1 : w.params.followText "set-order" = true ∨ t1.led = true := d.led.imp (fun z => z) fun z => by rw [q4]; exact z
    have fin : ∀ h', Heap.SameBut a s.heap h' → SetM w h' a (addK ks k) → Q true { s with heap := h' } := fun h' sb r => hQ true h' sb r
    refine wpAny_bind (gw _ ?_)
    split
    · refine wpAny_bind ?_
      rw [hashByValue_scannable 8 sc]
      refine wpAny_pure ?_
      refine setM_tail (fun b s₁ Q' q => by cases b <;> first | exact wpAny_pure q | exact wpAny_rule q) d.get d.ex d.dat g1 pk n1 b1 ?_ ?_ ?_ fun h' sb r => ?_
      · first | (split <;> first | exact q2 | exact SetTable.fits_plain_off q2) | exact q2
      · first | (split <;> exact q3) | exact q3
      · first | (split <;> exact l1) | exact l1
      · dsimp only
        exact wpAny_pure (fin h' sb r)
    · refine wpAny_bind (wpAny_pure ?_)
      simp only [↓reduceIte]
      refine setM_tail (fun b s₁ Q' q => by cases b <;> first | exact wpAny_pure q | exact wpAny_rule q) d.get d.ex d.dat g1 pk n1 b1 q2 q3 l1 fun h' sb r => ?_
      dsimp only
      exact wpAny_pure (fin h' sb r)
end
end DL
end
section
set_option Elab.async false
set_option linter.all false
set_option maxRecDepth 100000
set_option maxHeartbeats 3200000
/-! DL: set(xs) of texts and integers. -/
namespace DL
open PySem PySem.Spec PyProof.Rows L2
def dedK (ks : List L2.Key) : List L2.Key := ks.foldl addK []
theorem dedK_snoc (ks : List L2.Key) (k : L2.Key) : dedK (ks ++ [k]) = addK (dedK ks) k := by unfold dedK; rw [List.foldl_append]; rfl
theorem addK_len (ks : List L2.Key) (k : L2.Key) : (addK ks k).length ≤ ks.length + 1 := by
  unfold addK
  split <;> simp
theorem dedK_len (ks : List L2.Key) : (dedK ks).length ≤ ks.length := by
  have go : ∀ (ks acc : List L2.Key), (ks.foldl addK acc).length ≤ acc.length + ks.length := by
    intro ks
    induction ks with
    | nil => intro acc; simp
    | cons k ks ih =>
      intro acc
      have h1 := ih (addK acc k)
      have h2 := addK_len acc k
      simp only [List.foldl_cons, List.length_cons]
      omega
  have := go ks []
  simpa [dedK] using this
abbrev emptyO (w : World) : Obj := { cls := .type "set", dict := none, data := .set #[] 0 (.fresh 0 0 (!w.params.followText "set-order")) }
theorem setM_empty {w : World} {h : Heap} {a : Addr} (ho : h.get? a = some (emptyO w)) : SetM w h a [] := by
  refine ⟨_, #[], 0, _, ho, ⟨rfl, rfl, rfl⟩, rfl, fun e he => ?_, ?_, List.nodup_nil, by decide, by rfl, List.Pairwise.nil, ?_⟩
  · simp at he
  · simp [keysM]
  · show _ ∨ (!w.params.followText "set-order") = true
    cases w.params.followText "set-order"
    · exact .inr rfl
    · exact .inl rfl
section
variable {P : Program} {w : World} {A : Around} {E : Value → Shared → Prop} {s : Shared}
theorem setM_loop {I : Addr} {fp wr : List Addr} {G : Array GenState → Array GenState → Prop} {n : Nat} {Pv : Nat → Value → Prop} {St : Nat → Shared → Prop} {R : Result → Shared → Prop} (W : WalksS P w A.in1 I fp wr G n Pv St) (S : Addr) (hSf : S ∉ fp) (ks : List L2.Key) (hn : n = ks.length) (room : ks.length + 1 < scanBound)
    (val : ∀ i v, Pv i v → ∃ k, ks[i]? = some k ∧ keyIs k v = true) : ∀ (m i : Nat) (s : Shared), n - i = m → i ≤ n → St i s → SetM w s.heap S (dedK (ks.take i)) → (∀ s', Moved (S :: wr) G s s' → SetM w s'.heap S (dedK ks) → R (.ok (.ret .none)) s') →
      codeAny (model P w) A (.builtin "set.update.loop" ⟨[.ref S, .ref I], []⟩) R s := by
  have apart : S ∉ wr := fun z => hSf (W.sub _ z)
  have wide : ∀ b ∈ wr, b ∈ S :: wr := fun b z => List.mem_cons_of_mem _ z
  intro m
  induction m with
  | zero =>
    intro i s hm hi st mem hR
    have hin : i = n := by omega
    subst hin
    refine codeAny_builtin F.entry_set_update_loop ?_
    rw [Around.under_plainId F.plain_set_update_loop _]
    show wpAny _ A.in1 (pyNext (.ref I) >>= _) _ _ s
    refine wpAny_bind (W.done s _ _ st fun s' mv => ?_)
    show wpAny _ A.in1 (ret Value.none) _ _ s'
    rw [List.take_of_length_le (by omega)] at mem
    exact wpAny_pure (hR s' (mv.mono wide) (mem.keep fun o e => mv.heap S o apart e))
  | succ m ih =>
    intro i s hm hi st mem hR
    have lt : i < n := by omega
    refine codeAny_builtin F.entry_set_update_loop ?_
    rw [Around.under_plainId F.plain_set_update_loop _]
    show wpAny _ A.in1 (pyNext (.ref I) >>= _) _ _ s
    refine wpAny_bind (W.item i s _ _ lt st fun v s' hv st' mv => ?_)
    obtain ⟨k, ek, hk⟩ := val i v hv
    have mem' : SetM w s'.heap S (dedK (ks.take i)) := mem.keep fun o e => mv.heap S o apart e
    show wpAny _ A.in1 (holding [v] (setAdd S v) >>= _) _ _ s'
    refine wpAny_bind (wpAny_holding ?_)
    unfold setAdd
    refine wpAny_holding ?_
    refine wpAny_bind ((mixKind P w).pyHash (k := k) hk ?_)
    have r1 : (dedK (ks.take i)).length + 1 < scanBound := by
      have := dedK_len (ks.take i)
      simp only [List.length_take] at this
      omega
    refine setM_add (s := { s' with toks := s'.toks + 1 }) mem' r1 hk fun b h' sb mem2 => ?_
    have e3 : ks.take (i + 1) = ks.take i ++ [k] := by rw [List.take_add_one, ek]; rfl
    have mem3 : SetM w h' S (dedK (ks.take (i + 1))) := by rw [e3, dedK_snoc]; exact mem2
    refine wpAny_pure ⟨plainId_quiet F.plain_set_update_loop _, ih (i + 1) _ (by omega) lt (W.frame _ s' _ _ st' (Nat.le_succ _) fun c hc o e => ?_) mem3 fun s'' mv2 mem4 => ?_⟩
    · rw [sb.2 c fun z => hSf (z ▸ hc)]
      exact e
    · refine hR s'' (Moved.trans W.gtrans ((mv.mono wide).then_heap (Nat.le_succ _) fun c o hc e => ?_) mv2) mem4
      rw [sb.2 c fun z => hc (z ▸ List.mem_cons_self)]
      exact e

theorem call_setM_list {l : Addr} {items : Array Value} (ks : List L2.Key) {Q : Value → Shared → Prop} (nh : A.handled = none) (hl : s.heap.IsList l items) (hit : PySem.Paired (fun k v => keyIs k v = true) ks items.toList) (room : ks.length + 1 < scanBound)
    (hQ : ∀ (h' : Heap) (tk : Nat), SetM w h' s.heap.objs.size (dedK ks) → (∀ b o, s.heap.get? b = some o → h'.get? b = some o) → Q (.ref s.heap.objs.size) { s with heap := h', toks := tk }) : wpAny (model P w) A (call (.type "set") [.ref l]) Q E s := by
  have plen : ∀ {ks : List L2.Key} {us : List Value}, PySem.Paired (fun k v => keyIs k v = true) ks us → us.length = ks.length ∧ ∀ (i : Nat) (v : Value), us[i]? = some v → ∃ k, ks[i]? = some k ∧ keyIs k v = true := by
    intro ks us pr
    induction pr with
    | nil => exact ⟨rfl, fun i v e => by simp at e⟩
    | cons h _ ih =>
      refine ⟨by simp [ih.1], fun i v e => ?_⟩
      cases i with
      | zero => simp at e; subst e; exact ⟨_, rfl, h⟩
      | succ i => simpa using ih.2 i v (by simpa using e)
  obtain ⟨pl, pg⟩ := plen hit
  have isz : items.size = ks.length := by simpa using pl
  obtain ⟨c, tl, mro⟩ := F.called_set.mro
  have made := F.called_set.made
  have sub := F.called_set.sub
  refine wpAny_call (codeAny_of_tree ?_)
  show wpAny _ _ (callAny (.type "set") _) _ _ _
  refine wpAny_pure ⟨Code.quiet_builtin _ (by decide +kernel), codeAny_builtin F.entry_type_call ?_⟩
  rw [Around.under_plain (weight_type_call_type "set" [.ref l] []) rfl]
  have k1 := F.called_set.notType
  have k2 := F.called_set.canCreate
  have k3 := F.typeCall_set_1 (.ref l)
  repeat (any_goals (first | assumption | wp_step))
  refine codeAny_mono (code_set_led1 (.ref l) (E := E) (Q₁ := fun obj s₁ => obj = .ref s.heap.objs.size ∧ s₁ = { s with heap := s.heap.push (emptyO w) }) ⟨rfl, rfl⟩) fun r s₁ hr => ?_
  match r, hr with
  | .error e, hr => exact hr
  | .ok .next, hr => exact hr.elim
  | .ok .brk, hr => exact hr.elim
  | .ok .cont, hr => exact hr.elim
  | .ok (.ret obj), hr =>
    obtain ⟨rfl, rfl⟩ := hr
    have gS : (s.heap.push (emptyO w)).get? s.heap.objs.size = some (emptyO w) := Heap.get?_push_size _ rfl
    have tS : Shared.TypeIs { s with heap := s.heap.push (emptyO w) } (.ref s.heap.objs.size) "set" := ⟨_, gS, rfl⟩
    have k4 := F.called_set.init.lookup
    have k5 := F.called_set.init.bind (.ref s.heap.objs.size)
    repeat (any_goals (first | assumption | wp_step))
    refine codeAny_mono (codeAny_call_builtin (R := wants (fun r s₂ => r = .none ∧ ∃ h' tk, s₂ = { s with heap := h', toks := tk } ∧ SetM w h' s.heap.objs.size (dedK ks) ∧ ∀ b o, s.heap.get? b = some o → h'.get? b = some o) E) F.called_set.init.plain F.entry_set_init (check_set_init_1 tS ?_)) fun r₂ s₂ hr₂ => ?_
    · obtain ⟨ol, hol, hcl, nl, hdl⟩ := hl
      obtain ⟨ocls, odict, odata, oslots⟩ := ol
      simp only at hcl hdl
      subst hcl hdl
      have hol' : (s.heap.push (emptyO w)).get? l = some { cls := .type "list", dict := odict, data := .seq items nl, slots := oslots } := Heap.get?_push_of_some _ hol
      have k6 := F.sub_list_set
      have k7 := F.sub_list_frozenset
      have k8 : (Value.type "list" == Value.type "dict") = false := by decide
      have hl1 : (s.heap.push (emptyO w)).IsList l items := ⟨_, hol', rfl, nl, rfl⟩
      unfold Builtin.«set.__init__» noKeywords Builtin.Frozenset.updateFrom
      generalize hPI : pyIter = PI
      wp_walk
      subst hPI
      refine wpAny_pyIter_list hl1 (wpAny_bind (wpAny_runValue ?_))
      have below : l < s.heap.objs.size := Heap.lt_size hol
      have nh3 : A.in1.in1.in1.handled = none := by simp [nh]
      have e1 : (s.heap.push (emptyO w)).objs.size = s.heap.objs.size + 1 := Heap.size_push ..
      have neI : l ≠ (s.heap.push (emptyO w)).objs.size := by rw [e1]; exact Nat.ne_of_lt (Nat.lt_succ_of_lt below)
      have neS : s.heap.objs.size ∉ [(s.heap.push (emptyO w)).objs.size, l] := by
        rw [e1]
        simp only [List.mem_cons, List.not_mem_nil, or_false, not_or]
        exact ⟨Nat.ne_of_lt (Nat.lt_succ_self _), Nat.ne_of_gt below⟩
      refine setM_loop ((Walks.list nh3 _ l neI items).toS) s.heap.objs.size neS ks isz room (fun i v hv => pg i v (by rw [Array.getElem?_toList]; exact hv)) (items.size - 0) 0 _ (by omega) (Nat.zero_le _)
        ⟨⟨_, Heap.get?_push_size _ rfl, rfl, rfl⟩, (hl1.push _)⟩ (setM_empty (Heap.get?_push_of_some _ gS)) fun s' mv mem => ?_
      obtain ⟨h', g2, d', tk', os'⟩ := s'
      obtain rfl : g2 = s.gens := mv.gens
      obtain rfl : d' = s.drawn := mv.drawn
      obtain rfl : os' = s.os := mv.os
      show wpAny _ _ _ _ _ _
      refine wpAny_pure ?_
      show wpAny _ _ (ret Value.none) _ _ _
      refine wpAny_pure ⟨rfl, h', tk', rfl, mem, fun b o e => ?_⟩
      have lt : b < s.heap.objs.size := Heap.lt_size e
      refine mv.heap b o ?_ (Heap.get?_push_of_some _ (Heap.get?_push_of_some _ e))
      rw [e1]
      simp only [List.mem_cons, List.not_mem_nil, or_false, not_or]
      exact ⟨Nat.ne_of_lt lt, Nat.ne_of_lt (Nat.lt_succ_of_lt lt)⟩
    · match r₂, hr₂ with
      | .error e, hr₂ => exact hr₂
      | .ok .next, hr₂ => exact hr₂.elim
      | .ok .brk, hr₂ => exact hr₂.elim
      | .ok .cont, hr₂ => exact hr₂.elim
      | .ok (.ret r), hr₂ =>
        obtain ⟨rfl, h', tk, rfl, mem, kp⟩ := hr₂
        repeat (any_goals (first | assumption | wp_step))
        exact hQ _ _ mem kp

theorem call_setM_tuple {l : Addr} {items : Array Value} (ks : List L2.Key) {Q : Value → Shared → Prop} (nh : A.handled = none) (hl : s.heap.IsTuple l items) (hit : PySem.Paired (fun k v => keyIs k v = true) ks items.toList) (room : ks.length + 1 < scanBound)
    (hQ : ∀ (h' : Heap) (tk : Nat), SetM w h' s.heap.objs.size (dedK ks) → (∀ b o, s.heap.get? b = some o → h'.get? b = some o) → Q (.ref s.heap.objs.size) { s with heap := h', toks := tk }) : wpAny (model P w) A (call (.type "set") [.ref l]) Q E s := by
  have plen : ∀ {ks : List L2.Key} {us : List Value}, PySem.Paired (fun k v => keyIs k v = true) ks us → us.length = ks.length ∧ ∀ (i : Nat) (v : Value), us[i]? = some v → ∃ k, ks[i]? = some k ∧ keyIs k v = true := by
    intro ks us pr
    induction pr with
    | nil => exact ⟨rfl, fun i v e => by simp at e⟩
    | cons h _ ih =>
      refine ⟨by simp [ih.1], fun i v e => ?_⟩
      cases i with
      | zero => simp at e; subst e; exact ⟨_, rfl, h⟩
      | succ i => simpa using ih.2 i v (by simpa using e)
  obtain ⟨pl, pg⟩ := plen hit
  have isz : items.size = ks.length := by simpa using pl
  obtain ⟨c, tl, mro⟩ := F.called_set.mro
  have made := F.called_set.made
  have sub := F.called_set.sub
  refine wpAny_call (codeAny_of_tree ?_)
  show wpAny _ _ (callAny (.type "set") _) _ _ _
  refine wpAny_pure ⟨Code.quiet_builtin _ (by decide +kernel), codeAny_builtin F.entry_type_call ?_⟩
  rw [Around.under_plain (weight_type_call_type "set" [.ref l] []) rfl]
  have k1 := F.called_set.notType
  have k2 := F.called_set.canCreate
  have k3 := F.typeCall_set_1 (.ref l)
  repeat (any_goals (first | assumption | wp_step))
  refine codeAny_mono (code_set_led1 (.ref l) (E := E) (Q₁ := fun obj s₁ => obj = .ref s.heap.objs.size ∧ s₁ = { s with heap := s.heap.push (emptyO w) }) ⟨rfl, rfl⟩) fun r s₁ hr => ?_
  match r, hr with
  | .error e, hr => exact hr
  | .ok .next, hr => exact hr.elim
  | .ok .brk, hr => exact hr.elim
  | .ok .cont, hr => exact hr.elim
  | .ok (.ret obj), hr =>
    obtain ⟨rfl, rfl⟩ := hr
    have gS : (s.heap.push (emptyO w)).get? s.heap.objs.size = some (emptyO w) := Heap.get?_push_size _ rfl
    have tS : Shared.TypeIs { s with heap := s.heap.push (emptyO w) } (.ref s.heap.objs.size) "set" := ⟨_, gS, rfl⟩
    have k4 := F.called_set.init.lookup
    have k5 := F.called_set.init.bind (.ref s.heap.objs.size)
    repeat (any_goals (first | assumption | wp_step))
    refine codeAny_mono (codeAny_call_builtin (R := wants (fun r s₂ => r = .none ∧ ∃ h' tk, s₂ = { s with heap := h', toks := tk } ∧ SetM w h' s.heap.objs.size (dedK ks) ∧ ∀ b o, s.heap.get? b = some o → h'.get? b = some o) E) F.called_set.init.plain F.entry_set_init (check_set_init_1 tS ?_)) fun r₂ s₂ hr₂ => ?_
    · obtain ⟨ol, hol, hcl, nl, hdl⟩ := hl
      obtain ⟨ocls, odict, odata, oslots⟩ := ol
      simp only at hcl hdl
      subst hcl hdl
      have hol' : (s.heap.push (emptyO w)).get? l = some { cls := .type "tuple", dict := odict, data := .seq items nl, slots := oslots } := Heap.get?_push_of_some _ hol
      have k6 := F.sub_tuple_set
      have k7 := F.sub_tuple_frozenset
      have k8 : (Value.type "tuple" == Value.type "dict") = false := by decide
      have hl1 : (s.heap.push (emptyO w)).IsTuple l items := ⟨_, hol', rfl, nl, rfl⟩
      unfold Builtin.«set.__init__» noKeywords Builtin.Frozenset.updateFrom
      generalize hPI : pyIter = PI
      wp_walk
      subst hPI
      refine wpAny_pyIter_tuple hl1 (wpAny_bind (wpAny_runValue ?_))
      have below : l < s.heap.objs.size := Heap.lt_size hol
      have nh3 : A.in1.in1.in1.handled = none := by simp [nh]
      have e1 : (s.heap.push (emptyO w)).objs.size = s.heap.objs.size + 1 := Heap.size_push ..
      have neI : l ≠ (s.heap.push (emptyO w)).objs.size := by rw [e1]; exact Nat.ne_of_lt (Nat.lt_succ_of_lt below)
      have neS : s.heap.objs.size ∉ [(s.heap.push (emptyO w)).objs.size, l] := by
        rw [e1]
        simp only [List.mem_cons, List.not_mem_nil, or_false, not_or]
        exact ⟨Nat.ne_of_lt (Nat.lt_succ_self _), Nat.ne_of_gt below⟩
      refine setM_loop ((Walks.tuple nh3 _ l neI items).toS) s.heap.objs.size neS ks isz room (fun i v hv => pg i v (by rw [Array.getElem?_toList]; exact hv)) (items.size - 0) 0 _ (by omega) (Nat.zero_le _)
        ⟨⟨_, Heap.get?_push_size _ rfl, rfl, rfl⟩, (hl1.push _)⟩ (setM_empty (Heap.get?_push_of_some _ gS)) fun s' mv mem => ?_
      obtain ⟨h', g2, d', tk', os'⟩ := s'
      obtain rfl : g2 = s.gens := mv.gens
      obtain rfl : d' = s.drawn := mv.drawn
      obtain rfl : os' = s.os := mv.os
      show wpAny _ _ _ _ _ _
      refine wpAny_pure ?_
      show wpAny _ _ (ret Value.none) _ _ _
      refine wpAny_pure ⟨rfl, h', tk', rfl, mem, fun b o e => ?_⟩
      have lt : b < s.heap.objs.size := Heap.lt_size e
      refine mv.heap b o ?_ (Heap.get?_push_of_some _ (Heap.get?_push_of_some _ e))
      rw [e1]
      simp only [List.mem_cons, List.not_mem_nil, or_false, not_or]
      exact ⟨Nat.ne_of_lt lt, Nat.ne_of_lt (Nat.lt_succ_of_lt lt)⟩
    · match r₂, hr₂ with
      | .error e, hr₂ => exact hr₂
      | .ok .next, hr₂ => exact hr₂.elim
      | .ok .brk, hr₂ => exact hr₂.elim
      | .ok .cont, hr₂ => exact hr₂.elim
      | .ok (.ret r), hr₂ =>
        obtain ⟨rfl, h', tk, rfl, mem, kp⟩ := hr₂
        repeat (any_goals (first | assumption | wp_step))
        exact hQ _ _ mem kp
end
end DL
end
section
set_option Elab.async false
set_option linter.all false
set_option maxRecDepth 100000
/-! DL: len(set(xs)), sorted(xs), sorted(set(xs)). -/
namespace DL
open PySem PySem.Spec PyProof.Rows L2
/-! ### the order of texts -/
theorem lt_irrefl : ∀ a : List Nat, ltCps a a = false
  | [] => rfl
  | x :: xs => by
    unfold ltCps
    simp [lt_irrefl xs]
theorem lt_trans : ∀ a b c : List Nat, ltCps a b = true → ltCps b c = true → ltCps a c = true
  | _, _, [], h, h' => by
    rename_i a b
    cases b <;> simp [ltCps] at h'
  | _, [], z :: zs, h, h' => by
    rename_i a
    cases a <;> simp [ltCps] at h
  | [], y :: ys, z :: zs, h, h' => by simp [ltCps]
  | x :: xs, y :: ys, z :: zs, h, h' => by
    simp only [ltCps, Bool.or_eq_true, Bool.and_eq_true, decide_eq_true_eq, beq_iff_eq] at h h' ⊢
    rcases h with h | ⟨rfl, h⟩
    · rcases h' with h' | ⟨rfl, h'⟩
      · exact .inl (by omega)
      · exact .inl h
    · rcases h' with h' | ⟨rfl, h'⟩
      · exact .inl h'
      · exact .inr ⟨rfl, lt_trans xs ys zs h h'⟩
theorem lt_total : ∀ a b : List Nat, ltCps a b = false → ltCps b a = false → a = b
  | [], [], _, _ => rfl
  | [], _ :: _, h, _ => by simp [ltCps] at h
  | _ :: _, [], _, h => by simp [ltCps] at h
  | x :: xs, y :: ys, h, h' => by
    simp only [ltCps, Bool.or_eq_false_iff, Bool.and_eq_false_iff, decide_eq_false_iff_not, beq_eq_false_iff_ne] at h h'
    have e : x = y := by omega
    subst e
    rw [lt_total xs ys (h.2.resolve_left fun z => z rfl) (h'.2.resolve_left fun z => z rfl)]
def leS (a b : Str) : Bool := !ltCps b.cps.toList a.cps.toList
theorem leS_total (a b : Str) : leS a b = true ∨ leS b a = true := by
  unfold leS
  cases h : ltCps b.cps.toList a.cps.toList with
  | false => exact .inl rfl
  | true =>
    cases h' : ltCps a.cps.toList b.cps.toList with
    | false => exact .inr rfl
    | true => have := lt_trans _ _ _ h h'; rw [lt_irrefl] at this; cases this
theorem leS_antisymm {a b : Str} (h : leS a b = true) (h' : leS b a = true) : a = b := by
  unfold leS at h h'
  have e := lt_total a.cps.toList b.cps.toList (by simpa using h') (by simpa using h)
  cases a
  cases b
  simp only at e
  congr 1
  exact Array.ext' e
theorem leS_trans {a b c : Str} (h : leS a b = true) (h' : leS b c = true) : leS a c = true := by
  unfold leS at h h' ⊢
  simp only [Bool.not_eq_true'] at h h' ⊢
  cases q : ltCps c.cps.toList a.cps.toList with
  | false => rfl
  | true =>
    cases q2 : ltCps a.cps.toList b.cps.toList with
    | true => rw [lt_trans _ _ _ q q2] at h'; cases h'
    | false =>
      have e := lt_total _ _ q2 h
      rw [e] at q
      rw [q] at h'
      cases h'
theorem rising_pair : ∀ {p : Str} {l : List Str}, risingS p l = true → (p :: l).Pairwise fun a b => leS a b = true
  | p, [], _ => by simp
  | p, x :: l, h => by
    have h' : leS p x = true ∧ risingS x l = true := by simpa [risingS, leS] using h
    have ih := rising_pair h'.2
    refine List.pairwise_cons.mpr ⟨fun y hy => ?_, ih⟩
    rcases List.mem_cons.mp hy with rfl | hy
    · exact h'.1
    · exact leS_trans h'.1 ((List.pairwise_cons.mp ih).1 y hy)
theorem sorted_pair {l : List Str} (h : sortedS l = true) : l.Pairwise fun a b => leS a b = true := by
  cases l with
  | nil => exact List.Pairwise.nil
  | cons p l => exact rising_pair h
/-- texts in order -/
def insS (x : Str) : List Str → List Str
  | [] => [x]
  | y :: ys => if leS x y = true then x :: y :: ys else y :: insS x ys
def sortS : List Str → List Str
  | [] => []
  | x :: xs => insS x (sortS xs)
theorem insS_perm (x : Str) : ∀ ys : List Str, (insS x ys).Perm (x :: ys)
  | [] => List.Perm.refl _
  | y :: ys => by
    unfold insS
    split
    · exact List.Perm.refl _
    · exact ((insS_perm x ys).cons y).trans (List.Perm.swap x y ys)
theorem sortS_perm : ∀ xs : List Str, (sortS xs).Perm xs
  | [] => List.Perm.refl _
  | x :: xs => (insS_perm x (sortS xs)).trans ((sortS_perm xs).cons x)
theorem insS_pair (x : Str) : ∀ {ys : List Str}, ys.Pairwise (fun a b => leS a b = true) → (insS x ys).Pairwise fun a b => leS a b = true
  | [], _ => by simp [insS]
  | y :: ys, h => by
    obtain ⟨h1, h2⟩ := List.pairwise_cons.mp h
    unfold insS
    split
    · rename_i hx
      exact List.pairwise_cons.mpr ⟨fun z hz => (List.mem_cons.mp hz).elim (fun e => e ▸ hx) fun hz => leS_trans hx (h1 z hz), h⟩
    · rename_i hx
      have hy : leS y x = true := (leS_total x y).resolve_left hx
      exact List.pairwise_cons.mpr ⟨fun z hz => (List.mem_cons.mp ((insS_perm x ys).mem_iff.mp hz)).elim (fun e => e ▸ hy) (h1 z), insS_pair x h2⟩
theorem sortS_pair : ∀ xs : List Str, (sortS xs).Pairwise fun a b => leS a b = true
  | [] => List.Pairwise.nil
  | x :: xs => insS_pair x (sortS_pair xs)
theorem pair_unique : ∀ {xs ys : List Str}, xs.Perm ys → xs.Pairwise (fun a b => leS a b = true) → ys.Pairwise (fun a b => leS a b = true) → xs = ys
  | [], ys, p, _, _ => (List.nil_perm.mp p).symm
  | x :: xs, [], p, _, _ => by simpa using p.length_eq
  | x :: xs, y :: ys, p, h, h' => by
    obtain ⟨a1, a2⟩ := List.pairwise_cons.mp h
    obtain ⟨b1, b2⟩ := List.pairwise_cons.mp h'
    have e : x = y := by
      rcases List.mem_cons.mp (p.mem_iff.mp (List.mem_cons_self ..)) with e | hx
      · exact e
      · rcases List.mem_cons.mp (p.mem_iff.mpr (List.mem_cons_self ..)) with e | hy
        · exact e.symm
        · exact leS_antisymm (a1 y hy) (b1 x hx)
    subst e
    rw [pair_unique ((List.perm_cons x).mp p) a2 b2]
theorem sortS_unique {xs ys : List Str} (p : ys.Perm xs) (h : sortedS ys = true) : ys = sortS xs := pair_unique (p.trans (sortS_perm xs).symm) (sorted_pair h) (sortS_pair xs)
theorem sortS_eq {xs ys : List Str} (p : ys.Perm xs) : sortS ys = sortS xs := pair_unique ((sortS_perm ys).trans (p.trans (sortS_perm xs).symm)) (sortS_pair ys) (sortS_pair xs)
/-! ### sets as things of the heap -/
def SetX (w : World) (a : Addr) (ks : List L2.Key) : HO := .ext fun h => SetM w h a ks
def keysOfD : List D → Option (List L2.Key)
  | [] => some []
  | d :: ds => match keyD d, keysOfD ds with
    | some k, some ks => some (k :: ks)
    | _, _ => none
section
variable {G : Gd} {Kn H : Hp}
theorem keysOf_frs : ∀ {ds : List D} {vs : List V} {ks : List L2.Key}, Frs G H ds vs → keysOfD ds = some ks → vs = ks.map kV
  | _, _, _, .nil, e => by cases e; rfl
  | _, _, _, .cons (d := d) (ds := ds) h t, e => by
    simp only [keysOfD] at e
    cases q1 : keyD d with
    | none => rw [q1] at e; cases e
    | some k =>
      cases q2 : keysOfD ds with
      | none => rw [q1, q2] at e; cases e
      | some ks =>
        rw [q1, q2] at e
        cases e
        rw [List.map_cons, ← keyD_fr h q1, ← keysOf_frs t q2]
theorem vals_keys {ks : List L2.Key} {us : List Value} (r : Vals (ks.map kV) us) : PySem.Paired (fun k v => keyIs k v = true) ks us := by
  induction ks generalizing us with
  | nil => cases r; exact .nil
  | cons k ks ih =>
    cases r with
    | cons h t =>
      refine .cons ?_ (ih t)
      cases k with
      | inl i => obtain ⟨t, rfl⟩ := h; exact keyIs_int i t
      | inr x => obtain ⟨t, rfl⟩ := h; exact keyIs_str x t
/-- set(xs) -/
def rSetM (K : PySem.W.Frag) (w : World) : List V → Hp → VK → Prop := fun xs H Q => ∃ l ks, xs = [.ref l] ∧ (SqL K H l (ks.map kV) ∨ SqT K H l (ks.map kV)) ∧ ks.length + 1 < scanBound ∧ ∀ a, H a = none → Q (.ref a) (upd H a (SetX w a (dedK ks)))
theorem cr_setM {X : Cx} (hc : X.calm = true) : CallR X (.type "set") (rSetM X.K X.w) := by
  intro pins s σ H xs us Q I r h
  obtain ⟨l, ks, rfl, hl, room, q⟩ := h
  obtain ⟨u, rfl, ru⟩ := vals1 r
  cases ru
  have fin : ∀ (h' : Heap) (tk : Nat), SetM X.w h' s.heap.objs.size (dedK ks) → (∀ b o, s.heap.get? b = some o → h'.get? b = some o) → EP X pins σ Q (.ref s.heap.objs.size) { s with heap := h', toks := tk } := fun h' tk m k =>
    ⟨.ref s.heap.objs.size, _, I.laid (t' := tk) (o := SetX X.w s.heap.objs.size (dedK ks)) k (Nat.le_refl _) ⟨m, let ⟨o, _, _, _, d⟩ := m; ⟨o, d.get⟩, fun h1 h2 x y => x.keep y⟩, rfl, q _ (I.hok.fresh (Nat.le_refl _))⟩
  rcases hl with hl | hl
  · obtain ⟨its, rv, pl, _⟩ := I.list hl
    exact call_setM_list ks (I.ok.hd hc) pl.isList (vals_keys rv) room fin
  · obtain ⟨its, rv, pl, _⟩ := I.tuple hl
    exact call_setM_tuple ks (I.ok.hd hc) pl (vals_keys rv) room fin
def rLenM (w : World) : List V → Hp → VK → Prop := fun xs H Q => ∃ a ks, xs = [.ref a] ∧ H a = some (SetX w a ks) ∧ Q (.int ks.length) H
theorem cr_lenM {X : Cx} : CallR X (.builtin "len") (rLenM X.w) := by
  intro pins s σ H xs us Q I r h
  obtain ⟨a, ks, rfl, ha, q⟩ := h
  obtain ⟨u, rfl, ru⟩ := vals1 r
  cases ru
  obtain ⟨o, es, ep, t, d⟩ := (show SetM X.w s.heap a ks from (I.hok a _ ha).1)
  have b : (es.size : Int) < 2 ^ 63 := by
    have := d.few
    unfold scanBound at this
    omega
  exact call_len_set d.get d.ex d.dat d.fits b ⟨.int es.size, H, I.tok _, ⟨_, rfl⟩, by rw [d.size]; exact q⟩
def rSortM (w : World) : List V → Hp → VK → Prop := fun xs H Q => ∃ a zs, xs = [.ref a] ∧ H a = some (SetX w a (zs.map Sum.inr)) ∧ ∀ p, H p = none → Q (.ref p) (upd H p (.lst ((sortS zs).map V.str)))
theorem cr_sortM {X : Cx} (hc : X.calm = true) : CallR X (.builtin "sorted") (rSortM X.w) := by
  intro pins s σ H xs us Q I r h
  obtain ⟨a, zs, rfl, ha, q⟩ := h
  obtain ⟨u, rfl, ru⟩ := vals1 r
  cases ru
  obtain ⟨o, es, ep, t, d⟩ := (show SetM X.w s.heap a (zs.map Sum.inr) from (I.hok a _ ha).1)
  refine Calls.call_function_entry kind_sorted plain_sorted entry_sorted (args_sorted1 _) ?_
  unfold Builtin.«sorted»
  refine wpAny_bind (m := checkCount "sorted" 1 1 _) (wpAny_pure ?_)
  refine wpAny_bind (collect_set (A := X.A.in1) (I.ok.hd hc) ⟨o, d.get, d.ex.1, d.dat⟩ d.fits d.few d.ris d.led fun s1 vs k1 z1 g1 o1 pm => ?_)
  have keys : (vs.map keyV).Perm (zs.map Sum.inr) := by
    have e := pm.map keyV
    rw [List.map_map] at e
    exact e.trans d.perm
  have texts : ∀ v, v ∈ vs → ∃ x t, v = Value.str x t := fun v hv => by
    obtain ⟨e, he, rfl⟩ := List.mem_map.mp (pm.mem_iff.mp hv)
    have hm : keyV e.2 ∈ zs.map Sum.inr := d.perm.mem_iff.mp (List.mem_map_of_mem (f := fun e => keyV e.2) he)
    obtain ⟨z, _, hz⟩ := List.mem_map.mp hm
    rcases keyIs_shape (d.good e he).1 with ⟨i, t, e1, e2⟩ | ⟨x, t, e1, e2⟩
    · rw [e1] at hz; cases hz
    · exact ⟨x, t, e2⟩
  have are := strsAre_map vs texts
  have pz : (vs.map strOf).Perm zs := by
    have e0 : vs.map keyV = (vs.map strOf).map Sum.inr := by
      rw [List.map_map]
      refine List.map_congr_left fun v hv => ?_
      obtain ⟨x, t, rfl⟩ := texts v hv
      rfl
    rw [e0] at keys
    have e1 := keys.map (fun k : L2.Key => match k with | .inr x => x | .inl _ => Str.empty)
    simpa [List.map_map, Function.comp_def] using e1
  have small : vs.length ≤ sizeLine := by
    have := pm.length_eq
    rw [this, List.length_map, Array.length_toList]
    exact fits_of_scanBound d.few
  refine wpAny_bind (wpAny_newList ?_ small)
  have gL : (s1.heap.push (seqObj "list" vs.toArray 0)).get? s1.heap.objs.size = some (seqObj "list" vs.toArray 0) := Heap.get?_push_size _ rfl
  refine wpAny_bind (wpAny_holding (wpAny_call_entry slot_list_sort ⟨_, gL, rfl⟩ entry_list_sort (list_sort_treeKAny strKind_oneLt gL are.keysOf (fun v₁ v₂ rest e => keyKind_strs (by rw [← e]; exact are)) small fun st' hp hs => ⟨_, rfl, ?_⟩) (args_list_sort _)))
  obtain ⟨ss, a1, a2, a3⟩ := sorted_out_str are hp hs
  have e1 : ss = sortS zs := sortS_unique (a2.trans pz) a3
  subst e1
  obtain ⟨c, gc⟩ := sortedHeap_at (vs := vs) (out := (arrOf st').map (·.2)) gL
  refine wpAny_pure ⟨_, rfl, ?_⟩
  have old : ∀ b u, s.heap.get? b = some u → (sortedHeap (s1.heap.push (seqObj "list" vs.toArray 0)) s1.heap.objs.size vs ((arrOf st').map (·.2))).get? b = some u := fun b u e => by
    have e' := k1 b u e
    have lt := Heap.lt_size e'
    rw [sortedHeap_old (Nat.ne_of_lt lt) (by rw [size_push']; exact Nat.lt_succ_of_lt lt)]
    exact Heap.get?_push_of_some _ e'
  have len : ((sortS zs).map V.str).length ≤ sizeLine := by rw [List.length_map, (sortS_perm zs).length_eq, ← pz.length_eq, List.length_map]; exact small
  have hn : H s1.heap.objs.size = none := I.hok.fresh z1
  obtain ⟨h1, g1', d1, t1, o1'⟩ := s1
  simp only at g1 o1
  subst g1 o1
  have ok : ObjOk X.prog X.w (upd H h1.objs.size (.lst ((sortS zs).map V.str))) (sortedHeap (h1.push (seqObj "list" vs.toArray 0)) h1.objs.size vs ((arrOf st').map (·.2))) h1.objs.size (.lst ((sortS zs).map V.str)) := ⟨len, _, c, vals_of_strs a1, gc⟩
  have J : Inv X pins σ (upd H h1.objs.size (.lst ((sortS zs).map V.str))) { s with heap := sortedHeap (h1.push (seqObj "list" vs.toArray 0)) h1.objs.size vs ((arrOf st').map (·.2)), gens := s.gens, drawn := d1, toks := t1 } :=
    I.call (ch := []) (Un.laid old z1 hn) (I.hok.laid old z1 ok) I.bare (fun _ z => nomatch z)
  exact ⟨.ref h1.objs.size, _, J, rfl, q _ hn⟩
/-- sorted(xs), texts -/
def rSortL (K : PySem.W.Frag) : List V → Hp → VK → Prop := fun xs H Q => ∃ a zs, xs = [.ref a] ∧ SqL K H a (zs.map V.str) ∧ ∀ p, H p = none → Q (.ref p) (upd H p (.lst ((sortS zs).map V.str)))
theorem cr_sortL {X : Cx} : CallR X (.builtin "sorted") (rSortL X.K) := by
  intro pins s σ H xs us Q I r h
  obtain ⟨a, zs, rfl, hl, q⟩ := h
  obtain ⟨u, rfl, ru⟩ := vals1 r
  cases ru
  obtain ⟨its, rv, pl, hz⟩ := I.list hl
  have hlen := rv.length
  rw [List.length_map] at hlen hz
  refine sorted_strsAny pl.isList rv.strs (by rw [← hlen]; exact hz) fun out ys h1 h2 h3 => ?_
  have e1 : ys = sortS zs := sortS_unique h2 h3
  subst e1
  obtain ⟨ep, he⟩ := sortedAll_at s.heap its out
  have len : ((sortS zs).map V.str).length ≤ sizeLine := by rw [List.length_map, (sortS_perm zs).length_eq]; exact hz
  exact ⟨.ref _, upd H (s.heap.objs.size + 1) (.lst ((sortS zs).map V.str)), I.laid (t' := s.toks) (fun _ _ => sortedAll_old) (Nat.le_succ _) ⟨len, out.toList, ep, vals_of_strs h1, he⟩, rfl, q _ (I.hok.fresh (Nat.le_succ _))⟩
end
end DL
end
section
set_option Elab.async false
set_option linter.all false
set_option maxRecDepth 100000
/-! DL: len(set(xs)), sorted(set(xs)), sorted(xs) by data. -/
namespace DL
open PySem PySem.Spec PyProof.Rows L2
section
variable {G : Gd} {Kn H : Hp}
theorem Post.past {r : Val} {Q : VK} (p : Post G Kn H r Q) (le : Le Kn H) {a : Addr} {o : HO} (e : H a = none) : Post G Kn (upd H a o) r Q := fun Kn' H' v L t le' w hk => p Kn' H' v L (((Tr.new le e).less (M := No) fun _ z => z.elim).trans t) le' w hk
def keysD' : D → Option (List L2.Key)
  | .lst ds => keysOfD ds
  | .tup ds => keysOfD ds
  | _ => none
def textsK : List L2.Key → Option (List Str)
  | [] => some []
  | .inr x :: ks => match textsK ks with
    | some xs => some (x :: xs)
    | none => none
  | _ => none
theorem textsK_map : ∀ {ks : List L2.Key} {xs : List Str}, textsK ks = some xs → ks = xs.map Sum.inr
  | [], _, e => by cases e; rfl
  | .inr x :: ks, xs, e => by
    simp only [textsK] at e
    cases q : textsK ks with
    | none => rw [q] at e; cases e
    | some ys =>
      rw [q] at e
      cases e
      rw [List.map_cons, ← textsK_map q]
  | .inl i :: ks, _, e => by cases e
theorem keys_of (le : Le Kn H) {d : D} {v : V} {ks : List L2.Key} (t : Tp G Kn H d v) (e : keysD' d = some ks) : ∃ l, v = .ref l ∧ (SqL G.K H l (ks.map kV) ∨ SqT G.K H l (ks.map kV)) := by
  cases d with
  | lst ds =>
    obtain ⟨a, vs, rfl, r, f⟩ := t.lst le
    have h := keysOf_frs f e
    subst h
    exact ⟨a, rfl, .inl (.inl r)⟩
  | tup ds =>
    obtain ⟨a, vs, rfl, r, _, f⟩ := t.tup le
    have h := keysOf_frs f e
    subst h
    exact ⟨a, rfl, .inr (SqT.of r)⟩
  | _ => cases e
def lenSetD : List D → Option Val
  | [d] => match keysD' d with
    | some ks => if ks.length + 1 < scanBound then some (.int (dedK ks).length, 0) else none
    | none => none
  | _ => none
def sortSetD : List D → Option Val
  | [d] => match keysD' d with
    | some ks => if ks.length + 1 < scanBound then match textsK (dedK ks) with
        | some xs => some (.lst ((sortS xs).map D.str), 1)
        | none => none
      else none
    | none => none
  | _ => none
def sortD : List D → Option Val
  | [.lst ds] => match strsD ds with
    | some xs => some (.lst ((sortS xs).map D.str), 1)
    | none => none
  | _ => none
theorem strs_fr : ∀ xs : List Str, Frs G H (xs.map D.str) (xs.map V.str)
  | [] => .nil
  | x :: xs => .cons (.str x) (strs_fr xs)
theorem fit_sort : FitN sortD G (rSortL G.K) := by
  intro xs H Q ⟨Kn, ds, r, le, tps, hf, p⟩
  unfold sortD at hf
  split at hf
  · cases tps with
    | cons t1 tr =>
      cases tr
      split at hf
      · rename_i zs ez
        cases hf
        obtain ⟨a, vs, rfl, r1, f1⟩ := t1.lst le
        exact ⟨a, zs, rfl, .inl (by rw [← strs_frs f1 ez]; exact r1), fun l hl => p.lst le hl (strs_fr _)⟩
      · cases hf
  · cases hf
end
section
variable {X : Cx} {W : WX} {a : Expr} {oa : Opn} {pos p p2 q : Pos}
theorem de_lenSet (hc : X.calm = true) (hg : Gl X "len") (hm : X.mg "len" = none) (hg2 : Gl X "set") (hm2 : X.mg "set" = none) (ha : DO X W a oa) (h1 : starEach [a] X.env = (false, eval a X.env) :: starEach [] X.env := by rfl)
    (h2 : starEach [.Call (.Name "set" p2) [a] [] q] X.env = (false, eval (.Call (.Name "set" p2) [a] [] q) X.env) :: starEach [] X.env := by rfl) (h3 : (backTo pos (starEach [] X.env)).any (·.1) = false := by rfl) (h4 : (backTo q (starEach [] X.env)).any (·.1) = false := by rfl) :
    DE X W (.Call (.Name "len" p) [.Call (.Name "set" p2) [a] [] q] [] pos) (opN [oa] lenSetD) :=
  PE.imp (pe_callB cr_lenM hg hm rfl (pa_cons (pe_callTy (cr_setM hc) hg2 hm2 rfl (pa_cons ha pa_nil h1) (by decide) (by decide) h1 h4) pa_nil h2) (by decide) (by decide) h2 h3) fun σ H Q h => TOd.mono (Q := fun v H' => Rdy (gd X) lenSetD [v] H' Q) (Q' := fun v H' => rSetM X.K X.w [v] H' fun x H2 => rLenM X.w [x] H2 Q) (fun v H1 z => by
    obtain ⟨Kn, d, r, le, t1, hf, p⟩ := z.one
    simp only [lenSetD] at hf
    · split at hf
      · rename_i ks ek
        split at hf
        · rename_i room
          cases hf
          obtain ⟨l, rfl, hl⟩ := keys_of le t1 ek
          exact ⟨l, ks, rfl, hl, room, fun b hb => ⟨b, _, rfl, upd_same, (p.past le hb).val (le.new hb) (.int _)⟩⟩
        · cases hf
      · cases hf) (opN_run h)
theorem de_sortSet (hc : X.calm = true) (hg : Gl X "sorted") (hm : X.mg "sorted" = none) (hg2 : Gl X "set") (hm2 : X.mg "set" = none) (ha : DO X W a oa) (h1 : starEach [a] X.env = (false, eval a X.env) :: starEach [] X.env := by rfl)
    (h2 : starEach [.Call (.Name "set" p2) [a] [] q] X.env = (false, eval (.Call (.Name "set" p2) [a] [] q) X.env) :: starEach [] X.env := by rfl) (h3 : (backTo pos (starEach [] X.env)).any (·.1) = false := by rfl) (h4 : (backTo q (starEach [] X.env)).any (·.1) = false := by rfl) :
    DE X W (.Call (.Name "sorted" p) [.Call (.Name "set" p2) [a] [] q] [] pos) (opN [oa] sortSetD) :=
  PE.imp (pe_callB (cr_sortM hc) hg hm rfl (pa_cons (pe_callTy (cr_setM hc) hg2 hm2 rfl (pa_cons ha pa_nil h1) (by decide) (by decide) h1 h4) pa_nil h2) (by decide) (by decide) h2 h3) fun σ H Q h => TOd.mono (Q := fun v H' => Rdy (gd X) sortSetD [v] H' Q) (Q' := fun v H' => rSetM X.K X.w [v] H' fun x H2 => rSortM X.w [x] H2 Q) (fun v H1 z => by
    obtain ⟨Kn, d, r, le, t1, hf, p⟩ := z.one
    simp only [sortSetD] at hf
    · split at hf
      · rename_i ks ek
        split at hf
        · rename_i room
          split at hf
          · rename_i xs ex
            cases hf
            obtain ⟨l, rfl, hl⟩ := keys_of le t1 ek
            refine ⟨l, ks, rfl, hl, room, fun b hb => ⟨b, xs, rfl, ?_, fun c hcn => ?_⟩⟩
            · rw [← textsK_map ex]
              exact upd_same
            · exact (p.past le hb).lst (le.new hb) hcn (strs_fr _)
          · cases hf
        · cases hf
      · cases hf) (opN_run h)
end
end DL
end
section
set_option Elab.async false
set_option linter.all false
set_option maxRecDepth 100000
/-! DL: short names of the rules. -/
namespace DL
open PySem PySem.Spec PyProof.Rows L2
section
variable {X : Cx} {W : WX} {a b c : Expr} {oa ob oc : Opn} {pos p : Pos} {k : Nat}
theorem Rm.u1 (hr : Rm k X.A) : X.A.units + 1 < cLine := by have := hr.rm.units; omega
theorem Rm.u64 (hr : Rm k X.A) : X.A.units + 64 < cLine := hr.rm.units
theorem Rm.u65 (hr : Rm k X.A) : X.A.units + 65 < cLine := by have := hr.rm.un; omega
theorem e_add (ha : DO X W a oa) (hb : DO X W b ob) : DE X W (.BinOp a .Add b pos) (opN [oa, ob] addD) := de_op op_addD fit_add ha hb
theorem e_sub (ha : DO X W a oa) (hb : DO X W b ob) : DE X W (.BinOp a .Sub b pos) (opN [oa, ob] subD) := de_op op_sub fit_sub ha hb
abbrev mulA : List D → Option Val := orF mulD repD
theorem e_mul (ha : DO X W a oa) (hb : DO X W b ob) : DE X W (.BinOp a .Mult b pos) (opN [oa, ob] mulA) := de_op (op_mulD.or op_repB) (fit_or2 fit_mul fit_repT) ha hb
theorem e_fdiv (ha : DO X W a oa) (hb : DO X W b ob) : DE X W (.BinOp a .FloorDiv b pos) (opN [oa, ob] fdivD) := de_op op_fdivW fit_fdiv ha hb
theorem e_mod (ha : DO X W a oa) (hb : DO X W b ob) : DE X W (.BinOp a .Mod b pos) (opN [oa, ob] modD) := de_op op_mod fit_mod ha hb
theorem e_pow (ha : DO X W a oa) (hb : DO X W b ob) : DE X W (.BinOp a .Pow b pos) (opN [oa, ob] powD) := de_op op_pow fit_pow ha hb
theorem e_neg (ha : DO X W a oa) : DE X W (.UnaryOp .USub a pos) (opN [oa] negD) := de_un un_neg fit_neg ha
theorem e_lt (ha : DO X W a oa) (hb : DO X W b ob) (hm : behindInMarks .Lt b = false := by rfl) : DE X W (.Compare a [.Lt] [b] pos) (opN [oa, ob] ltD) := de_cmp op_lt fit_cmp ha hb hm
theorem e_le (ha : DO X W a oa) (hb : DO X W b ob) (hm : behindInMarks .LtE b = false := by rfl) : DE X W (.Compare a [.LtE] [b] pos) (opN [oa, ob] leD) := de_cmp op_le fit_cmp ha hb hm
theorem e_gt (ha : DO X W a oa) (hb : DO X W b ob) (hm : behindInMarks .Gt b = false := by rfl) : DE X W (.Compare a [.Gt] [b] pos) (opN [oa, ob] gtD) := de_cmp op_gt fit_cmp ha hb hm
theorem e_ge (ha : DO X W a oa) (hb : DO X W b ob) (hm : behindInMarks .GtE b = false := by rfl) : DE X W (.Compare a [.GtE] [b] pos) (opN [oa, ob] geD) := de_cmp op_ge fit_cmp ha hb hm
abbrev eqA : List D → Option Val := orF (eqD false) txD
abbrev neA : List D → Option Val := eqD true
theorem e_eq (hr : Rm k X.A) (ha : DO X W a oa) (hb : DO X W b ob) (hm : behindInMarks .Eq b = false := by rfl) : DE X W (.Compare a [.Eq] [b] pos) (opN [oa, ob] eqA) := de_cmp ((op_eqA hr.u64).or (op_txD hr.u64)) (fit_or2 fit_eq fit_txD) ha hb hm
theorem e_ne (hr : Rm k X.A) (ha : DO X W a oa) (hb : DO X W b ob) (hm : behindInMarks .NotEq b = false := by rfl) : DE X W (.Compare a [.NotEq] [b] pos) (opN [oa, ob] neA) := de_cmp (op_neA hr.u64) fit_ne ha hb hm
abbrev inA : List D → Option Val := orF (inD false) (inPD false)
abbrev ninA : List D → Option Val := orF (inD true) (inPD true)
theorem e_in (hr : Rm k X.A) (ha : DO X W a oa) (hb : DO X W b ob) (hm : behindInMarks .In b = false := by rfl) : DE X W (.Compare a [.In] [b] pos) (opN [oa, ob] inA) := de_cmp ((DL.op_inD hr.u1).or (L2.op_inD hr.u65)) (fit_or2 fit_in fit_inP) ha hb hm
theorem e_nin (hr : Rm k X.A) (ha : DO X W a oa) (hb : DO X W b ob) (hm : behindInMarks .NotIn b = false := by rfl) : DE X W (.Compare a [.NotIn] [b] pos) (opN [oa, ob] ninA) := de_cmp ((DL.op_ninD hr.u1).or (op_notInD hr.u65)) (fit_or2 fit_in fit_notInP) ha hb hm
abbrev isA : List D → Option Val := orF (isD false) (isNoD false)
abbrev isntA : List D → Option Val := orF (isD true) (isNoD true)
theorem e_is (ha : DO X W a oa) (hb : DO X W b ob) (hm : behindInMarks .Is b = false := by rfl) : DE X W (.Compare a [.Is] [b] pos) (opN [oa, ob] isA) := de_cmp (op_isBl.or op_isN) (fit_or2 fit_is fit_isN) ha hb hm
theorem e_isnt (ha : DO X W a oa) (hb : DO X W b ob) (hm : behindInMarks .IsNot b = false := by rfl) : DE X W (.Compare a [.IsNot] [b] pos) (opN [oa, ob] isntA) := de_cmp (op_notBl.or op_notN) (fit_or2 fit_isnt fit_isntN) ha hb hm
theorem e_ix (hr : Rm k X.A) (ha : DO X W a oa) (hb : DO X W b ob) (hs : PlainIx b := by intro _ _; rfl) : DE X W (.Subscript a b pos) (opN [oa, ob] atD) := de_ix (ix_atD hr.u1) fit_at ha hb hs
theorem e_chain {f g : Int → Int → Bool} {op op' : CmpOp} (ho : OpR X (compareOp op) (rI0 fun i j => .bl (f i j))) (ho' : OpR X (compareOp op') (rI0 fun i j => .bl (g i j))) (ha : DO X W a oa) (hb : DO X W b ob) (hc : DO X W c oc) (hm : lastMarks [op, op'] [b, c] = false := by rfl) :
    DE X W (.Compare a [op, op'] [b, c] pos) (mChain f g oa ob oc) := de_chain ho ho' ha hb hc hm
abbrev fLt : Int → Int → Bool := fun i j => decide (i < j)
abbrev fLe : Int → Int → Bool := fun i j => decide (i ≤ j)
/-! calls of built-in functions with one argument -/
variable (hs : starEach [a] X.env = (false, eval a X.env) :: starEach [] X.env) (hpl : (backTo pos (starEach [] X.env)).any (·.1) = false)
theorem e_len (hg : Gl X "len") (hm : X.mg "len" = none) (ha : DO X W a oa) (hs : starEach [a] X.env = (false, eval a X.env) :: starEach [] X.env := by rfl) (hpl : (backTo pos (starEach [] X.env)).any (·.1) = false := by rfl) : DE X W (.Call (.Name "len" p) [a] [] pos) (opN [oa] lenD) := de_callB call_lenD' fit_len hg hm rfl (da_cons ha da_nil hs) (by decide) (by decide) hs hpl
theorem e_abs (hg : Gl X "abs") (hm : X.mg "abs" = none) (ha : DO X W a oa) (hs : starEach [a] X.env = (false, eval a X.env) :: starEach [] X.env := by rfl) (hpl : (backTo pos (starEach [] X.env)).any (·.1) = false := by rfl) : DE X W (.Call (.Name "abs" p) [a] [] pos) (opN [oa] absD) := de_callB call_abs fit_abs hg hm rfl (da_cons ha da_nil hs) (by decide) (by decide) hs hpl
theorem e_all (hc : X.calm = true) (hg : Gl X "all") (hm : X.mg "all" = none) (ha : DO X W a oa) (hs : starEach [a] X.env = (false, eval a X.env) :: starEach [] X.env := by rfl) (hpl : (backTo pos (starEach [] X.env)).any (·.1) = false := by rfl) : DE X W (.Call (.Name "all" p) [a] [] pos) (opN [oa] allD) := de_callB (cr_all hc) fit_all hg hm rfl (da_cons ha da_nil hs) (by decide) (by decide) hs hpl
theorem e_any (hc : X.calm = true) (hg : Gl X "any") (hm : X.mg "any" = none) (ha : DO X W a oa) (hs : starEach [a] X.env = (false, eval a X.env) :: starEach [] X.env := by rfl) (hpl : (backTo pos (starEach [] X.env)).any (·.1) = false := by rfl) : DE X W (.Call (.Name "any" p) [a] [] pos) (opN [oa] anyD) := de_callB (cr_any hc) fit_any hg hm rfl (da_cons ha da_nil hs) (by decide) (by decide) hs hpl
theorem e_sum (hc : X.calm = true) (hg : Gl X "sum") (hm : X.mg "sum" = none) (ha : DO X W a oa) (hs : starEach [a] X.env = (false, eval a X.env) :: starEach [] X.env := by rfl) (hpl : (backTo pos (starEach [] X.env)).any (·.1) = false := by rfl) : DE X W (.Call (.Name "sum" p) [a] [] pos) (opN [oa] sumD) := de_callB (cr_sum hc) fit_sum hg hm rfl (da_cons ha da_nil hs) (by decide) (by decide) hs hpl
theorem e_sorted (hg : Gl X "sorted") (hm : X.mg "sorted" = none) (ha : DO X W a oa) (hs : starEach [a] X.env = (false, eval a X.env) :: starEach [] X.env := by rfl) (hpl : (backTo pos (starEach [] X.env)).any (·.1) = false := by rfl) : DE X W (.Call (.Name "sorted" p) [a] [] pos) (opN [oa] sortD) := de_callB cr_sortL fit_sort hg hm rfl (da_cons ha da_nil hs) (by decide) (by decide) hs hpl
theorem e_repr (hr : Rm k X.A) (hg : Gl X "repr") (hm : X.mg "repr" = none) (ha : DO X W a oa) (hs : starEach [a] X.env = (false, eval a X.env) :: starEach [] X.env := by rfl) (hpl : (backTo pos (starEach [] X.env)).any (·.1) = false := by rfl) : DE X W (.Call (.Name "repr" p) [a] [] pos) (opN [oa] reprD) := de_callB (call_reprD hr) fit_repr hg hm rfl (da_cons ha da_nil hs) (by decide) (by decide) hs hpl
theorem e_int (hg : Gl X "int") (hm : X.mg "int" = none) (ha : DO X W a oa) (hs : starEach [a] X.env = (false, eval a X.env) :: starEach [] X.env := by rfl) (hpl : (backTo pos (starEach [] X.env)).any (·.1) = false := by rfl) : DE X W (.Call (.Name "int" p) [a] [] pos) (opN [oa] intD) := de_callTy call_int1 fit_int hg hm rfl (da_cons ha da_nil hs) (by decide) (by decide) hs hpl
theorem e_str (hg : Gl X "str") (hm : X.mg "str" = none) (ha : DO X W a oa) (hs : starEach [a] X.env = (false, eval a X.env) :: starEach [] X.env := by rfl) (hpl : (backTo pos (starEach [] X.env)).any (·.1) = false := by rfl) : DE X W (.Call (.Name "str" p) [a] [] pos) (opN [oa] strD) := de_callTy call_str_int fit_str hg hm rfl (da_cons ha da_nil hs) (by decide) (by decide) hs hpl
abbrev listA : List D → Option Val := orF listD lstrD
theorem e_list (hc : X.calm = true) (hg : Gl X "list") (hm : X.mg "list" = none) (ha : DO X W a oa) (hs : starEach [a] X.env = (false, eval a X.env) :: starEach [] X.env := by rfl) (hpl : (backTo pos (starEach [] X.env)).any (·.1) = false := by rfl) : DE X W (.Call (.Name "list" p) [a] [] pos) (opN [oa] listA) := de_callTy (CallR.or (call_listD' hc) (call_lstr hc)) (fit_orN fit_list fit_lstr) hg hm rfl (da_cons ha da_nil hs) (by decide) (by decide) hs hpl
theorem e_tuple (hg : Gl X "tuple") (hm : X.mg "tuple" = none) (ha : DO X W a oa) (hs : starEach [a] X.env = (false, eval a X.env) :: starEach [] X.env := by rfl) (hpl : (backTo pos (starEach [] X.env)).any (·.1) = false := by rfl) : DE X W (.Call (.Name "tuple" p) [a] [] pos) (opN [oa] tupleD) := de_callTy call_tuple_of fit_tuple hg hm rfl (da_cons ha da_nil hs) (by decide) (by decide) hs hpl
theorem e_dict (hc : X.calm = true) (hg : Gl X "dict") (hm : X.mg "dict" = none) (ha : DO X W a oa) (hs : starEach [a] X.env = (false, eval a X.env) :: starEach [] X.env := by rfl) (hpl : (backTo pos (starEach [] X.env)).any (·.1) = false := by rfl) : DE X W (.Call (.Name "dict" p) [a] [] pos) (opN [oa] dictD) := de_callTy (call_dictD' hc) fit_dict hg hm rfl (da_cons ha da_nil hs) (by decide) (by decide) hs hpl
end
end DL
end
section
set_option Elab.async false
set_option linter.all false
set_option maxRecDepth 100000
/-! DL: several targets by a tuple that is built (a target is a cell). -/
namespace DL
open PySem PySem.Spec PyProof.Rows L2
section
variable {X : Cx} {W : WX} {P : List Nat} {pos : Pos}
theorem gts_nm {K : PySem.W.Frag} : ∀ {is : List Nat} {vs : List V} {σ : L2.St} {H : Hp} {R : L2.St → Hp → Prop}, vs.length = is.length → R (setVs is vs σ) H → gTs K (is.map Tg.nm) vs σ H R
  | [], [], σ, H, R, _, r => ⟨rfl, by simpa [setVs] using r⟩
  | [], _ :: _, _, _, _, e, _ => by simp at e
  | _ :: _, [], _, _, _, e, _ => by simp at e
  | i :: is, v :: vs, σ, H, R, e, r => ⟨v, vs, rfl, gts_nm (is := is) (by simpa using e) r⟩
theorem count_nm : ∀ is : List Nat, Tg.count (is.map Tg.nm) = is.length
  | [] => rfl
  | i :: is => by simp [Tg.count, count_nm is]
theorem parT_run {is : List Nat} {ms : List ME} {D : Ends} {σ : L2.St} {H : Hp} (hl : is.length = ms.length) (hP : ∀ i ∈ is, i ∉ P) (h : TSd (gd X) W P (sPar is ms) D σ H) :
    TOs (gd X) W (ms.map Opn.ex) σ H fun vs H1 => vs.length = is.length ∧ ∀ p o, H1 p = none → D.nx (setVs is vs σ) (upd H1 p o) := by
  obtain ⟨Kn, ρ, Lf, S, o⟩ := h
  unfold sPar at o
  refine evMs_run S (fun e => by rw [e] at o; exact o) (fun x ρ' e => by rw [e] at o; exact o.exc) fun rs ρ' e vs F Kn' H' Lf' S' hv s' t' => ?_
  rw [e] at o
  simp only at o
  split at o
  · rename_i hi
    have hlr := evMs_len e
    obtain ⟨Lf2, S2, u⟩ := S'.sets (is := is) hv s' (by simpa [List.all_eq_true] using hi) (by omega)
    refine ⟨by have := hv.length; omega, fun p ob hp => ?_⟩
    have t0 : Tr Kn' H' No Kn' (upd H' p ob) No := (Tr.new S2.le hp).less fun _ z => z.elim
    have S3 := S2.past t0 (fun _ _ z => z) (S2.le.new hp)
    have t1 : Tr Kn H (U Lf) Kn' H' (U Lf2) := t'.less fun a z => (u a z).elim .inl .inr
    refine o Kn' _ _ Lf2 S3 (t1.trans ((t0.frame (U Lf2)).eqv (fun a => ⟨.inr, fun z => z.elim (fun z => z.elim) fun z => z⟩) fun a => ⟨.inr, fun z => z.elim (fun z => z.elim) fun z => z⟩)) (Kp.sets hP)
  · exact o.elim
theorem ds_parT {is : List Nat} {ms : List ME} {es tgs : List Expr} {kt k2 : Nat} {pt pt2 : Pos} (hc : X.calm = true) (ha : DA X W es (ms.map Opn.ex)) (hg : DGs X tgs (is.map Tg.nm)) (hl : is.length = ms.length := by rfl) (hz : is.length ≤ sizeLine := by decide) (hP : is.all (fun i => !P.contains i) = true := by rfl)
    (hs : swapsWithSole [.Tuple tgs kt pt] (.Tuple es k2 pt2) pos.line X.env = pure false := by rfl) (hw : swappedStores [.Tuple tgs kt pt] (.Tuple es k2 pt2) X.env = pure none := by rfl) (h1 : (assignEach [.Tuple tgs kt pt] X.env).map (·.2) = [assign (.Tuple tgs kt pt) X.env] := by rfl) :
    DS X W P (.Assign [.Tuple tgs kt pt] (.Tuple es k2 pt2) pos) (sPar is ms) :=
  PS.imp (ps_asg (pe_tup ha) (dg_tup hc hg) hs hw h1) fun D σ H h => TOs.mono (fun vs H1 q => by
    refine ⟨by rw [q.1]; exact hz, fun p hp => ?_⟩
    show gTup X.K (Tg.count (is.map Tg.nm)) (gTs X.K (is.map Tg.nm)) (.ref p) σ (upd H1 p (.tup vs)) D.nx
    exact ⟨p, vs, rfl, SqT.of upd_same, by rw [count_nm]; exact q.1, gts_nm q.1 (q.2 p _ hp)⟩) (parT_run hl (by simpa [List.all_eq_true] using hP) h)
end
end DL
end
section
set_option Elab.async false
set_option linter.all false
set_option maxRecDepth 100000
/-! DL: short names of the rules, tests and methods; functions by the head's facts. -/
namespace DL
open PySem PySem.Spec PyProof.Rows L2
section
variable {X : Cx} {W : WX} {a b c : Expr} {oa ob oc : Opn} {pos p : Pos} {k : Nat}
theorem t_lt (ha : DO X W a oa) (hb : DO X W b ob) (hm : behindInMarks .Lt b = false := by rfl) : DT X W (.Compare a [.Lt] [b] pos) (mB (opN [oa, ob] ltD)) := dt_cmpR op_lt fit_cmp ha hb hm
theorem t_le (ha : DO X W a oa) (hb : DO X W b ob) (hm : behindInMarks .LtE b = false := by rfl) : DT X W (.Compare a [.LtE] [b] pos) (mB (opN [oa, ob] leD)) := dt_cmpR op_le fit_cmp ha hb hm
theorem t_gt (ha : DO X W a oa) (hb : DO X W b ob) (hm : behindInMarks .Gt b = false := by rfl) : DT X W (.Compare a [.Gt] [b] pos) (mB (opN [oa, ob] gtD)) := dt_cmpR op_gt fit_cmp ha hb hm
theorem t_ge (ha : DO X W a oa) (hb : DO X W b ob) (hm : behindInMarks .GtE b = false := by rfl) : DT X W (.Compare a [.GtE] [b] pos) (mB (opN [oa, ob] geD)) := dt_cmpR op_ge fit_cmp ha hb hm
theorem t_eq (hr : Rm k X.A) (ha : DO X W a oa) (hb : DO X W b ob) (hm : behindInMarks .Eq b = false := by rfl) : DT X W (.Compare a [.Eq] [b] pos) (mB (opN [oa, ob] eqA)) := dt_cmpR ((op_eqA hr.u64).or (op_txD hr.u64)) (fit_or2 fit_eq fit_txD) ha hb hm
theorem t_ne (hr : Rm k X.A) (ha : DO X W a oa) (hb : DO X W b ob) (hm : behindInMarks .NotEq b = false := by rfl) : DT X W (.Compare a [.NotEq] [b] pos) (mB (opN [oa, ob] neA)) := dt_cmpR (op_neA hr.u64) fit_ne ha hb hm
theorem t_in (hr : Rm k X.A) (ha : DO X W a oa) (hb : DO X W b ob) (hm : behindInMarks .In b = false := by rfl) : DT X W (.Compare a [.In] [b] pos) (mB (opN [oa, ob] inA)) := dt_cmpR ((DL.op_inD hr.u1).or (L2.op_inD hr.u65)) (fit_or2 fit_in fit_inP) ha hb hm
theorem t_nin (hr : Rm k X.A) (ha : DO X W a oa) (hb : DO X W b ob) (hm : behindInMarks .NotIn b = false := by rfl) : DT X W (.Compare a [.NotIn] [b] pos) (mB (opN [oa, ob] ninA)) := dt_cmpR ((DL.op_ninD hr.u1).or (op_notInD hr.u65)) (fit_or2 fit_in fit_notInP) ha hb hm
theorem t_is (ha : DO X W a oa) (hb : DO X W b ob) (hm : behindInMarks .Is b = false := by rfl) : DT X W (.Compare a [.Is] [b] pos) (mB (opN [oa, ob] isA)) := dt_cmpR (op_isBl.or op_isN) (fit_or2 fit_is fit_isN) ha hb hm
theorem t_isnt (ha : DO X W a oa) (hb : DO X W b ob) (hm : behindInMarks .IsNot b = false := by rfl) : DT X W (.Compare a [.IsNot] [b] pos) (mB (opN [oa, ob] isntA)) := dt_cmpR (op_notBl.or op_notN) (fit_or2 fit_isnt fit_isntN) ha hb hm
/-! methods of lists -/
theorem e_append {i : Nat} {o : Expr} {apos : Pos} (ho : DO X W o (.nm i)) (ha : DO X W a oa) (hx : [oa].all Opn.isEx = true := by rfl) (hbase : attributeBase o "append" X.env (eval o X.env) = eval o X.env := by rfl) (hline : (apos.endLine == pos.line) = true := by rfl) (hs : starEach [a] X.env = (false, eval a X.env) :: starEach [] X.env := by rfl)
    (hpl : (backTo pos (starEach [] X.env)).any (·.1) = false := by rfl) (hfew : ((((backTo pos (starEach [a] X.env)).all fun x => !x.1) && (backToKw pos (keywordEach [] X.env)).all fun x => x.1.isSome) && decide (([a] : List Expr).length + ([] : List Keyword).length + (if ([] : List Keyword).isEmpty = true then 0 else 1) < 30)) = true := by rfl) :
    DE X W (.Call (.Attribute o "append" apos) [a] [] pos) (mMut i isLst [oa] appD) := de_lm PySem.F.slot_list_append PySem.F.type_list_append (by exact mt_append) fit_app ho (da_cons ha da_nil hs) hx hbase hline hs hpl hfew
theorem e_extend {i : Nat} {o : Expr} {apos : Pos} (ho : DO X W o (.nm i)) (ha : DO X W a oa) (hx : [oa].all Opn.isEx = true := by rfl) (hbase : attributeBase o "extend" X.env (eval o X.env) = eval o X.env := by rfl) (hline : (apos.endLine == pos.line) = true := by rfl) (hs : starEach [a] X.env = (false, eval a X.env) :: starEach [] X.env := by rfl)
    (hpl : (backTo pos (starEach [] X.env)).any (·.1) = false := by rfl) (hfew : ((((backTo pos (starEach [a] X.env)).all fun x => !x.1) && (backToKw pos (keywordEach [] X.env)).all fun x => x.1.isSome) && decide (([a] : List Expr).length + ([] : List Keyword).length + (if ([] : List Keyword).isEmpty = true then 0 else 1) < 30)) = true := by rfl) :
    DE X W (.Call (.Attribute o "extend" apos) [a] [] pos) (mMut i isLst [oa] extD) := de_lm PySem.F.slot_list_extend PySem.F.type_list_extend mt_ext fit_ext ho (da_cons ha da_nil hs) hx hbase hline hs hpl hfew
theorem e_popAt {i : Nat} {o : Expr} {apos : Pos} (ho : DO X W o (.nm i)) (ha : DO X W a oa) (hx : [oa].all Opn.isEx = true := by rfl) (hbase : attributeBase o "pop" X.env (eval o X.env) = eval o X.env := by rfl) (hline : (apos.endLine == pos.line) = true := by rfl) (hs : starEach [a] X.env = (false, eval a X.env) :: starEach [] X.env := by rfl)
    (hpl : (backTo pos (starEach [] X.env)).any (·.1) = false := by rfl) (hfew : ((((backTo pos (starEach [a] X.env)).all fun x => !x.1) && (backToKw pos (keywordEach [] X.env)).all fun x => x.1.isSome) && decide (([a] : List Expr).length + ([] : List Keyword).length + (if ([] : List Keyword).isEmpty = true then 0 else 1) < 30)) = true := by rfl) :
    DE X W (.Call (.Attribute o "pop" apos) [a] [] pos) (mMut i isLst [oa] popAtD) := de_lm PySem.F.slot_list_pop PySem.F.type_list_pop (by exact mt_popAt) fit_popAt ho (da_cons ha da_nil hs) hx hbase hline hs hpl hfew
theorem e_pop {i : Nat} {o : Expr} {apos : Pos} (ho : DO X W o (.nm i)) (hbase : attributeBase o "pop" X.env (eval o X.env) = eval o X.env := by rfl) (hline : (apos.endLine == pos.line) = true := by rfl) : DE X W (.Call (.Attribute o "pop" apos) [] [] pos) (mMut i isLst [] popD) := de_lm0 PySem.F.slot_list_pop PySem.F.type_list_pop (by exact mt_pop) fit_pop ho hbase hline
end
/-! ### functions -/
theorem fun_of {K : PySem.W.Frag} {x q : Str} {st : Stmt} {f : Addr} {fd : FuncData} (F : FunD K x q (defArgs st) (defBody st) (defScope st) [] [] f fd) : Fun K x q st f fd := by
  obtain ⟨oc, od, dV, kV, doc, pm, an, cdv, ct, osl, rfl, lk, hcd, hD, _⟩ := F.ex
  rcases hD with ⟨_, rfl⟩ | ⟨e, _⟩
  · exact ⟨⟨oc, od, kV, doc, pm, an, cdv, ct, osl, rfl, lk, hcd⟩, F.kp⟩
  · exact absurd rfl e
/-- a def that never promises anything -/
theorem fng_bad {P : Program} {w : World} {K : PySem.W.Frag} {mg : Str → Option Value} {base : Heap} {k n : Nat} {f : Addr} {fd : FuncData} {ps : List Str} {G : Gd} (hn : ps.length = n) : FnG P w K mg base k f fd ps (SpD G n fun _ => .bad) :=
  ⟨fun vs H Q E h => h.1.trans hn.symm, fun A out s H as us vs Q E _ _ _ _ h => by
    obtain ⟨_, _, _, _, _, z⟩ := h
    exact z.elim⟩
theorem de_gintE {X : Cx} {W : WX} {x : Str} {i : Int} {pos : Pos} (hg : Gl X x) (hm : ∃ t, X.mg x = some (.int i t)) (hd : (x == ("__debug__" : Str)) = false := by decide) : DE X W (.Name x pos) (mC (.int i)) := let ⟨_, h⟩ := hm; de_gint hg h hd
theorem de_gstrE {X : Cx} {W : WX} {x : Str} {i : Str} {pos : Pos} (hg : Gl X x) (hm : ∃ t, X.mg x = some (.str i t)) (hd : (x == ("__debug__" : Str)) = false := by decide) : DE X W (.Name x pos) (mC (.str i)) := let ⟨_, h⟩ := hm; de_gstr hg h hd
end DL
end
section
set_option Elab.async false
set_option linter.all false
set_option maxRecDepth 100000
/-! DL: exceptions as values. -/
namespace DL
open PySem PySem.Spec PyProof.Rows L2
section
variable {G : Gd} {Kn H : Hp} {Q : VK} {d : D}
/-- a new thing, known from now on -/
theorem Post.kno {p : Addr} {o : HO} (q : Post G Kn H (d, 0) Q) (le : Le Kn H) (h : H p = none) (nf : ∀ b u, o ≠ .frz b u) (f : Fr G (upd Kn p o) d (.ref p)) : Q (.ref p) (upd H p o) := by
  have hk : Kn p = none := le.out h
  have kn : ∀ a u, Kn a = some u → upd Kn p o a = some u := fun a u e => by rw [upd_ne (ne_of_none e hk)]; exact e
  refine q (upd Kn p o) (upd H p o) (.ref p) No ⟨kn, fun a z n => ?_, fun a u z _ => by rw [upd_ne (ne_of_none z h)]; exact z, fun _ z => z.elim, fun z b o' u e => by
    by_cases hb : b = p
    · subst hb; rw [upd_same] at e; exact nf _ _ (Option.some.inj e)
    · rw [upd_ne hb] at e; exact z b o' u e⟩ (le.upd2 h) ⟨f, fun _ z => z⟩ fun _ z => z.elim
  by_cases e : a = p
  · subst e; exact .inr h
  · rw [upd_ne e] at n; exact (n z).elim
/-- two of them, the heap told point by point -/
theorem Post.kno2 {a x : Addr} {o u : HO} {H' : Hp} (q : Post G Kn H (d, 0) Q) (le : Le Kn H) (ha : H a = none) (hx : H x = none) (ne : x ≠ a) (na : ∀ b v, o ≠ .frz b v) (nx : ∀ b v, u ≠ .frz b v) (ea : H' a = some o) (ex : H' x = some u) (eo : ∀ b, b ≠ a → b ≠ x → H' b = H b)
    (f : Fr G (upd (upd Kn x u) a o) d (.ref a)) : Q (.ref a) H' := by
  have eH : H' = upd (upd H x u) a o := by
    funext b
    by_cases h1 : b = a
    · subst h1; rw [upd_same, ea]
    · rw [upd_ne h1]
      by_cases h2 : b = x
      · subst h2; rw [upd_same, ex]
      · rw [upd_ne h2, eo b h1 h2]
  subst eH
  have hxa : upd H x u a = none := by rw [upd_ne (Ne.symm ne)]; exact ha
  have le1 : Le (upd Kn x u) (upd H x u) := le.upd2 hx
  have kx : Kn x = none := le.out hx
  have ka : upd Kn x u a = none := by rw [upd_ne (Ne.symm ne)]; exact le.out ha
  refine q (upd (upd Kn x u) a o) _ (.ref a) No ⟨fun b v e => ?_, fun b z n => ?_, fun b v z _ => ?_, fun _ z => z.elim, fun z b o' v e => ?_⟩ (le1.upd2 hxa) ⟨f, fun _ z => z⟩ fun _ z => z.elim
  · have e1 : upd Kn x u b = some v := by rw [upd_ne (ne_of_none e kx)]; exact e
    rw [upd_ne (ne_of_none e1 ka)]; exact e1
  · by_cases h1 : b = a
    · subst h1; exact .inr ha
    · by_cases h2 : b = x
      · subst h2; exact .inr hx
      · rw [upd_ne h1, upd_ne h2] at n; exact (n z).elim
  · have e1 : upd H x u b = some v := by rw [upd_ne (ne_of_none z hx)]; exact z
    rw [upd_ne (ne_of_none e1 hxa)]; exact e1
  · by_cases h1 : b = a
    · subst h1; rw [upd_same] at e; exact na _ _ (Option.some.inj e)
    · rw [upd_ne h1] at e
      by_cases h2 : b = x
      · subst h2; rw [upd_same] at e; exact nx _ _ (Option.some.inj e)
      · rw [upd_ne h2] at e; exact z b o' v e
theorem Rd.ok {P : Program} {w : World} {h : Heap} {a : Addr} {u : HO} (ok : HOk P w H h) (r : Rd H a u) : ObjOk P w H h a u := by
  rcases r with r | ⟨o, r⟩
  · exact ok a u r
  · exact (ok a _ r).2
/-- what a known exception is -/
theorem Fr.exc {P : Program} {w : World} {h : Heap} (ok : HOk P w H h) {C : Str} {ks : List Str} {xs : List D} {v : V} (f : Fr G H (.exv C ks xs) v) : ∃ a c ox od, v = .ref a ∧ G.mg C = some (.ref c) ∧ PySem.W.InstAt h a ox c od := by
  cases f with
  | exv hc r =>
    obtain ⟨⟨oe, vs, e1, hz, hd, _⟩, _⟩ := Rd.ok ok r
    exact ⟨_, _, oe, none, rfl, hc, e1, hz.1, by unfold PySem.W.notCls; rw [hd] <;> rfl, by rw [hz.2]; trivial⟩
  | exw hc r r2 hl hs =>
    obtain ⟨⟨t1, e1⟩, _⟩ := Rd.ok ok r
    obtain ⟨⟨mA, hns, _⟩, _⟩ := Rd.ok ok r2
    obtain ⟨od, ho, _⟩ := lookIn_ns hns
    exact ⟨_, _, _, some od, rfl, hc, e1, rfl, rfl, ho⟩
theorem Tp.exc (le : Le Kn H) {C : Str} {ks : List Str} {xs : List D} {v : V} (h : Tp G Kn H (.exv C ks xs) v) : Fr G H (.exv C ks xs) v := by
  rcases h with h | ⟨_, _, _, _, _, _, w, _⟩
  · exact h.mono le
  · cases w
end
section
variable {X : Cx} {W : WX} {a b c e : Expr} {es : List Expr} {oa ob oc : Opn} {os : List Opn} {pos p : Pos}
/-! ### C(e), a class without own __init__ -/
def excD (C : Str) : List D → Option Val
  | [_] => some (.exv C [] [], 0)
  | _ => none
theorem exO_nf {cls : Value} {a : Addr} : ∀ b u, ExO cls a ≠ .frz b u := fun b u z => by unfold ExO at z; cases z
theorem exo_nf {e c : Addr} {d : Option Addr} : ∀ b u, exo e c d ≠ .frz b u := fun b u z => exo_frz z
theorem exd_nf {e : Addr} {fs : List (Str × V)} : ∀ b u, exd e fs ≠ .frz b u := fun b u z => by unfold exd at z; cases z
theorem de_exc {C : Addr} {bmB : List Value} {B newId initId : String} {x : Str} (F : ExcBaseFacts B newId initId bmB) (q : PySem.W.excIn X.K C bmB newId = true) (gC : X.mg x = some (.ref C)) (kC : PySem.W.keepIn X.K (.ref C) = true) (hg : Gl X x)
    (ha : DO X W a oa) (hs : starEach [a] X.env = (false, eval a X.env) :: starEach [] X.env := by rfl) (hdb : (x == ("__debug__" : Str)) = false := by decide) : DE X W (.Call (.Name x p) [a] [] pos) (opN [oa] (excD x)) :=
  PE.imp (pe_exc1 F q gC kC hg ha hs hdb) fun σ H Q h => TOd.mono (fun v H1 r => by
    obtain ⟨Kn, ds, r, le, tps, e, p⟩ := r
    cases tps with
    | cons t1 tr =>
      cases tr
      simp only [excD, Option.some.injEq] at e
      subst e
      intro u hu
      exact Post.kno p le hu exO_nf (.exv (G := gd X) gC (.inl upd_same))) (opN_run h)
/-! ### isinstance -/
structure ExcI (K : PySem.W.Frag) (C : Addr) : Prop where
  hcl : (PySem.W.clsIn K C).isSome = true
  hga : PySem.W.findIn K (.ref C) "__getattribute__" = some (some (.builtin "BaseException.__getattribute__"))
  hgt : PySem.W.findIn K (.ref C) "__getattr__" = some none
  hsub : PySem.W.subIn K (.ref C) (.type "BaseException") = some true
  ha : PySem.W.findIn K (.ref C) "__class__" = some (some (.builtin "object.__class__"))
  hn : PySem.W.specialIn K (.builtin "object.__class__") "__get__" = some (some (.builtin "getset_descriptor.__get__"))
  htk : PySem.W.takesIn K (.builtin "object.__class__") = some true
  hm : PySem.W.mroIn K C (.type "object") = some true
def isxD (cs : List Str) (g : Str → Bool) : List D → Option Val
  | [.exv C _ _] => if C ∈ cs then some (.bl (g C), 0) else none
  | _ => none
/-- isinstance(x, c): x's datum an exception -/
def rIsX (X : Cx) (cv : Value) (f : List D → Option Val) : List V → Hp → VK → Prop := fun xs H Q => ∃ x c, xs = [x, c] ∧ (∀ u, RelV c u → u = cv) ∧ Rdy (gd X) f [x] H Q
theorem call_isX {cs : List Str} {g : Str → Bool} {cv : Value} (hK : ∀ C ∈ cs, ∀ A, X.mg C = some (.ref A) → ExcI X.K A ∧ PySem.W.kitOne X.K (.ref A) cv = some (g C)) : CallR X (.builtin "isinstance") (rIsX X cv (isxD cs g)) := by
  intro pins s σ H xs us Q I r h
  obtain ⟨x, c, rfl, hcv, Kn, ds, rr, le, tps, e, q⟩ := h
  cases r with
  | cons rx r1 =>
    cases r1 with
    | cons rt r2 =>
      cases r2
      have ec := hcv _ rt
      subst ec
      cases tps with
      | cons t1 tr =>
        cases tr
        unfold isxD at e
        split at e
        · rename_i C ks ds heq
          cases heq
          by_cases hC : C ∈ cs
          · rw [if_pos hC] at e
            cases e
            obtain ⟨u, A, ox, od, rfl, hA, J⟩ := (t1.exc le).exc I.hok
            cases rx
            obtain ⟨T, hk⟩ := hK C hC A hA
            exact PySem.W.kia_one (PySem.W.kitx_exc T.hcl T.hga T.hgt T.hsub T.ha T.hn T.htk T.hm) I.kIn J hk (fun z => nomatch z) fun tk => ⟨.bl (g C), H, I.kept (t' := tk) fun _ _ z => z, rfl, q.val le (.bl _)⟩
          · rw [if_neg hC] at e; cases e
        · cases e
theorem de_isx {cs : List Str} {g : Str → Bool} {x : Str} {T : Addr} {p2 : Pos} (hK : ∀ C ∈ cs, ∀ A, X.mg C = some (.ref A) → ExcI X.K A ∧ PySem.W.kitOne X.K (.ref A) (.ref T) = some (g C)) (ha : DO X W a oa) (hg : Gl X "isinstance") (hm : X.mg "isinstance" = none) (hgT : Gl X x) (hmT : X.mg x = some (.ref T))
    (hd : (x == ("__debug__" : Str)) = false := by decide)
    (he : starEach [a, .Name x p2] X.env = (false, eval a X.env) :: starEach [.Name x p2] X.env := by rfl) (h1 : starEach [.Name x p2] X.env = (false, eval (.Name x p2) X.env) :: starEach [] X.env := by rfl) (hpl : (backTo pos (starEach [.Name x p2] X.env)).any (·.1) = false := by rfl) : DE X W (.Call (.Name "isinstance" p) [a, .Name x p2] [] pos) (opN [oa] (isxD cs g)) :=
  PE.imp (pe_callB (call_isX hK) hg hm rfl (pa_cons ha (pa_cons (pe_glob (v := .ref T) hgT hmT rfl hd) pa_nil h1) he) (by decide) (by decide) he hpl) fun σ H Q h =>
    TOd.mono (fun v H1 q => ⟨v, .ref T, rfl, fun u z => z, q⟩) (opN_run h)
theorem de_isxB {cs : List Str} {g : Str → Bool} {x : Str} {T : String} {p2 : Pos} (hK : ∀ C ∈ cs, ∀ A, X.mg C = some (.ref A) → ExcI X.K A ∧ PySem.W.kitOne X.K (.ref A) (.type T) = some (g C)) (ha : DO X W a oa) (hg : Gl X "isinstance") (hm : X.mg "isinstance" = none) (hgT : Gl X x) (hmT : X.mg x = none) (hvT : bootBuiltins x = some (.type T))
    (hn : x ≠ "__name__" := by decide) (hd : (x == ("__debug__" : Str)) = false := by decide)
    (he : starEach [a, .Name x p2] X.env = (false, eval a X.env) :: starEach [.Name x p2] X.env := by rfl) (h1 : starEach [.Name x p2] X.env = (false, eval (.Name x p2) X.env) :: starEach [] X.env := by rfl) (hpl : (backTo pos (starEach [.Name x p2] X.env)).any (·.1) = false := by rfl) : DE X W (.Call (.Name "isinstance" p) [a, .Name x p2] [] pos) (opN [oa] (isxD cs g)) :=
  PE.imp (pe_callB (call_isX hK) hg hm rfl (pa_cons ha (pa_cons (pe_bltn (v := .ty T) hgT hmT hvT rfl hn hd) pa_nil h1) he) (by decide) (by decide) he hpl) fun σ H Q h =>
    TOd.mono (fun v H1 q => ⟨v, .ty T, rfl, fun u z => z, q⟩) (opN_run h)
/-! ### e.f -/
def attD (cs : List Str) (f : Str) : List D → Option Val
  | [.exv C ks ds] => if C ∈ cs then (match (ks.zip ds).lookup f with | some d => some (d, 0) | none => none) else none
  | _ => none
theorem lookup_zip_fr {G : Gd} {H : Hp} {f : Str} : ∀ {ks : List Str} {ds : List D} {vs : List V} {d : D}, Frs G H ds vs → (ks.zip ds).lookup f = some d → ∃ v, (ks.zip vs).lookup f = some v ∧ Fr G H d v
  | [], _, _, _, _, e => by simp at e
  | _ :: _, [], _, _, _, e => by simp at e
  | k :: ks, d0 :: ds, _, d, .cons (v := v) (vs := vs) h t, e => by
    rw [List.zip_cons_cons, List.lookup_cons] at e
    rw [List.zip_cons_cons, List.lookup_cons]
    split at e
    · cases e; exact ⟨v, rfl, h⟩
    · exact lookup_zip_fr t e
theorem de_att {cs : List Str} {f : Str} (hK : ∀ C ∈ cs, ∀ A, X.mg C = some (.ref A) → XfC X.K A ∧ PySem.W.findIn X.K (.ref A) f = some none) (ha : DO X W a oa) (hb : attributeBase a f X.env (eval a X.env) = eval a X.env := by rfl) : DE X W (.Attribute a f pos) (opN [oa] (attD cs f)) := by
  refine ⟨fun pins s σ H Q I h => ?_⟩
  refine attr_of hb (thn (ha.run pins s σ H _ I (opN_run h)) fun u s1 hh => ?_)
  obtain ⟨x, H1, I1, rx, Kn, ds, r, le, tps, e, q⟩ := hh
  cases tps with
  | cons t1 tr =>
    cases tr
    unfold attD at e
    split at e
    · rename_i C ks ds heq
      cases heq
      by_cases hC : C ∈ cs
      · rw [if_pos hC] at e
        have F := t1.exc le
        split at e
        · rename_i d hd
          cases e
          rcases t1 with t1 | ⟨_, _, _, _, _, _, w, _⟩
          · cases t1 with
            | exv hc r => simp at hd
            | @exw ad A dx _ _ _ vs hc r r2 hl hs =>
              cases rx
              obtain ⟨T, hno⟩ := hK C hC A hc
              obtain ⟨⟨t2, e1⟩, _⟩ := Rd.ok I1.hok (le.rd _ _ r)
              obtain ⟨⟨mA, hns, hr⟩, _⟩ := Rd.ok I1.hok (le.rd _ _ r2)
              obtain ⟨od, ho, hl2⟩ := lookIn_ns hns
              obtain ⟨v, hv, fv⟩ := lookup_zip_fr hs hd
              obtain ⟨u, hu, ru⟩ := RelO.some_of (v := v) (o := mA f) (by rw [← hv]; exact hr f)
              have J : PySem.W.InstAt s1.heap ad _ A (some od) := ⟨e1, rfl, rfl, ho⟩
              exact HandSPX.exc_get I1.kIn J T.ga T.gg T.exC (PySem.W.findObj_own T.hdC hno rfl (by rw [hl2, hu])) (handed_of ru) ⟨v, H1, I1.tok _, ru, q.val le fv⟩
          · cases w
        · cases e
      · rw [if_neg hC] at e; cases e
    · cases e
end
end DL
end
section
set_option Elab.async false
set_option linter.all false
set_option maxRecDepth 100000
set_option maxHeartbeats 2000000
/-! DL: own exception classes with an __init__ that says super().__init__(..). -/
namespace DL
open PySem PySem.Spec PyProof.Rows L2 NdefX
/-- a def that closes over its class -/
structure SupX (P : Program) (K : PySem.W.Frag) (x qual : Str) (st : Stmt) (f : Addr) (fd : FuncData) (D : Addr) : Prop where
  ex : ∃ (oc : Value) (od : Option Addr) (kV doc pm : Value) (an : Option Addr) (cda cc : Addr) (ct : Value) (osl : Array (Option Value)) (cl : Value) (cld : Option Addr) (csl : Array (Option Value)) (ccl : Value) (cdd : Option Addr) (vs : Array Value) (ccs : Array (Option Value)) (file : Str) (tf : Tok),
    fd = PySem.W.fnX x qual (defArgs st) (defBody st) (defScope st) [("__class__", cc)] .none kV doc pm an (.ref cda) ct ∧ K.lookup f = some ⟨oc, od, .func fd, osl⟩ ∧ PySem.W.codeIn K (.ref cda) qual = true ∧
    K.lookup cc = some ⟨cl, cld, .cell (some (.ref D)), csl⟩ ∧ K.lookup cda = some ⟨ccl, cdd, .fields vs, ccs⟩ ∧ vs[2]? = some (.str file tf) ∧ ((P.main.file : Str) == file) = true
  dc : ∃ cdD, PySem.W.clsIn K D = some cdD
  hsub : PySem.W.mroIn K D (.ref D) = some true
  hsu : PySem.W.ks_superIn K D D "__init__" = some (some (.builtin "ValueError.__init__"))
  hB : PySem.W.subIn K (.ref D) (.type "ValueError") = some true
  hop : PySem.W.nsIn K cStatics "thirdparty.any" = some none
  T : OexC K D
/-- the context of its body -/
abbrev supF (x qual : Str) (st : Stmt) (cc c : Addr) : NF := ⟨x, qual, defArgs st, defBody st, defScope st, [("__class__", cc)], c⟩
section
variable {prog : Program} {w : World} {A : Around} {E : Value → Shared → Prop} {X : Cx} {pins : List (Addr × Obj)} {σ : L2.St} {H : Hp} {s : Shared}
/-- the wrapper called: the args are laid anew -/
theorem call_mw {a C u : Addr} {us : List Value} {Q : Value → Shared → Prop} (T : OexC X.K C) (I : Inv X pins σ H s) (e : H a = some (exo a C none)) (hu : s.heap.get? u = some (PySem.W.kxs_mw "ValueError.__init__" a)) (hl : us.length ≤ sizeLine) (h : ∀ s', Inv X pins σ H s' → Q .none s') :
    wpAny (model X.prog X.w) A (call (.ref u) us) Q E s := by
  obtain ⟨nm, q, N, bs, bm, sn, sub, ab, col, dd, k0, k1, k2, k3, k5, hC, hbm⟩ := T.cls
  obtain ⟨t1, ho⟩ := exo_at I.hok e
  obtain ⟨hp, g, d, t, os⟩ := s
  refine wpAny_call (codeAny_of_tree ?_)
  show wpAny _ A.in1 (callAny (.ref u) ⟨us, []⟩) _ _ _
  simp only [callAny]
  refine wpAny_bind (wpAny_load hu ?_)
  simp only [PySem.W.kxs_mw, show (Value.type "method-wrapper" == Value.type "method" || Value.type "method-wrapper" == Value.type "builtin_function_or_method" || Value.type "method-wrapper" == Value.type "method-wrapper") = true by decide, if_true]
  refine PySem.W.KFB.if_so (by decide) ?_
  refine wpAny_bind (PySem.W.check_bound_init F.excBase_ValueError.toExcCallFacts (I.kIn _ _ hC) ho rfl ?_)
  refine wpAny_bind (wpAny_pure (wpAny_pure ?_))
  refine ⟨plainId_quiet F.excBase_ValueError.init.plain _, codeAny_builtin F.excBase_ValueError.initEntry ?_⟩
  refine PySem.W.exc_init_tree (cls := .ref C) (t0 := t1) (dv := none) (c2 := .none) (c3 := .none) (b4 := .bool false) ho hl fun h' k hx _ => ?_
  have J := I.write (t' := t) (x := a) (e := a) (o := exo a C none) (by rw [e]; exact True.intro) (.inl rfl) k ⟨_, hx⟩ (exo_ok hx)
  have eu : upd H a (exo a C none) = H := by
    funext b
    by_cases hb : b = a
    · rw [hb, upd_same, e]
    · rw [upd_ne hb]
  rw [eu] at J
  exact h _ J
end
section
variable {P : Program} {w : World} {K : PySem.W.Frag} {mg : Str → Option Value} {base : Heap}
/-- THE RULE: an __init__ that begins with super().__init__(e) -/
theorem fn_sup {x qual : Str} {st : Stmt} {f D : Addr} {fd : FuncData} {N ps : List Str} {k : Nat} {ar : Arg} {p0 p1 p2 p3 p4 : Pos} {e : Expr} {rest : List Stmt} {te : TE} {t : TS} {sp : Sp} (F : SupX P K x qual st f fd D) (S : NScope N ps ["__class__"] (defScope st))
    (hbody : defBody st = .Expr (.Call (.Attribute (.Call (.Name "super" p0) [] [] p1) "__init__" p2) [e] [] p3) p4 :: rest)
    (hargs : ((defArgs st).posonlyargs ++ (defArgs st).args).head? = some ar) (hps : ps[0]? = some ar.arg) (hsup : (defScope st).names.lookup ("super" : Str) = some .globalImplicit) (hmg : mg "super" = none) (htop : (P.main.scope.names.lookup ("super" : Str)).isSome = false)
    (he : ∀ (cc c : Addr) (A : Around) (outer : List Env) (s : Shared) (H : Hp) (E : XK), PE (ncx (L2.CX P w) P w K mg base N (supF x qual st cc c) f A outer s H E) e te)
    (hrest : ∀ (cc c : Addr) (A : Around) (outer : List Env) (s : Shared) (H : Hp) (E : XK), PSs (ncx (L2.CX P w) P w K mg base N (supF x qual st cc c) f A outer s H E) rest t)
    (hev : ∀ env : Env, env.scope = defScope st → eval (.Call (.Attribute (.Call (.Name "super" p0) [] [] p1) "__init__" p2) [e] [] p3) env = (do
      let ov ← attributeBase (.Call (.Name "super" p0) [] [] p1) "__init__" env (eval (.Call (.Name "super" p0) [] [] p1) env)
      standAt p2.atName
      let (f, first) ← holding [ov] (getMethod ov "__init__" (pure false))
      callWith p3 f first (backTo p3 (starEach [e] env)) []))
    (hst : ∀ env : Env, starEach [e] env = (false, eval e env) :: starEach [] env) (hin : ∀ env : Env, env.scope = defScope st → interactive env = false) (hsw : ∀ env : Env, swapsWith (.Call (.Attribute (.Call (.Name "super" p0) [] [] p1) "__init__" p2) [e] [] p3) none p4.line env = pure false)
    (hsp : ∀ vs H Q E, sp vs H Q E → vs.length = ps.length ∧ ∃ a, vs[0]? = some (.ref a) ∧ H a = some (exo a D none) ∧ te (startF N vs [none]) H (fun _ H1 => H1 a = some (exo a D none) ∧ t { nx := fun _ H' => Q .non H', rt := Q } (startF N vs [none]) H1)) :
    FnOk P w K mg base (L2.CX P w) (k + 1) f fd ps sp := by
  obtain ⟨oc, od, kV, doc, pm, an, cda, cc, ct, osl, cl, cld, csl, ccl, cdd, cvs, ccs, file, tf, rfl, lk, hcd, hcc, hcda, hfl, hfile⟩ := F.ex
  refine ⟨fun vs H Q E h => (hsp vs H Q E h).1, fun A outer s H args us vs Q E hr e0 hb r h => ?_⟩
  obtain ⟨hl, a, ha, hHa, hte⟩ := hsp vs H Q E h
  have KX : K.In s.heap := e0.mod.kin.keeps fun b o e => (e0.bs b o e).1
  have lim : s.heap.NoLimit := e0.mod.nolimit.keeps fun b o e => (e0.bs b o e).1
  have hcell : ∀ x ∈ (defScope st).names, x.2 ≠ .cell := S.nocell
  have hloc : ∀ y ∈ ps.zip us, (defScope st).names.lookup y.1 = some .local := fun ⟨n, v⟩ hy => S.par n (List.of_mem_zip hy).1
  have hb0 := e0.bs cc _ (e0.mod.kin _ _ hcc)
  have lk1 : ∀ {y : Str} {c : Addr}, ([("__class__", cc)] : List (Str × Addr)).lookup y = some c → y = "__class__" ∧ c = cc := fun {y c} z => by
    rw [List.lookup_cons] at z
    split at z
    · rename_i h; cases z; exact ⟨by simpa using h, rfl⟩
    · simp at z
  have C0 : CellsAt [("__class__", cc)] ["__class__"] [none] s.heap H := {
    len := rfl
    all := fun y c z => by
      obtain ⟨rfl, rfl⟩ := lk1 z
      exact ⟨hb0.2, some (.ref D), _, hb0.1, rfl⟩
    inj := fun y z c h1 h2 => (lk1 h1).1.trans (lk1 h2).1.symm
    has := fun i y h1 => by
      cases i with
      | zero =>
        simp at h1
        subst h1
        exact ⟨cc, by simp, fun v z => by simp at z⟩
      | succ i => simp at h1 }
  refine PySem.ks_codeAny_call_defAt (body := defBody st) (binds := ps.zip us) hr.depth (KX _ _ lk) rfl lim (PySem.W.codeRec_of KX hcd) rfl hb hcell hloc (fun h1 hns hk => ?_) S.co S.gen S.kind
  have I : Inv (ncx (L2.CX P w) P w K mg base N (supF x qual st cc cda) f A outer s H E) [] (startF N vs [none]) H { s with heap := h1, toks := s.toks + (ps.zip us).length } := inv_startN (F := supF x qual st cc cda) S hr.hd e0 hl r C0 hns hk
  have hB := hrest cc cda A outer s H E
  have hE := he cc cda A outer s H E
  generalize hX : ncx (L2.CX P w) P w K mg base N (supF x qual st cc cda) f A outer s H E = X at I hB hE
  have e1 : X.prog = P := by rw [← hX]; rfl
  have e2 : X.w = w := by rw [← hX]; rfl
  have e3 : X.K = K := by rw [← hX]; rfl
  have e4 : X.mg = mg := by rw [← hX]; rfl
  have e5 : X.A = A.deeper (PySem.W.envX qual (defScope st) s.heap.objs.size f (.ref cda) [("__class__", cc)]) := by rw [← hX]; rfl
  have e6 : X.env = PySem.W.envX qual (defScope st) s.heap.objs.size f (.ref cda) [("__class__", cc)] := by rw [← hX]; rfl
  have e7 : X.xe = fun e s' => wpAny (model P w) (A.deeper (PySem.W.envX qual (defScope st) s.heap.objs.size f (.ref cda) [("__class__", cc)])) (leaving (PySem.W.envX qual (defScope st) s.heap.objs.size f (.ref cda) [("__class__", cc)]) e) (fun _ s'' => L2.CX P w outer H s E e s'') (fun e' s'' => L2.CX P w outer H s E e' s'') s' := by rw [← hX]; rfl
  have e8 : X.s_0 = s := by rw [← hX]; rfl
  have e9 : X.fs = frs outer := by rw [← hX]; rfl
  have eH0 : X.H_0 = H := by rw [← hX]; rfl
  have eex : X.ex = [] := by rw [← hX]; rfl
  have fin : ∀ {s' : Shared} {fl : Flow}, SP X [] { nx := fun _ H' => Q .non H', rt := Q } fl s' → CR (L2.CX P w) outer P w H s Q E (.ok (.ret (match fl with | .ret v => v | _ => .none))) s' := fun {s' fl} hs => by
    have go : ∀ {σ' : L2.St} {H' : Hp} {v : V} {u : Value}, Inv X [] σ' H' s' → L2.RelV v u → Q v H' → CE outer P w H s Q u s' := fun {σ' H' v u} J rv q => by
      have J1 := J.os
      have J2 := J.base
      have J3 := J.hok
      rw [e8] at J1 J2
      rw [e9, eH0, eex] at J2
      rw [e1, e2] at J3
      exact ⟨v, H', J1, J.bare, J2, J3, rv, q⟩
    cases fl with
    | ret u =>
      obtain ⟨v, σ', H', J, rv, q⟩ := hs
      exact go J rv q
    | next =>
      obtain ⟨σ', H', J, q⟩ := hs
      exact go (v := V.non) (u := Value.none) J rfl q
    | brk =>
      obtain ⟨_, _, _, q⟩ := hs
      exact False.elim q
    | cont =>
      obtain ⟨_, _, _, q⟩ := hs
      exact False.elim q
  show PySem.wpAt (model P w) (A.deeper (PySem.W.envX qual (defScope st) s.heap.objs.size f (.ref cda) [("__class__", cc)])) (.func (defBody st) (PySem.W.envX qual (defScope st) s.heap.objs.size f (.ref cda) [("__class__", cc)])) (execs (defBody st) (PySem.W.envX qual (defScope st) s.heap.objs.size f (.ref cda) [("__class__", cc)])) (fun fl s' => CR (L2.CX P w) outer P w H s Q E (.ok (.ret (match fl with | .ret v => v | _ => .none))) s')
    (fun e s' => wpAny (model P w) (A.deeper (PySem.W.envX qual (defScope st) s.heap.objs.size f (.ref cda) [("__class__", cc)])) (leaving (PySem.W.envX qual (defScope st) s.heap.objs.size f (.ref cda) [("__class__", cc)]) e) (fun _ s'' => L2.CX P w outer H s E e s'') (fun e' s'' => L2.CX P w outer H s E e' s'') s') { s with heap := h1, toks := s.toks + (ps.zip us).length }
  generalize hEnv : PySem.W.envX qual (defScope st) s.heap.objs.size f (.ref cda) [("__class__", cc)] = env at *
  have c1 : env.scope = defScope st := by rw [← hEnv]
  have c2 : env.func = some f := by rw [← hEnv]
  have c3 : env.code = .ref cda := by rw [← hEnv]
  have c4 : env.cells = [(("__class__" : Str), cc)] := by rw [← hEnv]
  have c5 : env.locals = s.heap.objs.size := by rw [← hEnv]
  have c6 : env.globals = mainGlobals := by rw [← hEnv]
  have c7 : env.builtins = builtinsNs := by rw [← hEnv]
  have kf : ∀ n, env.kindOf n = (defScope st).names.lookup n := fun n => by rw [← hEnv]; rfl
  rw [hbody]
  obtain ⟨hp, g, d, tk, os⟩ := s
  have K1 : K.In h1 := KX.keeps hk
  have hf1 : h1.get? f = some ⟨oc, od, .func (PySem.W.fnX x qual (defArgs st) (defBody st) (defScope st) [("__class__", cc)] .none kV doc pm an (.ref cda) ct), osl⟩ := K1 _ _ lk
  refine PySem.ks_wpAt_execs_cons (PySem.ks_wpAt_Expr_any (PySem.ks_wpAt_MethodCall (pl := pure false) ?_ (hev env c1)) (hin env c1) (hsw env))
  refine PySem.ks_wpAt_super_base (ar := ar) ((kf _).trans hsup) ((kf _).trans (S.frk _ (by simp))) rfl c2 hf1 rfl hargs c3 (K1 _ _ hcda) rfl hfl hfile htop ?_
  obtain ⟨mb, hmb, hbt⟩ := I.ok.mod.blt
  refine PySem.W.ks_loadName_global (by rw [c1]; exact S.kind) ((kf _).trans hsup) (PySem.Calls.loadGlobal_builtin (mg := mg) (mb := mb) (by rw [c6, ← e4]; exact I.ok.mod.glob.keeps I.bk) hmg (by rw [c7]; exact hmb.keeps I.bk) ((hbt "super" (by decide)).trans PyProof.Rows.Boot.«super») ⟨rfl, ?_⟩)
  refine wpAny_loadName_free (by rw [c1]; exact S.kind) ((kf _).trans (S.frk _ (by simp))) (by rw [c4]; rfl) ⟨_, K1 _ _ hcc, rfl⟩ ?_
  obtain ⟨u0, hu0, ru0⟩ := r.get ha
  cases ru0
  have ndP : ps.Nodup := by
    have q := S.nd.sublist (List.take_sublist (ps.length + (["__class__"] : List Str).length) N)
    rw [S.pre] at q
    exact (List.nodup_append.mp q).1
  refine wpAny_loadName_local (by rw [c1]; exact S.kind) ((kf _).trans (S.par _ (List.mem_of_getElem? hps))) (by rw [c5]; exact hns) (zip_look ndP hps hu0) ?_
  obtain ⟨cdD, hD⟩ := F.dc
  obtain ⟨oD, hD1, hD2⟩ : ∃ oD, h1.get? D = some oD ∧ oD.data = .cls cdD := by
    unfold PySem.W.clsIn at hD
    split at hD
    · rename_i c d cd' sl ho
      cases hD
      exact ⟨_, K1 _ _ ho, rfl⟩
    · cases hD
  refine PySem.ks_wpAny_isType_cls hD1 hD2 ⟨rfl, ?_⟩
  obtain ⟨t1, ho⟩ := exo_at I.hok hHa
  refine PySem.ks_wpAny_call_super hD1 hD2 ho rfl (fun c z => nomatch z) (PySem.W.looks_mroIn K1 F.hsub) (fun h2 es ks => ?_)
  have I2 : Inv X [] (startF N vs [none]) H ⟨h2, g, d, tk + (ps.zip us).length, os⟩ := I.kept ks
  have K2 : K.In h2 := K1.keeps ks
  have ho2 := ks _ _ ho
  have J2 : PySem.W.InstAt h2 a _ D none := ⟨ho2, rfl, rfl, trivial⟩
  have hs2 := F.hsu
  unfold PySem.W.ks_superIn at hs2
  rw [hD, Option.bind_some] at hs2
  refine PySem.W.kxs_getMethod PySem.W.kxs_ValueError es (PySem.W.looks_opaque K2 F.hop) (l₀ := cdD.mro) (fun A Q E s k q => wpAny_bind ((PySem.W.looks_clsIn K2 hD) A _ E s k (wpAny_pure q))) rfl K2 hs2 (J2.type.andThen (PySem.W.looks_subIn K2 F.hB)) (PySem.W.ks_ne K2 J2 hD) rfl ?_
  generalize hu : h2.objs.size = u
  have hmw : (h2.push (PySem.W.kxs_mw "ValueError.__init__" a)).get? u = some (PySem.W.kxs_mw "ValueError.__init__" a) := by rw [← hu]; exact Heap.get?_push_at rfl rfl
  have I3 : Inv X [] (startF N vs [none]) H ⟨h2.push (PySem.W.kxs_mw "ValueError.__init__" a), g, d, tk + (ps.zip us).length + 1, os⟩ := I2.kept (t' := tk + (ps.zip us).length + 1) fun b o z => Heap.get?_push_of_some _ z
  have hlt : h1.objs.size ≤ u := by
    rw [← hu]
    exact Nat.le_of_lt (Heap.lt_size es)
  have I4 : Inv X [(u, PySem.W.kxs_mw "ValueError.__init__" a)] (startF N vs [none]) H ⟨h2.push (PySem.W.kxs_mw "ValueError.__init__" a), g, d, tk + (ps.zip us).length + 1, os⟩ := I3.pins_of fun p hp => by
    have hp : p = (u, PySem.W.kxs_mw "ValueError.__init__" a) := by simpa using hp
    subst hp
    refine ⟨hmw, I.hok.fresh hlt, fun z => ?_, I.nofs hlt, fun v z => nomatch z⟩
    have := I.lt
    have z' : u = X.env.locals := z
    rw [← z'] at this
    exact absurd (Nat.lt_of_lt_of_le this hlt) (Nat.lt_irrefl _)
  rw [hst env]
  refine PySem.W.kxs_callWith (i := "ValueError.__init__") (x := a) (u := u) (first := []) rfl (PySem.Calls.evalArgs_plain (rest := []) ?_)
  show wpAny _ _ (spliced ((false, eval e env) :: [])) _ _ _
  refine PySem.Calls.spliced_cons ?_
  have q := hE.run [(u, PySem.W.kxs_mw "ValueError.__init__" a)] _ _ _ _ I4 hte
  rw [e1, e2, e5, e6, e7] at q
  refine thn q fun u1 s1 hh => ?_
  obtain ⟨v1, H1, I5, r1, hHa1, q5⟩ := hh
  refine PySem.Calls.spliced_nil ⟨(I5.pin (u, PySem.W.kxs_mw "ValueError.__init__" a) (by simp)).1, ?_⟩
  have I6 : Inv X [] (startF N vs [none]) H1 s1 := I5.pins_of fun p hp => absurd hp (by simp)
  have cm := call_mw (X := X) (A := A.deeper env) (E := X.xe) (us := [u1]) (Q := fun _ s' => PySem.wpAt (model P w) (A.deeper env) (.func (.Expr (.Call (.Attribute (.Call (.Name "super" p0) [] [] p1) "__init__" p2) [e] [] p3) p4 :: rest) env) (execs rest env) (fun fl s' => CR (L2.CX P w) outer P w H ⟨hp, g, d, tk, os⟩ Q E (.ok (.ret (match fl with | .ret v => v | _ => .none))) s') X.xe s') (e3 ▸ F.T) I6 hHa1 (I5.pin (u, PySem.W.kxs_mw "ValueError.__init__" a) (by simp)).1 (by rw [sizeLine_eq]; exact (by decide : 1 ≤ 16777216)) fun s' J => ?_
  · rw [e1, e2, e7] at cm
    exact cm
  · refine wpAt_of_wpAny ?_
    have q := hB.run [] s' _ _ _ J q5
    rw [e1, e2, e5, e6] at q
    exact thn q fun fl s'' hs => fin hs
end
end DL
end
section
set_option Elab.async false
set_option linter.all false
set_option maxRecDepth 100000
set_option maxHeartbeats 2000000
/-! DL: an exception made by its class's own __init__, as a value. -/
namespace DL
open PySem PySem.Spec PyProof.Rows L2
/-- what __init__ leaves: the fields fs -/
def spXi (C : Addr) (n : Nat) (g : List V → Option (List (Str × V))) : Sp := fun vs H Q _ => vs.length = n + 1 ∧ ∃ (a : Addr) (ws : List V) (fs : List (Str × V)), vs = .ref a :: ws ∧ g ws = some fs ∧ H a = some (exo a C none) ∧
  ∀ dx H', H dx = none → dx ≠ a → H' a = some (exo a C (some dx)) → H' dx = some (exd dx fs) → (∀ b, b ≠ a → b ≠ dx → H' b = H b) → Q .non H'
/-- C(e, ..) as a value -/
def tMkV (C : Addr) (sp : Sp) (ta : TA) : TE := fun σ H Q => ta σ H fun vs H1 => vs.length ≤ 1000 ∧ ∀ a, H1 a = none → sp (.ref a :: vs) (upd H1 a (exo a C none)) (fun v H2 => v = .non ∧ Q (.ref a) H2) fun _ _ _ => False
section
variable {X : Cx} {W : WX} {e : Expr} {es : List Expr} {ta : TA} {p pos : Pos}
theorem pe_oexV {x : Str} {C fI : Addr} {k : Nat} {fd : FuncData} {ps : List Str} {sp : Sp} (T : OexC X.K C) (iC : PySem.W.findIn X.K (.ref C) "__init__" = some (some (.ref fI))) (tI : PySem.W.typeIn X.K (.ref fI) = some (.type "function"))
    (F1 : FnOk X.prog X.w X.K X.mg X.base (L2.CX X.prog X.w) k fI fd ps sp) (hr : Room (k + 1) X.A) (hb : Binds X.K fd ps []) (hg : Gl X x) (hm : X.mg x = some (.ref C)) (ha : PA X (e :: es) ta)
    (hdb : (x == ("__debug__" : Str)) = false := by decide) (he : starEach (e :: es) X.env = (false, eval e X.env) :: starEach es X.env := by rfl) (hpl : (backTo pos (starEach es X.env)).any (·.1) = false := by rfl) :
    PE X (.Call (.Name x p) (e :: es) [] pos) (tMkV C sp ta) := by
  refine ⟨fun pins s σ H Q I h => ?_⟩
  obtain ⟨nm, q, N, bs, bm, sn, sub, ab, col, dd, k0, k1, k2, k3, k5, hC, hbm⟩ := T.cls
  refine wpAny_Call_Name_kw (ld_glob I hg hm ?_ hdb)
  refine PySem.W.callWith_K (h₀ := X.base) I.ok.mod.kin T.kC (thn (ha.run pos pins s σ H _ I h) fun us s1 ⟨vs, H1, I1, r1, hz, q1⟩ => ⟨I1.kIn, ?_⟩) he hpl
  show wpAny _ _ (call (.ref C) us) _ _ _
  obtain ⟨hp, g, dr, tk, os⟩ := s1
  have big : hp.objs.size ≤ hp.objs.size + 1 := Nat.le_succ _
  have new : H1 (hp.objs.size + 1) = none := I1.hok.fresh big
  have want := q1 (hp.objs.size + 1) new
  have stay : ∀ b o, hp.get? b = some o → ((hp.push (PySem.W.kdv_tup us)).push (PySem.HandSPX.excO C hp.objs.size)).get? b = some o := fun b o z => Heap.get?_push_of_some _ (Heap.get?_push_of_some _ z)
  have here : ((hp.push (PySem.W.kdv_tup us)).push (PySem.HandSPX.excO C hp.objs.size)).get? (hp.objs.size + 1) = some (PySem.HandSPX.excO C hp.objs.size) := by heap_get
  have J : Inv X pins σ (upd H1 (hp.objs.size + 1) (exo (hp.objs.size + 1) C none)) ⟨(hp.push (PySem.W.kdv_tup us)).push (PySem.HandSPX.excO C hp.objs.size), g, dr, tk, os⟩ := I1.laid (t' := tk) stay big (exo_ok here)
  have rr : Vals (V.ref (hp.objs.size + 1) :: vs) (Value.ref (hp.objs.size + 1) :: us) := .cons rfl r1
  have len : (Value.ref (hp.objs.size + 1) :: us ++ []).length = ps.length := by
    rw [List.append_nil, ← rr.length]
    exact F1.len _ _ _ _ want
  have few : us.length ≤ sizeLine := by
    rw [← Paired.length r1, sizeLine_eq]
    omega
  have bd := hb ⟨(hp.push (PySem.W.kdv_tup us)).push (PySem.HandSPX.excO C hp.objs.size), g, dr, tk, os⟩ (Value.ref (hp.objs.size + 1) :: us) J.kIn len
  rw [List.append_nil] at bd
  have go := F1.run _ X.stack _ _ ⟨Value.ref (hp.objs.size + 1) :: us, []⟩ (Value.ref (hp.objs.size + 1) :: us) _ _ (fun _ _ _ => False) (hr.make C us []) (J.env0.make C us []) bd rr want
  refine wpAny_call (PySem.HandSPX.call_own F.excBase_ValueError (fun Y => PySem.HandSPX.refsVE_contains Y bm hbm) (I1.kIn _ _ hC) (PySem.W.looks_findIn I1.kIn iC) (fun self => PySem.W.bind_fn I1.kIn self tI) few (codeAny_mono go fun r s' z => ?_))
  match r, z with
  | .error er, z =>
    obtain ⟨_, _, _, _, _, _, _, _, _, _, _, _, bad⟩ := z
    exact bad.elim
  | .ok .next, z => exact z.elim
  | .ok .brk, z => exact z.elim
  | .ok .cont, z => exact z.elim
  | .ok (.ret u), z =>
    obtain ⟨v, H2, J2, rv, ev, q2⟩ := J.after z
    subst ev
    exact ⟨rv, .ref (hp.objs.size + 1), H2, J2, rfl, q2⟩
/-! ### by data -/
def mkxD (C : Str) (g : List D → Option (List Str × List D)) : List D → Option Val := fun ds => match g ds with
  | some (ks, xs) => some (.exv C ks xs, 0)
  | none => none
theorem de_mkx {x : Str} {C fI : Addr} {k n : Nat} {fd : FuncData} {ps : List Str} {os : List Opn} {g : List D → Option (List Str × List D)} {gv : List V → Option (List (Str × V))} (T : OexC X.K C) (iC : PySem.W.findIn X.K (.ref C) "__init__" = some (some (.ref fI))) (tI : PySem.W.typeIn X.K (.ref fI) = some (.type "function"))
    (F1 : FnOk X.prog X.w X.K X.mg X.base (L2.CX X.prog X.w) k fI fd ps (spXi C n gv)) (hr : Rm (k + 1) X.A) (hb : Binds X.K fd ps []) (hg : Gl X x) (hm : X.mg x = some (.ref C)) (ha : DA X W (e :: es) os)
    (hgo : ∀ (Kn H : Hp) (ds : List D) (vs : List V) (ks : List Str) (xs : List D), Tps (gd X) Kn H ds vs → g ds = some (ks, xs) → vs.length = n ∧ n ≤ 1000 ∧ ∃ us, gv vs = some (ks.zip us) ∧ ks.length = us.length ∧ ∀ H', Frs (gd X) H' xs us)
    (hdb : (x == ("__debug__" : Str)) = false := by decide) (he : starEach (e :: es) X.env = (false, eval e X.env) :: starEach es X.env := by rfl) (hpl : (backTo pos (starEach es X.env)).any (·.1) = false := by rfl) :
    DE X W (.Call (.Name x p) (e :: es) [] pos) (opN os (mkxD x g)) :=
  PE.imp (pe_oexV T iC tI F1 hr.rm hb hg hm ha hdb he hpl) fun σ H Q h => TOs.mono (fun vs H1 r => by
    obtain ⟨Kn, ds, r, le, tps, e, q⟩ := r
    unfold mkxD at e
    cases e1 : g ds with
    | none => rw [e1] at e; cases e
    | some z =>
      obtain ⟨ks, xs⟩ := z
      rw [e1] at e
      cases e
      obtain ⟨hn, hn2, us, hv, hl, fr⟩ := hgo Kn H1 ds vs ks xs tps e1
      refine ⟨by omega, fun a na => ⟨by simp [hn], a, vs, _, rfl, hv, upd_same, fun dx H' nx ne ea ex eo => ⟨rfl, ?_⟩⟩⟩
      have nx' : H1 dx = none := by rw [upd_ne ne] at nx; exact nx
      refine q.kno2 le na nx' ne exo_nf exd_nf ea ex (fun b h1 h2 => (eo b h1 h2).trans (upd_ne h1)) (.exw hm (.inl upd_same) (.inl ?_) hl (fr _))
      rw [upd_ne ne]
      exact upd_same) (opN_run h)
end
end DL
end
section
set_option Elab.async false
set_option linter.all false
set_option maxRecDepth 100000
set_option maxHeartbeats 2000000
/-! DL: a law's call, told by what its def promises where no repr is under way. -/
namespace DL
open PySem PySem.Spec PyProof.Rows L2
/-- the law's end -/
abbrev LawR (h0 : Shared) : Result → Shared → Prop := fun r s' => r = .ok (.ret (.bool true)) ∧ OldK h0.heap s'.heap ∧ s'.os = h0.os ∧ AllBare s'.gens
section
variable {P : Program} {w : World} {K : PySem.W.Frag} {mg mb : Str → Option Value} {k : Nat} {fa a : Addr} {fd : FuncData} {x : Str} {sp : Sp} {s0 : Shared} {vs : List Value} {ns : List Int}
/-- from a heap in which at most the script is told -/
theorem law_core {H : Hp} (iK : K.In s0.heap) (gN : s0.heap.Ns mainGlobals mg) (bN : s0.heap.Ns builtinsNs mb) (bB : ∀ y : Str, y ≠ "__name__" → mb y = bootBuiltins y) (nl : s0.heap.NoLimit) (g0 : s0.gens = #[])
    (hs : s0.heap.get? a = some { cls := .type "list", data := .seq vs.toArray }) (room : Room k callerA) (F : ∀ base : Heap, K.In base → base.Ns mainGlobals mg → FnG P w K mg base k fa fd [x] sp) (bd : ∀ (s : Shared) (u : Value), BindsTo s fd ⟨[u], []⟩ [(x, u)])
    (only : Only H) (ok : HOk P w H s0.heap) (sole : ∀ b, H b ≠ none → b = a) (apart : H a ≠ none → K.lookup a = none) (q : sp [.ref a] H (fun v _ => v = .bl true) fun _ _ _ => False) :
    codeAny (model P w) callerA (.call (.ref fa) ⟨[.ref a], []⟩) (LawR s0) s0 := by
  have back : ∀ {b : Addr} {o : Obj}, s0.heap.get? b = some o → H b = none → (hidT s0.heap H).get? b = some o := fun u n => hidT_get u n
  have dictFree : ∀ {b : Addr} {m : Str → Option Value}, s0.heap.Ns b m → H b = none := fun {b m} ⟨o, es, ep, e, d, _⟩ => by
    by_cases z : H b = none
    · exact z
    · have eb := sole b z
      subst eb
      rw [hs] at e; cases e
      exact absurd (show Data.seq vs.toArray _ = Data.dict es ep from d) (fun z => nomatch z)
  have carry : ∀ {b : Addr} {m : Str → Option Value}, s0.heap.Ns b m → (hidT s0.heap H).Ns b m := fun {b m} z => by
    have n := dictFree z
    obtain ⟨o, es, ep, e, d, r⟩ := z
    exact ⟨o, es, ep, back e n, d, r⟩
  have kB : K.In (hidT s0.heap H) := fun b o e => back (iK b o e) (by
    by_cases z : H b = none
    · exact z
    · have eb := sole b z
      subst eb
      rw [apart z] at e
      cases e)
  have mM : Mod K mg (hidT s0.heap H) := ⟨kB, carry gN, ⟨mb, carry bN, bB⟩, let ⟨mc, h1, h2⟩ := nl; ⟨mc, carry h1, h2⟩⟩
  have en : Env0 P w K mg (hidT s0.heap H) callerA [] s0 H := ⟨rfl, mM, fun b o e => of_hidT e, Nat.le_of_eq (hidT_size _ _), trivial, fun b z => absurd (show b ∈ ([] : List Addr) from z) (by simp), ok, .of_eq g0⟩
  have go := (F _ kB (carry gN)).go callerA [] s0 H ⟨[.ref a], []⟩ [.ref a] [.ref a] _ _ ⟨room, rfl⟩ en (bd s0 (.ref a)) (.cons rfl .nil) q
  refine codeAny_mono go fun r s' z => ?_
  match r, z with
  | .error e, z =>
    obtain ⟨_, _, _, _, _, _, _, _, _, _, _, _, bad⟩ := z
    exact bad.elim
  | .ok .next, z => exact z.elim
  | .ok .brk, z => exact z.elim
  | .ok .cont, z => exact z.elim
  | .ok (.ret u), z =>
    obtain ⟨v, H', os, bare, un, ok', rv, e⟩ := z
    have e : v = .bl true := e
    subst e
    cases rv
    refine ⟨rfl, OldK.of_keep fun b o eb => ?_, os, bare⟩
    rcases only b with n | ⟨ob, xs, n⟩
    · exact un.keep b o eb n (fun z => absurd (show b ∈ ([] : List Addr) from z) (by simp)) (by simp)
    · have f1 := (ok b _ n).1
      have f2 := (ok' b _ (un.frzs b ob _ n)).1
      rw [eb] at f1
      cases f1
      exact f2
theorem law_callG (iK : K.In s0.heap) (gN : s0.heap.Ns mainGlobals mg) (bN : s0.heap.Ns builtinsNs mb) (bB : ∀ y : Str, y ≠ "__name__" → mb y = bootBuiltins y) (nl : s0.heap.NoLimit) (g0 : s0.gens = #[])
    (hs : s0.heap.get? a = some { cls := .type "list", data := .seq vs.toArray }) (hi : PyProof.Rows.IntsAre vs ns) (small : ns.length ≤ sizeLine) (room : Room k callerA) (F : ∀ base : Heap, K.In base → base.Ns mainGlobals mg → FnG P w K mg base k fa fd [x] sp) (bd : ∀ (s : Shared) (u : Value), BindsTo s fd ⟨[u], []⟩ [(x, u)])
    (hk : K.lookup a = none) (q : ∀ H : Hp, Only H → Rd H a (.lst (ns.map V.int)) → sp [.ref a] H (fun v _ => v = .bl true) fun _ _ _ => False) : codeAny (model P w) callerA (.call (.ref fa) ⟨[.ref a], []⟩) (LawR s0) s0 := by
  have rv := vals_ints hi
  let H : Hp := fun b => if b = a then some (.frz { cls := .type "list", data := .seq vs.toArray } (.lst (ns.map V.int))) else none
  have at1 : H a = some (.frz { cls := .type "list", data := .seq vs.toArray } (.lst (ns.map V.int))) := if_pos rfl
  have at0 : ∀ b, b ≠ a → H b = none := fun b z => if_neg z
  have on : Only H := fun b => (Classical.em (b = a)).elim (fun z => .inr ⟨_, _, z ▸ at1⟩) fun z => .inl (at0 b z)
  refine law_core (H := H) iK gN bN bB nl g0 hs room F bd on (fun b u z => ?_) (fun b z => Classical.byContradiction fun n => z (at0 b n)) (fun _ => hk) (q H on (.inr ⟨_, at1⟩))
  by_cases n : b = a
  · subst n
    rw [at1] at z
    cases z
    exact ⟨hs, by rw [List.length_map]; exact small, vs, _, rv, hs⟩
  · rw [at0 b n] at z
    cases z
end
/-- the goal that the head leaves -/
theorem walk_ofG {l : PySem.W.OpenLaw} {n k : Nat} {q : Program} {loose : List Str} {XP : (Str → Option Value) → Heap → Prop} {YP : World → Heap → Prop} {d : DefRec} {x : Str} (m : l.most = some n) (ms : n ≤ sizeLine) (nd : d.params.defaults = []) (room : Room k callerA)
    (F : ∀ (w : World) (mg : Str → Option Value) (fa : Addr) (h : Heap), YP w h → h.Ns mainGlobals mg → mg d.name = some (.ref fa) → ∃ (K : PySem.W.Frag) (fd : FuncData) (sp : Sp), K.In h ∧ (∀ (s : Shared) (u : Value), BindsTo s fd ⟨[u], []⟩ [(x, u)]) ∧
        (∀ b o, K.lookup b = some o → o.cls ≠ .type "list") ∧ (∀ (H : Hp) (a : Addr) (ns : List Int), ns.length ≤ n → Only H → Rd H a (.lst (ns.map V.int)) → sp [.ref a] H (fun v _ => v = .bl true) fun _ _ _ => False) ∧ ∀ base : Heap, K.In base → base.Ns mainGlobals mg → FnG l.prog w K mg base k fa fd [x] sp) :
    PySem.W.WalkO q loose XP YP l.row.toRowW d [] (fun f vs => PySem.call f vs) := by
  refine Att.attach_call m nd fun w t0 t1 mg mb fa o pm cd doc a vs ns G Y ho hd hcd gm obj hi len g0 => ?_
  obtain ⟨K, fd, sp, iK, bd, nl, hq, hF⟩ := F w mg fa _ Y G.T.g gm
  refine law_callG iK G.T.g G.T.b G.T.builtins G.T.nolimit g0 obj hi (Nat.le_trans len ms) room hF bd ?_ fun H on S => hq H a ns len on S
  cases e : K.lookup a with
  | none => rfl
  | some u =>
    have z := iK a u e
    rw [obj] at z
    cases z
    exact absurd rfl (nl a _ e)
end DL
end
section
set_option Elab.async false
set_option linter.all false
set_option maxRecDepth 100000
set_option maxHeartbeats 2000000
/-! HX: what the head tells of exception classes, too. -/
namespace HX
open PySem PySem.Spec PyProof.Rows L2 DL He
section
variable {P : Program} {K : PySem.W.Frag} {a : Addr}
def exiB (K : PySem.W.Frag) (a : Addr) : Bool := (PySem.W.clsIn K a).isSome && (eqO (PySem.W.findIn K (.ref a) "__getattribute__") (some (some (.builtin "BaseException.__getattribute__"))) && (eqO (PySem.W.findIn K (.ref a) "__getattr__") (some none) &&
  (decide (PySem.W.subIn K (.ref a) (.type "BaseException") = some true) && (eqO (PySem.W.findIn K (.ref a) "__class__") (some (some (.builtin "object.__class__"))) && (eqO (PySem.W.specialIn K (.builtin "object.__class__") "__get__") (some (some (.builtin "getset_descriptor.__get__"))) &&
  (decide (PySem.W.takesIn K (.builtin "object.__class__") = some true) && decide (PySem.W.mroIn K a (.type "object") = some true)))))))
theorem exiB_ok (h : exiB K a = true) : ExcI K a := by
  obtain ⟨h1, h⟩ := ba h
  obtain ⟨h2, h⟩ := ba h
  obtain ⟨h3, h⟩ := ba h
  obtain ⟨h4, h⟩ := ba h
  obtain ⟨h5, h⟩ := ba h
  obtain ⟨h6, h⟩ := ba h
  obtain ⟨h7, h8⟩ := ba h
  exact ⟨h1, eqO_ok h2, eqO_ok h3, of_decide_eq_true h4, eqO_ok h5, eqO_ok h6, of_decide_eq_true h7, of_decide_eq_true h8⟩
def shapeB (K : PySem.W.Frag) (a : Addr) : Bool := match K.lookup a with
  | some ⟨.type ty, _, .cls c, s⟩ => (match c.mro, s.toList with
    | .ref b :: r, [_, _, _, _, some (.builtin i), _] => decide (ty = "type") && (decide (b = a) && (decide (i = "ValueError.__new__") && (!c.hasDel && (c.hasDict && PySem.HandSPX.refsVE r))))
    | _, _ => false)
  | _ => false
theorem shapeB_ok (h : shapeB K a = true) : ∃ nm q N bs bm sn sub ab col dd k0 k1 k2 k3 k5, K.lookup a = some (excClassObj nm q a N bs bm true sn sub ab col dd k0 k1 k2 k3 k5 "ValueError.__new__") ∧ PySem.HandSPX.refsVE bm = true := by
  unfold shapeB at h
  split at h
  · rename_i ty dd c s ho
    split at h
    · rename_i b r k0 k1 k2 k3 i k5 hm hs
      obtain ⟨e1, h⟩ := ba h
      obtain ⟨e2, h⟩ := ba h
      obtain ⟨e3, h⟩ := ba h
      obtain ⟨e4, h⟩ := ba h
      obtain ⟨e5, e6⟩ := ba h
      have g1 := of_decide_eq_true e1
      have g2 := of_decide_eq_true e2
      have g3 := of_decide_eq_true e3
      have g4 : c.hasDel = false := by simpa using e4
      clear e1 e2 e3 e4 h
      subst g1 g2 g3
      obtain ⟨n1, n2, n3, n4, n5, n6, n7, n8, n9, n10, n11⟩ := c
      dsimp only at hm g4 e5
      subst hm g4 e5
      have hsl : s = #[k0, k1, k2, k3, some (.builtin "ValueError.__new__"), k5] := by
        obtain ⟨l⟩ := s
        simp only at hs
        rw [hs]
      subst hsl
      exact ⟨_, _, _, _, _, _, _, _, _, _, _, _, _, _, _, ho, e6⟩
    · cases h
  · cases h
def oexB (K : PySem.W.Frag) (a : Addr) : Bool := shapeB K a && (eqO (PySem.W.findIn K (.ref a) "__setattr__") (some (some (.builtin "object.__setattr__"))) && (decide (PySem.W.subIn K (.ref a) (.type "BaseException") = some true) && (decide (PySem.W.typeIn K (.ref a) = some (.type "type")) && PySem.W.keepIn K (.ref a))))
theorem oexB_ok (h : oexB K a = true) : OexC K a := by
  obtain ⟨h1, h⟩ := ba h
  obtain ⟨h2, h⟩ := ba h
  obtain ⟨h3, h⟩ := ba h
  obtain ⟨h4, h5⟩ := ba h
  exact ⟨shapeB_ok h1, eqO_ok h2, of_decide_eq_true h3, of_decide_eq_true h4, h5⟩
/-- a class's __init__ that closes over its class -/
structure ZD where
  C : Str
  qual : Str
  st : Stmt
abbrev FnZ : Type := Option (Str × Str × Arguments × FuncBody × Scope × Addr × List Str × Addr)
def iAd (K : PySem.W.Frag) (C : Str) : Addr := ma K (ga K C) "__init__"
def fnZ (K : PySem.W.Frag) (C : Str) : FnZ := match K.lookup (iAd K C) with
  | some ⟨_, _, .func fd, _⟩ => some (fd.name, fd.qualname, fd.params, fd.body, fd.scope, fd.globals, fd.closure.map (·.1), fd.builtins)
  | _ => none
def ZD.val (z : ZD) : FnZ := some ("__init__", z.qual, defArgs z.st, .stmts (defBody z.st), defScope z.st, mainGlobals, ["__class__"], builtinsNs)
def cellB (K : PySem.W.Frag) (c D : Addr) : Bool := match K.lookup c with
  | some ⟨_, _, .cell (some (.ref d)), _⟩ => decide (d = D)
  | _ => false
def fileV (P : Program) : Option Value → Bool
  | some (.str z _) => (P.main.file : Str) == z
  | _ => false
def fileB (P : Program) (K : PySem.W.Frag) (c : Addr) : Bool := match K.lookup c with
  | some ⟨_, _, .fields vs, _⟩ => fileV P (vs[2]?)
  | _ => false
def codeB (P : Program) (K : PySem.W.Frag) (f D : Addr) (q : Str) : Bool := match K.lookup f with
  | some ⟨_, _, .func fd, _⟩ => (match fd.closure, fd.code, fd.defaults with
    | [(_, c)], .ref d, .none => PySem.W.codeIn K (.ref d) q && (cellB K c D && fileB P K d)
    | _, _, _ => false)
  | _ => false
def supB (P : Program) (K : PySem.W.Frag) (z : ZD) : Bool := oexB K (ga K z.C) && (eqO (PySem.W.findIn K (.ref (ga K z.C)) "__init__") (some (some (.ref (iAd K z.C)))) && (decide (PySem.W.typeIn K (.ref (iAd K z.C)) = some (.type "function")) && (decide (PySem.W.mroIn K (ga K z.C) (.ref (ga K z.C)) = some true) &&
  (eqO (PySem.W.ks_superIn K (ga K z.C) (ga K z.C) "__init__") (some (some (.builtin "ValueError.__init__"))) && (decide (PySem.W.subIn K (.ref (ga K z.C)) (.type "ValueError") = some true) && (eqO (PySem.W.nsIn K cStatics "thirdparty.any") (some none) && ((PySem.W.clsIn K (ga K z.C)).isSome && codeB P K (iAd K z.C) (ga K z.C) z.qual)))))))
theorem supB_ok {z : ZD} (e : fnZ K z.C = z.val) (h : supB P K z = true) : ∃ fd, SupX P K "__init__" z.qual z.st (iAd K z.C) fd (ga K z.C) ∧ PySem.W.findIn K (.ref (ga K z.C)) "__init__" = some (some (.ref (iAd K z.C))) ∧ PySem.W.typeIn K (.ref (iAd K z.C)) = some (.type "function") := by
  obtain ⟨h1, h⟩ := ba h
  obtain ⟨h2, h⟩ := ba h
  obtain ⟨h3, h⟩ := ba h
  obtain ⟨h4, h⟩ := ba h
  obtain ⟨h5, h⟩ := ba h
  obtain ⟨h6, h⟩ := ba h
  obtain ⟨h7, h⟩ := ba h
  obtain ⟨h8, h9⟩ := ba h
  unfold codeB at h9
  unfold fnZ at e
  split at h9
  · rename_i oc od fd osl ho
    rw [ho] at e
    split at h9
    · rename_i y c d hc hd hf
      obtain ⟨g1, g⟩ := ba h9
      obtain ⟨g2, g3⟩ := ba g
      unfold cellB at g2
      split at g2
      · rename_i c1 c2 dd c3 hcell
        have g2 := of_decide_eq_true g2
        subst g2
        unfold fileB at g3
        split at g3
        · rename_i d1 d2 vs d3 hcode
          unfold fileV at g3
          split at g3
          · rename_i v0 w1 tf hv
            obtain ⟨n1, n2, n3, n4, n5, n6, n7, n8, n9, n10, n11, n12, n13, n14, n15⟩ := fd
            dsimp only at hc hd hf
            subst hc hd hf
            have e2 : (some (n1, n2, n3, n4, n5, n6, [y], n15) : FnZ) = (some ("__init__", z.qual, defArgs z.st, .stmts (defBody z.st), defScope z.st, mainGlobals, ["__class__"], builtinsNs) : FnZ) := e
            simp only [Option.some.injEq, Prod.mk.injEq, List.cons.injEq, and_true] at e2
            obtain ⟨q1, q2, q3, q4, q5, q6, q7, q8⟩ := e2
            subst q1 q2 q3 q4 q5 q6 q7 q8
            exact ⟨_, ⟨⟨oc, od, n9, n10, n11, n12, d, c, n14, osl, c1, c2, c3, d1, d2, vs, d3, w1, tf, rfl, ho, g1, hcell, hcode, hv, g3⟩, Option.isSome_iff_exists.mp h8, of_decide_eq_true h4, eqO_ok h5, of_decide_eq_true h6, eqO_ok h7, oexB_ok h1⟩, eqO_ok h2, of_decide_eq_true h3⟩
          · cases g3
        · cases g3
      · cases g2
    · cases h9
  · cases h9
theorem mem_lk {b : Addr} {o : Obj} : ∀ {K : PySem.W.Frag}, K.lookup b = some o → (b, o) ∈ K
  | [], e => by simp at e
  | (c, u) :: K, e => by
    rw [List.lookup_cons] at e
    split at e
    · rename_i h
      cases e
      rw [beq_iff_eq.mp h]
      exact List.mem_cons_self
    · exact List.mem_cons_of_mem _ (mem_lk e)
def noLst (K : PySem.W.Frag) : Bool := K.all fun p => decide (p.2.cls ≠ .type "list")
theorem noLst_ok (h : noLst K = true) : ∀ b o, K.lookup b = some o → o.cls ≠ .type "list" := fun b o e => of_decide_eq_true (List.all_eq_true.mp h (b, o) (mem_lk e))
end
/-! ### the hook -/
abbrev AlZ : Type := Bool × List FnW × List FnZ
def obsZ (P : Program) (fa : List Fa) (fn : List DefD) (zs : List ZD) (ck : PySem.W.Frag → Bool) (K : PySem.W.Frag) : AlZ := (noLst K && (ck K && ((fa.all fun f => f.ok K) && ((fn.all fun d => d.ok K) && zs.all fun z => supB P K z))), fn.map (fun d => fnW K d.at_), zs.map fun z => fnZ K z.C)
def valZ (fn : List DefD) (zs : List ZD) : AlZ := (true, fn.map DefD.val, zs.map ZD.val)
def obsZG (P : Program) (n : Nat) (fa : List Fa) (fn : List DefD) (zs : List ZD) (ck : PySem.W.Frag → Bool) (g : Addr → Option Obj) : AlZ := obsZ P fa fn zs ck (frG g (cStatics :: asD g n))
def SaysZ (P : Program) (fa : List Fa) (fn : List DefD) (zs : List ZD) (ck : PySem.W.Frag → Bool) (K : PySem.W.Frag) : Prop := obsZ P fa fn zs ck K = valZ fn zs
def hookZ (P : Program) (n : Nat) (fa : List Fa) (fn : List DefD) (zs : List ZD) (ck : PySem.W.Frag → Bool) : PySem.W.Hook :=
  { α := AlZ, obs := fun s => obsZG P n fa fn zs ck s.heap.get?, val := fun _ => valZ fn zs, says := fun _ h => ∃ K : PySem.W.Frag, K.In h ∧ SaysZ P fa fn zs ck K, of := fun _ _ e => ⟨_, frG_in, e⟩, keeps := fun _ _ _ ⟨K, hK, c⟩ k => ⟨K, PySem.W.Frag.In.keeps hK k, c⟩ }
theorem obsZG_eq {P : Program} {n : Nat} {fa : List Fa} {fn : List DefD} {zs : List ZD} {ck : PySem.W.Frag → Bool} {g : Addr → Option Obj} {s : Shared} (h : ∀ a, g a = s.heap.get? a) : obsZG P n fa fn zs ck g = (hookZ P n fa fn zs ck).obs s := by
  have e : g = s.heap.get? := funext h
  rw [e]
  rfl
section
variable {P : Program} {fa : List Fa} {fn : List DefD} {zs : List ZD} {ck : PySem.W.Frag → Bool} {K : PySem.W.Frag}
theorem SaysZ.all (c : SaysZ P fa fn zs ck K) : noLst K = true ∧ ck K = true ∧ (fa.all fun f => f.ok K) = true ∧ (fn.all fun d => d.ok K) = true ∧ (zs.all fun z => supB P K z) = true := by
  have z := congrArg (fun z : AlZ => z.1) c
  obtain ⟨h1, h⟩ := ba z
  obtain ⟨h2, h⟩ := ba h
  obtain ⟨h3, h⟩ := ba h
  obtain ⟨h4, h5⟩ := ba h
  exact ⟨h1, h2, h3, h4, h5⟩
theorem SaysZ.fact (c : SaysZ P fa fn zs ck K) (i : Nat) {f : Fa} (h : fa[i]? = some f := by rfl) : f.ok K = true := List.all_eq_true.mp c.all.2.2.1 f (List.mem_of_getElem? h)
theorem SaysZ.def_ (c : SaysZ P fa fn zs ck K) (i : Nat) {d : DefD} (h : fn[i]? = some d := by rfl) : ∃ fd, FunD K d.name d.qual d.params d.body d.scope (d.dvs K) (d.kws K) (fAd K d.at_) fd := by
  have e : fn.map (fun d => fnW K d.at_) = fn.map DefD.val := congrArg (fun z : AlZ => z.2.1) c
  have e2 : (fn.map fun d => fnW K d.at_)[i]? = (fn.map DefD.val)[i]? := congrArg (fun l => l[i]?) e
  rw [List.getElem?_map, List.getElem?_map, h] at e2
  exact DefD.funD (Option.some.inj e2) (List.all_eq_true.mp c.all.2.2.2.1 d (List.mem_of_getElem? h))
theorem SaysZ.sup (c : SaysZ P fa fn zs ck K) (i : Nat) {z : ZD} (h : zs[i]? = some z := by rfl) : ∃ fd, SupX P K "__init__" z.qual z.st (iAd K z.C) fd (ga K z.C) ∧ PySem.W.findIn K (.ref (ga K z.C)) "__init__" = some (some (.ref (iAd K z.C))) ∧ PySem.W.typeIn K (.ref (iAd K z.C)) = some (.type "function") := by
  have e : zs.map (fun z => fnZ K z.C) = zs.map ZD.val := congrArg (fun z : AlZ => z.2.2) c
  have e2 : (zs.map fun z => fnZ K z.C)[i]? = (zs.map ZD.val)[i]? := congrArg (fun l => l[i]?) e
  rw [List.getElem?_map, List.getElem?_map, h] at e2
  exact supB_ok (Option.some.inj e2) (List.all_eq_true.mp c.all.2.2.2.2 z (List.mem_of_getElem? h))
end
/-- how such a def's arguments bind -/
theorem sup_binds {P : Program} {K : PySem.W.Frag} {x qual : Str} {st : Stmt} {f D : Addr} {fd : FuncData} {ps : List Str} (S : SupX P K x qual st f fd D)
    (h : ∀ (cl : List (Str × Addr)) (kV doc pm : Value) (an : Option Addr) (cdv ct : Value) (us : List Value), us.length = ps.length → bindArgs (PySem.W.fnX x qual (defArgs st) (defBody st) (defScope st) cl .none kV doc pm an cdv ct) ⟨us, []⟩ = pure (ps.zip us)) : Binds K fd ps [] := by
  obtain ⟨oc, od, kV, doc, pm, an, cda, cc, ct, osl, cl, cld, csl, ccl, cdd, vs, ccs, file, tf, rfl, _⟩ := S.ex
  exact .all (h _ kV doc pm an (.ref cda) ct)
end HX
end
section
set_option Elab.async false
set_option linter.all false
set_option maxRecDepth 100000
set_option maxHeartbeats 2000000
/-! list(zip(x, y)). -/
namespace ZL
open PySem PySem.W PySem.Calls
/-- a zip that has handed its first pair out -/
abbrev ZOut (h : Heap) (z TI TO a : Addr) (f : Bool) : Prop := h.get? z = some { cls := .type "zip", dict := none, data := .fields #[rawInt a, .bool f, .bool false, .ref TI, .ref TO], slots := #[] }
section
variable {prog : Program} {w : World} {A : Around} {E : Value → Shared → Prop} {s : Shared} {z TI TO i1 i2 a : Addr} {oa : Obj} {f : Bool} {fp1 fp2 : List Addr} {n1 n2 i : Nat} {P1 P2 : Nat → Value → Prop} {St1 St2 : Nat → Heap → Prop}
theorem notFree {Q : Bool → Shared → Prop} (hz : ZOut s.heap z TI TO a f) (ha : s.heap.get? a = some oa) (haz : a ≠ z) (h : ∀ h', ZOut h' z TI TO a true → Heap.SameBut z s.heap h' → Q false { s with heap := h' }) : wpAny (model prog w) A (Builtin.SmallTypes.ownedTupleIsFree (.ref z)) Q E s := by
  unfold Builtin.SmallTypes.ownedTupleIsFree
  refine wpAny_bind (wpAny_field hz rfl (x := rawInt a) rfl ?_)
  show wpAny _ _ (loadIfAlive ((a : Int).toNat) >>= _) _ _ _
  rw [Int.toNat_natCast]
  refine wpAny_bind (kdx_alive ha ?_)
  simp only [Option.isNone_some, Bool.false_eq_true, if_false]
  refine wpAny_bind (wpAny_field hz rfl (x := .bool f) rfl ?_)
  cases f with
  | true =>
    rw [if_neg (by decide)]
    exact wpAny_pure (h _ hz (Heap.SameBut.refl _ _))
  | false =>
    rw [if_pos (by decide)]
    exact wpAny_bind (wpAny_setField_rec hz (by simp) fun h' e' s' => wpAny_pure (h h' e' s'))
theorem out_item {Q : Value → Shared → Prop} (S : ZipSep2 z TI TO i1 i2 fp1 fp2) (D1 : Draws prog w A i1 fp1 n1 P1 St1) (D2 : Draws prog w A i2 fp2 n2 P2 St2)
    (hz : ZOut s.heap z TI TO a f) (ha : s.heap.get? a = some oa) (haz : a ≠ z) (hTI : IsTupOf2 s.heap TI (.ref i1) (.ref i2)) (st1 : St1 i s.heap) (st2 : St2 i s.heap) (l1 : i < n1) (l2 : i < n2)
    (hQ : ∀ x1 x2 h' tk, P1 i x1 → P2 i x2 → ZOut h' z TI TO a true → St1 (i + 1) h' → St2 (i + 1) h' → IsTupOf2 h' s.heap.objs.size x1 x2 → h'.objs.size = s.heap.objs.size + 1 → (∀ c o, c ≠ z → c ≠ i1 → c ≠ i2 → s.heap.get? c = some o → h'.get? c = some o) → Q (.ref s.heap.objs.size) { s with heap := h', toks := tk }) :
    wpAny (model prog w) A (Builtin.«zip.__next__» ⟨[.ref z], []⟩) (fun fin s' => ∃ v, fin = .done (.ret v) ∧ Q v s') E s := by
  obtain ⟨hp, g, d, tk0, os⟩ := s
  show wpAny _ _ (field (.ref z) 2 >>= _) _ _ _
  refine wpAny_bind (wpAny_field hz rfl (x := .bool false) rfl ?_)
  show wpAny _ _ (field (.ref z) 3 >>= _) _ _ _
  refine wpAny_bind (wpAny_field hz rfl (x := .ref TI) rfl (wpAny_bind (wpAny_seqItems hTI rfl ?_)))
  show wpAny _ _ (Builtin.SmallTypes.ownedTupleIsFree (.ref z) >>= _) _ _ _
  refine wpAny_bind (notFree hz ha haz fun q0 z0 s0 => ?_)
  simp only [Bool.false_eq_true, if_false]
  refine wpAny_bind ?_
  simp only [List.forIn_toArray, List.forIn_cons, List.forIn_nil]
  refine wpAny_bind (wpAny_bind (wpAny_holding ?_))
  show wpAny _ _ (Builtin.SmallTypes.nextOf (.ref i1) >>= _) _ _ ⟨q0, g, d, tk0, os⟩
  refine wpAny_bind (D1.item i _ _ _ l1 (D1.over st1 s0 S.zf1) fun x1 q1 t1 y1 m1 s1 => wpAny_pure (wpAny_pure ?_))
  replace s1 : Heap.SameBut i1 q0 q1 := s1
  refine wpAny_bind (wpAny_bind (wpAny_holding ?_))
  show wpAny _ _ (Builtin.SmallTypes.nextOf (.ref i2) >>= _) _ _ ⟨q1, g, d, t1, os⟩
  refine wpAny_bind (D2.item i _ _ _ l2 (D2.over (D2.over st2 s0 S.zf2) s1 S.sep1_2) fun x2 q2 t2 y2 m2 s2 => wpAny_pure (wpAny_pure (wpAny_pure ?_)))
  replace s2 : Heap.SameBut i2 q1 q2 := s2
  refine wpAny_bind (wpAny_newTuple ?_ (by show 2 ≤ sizeLine; decide))
  have sz : q2.objs.size = hp.objs.size := by rw [s2.1, s1.1, s0.1]
  have kk : ∀ c o, c ≠ z → c ≠ i1 → c ≠ i2 → hp.get? c = some o → q2.get? c = some o := fun c o cz c1 c2 e => s2.extBut _ _ c2 (s1.extBut _ _ c1 (s0.extBut _ _ cz e))
  have zz : ZOut q2 z TI TO a true := s2.extBut _ _ S.zi2 (s1.extBut _ _ S.zi1 z0)
  have up : ∀ c o, q2.get? c = some o → (q2.push ({ cls := .type "tuple", data := .seq #[x1, x2] } : Obj)).get? c = some o := fun c o e => Heap.get?_push_of_some _ e
  refine wpAny_pure ⟨_, rfl, ?_⟩
  have fin := hQ x1 x2 (q2.push ({ cls := .type "tuple", data := .seq #[x1, x2] } : Obj)) t2 y1 y2 (up _ _ zz) (D1.frame _ _ _ (D1.over m1 s2 S.sep2_1) fun b _ o e => up b o e) (D2.frame _ _ _ m2 fun b _ o e => up b o e) (by rw [← sz]; exact Heap.get?_push_size _ rfl) (by rw [Heap.size_push, sz]) fun c o cz c1 c2 e => up c o (kk c o cz c1 c2 e)
  rw [← sz] at fin
  exact fin
theorem out_end {Q : Fin → Shared → Prop} (S : ZipSep2 z TI TO i1 i2 fp1 fp2) (D1 : Draws prog w A i1 fp1 n1 P1 St1) (D2 : Draws prog w A i2 fp2 n2 P2 St2)
    (hz : ZOut s.heap z TI TO a f) (ha : s.heap.get? a = some oa) (haz : a ≠ z) (hTI : IsTupOf2 s.heap TI (.ref i1) (.ref i2)) (st1 : St1 i s.heap) (st2 : St2 i s.heap) (e1 : i ≤ n1) (e2 : i ≤ n2) (hend : i = n1 ∨ i = n2)
    (hE : ∀ h' tk e, (∀ c o, c ≠ z → c ≠ i1 → c ≠ i2 → s.heap.get? c = some o → h'.get? c = some o) → (∃ o, h'.get? e = some o ∧ o.cls = .type "StopIteration") → E (.ref e) { s with heap := h', toks := tk }) : wpAny (model prog w) A (Builtin.«zip.__next__» ⟨[.ref z], []⟩) Q E s := by
  obtain ⟨hp, g, d, tk0, os⟩ := s
  show wpAny _ _ (field (.ref z) 2 >>= _) _ _ _
  refine wpAny_bind (wpAny_field hz rfl (x := .bool false) rfl ?_)
  show wpAny _ _ (field (.ref z) 3 >>= _) _ _ _
  refine wpAny_bind (wpAny_field hz rfl (x := .ref TI) rfl (wpAny_bind (wpAny_seqItems hTI rfl ?_)))
  show wpAny _ _ (Builtin.SmallTypes.ownedTupleIsFree (.ref z) >>= _) _ _ _
  refine wpAny_bind (notFree hz ha haz fun q0 z0 s0 => ?_)
  simp only [Bool.false_eq_true, if_false]
  refine wpAny_bind ?_
  simp only [List.forIn_toArray, List.forIn_cons, List.forIn_nil]
  refine wpAny_bind (wpAny_bind (wpAny_holding ?_))
  show wpAny _ _ (Builtin.SmallTypes.nextOf (.ref i1) >>= _) _ _ ⟨q0, g, d, tk0, os⟩
  by_cases l1 : i < n1
  · refine wpAny_bind (D1.item i _ _ _ l1 (D1.over st1 s0 S.zf1) fun x1 q1 t1 y1 m1 s1 => wpAny_pure (wpAny_pure ?_))
    replace s1 : Heap.SameBut i1 q0 q1 := s1
    have hi2 : i = n2 := by omega
    refine wpAny_bind (wpAny_bind (wpAny_holding ?_))
    show wpAny _ _ (Builtin.SmallTypes.nextOf (.ref i2) >>= _) _ _ ⟨q1, g, d, t1, os⟩
    refine wpAny_bind (D2.done ⟨q1, g, d, t1, os⟩ _ _ (by rw [← hi2]; exact D2.over (D2.over st2 s0 S.zf2) s1 S.sep1_2) fun q e hq he => ?_)
    exact hE q t1 e (fun c o cz c1 c2 x => hq _ _ c2 (s1.extBut _ _ c1 (s0.extBut _ _ cz x))) he
  · have hi1 : i = n1 := by omega
    refine wpAny_bind (D1.done ⟨q0, g, d, tk0, os⟩ _ _ (by rw [← hi1]; exact D1.over st1 s0 S.zf1) fun q e hq he => ?_)
    exact hE q tk0 e (fun c o cz c1 c2 x => hq _ _ c1 (s0.extBut _ _ cz x)) he
end
section
variable {prog : Program} {w : World} {A : Around} {E : Value → Shared → Prop} {s : Shared} {z TI TO i1 i2 S : Addr} {fp1 fp2 : List Addr} {n1 n2 i : Nat} {P1 P2 : Nat → Value → Prop} {St1 St2 : Nat → Heap → Prop}
/-- where the zip stands: at its beginning, or with its first pair out -/
def ZSt (z TI TO i1 i2 S : Addr) (St1 St2 : Nat → Heap → Prop) (i : Nat) (h : Heap) : Prop :=
  IsTupOf2 h TI (.ref i1) (.ref i2) ∧ St1 i h ∧ St2 i h ∧ ((IsZip h z TI TO .none ∧ ∃ p q, IsTupOf2 h TO p q) ∨ ∃ a f oa, ZOut h z TI TO a f ∧ h.get? a = some oa ∧ a ≠ z ∧ a ≠ i1 ∧ a ≠ i2 ∧ a ≠ S)
theorem step_item {Q : Option Value → Shared → Prop} (Z : ZipSep2 z TI TO i1 i2 fp1 fp2) (D1 : Draws prog w A.in1 i1 fp1 n1 P1 St1) (D2 : Draws prog w A.in1 i2 fp2 n2 P2 St2) (st : ZSt z TI TO i1 i2 S St1 St2 i s.heap) (hS : S < s.heap.objs.size) (l1 : i < n1) (l2 : i < n2)
    (hQ : ∀ x1 x2 h' tk, P1 i x1 → P2 i x2 → ZSt z TI TO i1 i2 S St1 St2 (i + 1) h' → IsTupOf2 h' s.heap.objs.size x1 x2 → h'.objs.size = s.heap.objs.size + 1 → (∀ c o, c ≠ z → c ≠ TO → c ≠ i1 → c ≠ i2 → s.heap.get? c = some o → h'.get? c = some o) → Q (some (.ref s.heap.objs.size)) { s with heap := h', toks := tk }) :
    wpAny (model prog w) A (pyNext (.ref z)) Q E s := by
  obtain ⟨hTI, s1, s2, st⟩ := st
  have lt : ∀ {c o}, s.heap.get? c = some o → s.heap.objs.size ≠ c := fun e => Nat.ne_of_gt (Heap.lt_size e)
  have li1 : s.heap.objs.size ≠ i1 := by obtain ⟨_, e⟩ := D1.live _ _ s1; exact lt e
  have li2 : s.heap.objs.size ≠ i2 := by obtain ⟨_, e⟩ := D2.live _ _ s2; exact lt e
  rcases st with ⟨hz, p, q, hTO⟩ | ⟨a, f, oa, hz, ha, a1, a2, a3, a4⟩
  · refine wpAny_pyNext_zipD2_item Z D1 D2 hz hTI hTO s1 s2 l1 l2 fun x1 x2 h' tk y1 y2 b1 b2 d1 d2 b5 b6 hk => ?_
    exact hQ x1 x2 h' tk y1 y2 ⟨hk _ _ Z.TIz Z.TITO Z.TIi1 Z.TIi2 hTI, d1, d2, .inr ⟨s.heap.objs.size, false, _, b1, b5, lt hz, li1, li2, Nat.ne_of_gt hS⟩⟩ b5 b6 hk
  · have hT : s.TypeIs (.ref z) "zip" := ⟨_, hz, rfl⟩
    unfold pyNext
    refine wpAny_bind (wpAny_attempt (wpAny_callSpecial?_slot (name := Str.ofString "__next__") hT F.slot_zip_next ?_))
    refine wpAny_call_entry F.slot_zip_next hT F.entry_zip_next ?_ (F.args_zip_next_1 _)
    refine out_item Z D1 D2 hz ha a1 hTI s1 s2 l1 l2 fun x1 x2 h' tk y1 y2 b1 d1 d2 b5 b6 hk => wpAny_pure ?_
    exact hQ x1 x2 h' tk y1 y2 ⟨hk _ _ Z.TIz Z.TIi1 Z.TIi2 hTI, d1, d2, .inr ⟨a, true, oa, b1, hk _ _ a1 a2 a3 ha, a1, a2, a3, a4⟩⟩ b5 b6 fun c o c1 _ c2 c3 e => hk c o c1 c2 c3 e
theorem step_end {Q : Option Value → Shared → Prop} (Z : ZipSep2 z TI TO i1 i2 fp1 fp2) (D1 : Draws prog w A.in1 i1 fp1 n1 P1 St1) (D2 : Draws prog w A.in1 i2 fp2 n2 P2 St2) (st : ZSt z TI TO i1 i2 S St1 St2 i s.heap) (e1 : i ≤ n1) (e2 : i ≤ n2) (hend : i = n1 ∨ i = n2)
    (hQ : ∀ h' tk, (∀ c o, c ≠ z → c ≠ TO → c ≠ i1 → c ≠ i2 → s.heap.get? c = some o → h'.get? c = some o) → Q none { s with heap := h', toks := tk }) :
    wpAny (model prog w) A (pyNext (.ref z)) Q E s := by
  obtain ⟨hTI, s1, s2, st⟩ := st
  rcases st with ⟨hz, p, q, hTO⟩ | ⟨a, f, oa, hz, ha, a1, _⟩
  · exact wpAny_pyNext_zipD2_end Z D1 D2 hz hTI hTO s1 s2 e1 e2 hend fun h' tk hk => hQ h' tk hk
  · have hT : s.TypeIs (.ref z) "zip" := ⟨_, hz, rfl⟩
    unfold pyNext
    refine wpAny_bind (wpAny_attempt (wpAny_callSpecial?_slot (name := Str.ofString "__next__") hT F.slot_zip_next ?_))
    refine wpAny_call_entry F.slot_zip_next hT F.entry_zip_next ?_ (F.args_zip_next_1 _)
    refine out_end Z D1 D2 hz ha a1 hTI s1 s2 e1 e2 hend fun h' tk e hk he => ?_
    obtain ⟨o, ho, hc⟩ := he
    exact wpAny_bind (wpAny_isInstance (T := "StopIteration") (b := true) ⟨o, ho, hc⟩ isSubtype_stop (wpAny_pure (hQ _ _ fun c o c1 _ c2 c3 e => hk c o c1 c2 c3 e)))
theorem ZSt.keep {h h' : Heap} (Z : ZipSep2 z TI TO i1 i2 fp1 fp2) (D1 : Draws prog w A i1 fp1 n1 P1 St1) (D2 : Draws prog w A i2 fp2 n2 P2 St2) (st : ZSt z TI TO i1 i2 S St1 St2 i h) (lz : z ≠ S) (lI : TI ≠ S) (lO : TO ≠ S) (f1 : S ∉ fp1) (f2 : S ∉ fp2)
    (hk : ∀ b o, b ≠ S → h.get? b = some o → h'.get? b = some o) : ZSt z TI TO i1 i2 S St1 St2 i h' := by
  obtain ⟨hTI, s1, s2, st⟩ := st
  refine ⟨hk _ _ lI hTI, D1.frame _ _ _ s1 fun b hb o e => hk b o (fun q => f1 (q ▸ hb)) e, D2.frame _ _ _ s2 fun b hb o e => hk b o (fun q => f2 (q ▸ hb)) e, ?_⟩
  rcases st with ⟨hz, p, q, hTO⟩ | ⟨a, f, oa, hz, ha, a1, a2, a3, a4⟩
  · exact .inl ⟨hk _ _ lz hz, p, q, hk _ _ lO hTO⟩
  · exact .inr ⟨a, f, oa, hk _ _ lz hz, hk _ _ a4 ha, a1, a2, a3, a4⟩
/-- the pairs made so far -/
structure Prs (P1 P2 : Nat → Value → Prop) (lo : Addr) (h : Heap) (as : List Addr) : Prop where
  up : as.Pairwise (· < ·)
  ab : ∀ a ∈ as, lo < a
  at_ : ∀ (j : Nat) (a : Addr), as[j]? = some a → ∃ x y, P1 j x ∧ P2 j y ∧ IsTupOf2 h a x y
theorem Prs.live {lo : Addr} {h : Heap} {as : List Addr} (g : Prs P1 P2 lo h as) {a : Addr} (ha : a ∈ as) : a < h.objs.size := by
  obtain ⟨j, hj⟩ := List.mem_iff_getElem?.mp ha
  obtain ⟨_, _, _, _, e⟩ := g.at_ j a hj
  exact Heap.lt_size e
theorem loop {R : Result → Shared → Prop} (Z : ZipSep2 z TI TO i1 i2 fp1 fp2) (D1 : Draws prog w A.in1.in1 i1 fp1 n1 P1 St1) (D2 : Draws prog w A.in1.in1 i2 fp2 n2 P2 St2) (lz : z < S) (lI : TI < S) (lO : TO < S) (l1 : i1 < S) (l2 : i2 < S) (f1 : S ∉ fp1) (f2 : S ∉ fp2) (hn : min n1 n2 ≤ sizeLine) (res : Value) {h₁ : Heap}
    (hR : ∀ h' tk acc c as, (∀ b o, b ≠ S → b ≠ z → b ≠ TO → b ≠ i1 → b ≠ i2 → h₁.get? b = some o → h'.get? b = some o) → h'.get? S = some { cls := .type "list", dict := none, data := .seq acc c, slots := #[] } → as.length = min n1 n2 → Prs P1 P2 S h' as → acc.toList = as.map Value.ref → R (.ok (.ret res)) { s with heap := h', toks := tk }) :
    ∀ (k i : Nat) (h : Heap) (tk c : Nat) (acc : Array Value) (as : List Addr), min n1 n2 - i = k → i ≤ min n1 n2 → ZSt z TI TO i1 i2 S St1 St2 i h → (∀ b o, b ≠ S → b ≠ z → b ≠ TO → b ≠ i1 → b ≠ i2 → h₁.get? b = some o → h.get? b = some o) →
      h.get? S = some { cls := .type "list", dict := none, data := .seq acc c, slots := #[] } → acc.toList = as.map Value.ref → as.length = i → Prs P1 P2 S h as →
      codeAny (model prog w) A (.builtin "list.extend.loop" ⟨[.ref S, .ref z, res], []⟩) R { s with heap := h, toks := tk } := by
  have ab : ∀ {a : Addr}, S < a → a ≠ z ∧ a ≠ TO ∧ a ≠ i1 ∧ a ≠ i2 := fun h => ⟨Nat.ne_of_gt (Nat.lt_trans lz h), Nat.ne_of_gt (Nat.lt_trans lO h), Nat.ne_of_gt (Nat.lt_trans l1 h), Nat.ne_of_gt (Nat.lt_trans l2 h)⟩
  intro k
  induction k with
  | zero =>
    intro i h tk c acc as hk hi st keep hS hacc hal hG
    refine codeAny_builtin PySem.F.entry_extend_loop ?_
    rw [Around.under_plainId PySem.F.plain_extend_loop _]
    show wpAny _ A.in1 (pyNext (.ref z) >>= _) _ _ _
    refine wpAny_bind (step_end (s := { s with heap := h, toks := tk }) (A := A.in1) Z D1 D2 st (by omega) (by omega) (by omega) fun h' tk' kp => ?_)
    refine wpAny_pure (hR h' tk' acc c as (fun b o g1 g2 g3 g4 g5 e => kp b o g2 g3 g4 g5 (keep b o g1 g2 g3 g4 g5 e)) (kp S _ (Nat.ne_of_gt lz) (Nat.ne_of_gt lO) (Nat.ne_of_gt l1) (Nat.ne_of_gt l2) hS) (by omega) ⟨hG.up, hG.ab, fun j a hj => ?_⟩ hacc)
    obtain ⟨x, y, e1, e2, e3⟩ := hG.at_ j a hj
    obtain ⟨g2, g3, g4, g5⟩ := ab (hG.ab a (List.mem_of_getElem? hj))
    exact ⟨x, y, e1, e2, kp a _ g2 g3 g4 g5 e3⟩
  | succ k ih =>
    intro i h tk c acc as hk hi st keep hS hacc hal hG
    have sz : acc.size = i := by rw [← Array.length_toList, hacc, List.length_map, hal]
    refine codeAny_builtin PySem.F.entry_extend_loop ?_
    rw [Around.under_plainId PySem.F.plain_extend_loop _]
    show wpAny _ A.in1 (pyNext (.ref z) >>= _) _ _ _
    have sl : S < h.objs.size := Heap.lt_size hS
    refine wpAny_bind (step_item (s := { s with heap := h, toks := tk }) (A := A.in1) Z D1 D2 st sl (by omega) (by omega) fun x1 x2 h' tk' y1 y2 st' hT hz kp => ?_)
    replace hT : IsTupOf2 h' h.objs.size x1 x2 := hT
    replace hz : h'.objs.size = h.objs.size + 1 := hz
    replace kp : ∀ c o, c ≠ z → c ≠ TO → c ≠ i1 → c ≠ i2 → h.get? c = some o → h'.get? c = some o := kp
    have hS' := kp S _ (Nat.ne_of_gt lz) (Nat.ne_of_gt lO) (Nat.ne_of_gt l1) (Nat.ne_of_gt l2) hS
    have ot : ∀ b o, b ≠ S → h'.get? b = some o → (h'.update S (Obj.mapSeq (·.push (Value.ref h.objs.size)))).get? b = some o := fun b o hb e => by rw [Heap.get?_update_other _ _ (Ne.symm hb)]; exact e
    show wpAny _ A.in1 (updateSeq S (·.push (Value.ref h.objs.size)) >>= _) _ _ _
    refine wpAny_bind (wpAny_updateSeq hS' rfl (wpAny_pure ⟨plainId_quiet PySem.F.plain_extend_loop _, ?_⟩) (by rw [sz]; omega) (by show (acc.push (Value.ref h.objs.size)).size ≤ sizeLine + 1; rw [Array.size_push, sz]; omega))
    refine ih (i + 1) _ tk' _ (acc.push (Value.ref h.objs.size)) (as ++ [h.objs.size]) (by omega) (by omega) (ZSt.keep Z D1 D2 st' (Nat.ne_of_lt lz) (Nat.ne_of_lt lI) (Nat.ne_of_lt lO) f1 f2 ot) (fun b o g1 g2 g3 g4 g5 e => ot b o g1 (kp b o g2 g3 g4 g5 (keep b o g1 g2 g3 g4 g5 e))) (Heap.get?_update_self _ hS' rfl)
      (by rw [Array.toList_push, hacc, List.map_append]; rfl) (by rw [List.length_append, hal]; rfl) ⟨?_, ?_, ?_⟩
    · refine List.pairwise_append.mpr ⟨hG.up, List.pairwise_singleton _ _, fun a ha b hb => ?_⟩
      cases List.mem_singleton.mp hb
      exact hG.live ha
    · intro a ha
      rcases List.mem_append.mp ha with ha | ha
      · exact hG.ab a ha
      · cases List.mem_singleton.mp ha
        exact sl
    · intro j b hj
      by_cases h1 : j < as.length
      · rw [List.getElem?_append_left h1] at hj
        obtain ⟨x, y, e1, e2, e3⟩ := hG.at_ j b hj
        have hb := hG.ab b (List.mem_of_getElem? hj)
        obtain ⟨g2, g3, g4, g5⟩ := ab hb
        exact ⟨x, y, e1, e2, ot b _ (Nat.ne_of_gt hb) (kp b _ g2 g3 g4 g5 e3)⟩
      · rw [List.getElem?_append_right (by omega)] at hj
        have h0 : j - as.length = 0 := by
          have := (List.getElem?_eq_some_iff.mp hj).1
          simpa using this
        have hb : h.objs.size = b := by rw [h0] at hj; simpa using hj
        have hj' : j = i := by omega
        subst hb hj'
        exact ⟨x1, x2, y1, y2, ot _ _ (Nat.ne_of_gt sl) hT⟩
end
theorem zip_no_len : typeLookup (.type "zip") "__len__" = pure none := by rw [typeLookup_type, builtinLookup_eq_fast]; kernel_rfl
theorem zip_no_hint : typeLookup (.type "zip") "__length_hint__" = pure none := by rw [typeLookup_type, builtinLookup_eq_fast]; kernel_rfl
section
variable {prog : Program} {w : World} {A : Around} {E : Value → Shared → Prop} {s : Shared} {z TI TO i1 i2 S : Addr} {fp1 fp2 : List Addr} {n1 n2 i : Nat} {P1 P2 : Nat → Value → Prop} {St1 St2 : Nat → Heap → Prop}
structure Low (z TI TO i1 i2 S : Addr) (fp1 fp2 : List Addr) : Prop where
  z : z < S
  I : TI < S
  O : TO < S
  i : i1 < S
  j : i2 < S
  f1 : S ∉ fp1
  f2 : S ∉ fp2
theorem extend {R : Result → Shared → Prop} (Z : ZipSep2 z TI TO i1 i2 fp1 fp2) (D1 : Draws prog w A.in1.in1 i1 fp1 n1 P1 St1) (D2 : Draws prog w A.in1.in1 i2 fp2 n2 P2 St2) (L : Low z TI TO i1 i2 S fp1 fp2) (hn : min n1 n2 ≤ sizeLine) (res : Value) (c₀ : Nat) (hz : IsZip s.heap z TI TO .none) (hTI : IsTupOf2 s.heap TI (.ref i1) (.ref i2)) {p q : Value} (hTO : IsTupOf2 s.heap TO p q) (s1 : St1 0 s.heap) (s2 : St2 0 s.heap)
    (hS : s.heap.get? S = some { cls := .type "list", data := .seq #[] c₀ })
    (hR : ∀ h' tk acc c as, (∀ b o, b ≠ S → b ≠ z → b ≠ TO → b ≠ i1 → b ≠ i2 → s.heap.get? b = some o → h'.get? b = some o) → h'.get? S = some { cls := .type "list", dict := none, data := .seq acc c, slots := #[] } → as.length = min n1 n2 → Prs P1 P2 S h' as → acc.toList = as.map Value.ref → R (.ok (.ret res)) { s with heap := h', toks := tk }) :
    wpAny (model prog w) A.in1 (Builtin.List.listExtendWith (.ref S) (.ref z) res)
      (fun fin s' => match fin with | .done f => R (.ok f) s' | .again c' => c'.quiet = true ∧ codeAny (model prog w) A c' R s') (fun e s' => R (.error e) s') s := by
  have hT : s.TypeIs (.ref z) "zip" := ⟨_, hz, rfl⟩
  have hzS : S ≠ z := Nat.ne_of_gt L.z
  unfold Builtin.List.listExtendWith
  refine wpAny_bind (wpAny_typeOf hT ?_)
  have q1 : Builtin.List.listSameRef (.ref S) (.ref z) = false := by simp [Builtin.List.listSameRef, hzS]
  have q2 : (Value.type "zip" == Value.type "list") = false := by decide
  have q3 : (Value.type "zip" == Value.type "tuple") = false := by decide
  simp only [q1, q2, q3, Bool.or_false, Bool.false_eq_true, if_false]
  refine wpAny_bind (wpAny_pyIter_zip hz (wpAny_bind (wpAny_holding ?_)))
  unfold Builtin.List.listLengthHint
  refine wpAny_bind (wpAny_specialOf hT zip_no_len ?_)
  show wpAny _ A.in1 (specialOf (Value.ref z) (Str.ofString "__length_hint__") >>= _) _ _ _
  refine wpAny_bind (wpAny_specialOf hT zip_no_hint (wpAny_pure ?_))
  show wpAny _ A.in1 (rule "list.extend.makes-room" >>= fun _ => Builtin.List.listTouch (.ref S) >>= fun _ => again (.builtin "list.extend.loop" ⟨[.ref S, .ref z, res], []⟩)) _ _ _
  refine wpAny_bind (wpAny_rule (wpAny_bind ?_))
  show wpAny _ _ (updateSeq S (·.push .none) >>= fun _ => updateSeq S (·.pop)) _ _ _
  refine wpAny_bind (wpAny_updateSeq hS rfl ?_)
  have hS2 := Heap.get?_update_self (Obj.mapSeq (·.push Value.none)) hS rfl
  refine wpAny_updateSeq (hz := by seq_fits) hS2 rfl ?_
  have hS3 := Heap.get?_update_self (Obj.mapSeq (·.pop)) hS2 rfl
  have ot : ∀ b o, b ≠ S → s.heap.get? b = some o → ((s.heap.update S (Obj.mapSeq (·.push Value.none))).update S (Obj.mapSeq (·.pop))).get? b = some o := fun b o hb e => by
    rw [Heap.get?_update_other _ _ (Ne.symm hb), Heap.get?_update_other _ _ (Ne.symm hb)]; exact e
  refine wpAny_pure ⟨plainId_quiet PySem.F.plain_extend_loop _, ?_⟩
  have st0 : ZSt z TI TO i1 i2 S St1 St2 0 s.heap := ⟨hTI, s1, s2, .inl ⟨hz, p, q, hTO⟩⟩
  exact loop (h₁ := s.heap) Z D1 D2 L.z L.I L.O L.i L.j L.f1 L.f2 hn res hR (min n1 n2) 0 _ _ _ #[] [] (Nat.sub_zero _) (Nat.zero_le _) (ZSt.keep Z D1 D2 st0 (Nat.ne_of_lt L.z) (Nat.ne_of_lt L.I) (Nat.ne_of_lt L.O) L.f1 L.f2 ot)
    (fun b o hb _ _ _ _ e => ot b o hb e) hS3 rfl rfl ⟨List.Pairwise.nil, (fun _ ha => nomatch ha), (fun j a hj => by simp at hj)⟩
theorem init {R : Result → Shared → Prop} (Z : ZipSep2 z TI TO i1 i2 fp1 fp2) (D1 : Draws prog w A.in1.in1 i1 fp1 n1 P1 St1) (D2 : Draws prog w A.in1.in1 i2 fp2 n2 P2 St2) (L : Low z TI TO i1 i2 S fp1 fp2) (hn : min n1 n2 ≤ sizeLine) (hz : IsZip s.heap z TI TO .none) (hTI : IsTupOf2 s.heap TI (.ref i1) (.ref i2)) {p q : Value} (hTO : IsTupOf2 s.heap TO p q) (s1 : St1 0 s.heap) (s2 : St2 0 s.heap)
    (hS : s.heap.get? S = some { cls := .type "list", data := .seq #[] })
    (hR : ∀ h' tk acc c as, (∀ b o, b ≠ S → b ≠ z → b ≠ TO → b ≠ i1 → b ≠ i2 → s.heap.get? b = some o → h'.get? b = some o) → h'.get? S = some { cls := .type "list", dict := none, data := .seq acc c, slots := #[] } → as.length = min n1 n2 → Prs P1 P2 S h' as → acc.toList = as.map Value.ref → R (.ok (.ret .none)) { s with heap := h', toks := tk }) :
    wpAny (model prog w) A.in1 (Builtin.«list.__init__» ⟨[.ref S, .ref z], []⟩)
      (fun fin s' => match fin with | .done f => R (.ok f) s' | .again c' => c'.quiet = true ∧ codeAny (model prog w) A c' R s') (fun e s' => R (.error e) s') s := by
  show wpAny _ _ (do let old ← Builtin.List.listItems (.ref S); Builtin.List.listUpdate (.ref S) (fun _ => #[]); letGo old.toList.reverse; Builtin.List.listExtendWith (.ref S) (.ref z) .none) _ _ s
  refine wpAny_bind ?_
  unfold Builtin.List.listItems
  refine wpAny_bind (wpAny_seqItems hS rfl (wpAny_pure ?_))
  show wpAny _ _ (updateSeq S (fun _ => #[]) >>= fun _ => letGo (#[] : Array Value).toList.reverse >>= fun _ => Builtin.List.listExtendWith (.ref S) (.ref z) .none) _ _ s
  refine wpAny_bind (wpAny_updateSeq hS rfl (wpAny_bind (wpAny_letGo ?_)))
  have hS2 := Heap.get?_update_self (Obj.mapSeq (fun _ => (#[] : Array Value))) hS rfl
  have ot : ∀ b o, b ≠ S → s.heap.get? b = some o → (s.heap.update S (Obj.mapSeq (fun _ => (#[] : Array Value)))).get? b = some o := fun b o hb e => by
    rw [Heap.get?_update_other _ _ (Ne.symm hb)]; exact e
  exact extend (s := { s with heap := s.heap.update S (Obj.mapSeq (fun _ => (#[] : Array Value))) }) Z D1 D2 L hn .none _ (ot _ _ (Nat.ne_of_lt L.z) hz) (ot _ _ (Nat.ne_of_lt L.I) hTI) (ot _ _ (Nat.ne_of_lt L.O) hTO) (D1.frame _ _ _ s1 fun b hb o e => ot b o (fun q => L.f1 (q ▸ hb)) e) (D2.frame _ _ _ s2 fun b hb o e => ot b o (fun q => L.f2 (q ▸ hb)) e) hS2
    fun h' tk acc c as hk => hR h' tk acc c as fun b o g1 g2 g3 g4 g5 e => hk b o g1 g2 g3 g4 g5 (ot b o g1 e)
theorem call_ {Q : Value → Shared → Prop} (Z : ZipSep2 z TI TO i1 i2 fp1 fp2) (D1 : Draws prog w A.in1.in1.in1 i1 fp1 n1 P1 St1) (D2 : Draws prog w A.in1.in1.in1 i2 fp2 n2 P2 St2) (L : Low z TI TO i1 i2 s.heap.objs.size fp1 fp2) (hn : min n1 n2 ≤ sizeLine) (hz : IsZip s.heap z TI TO .none) (hTI : IsTupOf2 s.heap TI (.ref i1) (.ref i2)) {p q : Value} (hTO : IsTupOf2 s.heap TO p q) (s1 : St1 0 s.heap) (s2 : St2 0 s.heap)
    (hQ : ∀ h' tk acc c as, (∀ b o, b ≠ z → b ≠ TO → b ≠ i1 → b ≠ i2 → s.heap.get? b = some o → h'.get? b = some o) → h'.get? s.heap.objs.size = some { cls := .type "list", dict := none, data := .seq acc c, slots := #[] } → as.length = min n1 n2 → Prs P1 P2 s.heap.objs.size h' as → acc.toList = as.map Value.ref → Q (.ref s.heap.objs.size) { s with heap := h', toks := tk }) :
    wpAny (model prog w) A (call (.type "list") [.ref z]) Q E s := by
  refine callType_codes (Q₁ := fun obj s₁ => obj = .ref s.heap.objs.size ∧ s₁ = { s with heap := s.heap.push { cls := .type "list", data := .seq #[] } }) PySem.F.called_list (PySem.F.typeCall_list_1 _) PySem.F.entry_list_init (code_list_new _ ⟨rfl, rfl⟩) fun obj s₁ h₁ => ?_
  obtain ⟨rfl, rfl⟩ := h₁
  have hS : (s.heap.push { cls := .type "list", data := .seq #[] }).get? s.heap.objs.size = some { cls := .type "list", data := .seq #[] } := Heap.get?_push_size _ rfl
  have up : ∀ {b o}, s.heap.get? b = some o → (s.heap.push { cls := .type "list", data := .seq #[] }).get? b = some o := fun e => Heap.get?_push_of_some _ e
  refine ⟨⟨_, hS, rfl⟩, PySem.F.args_list_init_2 _ _, ?_⟩
  refine init (s := { s with heap := s.heap.push { cls := .type "list", data := .seq #[] } }) (A := A.in1) Z D1 D2 L hn (up hz) (up hTI) (up hTO) (D1.frame _ _ _ s1 fun b hb o e => up e) (D2.frame _ _ _ s2 fun b hb o e => up e) hS fun h' tk acc c as hk hS' hl hG hacc => ?_
  exact ⟨rfl, hQ h' tk acc c as (fun b o g2 g3 g4 g5 e => hk b o (Nat.ne_of_lt (Heap.lt_size e)) g2 g3 g4 g5 (up e)) hS' hl hG hacc⟩
end
end ZL
end
section
set_option Elab.async false
set_option linter.all false
set_option maxRecDepth 100000
set_option maxHeartbeats 2000000
/-! list(zip(x, y)) over data. -/
namespace ZL
open PySem PySem.Spec PyProof.Rows L2
def layP (H : Hp) (S : Addr) (as : List Addr) (xs ys : List V) : Hp := fun b =>
  if b = S then some (.lst (as.map V.ref)) else if b ∈ as then some (.tup [xs.getD (as.idxOf b) .non, ys.getD (as.idxOf b) .non]) else H b
theorem getD_of {xs : List V} {i : Nat} {x : V} (h : xs[i]? = some x) : xs.getD i .non = x := by simp [List.getD, h]
theorem vals_getv : ∀ {xs : List V} {us : List Value} {i : Nat} {u : Value}, Vals xs us → us[i]? = some u → ∃ x, xs[i]? = some x ∧ RelV x u
  | _, _, i, u, .nil, h => by simp at h
  | _, _, 0, u, .cons r _, h => by simp at h; subst h; exact ⟨_, rfl, r⟩
  | _, _, i + 1, u, .cons _ t, h => by
    obtain ⟨x, e, r⟩ := vals_getv (i := i) (u := u) t (by simpa using h)
    exact ⟨x, by simpa using e, r⟩
section
variable {X : Cx} {pins : List (Addr × Obj)} {σ : L2.St} {H : Hp} {s : Shared} {h' : Heap} {tk : Nat}
theorem laid {xs ys : List V} {us ws : List Value} {S : Addr} {as : List Addr} {acc : Array Value} {c : Nat} {P1 P2 : Nat → Value → Prop} (I : Inv X pins σ H s) (rx : Vals xs us) (ry : Vals ys ws) (hP : ∀ (j : Nat) (v : Value), P1 j v → us.toArray[j]? = some v) (hP2 : ∀ (j : Nat) (v : Value), P2 j v → ws.toArray[j]? = some v)
    (hk : ∀ b o, s.heap.get? b = some o → h'.get? b = some o) (hlS : s.heap.objs.size ≤ S) (hS : h'.get? S = some { cls := .type "list", dict := none, data := .seq acc c, slots := #[] }) (hG : Prs P1 P2 S h' as) (hacc : acc.toList = as.map Value.ref) (hz : as.length ≤ sizeLine) :
    ∃ H' : Hp, (∀ b o, H b = some o → H' b = some o) ∧ H S = none ∧ (∀ t ∈ as, H t = none) ∧ S ∉ as ∧ H' S = some (.lst (as.map V.ref)) ∧ (∀ (j : Nat) (t : Addr), as[j]? = some t → ∃ x y, xs[j]? = some x ∧ ys[j]? = some y ∧ H' t = some (.tup [x, y])) ∧ Inv X pins σ H' { s with heap := h', toks := tk } := by
  have hSn : S ∉ as := fun z => Nat.lt_irrefl _ (hG.ab _ z)
  have nd : as.Nodup := hG.up.imp (fun {a b} (h : a < b) => Nat.ne_of_lt h)
  have new : ∀ t ∈ as, H t = none := fun t ht => I.hok.fresh (Nat.le_trans hlS (Nat.le_of_lt (hG.ab t ht)))
  have newS : H S = none := I.hok.fresh hlS
  have eS : layP H S as xs ys S = some (.lst (as.map V.ref)) := by simp [layP]
  have off : ∀ b, b ∉ as → b ≠ S → layP H S as xs ys b = H b := fun b h1 h2 => by simp [layP, h1, h2]
  have rel : ∀ (j : Nat) (t : Addr), as[j]? = some t → ∃ x y u v, xs[j]? = some x ∧ ys[j]? = some y ∧ RelV x u ∧ RelV y v ∧ IsTupOf2 h' t u v ∧ layP H S as xs ys t = some (.tup [x, y]) := fun j t e => by
    obtain ⟨u, v, p1, p2, e3⟩ := hG.at_ j t e
    have q1 := hP _ _ p1
    have q2 := hP2 _ _ p2
    obtain ⟨x, ex, rx'⟩ := vals_getv rx (i := j) (by simpa using q1)
    obtain ⟨y, ey, ry'⟩ := vals_getv ry (i := j) (by simpa using q2)
    have hj : j < as.length := (List.getElem?_eq_some_iff.mp e).1
    have ej : as[j] = t := (List.getElem?_eq_some_iff.mp e).2
    have hi : as.idxOf t = j := by rw [← ej]; exact nd.idxOf_getElem j hj
    have tS : t ≠ S := fun q => hSn (q ▸ List.mem_of_getElem? e)
    exact ⟨x, y, u, v, ex, ey, rx', ry', e3, by simp only [layP, if_neg tS, if_pos (List.mem_of_getElem? e), hi]; rw [getD_of ex, getD_of ey]⟩
  have kp : ∀ b u, H b = some u → layP H S as xs ys b = some u := fun b u e => by
    rw [off b (fun z => by rw [new b z] at e; cases e) (fun z => by rw [z, newS] at e; cases e)]
    exact e
  have low : ∀ b o, s.heap.get? b = some o → b ∉ as ∧ b ≠ S := fun b o e => ⟨fun z => absurd (Heap.lt_size e) (Nat.not_lt.mpr (Nat.le_trans hlS (Nat.le_of_lt (hG.ab b z)))), fun z => absurd (Heap.lt_size e) (Nat.not_lt.mpr (z ▸ hlS))⟩
  refine ⟨layP H S as xs ys, kp, newS, new, hSn, eS, fun j t e => ?_, ?_⟩
  · obtain ⟨x, y, _, _, e1, e2, _, _, _, e3⟩ := rel j t e
    exact ⟨x, y, e1, e2, e3⟩
  refine I.call' (ch := []) rfl ⟨fun b o q _ _ _ => hk b o q, fun b o q _ _ _ => ⟨o.slots, hk b o q⟩, fun b o q n _ => ?_, fun b o q _ => ⟨o, hk b o q⟩, fun b xs q => kp b _ q, fun b o u q => kp b _ q, fun b ps q => ⟨#[], by rw [kp b _ q]; simp⟩⟩ (fun b u q => ?_) I.bare fun b z => by simp at z
  · obtain ⟨z1, z2⟩ := low b o q
    rw [off b z1 z2]
    exact n
  · by_cases hb : b ∈ as
    · obtain ⟨j, ej⟩ := List.mem_iff_getElem?.mp hb
      obtain ⟨x, y, u', v', _, _, r1, r2, e3, e4⟩ := rel j b ej
      rw [e4] at q
      cases q
      exact ⟨by show 2 ≤ sizeLine; decide, [u', v'], .cons r1 (.cons r2 .nil), ⟨_, e3, rfl, _, rfl⟩⟩
    · by_cases hb2 : b = S
      · subst hb2
        rw [eS] at q
        cases q
        refine ⟨by rw [List.length_map]; exact hz, acc.toList, c, by rw [hacc]; exact LiI.vals_refs as, ?_⟩
        rw [Array.toArray_toList]
        exact hS
      · rw [off b hb hb2] at q
        exact (I.hok b u q).stay (fun d v _ y => hk d v y) (fun d y => kp d _ y) fun d xs y => kp d _ y
/-- list(zip(x, y)), x and y lists or tuples -/
def rLZ (K : PySem.W.Frag) : List V → Hp → VK → Prop := fun vs H Q => ∃ a b xs ys, vs = [.ref a, .ref b] ∧ (SqL K H a xs ∨ SqT K H a xs) ∧ (SqL K H b ys ∨ SqT K H b ys) ∧
  ∀ (H' : Hp) (p : Addr) (ts : List Addr), (∀ b o, H b = some o → H' b = some o) → H p = none → (∀ t ∈ ts, H t = none) → p ∉ ts → H' p = some (.lst (ts.map V.ref)) → ts.length = min xs.length ys.length → (∀ (j : Nat) (t : Addr), ts[j]? = some t → ∃ x y, xs[j]? = some x ∧ ys[j]? = some y ∧ H' t = some (.tup [x, y])) → Q (.ref p) H'
/-- how a list or a tuple is begun, what is drawn from it -/
theorem begin_ (I : Inv X pins σ H s) {a : Addr} {xs : List V} (h : SqL X.K H a xs ∨ SqT X.K H a xs) : ∃ (us : List Value) (o : Obj) (Hb : Heap → Prop), Vals xs us ∧ xs.length ≤ sizeLine ∧ a < s.heap.objs.size ∧ Begins (.ref a) o Hb ∧ Hb s.heap ∧
    ∀ (A : Around) (it : Addr), A.handled = none → a ≠ it → ∃ St : Nat → Heap → Prop, Draws X.prog X.w A it [it, a] us.length (fun j v => us.toArray[j]? = some v) St ∧ ∀ h' : Heap, (∀ b o, s.heap.get? b = some o → h'.get? b = some o) → h'.get? it = some o → St 0 h' := by
  rcases h with h | h
  · obtain ⟨us, rv, p, hz⟩ := I.list h
    refine ⟨us, _, _, rv, hz, p.lt, begins_list a us.toArray, p.isList, fun A it hh ne => ⟨_, Draws.list hh it a ne us.toArray, fun h' hk e => ⟨⟨_, e, rfl, rfl⟩, p.isList.at fun o q => hk _ _ q⟩⟩⟩
  · obtain ⟨us, rv, p, hz⟩ := I.tuple h
    obtain ⟨o1, ho1, _⟩ := id p
    refine ⟨us, _, _, rv, hz, Heap.lt_size ho1, begins_tuple a us.toArray, p, fun A it hh ne => ⟨_, Draws.tuple hh it a ne us.toArray, fun h' hk e => ⟨⟨_, e, rfl, rfl⟩, Heap.IsTuple.at p fun o q => hk _ _ q⟩⟩⟩
end
end ZL
end
section
set_option Elab.async false
set_option linter.all false
set_option maxRecDepth 100000
set_option maxHeartbeats 2000000
/-! the call list(zip(x, y)); its effect on data. -/
namespace ZL
open PySem PySem.Spec PyProof.Rows L2
theorem sep5 {n a b : Nat} (la : a < n) (lb : b < n) : ZipSep2 (n + 4) (n + 2) (n + 3) n (n + 1) [n, a] [n + 1, b] where
  TIz := show n + 2 ≠ n + 4 by omega
  TOz := show n + 3 ≠ n + 4 by omega
  TITO := show n + 2 ≠ n + 3 by omega
  TIi1 := show n + 2 ≠ n by omega
  mem1 := List.mem_cons_self
  zf1 := fun h => by
    have h' : n + 4 = n ∨ n + 4 = a := by simpa using h
    omega
  Tf1 := fun h => by
    have h' : n + 3 = n ∨ n + 3 = a := by simpa using h
    omega
  TIi2 := show n + 2 ≠ n + 1 by omega
  mem2 := List.mem_cons_self
  zf2 := fun h => by
    have h' : n + 4 = n + 1 ∨ n + 4 = b := by simpa using h
    omega
  Tf2 := fun h => by
    have h' : n + 3 = n + 1 ∨ n + 3 = b := by simpa using h
    omega
  sep1_2 := fun h => by
    have h' : n = n + 1 ∨ n = b := by simpa using h
    omega
  sep2_1 := fun h => by
    have h' : n + 1 = n ∨ n + 1 = a := by simpa using h
    omega
theorem low5 {n a b m : Nat} (la : a < n) (lb : b < n) (hm : m = n + 5) : Low (n + 4) (n + 2) (n + 3) n (n + 1) m [n, a] [n + 1, b] where
  z := show n + 4 < m by omega
  I := show n + 2 < m by omega
  O := show n + 3 < m by omega
  i := show n < m by omega
  j := show n + 1 < m by omega
  f1 := fun h => by
    have h' : m = n ∨ m = a := by simpa using h
    omega
  f2 := fun h => by
    have h' : m = n + 1 ∨ m = b := by simpa using h
    omega
theorem far5 {h : Heap} {n b : Nat} {o : Obj} (hn : h.objs.size = n) (e : h.get? b = some o) (k : Nat) : b ≠ n + k := by
  have l : b < h.objs.size := Heap.lt_size e
  rw [hn] at l
  exact Nat.ne_of_lt (Nat.lt_of_lt_of_le l (Nat.le_add_right n k))
section
variable {X : Cx} {e e2 : Expr} {ta : TA} {p p2 pos cpos : Pos}
theorem pe_listZip (hc : X.calm = true) (ha : PA X [e, e2] ta) (hgl : Gl X "list") (hml : X.mg "list" = none) (hg : Gl X "zip") (hm : X.mg "zip" = none)
    (hs2 : starEach [.Call (.Name "zip" p2) [e, e2] [] cpos] X.env = (false, eval (.Call (.Name "zip" p2) [e, e2] [] cpos) X.env) :: starEach [] X.env := by rfl) (hs : starEach [e, e2] X.env = (false, eval e X.env) :: starEach [e2] X.env := by rfl) (hpl : (backTo cpos (starEach [e2] X.env)).any (·.1) = false := by rfl) :
    PE X (.Call (.Name "list" p) [.Call (.Name "zip" p2) [e, e2] [] cpos] [] pos) (tCB (rLZ X.K) ta) := by
  refine ⟨fun pins s σ H Q I hq => ?_⟩
  refine wpAny_Call_Name_kw (ld_blt I hgl hml rfl ?_)
  refine PyProof.Rows.callWith_type1 ?_ hs2 rfl
  rw [hs2]
  show wpAny _ _ (spliced ((false, eval (.Call (.Name "zip" p2) [e, e2] [] cpos) X.env) :: backTo pos (starEach [] X.env))) _ _ s
  refine Calls.spliced_cons ?_
  refine wpAny_Call_Name_kw (ld_blt I hg hm PyProof.Rows.boot_zip (PyProof.Rows.callWith_type1 (thn (ha.run cpos pins s σ H _ I hq) fun us s1 ⟨vs, H1, I1, r1, q1⟩ => ?_) hs hpl))
  obtain ⟨a, b, xs, ys, ex, hx, hy, q⟩ := q1
  subst ex
  cases r1 with
  | cons r rr =>
    cases rr with
    | cons r' rr =>
      cases rr
      cases r
      cases r'
      obtain ⟨us, o1, Hb1, rx, zx, la, B1, h1, D1⟩ := begin_ I1 hx
      obtain ⟨ws, o2, Hb2, ry, zy, lb, B2, h2, D2⟩ := begin_ I1 hy
      refine zip_begins2 B1 B2 h1 h2 fun h' hz hTI hTO g1 g2 hsz hk => ?_
      generalize hn : s1.heap.objs.size = n at *
      have hh : X.A.handled = none := I1.ok.hd hc
      obtain ⟨St1, d1, st1⟩ := D1 X.A.in1.in1.in1 n hh (Nat.ne_of_lt la)
      obtain ⟨St2, d2, st2⟩ := D2 X.A.in1.in1.in1 (n + 1) hh (Nat.ne_of_lt (Nat.lt_succ_of_lt lb))
      refine Calls.spliced_nil ?_
      have Z := sep5 la lb
      have L := low5 la lb hsz
      refine call_ (s := { s1 with heap := h' }) Z d1 d2 L (by rw [← rx.length, ← ry.length]; omega) hz hTI hTO (st1 h' hk g1) (st2 h' hk g2) fun h'' tk acc c as hk' hS hl hG hacc => ?_
      obtain ⟨H', k1, k2, k3, k4, k5, k6, J⟩ := laid (tk := tk) I1 rx ry (fun _ _ z => z) (fun _ _ z => z) (fun b o q => hk' b o (far5 hn q 4) (far5 hn q 3) (far5 hn q 0) (far5 hn q 1) (hk b o q)) (by show s1.heap.objs.size ≤ h'.objs.size; omega) hS hG hacc (by rw [hl, ← rx.length, ← ry.length]; omega)
      exact ⟨.ref _, H', J, rfl, q H' _ as k1 k2 k3 k4 k5 (by rw [hl, rx.length, ry.length]) k6⟩
end
end ZL
end
section
set_option Elab.async false
set_option linter.all false
set_option maxRecDepth 100000
/-! DL: list(zip(x, y)). -/
namespace DL
open PySem PySem.Spec PyProof.Rows L2
def seqD : D → Option (List D)
  | .lst xs => some xs
  | .tup xs => some xs
  | _ => none
def lzipD : List D → Option Val
  | [a, b] => match seqD a, seqD b with
    | some ds, some es => some (.lst (zipD ds es), 1)
    | _, _ => none
  | _ => none
section
variable {G : Gd} {Kn H : Hp}
theorem Tp.seq (le : Le Kn H) {d : D} {x : V} {ds : List D} (t : Tp G Kn H d x) (e : seqD d = some ds) : ∃ a vs, x = .ref a ∧ (SqL G.K H a vs ∨ SqT G.K H a vs) ∧ Frs G Kn ds vs := by
  unfold seqD at e
  split at e
  · cases e
    obtain ⟨a, vs, rfl, r1, f1⟩ := t.lst le
    exact ⟨a, vs, rfl, .inl (.inl r1), f1⟩
  · cases e
    obtain ⟨a, vs, rfl, r1, _, f1⟩ := t.tup le
    exact ⟨a, vs, rfl, .inr (SqT.of r1), f1⟩
  · cases e
theorem fit_lzip : FitN lzipD G (ZL.rLZ G.K) := by
  intro xs H Q ⟨Kn, ds, r, le, tps, hf, p⟩
  unfold lzipD at hf
  split at hf
  · rename_i a b
    split at hf
    · rename_i ds es e1 e2
      cases hf
      cases tps with
      | cons t1 tr =>
        cases tr with
        | cons t2 tr =>
          cases tr
          obtain ⟨a, vs, rfl, s1, f1⟩ := t1.seq le e1
          obtain ⟨b, us, rfl, s2, f2⟩ := t2.seq le e2
          refine ⟨a, b, vs, us, rfl, s1, s2, fun H' q ts hk hp hts hq hl hlen hat => ?_⟩
          have kts : ∀ t, t ∈ ts → Kn t = none := fun t ht => le.out (hts t ht)
          have isT : ∀ t ∈ ts, ∃ x y, H' t = some (.tup [x, y]) := fun t ht => by
            obtain ⟨j, ej⟩ := List.mem_iff_getElem?.mp ht
            obtain ⟨x, y, _, _, e⟩ := hat j t ej
            exact ⟨x, y, e⟩
          have kn := plusC_kn (Kn := Kn) (H := H') (P := fun t => t ∈ ts) kts
          refine p (plusC Kn H' (fun t => t ∈ ts)) H' (.ref q) (fun a => a = q) ⟨kn, fun a z n => ?_, fun a o e _ => hk a o e, fun a z => .inr (z ▸ hp), fun pl a o u e => ?_⟩ ⟨fun a u e => ?_, fun a u e => ?_⟩ (.inr ⟨q, .lst (ts.map V.ref), zipD ds es, ts.map V.ref, fun _ => No, rfl, hl, .lst ?_, fun i e z => ?_, fun _ _ _ _ z => z.elim, fun _ z => z, fun x => ⟨.inl, fun z => z.elim (fun z => z) fun ⟨_, _, z⟩ => z.elim⟩⟩) fun a z => ?_
          · by_cases h : a ∈ ts
            · exact .inr (hts a h)
            · rw [plusC_out h] at n; exact (n z).elim
          · by_cases h : a ∈ ts
            · rw [plusC_in h] at e
              obtain ⟨x, y, e'⟩ := isT a h
              rw [e'] at e; cases e
            · rw [plusC_out h] at e; exact pl a o u e
          · by_cases h : a ∈ ts
            · unfold Rd at e ⊢
              rw [plusC_in h] at e
              exact e
            · unfold Rd at e
              rw [plusC_out h] at e
              rcases le.rd a u e with z | ⟨o, z⟩
              · exact .inl (hk _ _ z)
              · exact .inr ⟨o, hk _ _ z⟩
          · by_cases h : a ∈ ts
            · rw [plusC_in h] at e
              exact e
            · rw [plusC_out h] at e
              exact hk _ _ (le.tp a u e)
          · rw [List.length_map, hlen, zipD_length, f1.length, f2.length]
          · have hi : i < ts.length := by
              have := (List.getElem?_eq_some_iff.mp z).1
              rw [zipD_length] at this
              rw [hlen, f1.length, f2.length]
              exact this
            obtain ⟨x, y, ex, ey, et⟩ := hat i ts[i] (by simp [hi])
            obtain ⟨d, ed, fd⟩ := f1.getv ex
            obtain ⟨d', ed', fd'⟩ := f2.getv ey
            rw [zipD_get ds es i d d' ed ed'] at z
            cases z
            refine ⟨.ref ts[i], by simp [hi], ⟨.tup (a := ts[i]) (vs := [x, y]) ?_ ?_, fun _ z => z⟩⟩
            · rw [plusC_in (List.getElem_mem hi)]; exact et
            · exact .cons (fd.mono (Le.of_sub kn)) (.cons (fd'.mono (Le.of_sub kn)) .nil)
          · subst z
            have hqs : a ∉ ts := by
              intro h
              obtain ⟨x, y, e'⟩ := isT a h
              rw [e'] at hl; cases hl
            rw [plusC_out hqs]
            exact le.out hp
    · cases hf
  · cases hf
end
section
variable {X : Cx} {W : WX} {a b : Expr} {oa ob : Opn} {p p2 pos cpos : Pos}
theorem de_lzip (hc : X.calm = true) (hgl : Gl X "list") (hml : X.mg "list" = none) (hg : Gl X "zip") (hm : X.mg "zip" = none) (ha : DO X W a oa) (hb : DO X W b ob)
    (hs : starEach [a, b] X.env = (false, eval a X.env) :: starEach [b] X.env := by rfl) (hs1 : starEach [b] X.env = (false, eval b X.env) :: starEach [] X.env := by rfl)
    (hs2 : starEach [.Call (.Name "zip" p2) [a, b] [] cpos] X.env = (false, eval (.Call (.Name "zip" p2) [a, b] [] cpos) X.env) :: starEach [] X.env := by rfl) (hpl : (backTo cpos (starEach [b] X.env)).any (·.1) = false := by rfl) :
    DE X W (.Call (.Name "list" p) [.Call (.Name "zip" p2) [a, b] [] cpos] [] pos) (opN [oa, ob] lzipD) :=
  PE.imp (ZL.pe_listZip hc (da_cons ha (da_cons hb da_nil hs1) hs) hgl hml hg hm hs2 hs hpl) fun σ H Q h => runN fit_lzip h
end
end DL
end
section
set_option Elab.async false
set_option linter.all false
set_option maxRecDepth 100000
set_option maxHeartbeats 2000000
/-! DL: t[:0:-1], t[::-1], t a tuple. -/
namespace SB
open PySem PySem.Spec PyProof.Rows L2 HT
/-- what is left out at the beginning -/
def lead (z : Bool) : Nat := if z then 1 else 0
def stopAt (z : Bool) : Option Int := if z then some 0 else none
theorem adj (n : Nat) (z : Bool) : ∃ e : Int, Builtin.Slice.sliceAdjust none (stopAt z) (-1) (n : Int) = ((n : Int) - 1, e) ∧ Builtin.Slice.slicePlaces ((n : Int) - 1) e (-1) = n - lead z := by
  cases z
  · refine ⟨-1, by unfold Builtin.Slice.sliceAdjust stopAt; simp, ?_⟩
    unfold Builtin.Slice.slicePlaces lead
    have h1 : ¬ ((-1 : Int) > 0) := by decide
    rw [if_neg h1, show (- -1 : Int) = 1 by decide, Int.ediv_one]
    simp only [Bool.false_eq_true, if_false]
    split <;> omega
  · refine ⟨min 0 ((n : Int) - 1), by unfold Builtin.Slice.sliceAdjust stopAt; simp, ?_⟩
    unfold Builtin.Slice.slicePlaces lead
    have h1 : ¬ ((-1 : Int) > 0) := by decide
    rw [if_neg h1, show (- -1 : Int) = 1 by decide, Int.ediv_one]
    simp only [if_true]
    split <;> omega
theorem run {α : Type} (ys : List α) : ∀ m : Nat, (List.range m).filterMap (fun k => ys[k]?) = ys.take m
  | 0 => by simp
  | m + 1 => by
    rw [List.range_succ, List.filterMap_append, run ys m, List.take_add_one]
    congr 1
theorem same {α β : Type} {f g : α → Option β} : ∀ l : List α, (∀ x ∈ l, f x = g x) → l.filterMap f = l.filterMap g
  | [], _ => rfl
  | x :: l, h => by
    rw [List.filterMap_cons, List.filterMap_cons, h x List.mem_cons_self, same l fun y hy => h y (List.mem_cons_of_mem _ hy)]
theorem picks {α : Type} (xs : List α) (k : Nat) : (List.range (xs.length - k)).filterMap (fun (m : Nat) => xs[((xs.length : Int) - 1 + (m : Int) * (-1)).toNat]?) = (xs.drop k).reverse := by
  have e : (List.range (xs.length - k)).filterMap (fun (m : Nat) => xs[((xs.length : Int) - 1 + (m : Int) * (-1)).toNat]?) = (List.range (xs.length - k)).filterMap (fun m => xs.reverse[m]?) := by
    refine same _ fun m hm => ?_
    have h := List.mem_range.mp hm
    have : ((xs.length : Int) - 1 + (m : Int) * (-1)).toNat = xs.length - 1 - m := by omega
    rw [this, List.getElem?_reverse (by omega)]
  rw [e, run, List.reverse_drop]
section
variable {prog : Program} {w : World} {A : Around} {E : Value → Shared → Prop} {s : Shared}
theorem applied {sl : Addr} {vl vu vk : Value} {n : Nat} {z : Bool} {Q : Int × Int × Nat → Shared → Prop} (hs : s.heap.IsSliceOf sl vl vu vk) (pl : IsPart vl none) (pu : IsPart vu (stopAt z)) (pk : IsPart vk (some (-1)))
    (h : Q ((n : Int) - 1, -1, n - lead z) s) : wpAny (model prog w) A (Builtin.Slice.sliceApplied (.ref sl) (pure (n : Int))) Q E s := by
  obtain ⟨os, hos, hcs, hds⟩ := id hs
  obtain ⟨e, h1, h2⟩ := adj n z
  unfold Builtin.Slice.sliceApplied Builtin.Slice.sliceFields
  refine wpAny_bind (wpAny_bind (wpAny_field hos hds (x := vl) rfl (wpAny_bind (wpAny_field hos hds (x := vu) rfl (wpAny_bind (wpAny_field hos hds (x := vk) rfl (wpAny_pure ?_)))))))
  refine wpAny_bind (slicePart_ pk ?_)
  show wpAny _ _ (if ((-1 : Int) == 0) = true then _ else _) _ _ s
  rw [if_neg (by decide)]
  refine wpAny_bind (slicePart_ pl (wpAny_bind (slicePart_ pu (wpAny_bind (wpAny_pure ?_)))))
  show wpAny _ _ (match Builtin.Slice.sliceAdjust none (stopAt z) (-1) (n : Int) with | (lo, hi) => pure (lo, (-1 : Int), Builtin.Slice.slicePlaces lo hi (-1))) _ _ s
  rw [h1]
  show wpAny _ _ (pure ((n : Int) - 1, (-1 : Int), Builtin.Slice.slicePlaces ((n : Int) - 1) e (-1))) _ _ s
  rw [h2]
  exact wpAny_pure h
theorem item {t sl : Addr} {its : List Value} {vl vu vk : Value} {z : Bool} {Q : Value → Shared → Prop} (ht : IsTup s.heap t its.toArray) (hs : s.heap.IsSliceOf sl vl vu vk) (pl : IsPart vl none) (pu : IsPart vu (stopAt z)) (pk : IsPart vk (some (-1)))
    (h : Q (.ref s.heap.objs.size) { s with heap := s.heap.push { cls := .type "tuple", data := .seq (its.drop (lead z)).reverse.toArray } })
    (hsz : its.length ≤ sizeLine) : wpAny (model prog w) A (getItem (.ref t) (.ref sl)) Q E s := by
  have fits : sizeOk (.seq (its.drop (lead z)).reverse.toArray) := by
    show (its.drop (lead z)).reverse.toArray.size ≤ sizeLine
    rw [List.size_toArray, List.length_reverse, List.length_drop]
    omega
  obtain ⟨os, hos, hcs, hds⟩ := id hs
  have hTs : s.TypeIs (.ref sl) "slice" := ⟨os, hos, hcs⟩
  unfold getItem
  try with_reducible refine wpAny_holding ?_
  first | refine wpAny_bind (wpAny_pure ?_) | skip
  refine wpAny_bind (wpAny_sequenceKey ht.typeIs (by decide) ?_)
  refine wpAny_bind (wpAny_callSpecial?_slot (name := Str.ofString "__getitem__") ht.typeIs PyProof.Rows.slot_tuple_getitem (wpAny_call_entry PyProof.Rows.slot_tuple_getitem ht.typeIs entry_tuple_getitem ?_ (args_tuple_getitem _ _)))
  show wpAny _ _ (Builtin.Tuple.tupleItemsOf (.ref t) >>= _) _ _ s
  refine wpAny_bind (tupleItemsOf_ ht (wpAny_bind (wpAny_typeOf hTs ?_)))
  rw [if_pos (by decide)]
  refine wpAny_bind (applied (n := its.toArray.size) hs pl pu pk ?_)
  have hno : ¬ ((((its.toArray.size : Int) - 1) == 0 && (-1 : Int) == 1 && (its.toArray.size - lead z) == its.toArray.size) = true) := by simp
  show wpAny _ _ (if (((its.toArray.size : Int) - 1) == 0 && (-1 : Int) == 1 && (its.toArray.size - lead z) == its.toArray.size) = true then _ else _) _ _ s
  rw [if_neg hno]
  have e : ((List.range (its.toArray.size - lead z)).filterMap fun (k : Nat) => its.toArray[((its.toArray.size : Int) - 1 + (k : Int) * -1).toNat]?).toArray = (its.drop (lead z)).reverse.toArray := by
    rw [List.size_toArray]
    have := picks its (lead z)
    simp only [List.getElem?_toArray]
    rw [this]
  rw [e]
  first
    | exact wpAny_bind (m := Builtin.Tuple.tupleExact _) (wpAny_newObj_type (wpAny_pure ⟨_, rfl, wpAny_pure h⟩) fits)
    | exact wpAny_bind (m := Builtin.Tuple.tupleExact _) (wpAny_newObj_type (wpAny_bind (wpAny_pure (wpAny_pure ⟨_, rfl, wpAny_pure h⟩))) fits)
    | exact wpAny_bind (wpAny_bind (m := Builtin.Tuple.tupleExact _) (wpAny_newObj_type (wpAny_pure (wpAny_pure ⟨_, rfl, wpAny_pure h⟩)) fits))
end
theorem vals_rev : ∀ {xs : List V} {us : List Value}, Vals xs us → Vals xs.reverse us.reverse
  | _, _, .nil => .nil
  | x :: xs, u :: us, .cons h t => by
    rw [List.reverse_cons, List.reverse_cons]
    exact (vals_rev t).append (.cons h .nil)
def tBack (K : PySem.W.Frag) (z : Bool) (te : TE) : TE := fun σ H Q => te σ H fun x H1 => ∃ a xs, x = .ref a ∧ SqT K H1 a xs ∧ ∀ p, H1 p = none → Q (.ref p) (upd H1 p (.tup (xs.drop (lead z)).reverse))
section
variable {X : Cx} {e : Expr} {te : TE} {up : Option Expr} {k : Nat} {p1 p2 p3 pos : Pos} {z : Bool}
theorem pe_back {tu : TO} (he : PE X e te) (hu : PO X up tu) (ht : ∀ σ H (Q : Option Int → Hp → Prop), Q (stopAt z) H → tu σ H Q) : PE X (.Subscript e (.Slice none up (some (.UnaryOp .USub (.Constant (.int 1) k p1) p2)) p3) pos) (tBack X.K z te) := by
  refine ⟨fun pins s σ H Q I h => ?_⟩
  refine Subscript_ (thn (he.run pins s σ H _ I h) fun v s1 ⟨x, H1, I1, r1, q1⟩ => ?_)
  obtain ⟨a, xs, ex, hx, q⟩ := q1
  subst ex
  cases r1
  have hst : PO X (some (.UnaryOp .USub (.Constant (.int 1) k p1) p2)) (tPart (tUn (rU fun i => .int (-i)) (tC (.int 1)))) := po_some (pe_un un_neg pe_int)
  refine wpAny_Slice (thn (po_none.run pins s1 σ H1 (fun o H2 => o = none ∧ H2 = H1) I1 ⟨rfl, rfl⟩) fun vl s2 ⟨l, H2, I2, pl, el, e2⟩ => ?_)
  subst el e2
  refine thn (hu.run pins s2 σ H2 (fun o H3 => o = stopAt z ∧ H3 = H2) I2 (ht _ _ _ ⟨rfl, rfl⟩)) fun vu s3 ⟨u, H3, I3, pu, eu, e3⟩ => ?_
  subst eu e3
  refine thn (hst.run pins s3 σ H3 (fun o H4 => o = some (-1) ∧ H4 = H3) I3 ⟨1, rfl, -1, rfl, rfl, rfl⟩) fun vs s4 ⟨o, H4, I4, ps, eo, e4⟩ => ?_
  subst eo e4
  have I5 : Inv X pins σ H4 { s4 with heap := s4.heap.push { cls := .type "slice", data := .fields #[vl, vu, vs] } } := I4.kept (t' := s4.toks) fun b ob q => Heap.get?_push_of_some _ q
  obtain ⟨its, r, ht', hz⟩ := I5.tuple hx
  show wpAny (model X.prog X.w) X.A (subscriptTail e (.Slice none up (some (.UnaryOp .USub (.Constant (.int 1) k p1) p2)) p3) (.ref a) (.ref s4.heap.objs.size)) (EP X pins σ Q) X.xe { s4 with heap := s4.heap.push { cls := .type "slice", data := .fields #[vl, vu, vs] } }
  refine tail_any (ops := [.ref a, .ref s4.heap.objs.size]) ht'.typeIs PyProof.Rows.slot_tuple_getitem.lookup ?_ (by with_unfolding_all rfl)
  refine item (z := z) ht' (Heap.IsSliceOf.new _ vl vu vs) pl pu ps ?_ (by rw [← r.length]; exact hz)
  refine ⟨.ref _, _, I5.laid (t' := s4.toks) (o := .tup (xs.drop (lead z)).reverse) (fun b ob q => Heap.get?_push_of_some _ q) (Nat.le_refl _) ?_, rfl, q _ (I5.hok.fresh (Nat.le_refl _))⟩
  exact ⟨by rw [List.length_reverse, List.length_drop]; omega, _, vals_rev (r.drop _), IsTup.new _ _⟩
end
end SB
namespace DL
open PySem PySem.Spec PyProof.Rows L2
def backD (z : Bool) : List D → Option Val
  | [.tup xs] => some (.tup (xs.drop (SB.lead z)).reverse, 0)
  | _ => none
section
variable {X : Cx} {W : WX} {a : Expr} {oa : Opn} {k j : Nat} {p0 p1 p2 p3 pos : Pos}
theorem back_run {z : Bool} {σ : L2.St} {H : Hp} {Q : VK} (h : TEd (gd X) W (opN [oa] (backD z)) σ H Q) : SB.tBack X.K z (TOd (gd X) W oa) σ H Q := by
  refine TOd.mono (fun x H1 q => ?_) (opN_run h)
  obtain ⟨Kn, d, r, le, t1, hf, p⟩ := q.one
  unfold backD at hf
  split at hf
  · rename_i xs e0
    cases e0
    cases hf
    obtain ⟨a, vs, rfl, r1, _, f1⟩ := t1.tup le
    exact ⟨a, vs, rfl, SqT.of r1, fun l hl => p.tup le hl (f1.drop _).reverse⟩
  · cases hf
/-- t[:0:-1] -/
theorem de_back0 (ha : DO X W a oa) : DE X W (.Subscript a (.Slice none (some (.Constant (.int 0) j p0)) (some (.UnaryOp .USub (.Constant (.int 1) k p1) p2)) p3) pos) (opN [oa] (backD true)) :=
  PE.imp (SB.pe_back (z := true) ha (po_some pe_int) fun σ H Q q => ⟨0, rfl, q⟩) fun σ H Q h => back_run h
/-- t[::-1], t a tuple -/
theorem de_backT (ha : DO X W a oa) : DE X W (.Subscript a (.Slice none none (some (.UnaryOp .USub (.Constant (.int 1) k p1) p2)) p3) pos) (opN [oa] (backD false)) :=
  PE.imp (SB.pe_back (z := false) ha po_none fun σ H Q q => q) fun σ H Q h => back_run h
end
end DL
end
section
set_option Elab.async false
set_option linter.all false
set_option maxRecDepth 100000
set_option maxHeartbeats 2000000
/-! DL: enumerate over a tuple. -/
namespace EnT
open PySem PySem.Spec PyProof.Rows L2
open AutoSeq1 (wpAny_loadPart')
theorem new1 {v : Value} {o : Obj} {H : Heap → Prop} (B : Begins v o H) :
    Meets (Builtin.«enumerate.__new__» ⟨[.type "enumerate", v], []⟩) (fun _ R s => H s.heap ∧
      R (.ok (.ret (.ref (s.heap.push o).objs.size))) { s with heap := (s.heap.push o).push { cls := .type "enumerate", data := .fields #[.none, .bool false, .ref s.heap.objs.size, rawInt 0, .none, .none] } }) :=
  .of_wp fun prog w A R s h => by
    obtain ⟨hp, g, d, tk, os⟩ := s; obtain ⟨h1, h⟩ := h
    have hsub := sub_enumerate
    have q1 : ∀ {A' : Around} {E : Value → Shared → Prop} {Q : Value → Shared → Prop}, Q (.ref hp.objs.size) ⟨hp.push o, g, d, tk, os⟩ → wpAny (model prog w) A' (pyIter v) Q E ⟨hp, g, d, tk, os⟩ := fun q => B.iter prog w _ _ ⟨hp, g, d, tk, os⟩ _ h1 q
    wp_walk using q1
    refine wpAny_stack_any fun st => wpAny_pure ?_
    split
    · rename_i c _ _ _ _ _
      cases (c == Value.type "enumerate") <;> (wp_walk using q1; exact ⟨_, rfl, h⟩)
    · wp_walk using q1
      exact ⟨_, rfl, h⟩
section
variable {prog : Program} {w : World} {A : Around} {E : Value → Shared → Prop} {s : Shared}
theorem begins1 {v : Value} {o : Obj} {H : Heap → Prop} {Q : Value → Shared → Prop} (B : Begins v o H) (h1 : H s.heap)
    (h : ∀ h', IsEnum h' (s.heap.objs.size + 1) s.heap.objs.size 0 .none → h'.get? s.heap.objs.size = some o → (∀ b o, s.heap.get? b = some o → h'.get? b = some o) → Q (.ref (s.heap.objs.size + 1)) { s with heap := h' }) :
    wpAny (model prog w) A (call (.type "enumerate") [v]) Q E s := by
  refine callType_new F.called_enumerate (by decide) (F.typeCall_enumerate_1 _) (F.newCall_enumerate_1 _) (fun obj => F.args_object_init_2 obj _) F.entry_enumerate_new (new1 B) ⟨h1, ?_⟩
  have hz : (s.heap.push o).objs.size = s.heap.objs.size + 1 := Heap.size_push ..
  show _ ∧ _
  have he := Heap.get?_push_size (s.heap.push o) (o := { cls := .type "enumerate", data := .fields #[.none, .bool false, .ref s.heap.objs.size, rawInt 0, .none, .none] }) rfl
  rw [hz] at he ⊢
  exact ⟨⟨_, he, rfl⟩, h _ he (Heap.get?_push_of_some _ (Heap.get?_push_size _ B.free)) fun b o x => Heap.get?_push_of_some _ (Heap.get?_push_of_some _ x)⟩
end
def IteT (K : PySem.W.Frag) (a : Addr) : It :=
  ⟨fun i H => ∃ (xs : List V) (x : V), SqT K H a xs ∧ xs[i]? = some x, fun i H v H' => ∃ T x, v = .ref T ∧ H T = none ∧ H' = upd H T (.tup [.int (i : Nat), x]) ∧ ∀ xs, SqT K H a xs → xs[i]? = some x, fun i H => ∃ xs : List V, SqT K H a xs ∧ xs.length ≤ i⟩
theorem turn_ {P : Program} {w : World} {K : PySem.W.Frag} {elts : List Expr} {kk : Nat} {tpos : Pos} (a e it : Addr) :
    Turn P w K (.Tuple elts kk tpos) (IteT K a) [e, it] e (fun i h => (∃ old, IsEnum h e it ((i : Nat) : Int) old) ∧ h.IsTupleIter it a i ∧ e ≠ it ∧ e ≠ a ∧ a ≠ it) where
  mem := by simp
  obj := fun i h st b hb => by
    obtain ⟨⟨old, he⟩, ⟨o, ho, hc, hd⟩, _⟩ := st
    have e' : b = e ∨ b = it := by simpa using hb
    rcases e' with z | z
    · rw [z]; exact ⟨_, he, fun v q => nomatch q⟩
    · rw [z]; exact ⟨o, ho, fun v q => by rw [hd] at q; cases q⟩
  keep := fun i h h' st k => let ⟨⟨old, he⟩, hi, hne⟩ := st; ⟨⟨old, k e (by simp) _ he⟩, hi.at fun o q => k it (by simp) o q, hne⟩
  item := by
    intro X hP hw hK hc i pins s σ H E I hf st hg
    subst hP hw hK
    obtain ⟨⟨old, he⟩, hit, hne, nea, nai⟩ := st
    obtain ⟨xs, x, hq, hx⟩ := hg
    obtain ⟨its, rv, p, hz⟩ := I.tuple hq
    obtain ⟨u, hu, ru⟩ := rv.get hx
    have hel : e < s.heap.objs.size := Heap.lt_size he
    have hil : it < s.heap.objs.size := by obtain ⟨_, q, _⟩ := hit; exact Heap.lt_size q
    have hlt : i < its.toArray.size := by
      have := (List.getElem?_eq_some_iff.mp hu).1
      simpa using this
    have nf : e ∉ [it, a] := by simp; exact ⟨hne, nea⟩
    have D := Draws.tuple (prog := X.prog) (w := X.w) (A := X.A.in1) (I.ok.hd hc) it a nai its.toArray
    refine wpAny_pyNext_enum_itemC D he ⟨hit, p⟩ hlt hne nf fun v h' tk hv ho hit' hT hsz hk => ?_
    have hv' : v = u := by
      have : its[i]? = some v := by simpa using hv
      rw [hu] at this
      exact (Option.some.inj this).symm
    subst hv'
    refine ⟨_, rfl, wpAny_letOwnedTupleGo_enum (s := { s with heap := h', toks := tk + 1 }) ho fun h'' he' sb => ?_⟩
    have hT2 : h''.get? s.heap.objs.size = some { cls := .type "tuple", data := .seq #[.int i tk, v] } := (sb.2 _ (Nat.ne_of_gt hel)).trans hT
    have new : ObjOk X.prog X.w (upd H s.heap.objs.size (.tup [.int (i : Nat), x])) h'' s.heap.objs.size (.tup [.int (i : Nat), x]) :=
      ⟨by show 2 ≤ sizeLine; decide, [.int i tk, v], .cons ⟨_, rfl⟩ (.cons ru .nil), ⟨_, hT2, rfl, _, rfl⟩⟩
    have I1 : Inv X pins σ (upd H s.heap.objs.size (.tup [.int (i : Nat), x])) { s with heap := h'', toks := tk + 1 } :=
      I.turnedNew (ch := [e, it]) (fun b ob hb q => (sb.2 b (fun z => hb (by simp [z]))).trans (hk b ob (fun z => hb (by simp [z])) (fun z => hb (by simp [z])) q)) hf (Nat.le_refl _) new
    refine ⟨.ref s.heap.objs.size, _, I1, rfl, ⟨_, x, rfl, I.hok.fresh (Nat.le_refl _), rfl, fun ys hy => by rw [I.tuple_inj hy hq]; exact hx⟩, ⟨⟨v, ?_⟩, hit'.1.at fun o q => (sb.2 it (Ne.symm hne)).trans q, hne, nea, nai⟩, fun b hb => ?_⟩
    · have e1 : ((i + 1 : Nat) : Int) = (i : Int) + 1 := by omega
      rw [e1]; exact he'
    · have hb' : b < s.heap.objs.size := by
        have e' : b = e ∨ b = it := by simpa using hb
        rcases e' with z | z
        · rw [z]; exact hel
        · rw [z]; exact hil
      rw [upd_ne (Nat.ne_of_lt hb')]
      exact (hf b hb).1
  done := by
    intro X hP hw hK hc i pins s σ H E I hf st hg
    subst hP hw hK
    obtain ⟨⟨old, he⟩, hit, hne, nea, nai⟩ := st
    obtain ⟨xs, hq, hx⟩ := hg
    obtain ⟨its, rv, p, hz⟩ := I.tuple hq
    obtain ⟨f0, f1, f2, f3, f4, f5⟩ := hf it (by simp)
    have hl := rv.length
    have hT : s.TypeIs (.ref e) "enumerate" := ⟨_, he, rfl⟩
    unfold pyNext
    refine wpAny_bind (wpAny_attempt (wpAny_callSpecial?_slot (name := Str.ofString "__next__") hT F.slot_enumerate_next ?_))
    refine wpAny_call_entry F.slot_enumerate_next hT F.entry_enumerate_next ?_ (F.args_enumerate_next_1 _)
    show wpAny _ _ (field (.ref e) 2 >>= _) _ _ _
    refine wpAny_bind (wpAny_field he rfl (x := .ref it) rfl ?_)
    refine wpAny_bind (wpAny_nextOf_tuple_end (A := X.A.in1) (I.ok.hd hc) hit p (by simp; omega) fun h' x eb hx' => ?_)
    obtain ⟨o, ho, hcl⟩ := hx'
    refine wpAny_bind (wpAny_isInstance (T := "StopIteration") (b := true) ⟨o, ho, hcl⟩ isSubtype_stop ?_)
    exact wpAny_pure ⟨rfl, I.turned (t' := s.toks) (fun b o hb q => eb b o hb q) f0 f1 f3 f4 f5⟩
  self := fun A i s Q E st h => let ⟨⟨_, he⟩, _⟩ := st; wpAny_pyIter_enum he h
def iEnumA (K : PySem.W.Frag) (ta : TA) : TI := fun σ H R => ta σ H fun vs H1 => ∃ a xs, vs = [.ref a] ∧ ((SqL K H1 a xs ∧ R (Ite K a) H1) ∨ (SqT K H1 a xs ∧ R (IteT K a) H1))
theorem pi_ {X : Cx} {e : Expr} {ta : TA} {p pos tpos : Pos} {elts : List Expr} {kk : Nat} (hg : Gl X "enumerate") (hm : X.mg "enumerate" = none) (ha : PA X [e] ta) (hs : starEach [e] X.env = [(false, eval e X.env)] := by rfl) :
    PI X (.Tuple elts kk tpos) (.Call (.Name "enumerate" p) [e] [] pos) (iEnumA X.K ta) := by
  refine ⟨fun pins s σ H R I h => ?_⟩
  refine Call_ (ld_blt I hg hm boot_enumerate (PyProof.Rows.callWith_type1 (thn (ha.run pos pins s σ H _ I h) fun us s1 ⟨vs, H1, I1, r1, q1⟩ => ?_) hs rfl))
  obtain ⟨a, xs, ex, q1⟩ := q1
  subst ex
  cases r1 with
  | cons r rr =>
    cases rr
    cases r
    have fp : ∀ b, b ∈ [s1.heap.objs.size + 1, s1.heap.objs.size] → FpOk X pins H1 b := fun b hb => by
      have e' : b = s1.heap.objs.size + 1 ∨ b = s1.heap.objs.size := by simpa using hb
      have hle : s1.heap.objs.size ≤ b := by
        rcases e' with z | z
        · rw [z]; exact Nat.le_add_right _ _
        · rw [z]; exact Nat.le_refl _
      exact I1.fpOk hle (I1.hok.fresh hle)
    rcases q1 with ⟨hq, q⟩ | ⟨hq, q⟩
    · obtain ⟨its, rv, p', hz⟩ := I1.list hq
      refine call_enumerate_list p'.isList fun h' he hit hsz hk => wpAny_pyIter_enum he ?_
      have I2 : Inv X pins σ H1 { s1 with heap := h' } := I1.kept (t' := s1.toks) hk
      exact ⟨s1.heap.objs.size + 1, [s1.heap.objs.size + 1, s1.heap.objs.size], _, _, H1, rfl, I2, turn_enum a (s1.heap.objs.size + 1) s1.heap.objs.size, ⟨⟨.none, he⟩, hit, Nat.succ_ne_self _⟩, fp, q⟩
    · obtain ⟨its, rv, p', hz⟩ := I1.tuple hq
      obtain ⟨o1, ho1, _⟩ := id p'
      have la : a < s1.heap.objs.size := Heap.lt_size ho1
      refine begins1 (begins_tuple a its.toArray) p' fun h' he g1 hk => wpAny_pyIter_enum he ?_
      have I2 : Inv X pins σ H1 { s1 with heap := h' } := I1.kept (t' := s1.toks) hk
      exact ⟨s1.heap.objs.size + 1, [s1.heap.objs.size + 1, s1.heap.objs.size], _, _, H1, rfl, I2, turn_ a (s1.heap.objs.size + 1) s1.heap.objs.size, ⟨⟨.none, he⟩, ⟨_, g1, rfl, rfl⟩, Nat.succ_ne_self _, Nat.ne_of_gt (Nat.lt_succ_of_lt la), Nat.ne_of_lt la⟩, fp, q⟩
end EnT
namespace DL
open PySem PySem.Spec PyProof.Rows L2
section
variable {G : Gd} {W : WX} {m n : ME} {σ : L2.St} {H : Hp}
theorem walk_enumT {K : PySem.W.Frag} {a : Addr} {xs : List V} : Walk (EnT.IteT K a) xs.length (fun H => SqT K H a xs) (YPair (fun i => some (.int (i : Nat))) (fun i => xs[i]?)) := by
  refine ⟨fun i _ hi q => ⟨xs, xs[i], q, by simp [hi]⟩, fun _ q => ⟨xs, q, Nat.le_refl _⟩, fun i H v H' _ q y => ?_⟩
  obtain ⟨T, x, e1, e2, e3, e4⟩ := y
  exact ⟨T, .int (i : Nat), x, e1, e2, e3, rfl, e4 xs q⟩
theorem Src.enumT {Kn0 H0 : Hp} {L0 : Ft} {K : PySem.W.Frag} {a : Addr} {ds : List D} {vs : List V} (h : Kn0 a = some (.tup vs)) (f : Frs G Kn0 ds vs) : Src G Kn0 H0 L0 (EnT.IteT K a) (enumD 0 ds) (fun H => SqT K H a vs) (YPair (fun i => some (.int (i : Nat))) (fun i => vs[i]?)) where
  walk := by rw [enumD_length, ← f.length]; exact walk_enumT
  stays := fun Kn H L t le => SqT.of (le.tp a _ (t.kn a _ h))
  item := fun i H x H' Kn L hi t le y => by
    rw [enumD_length] at hi
    obtain ⟨v, e, fv⟩ := f.get (i := i) (d := ds[i]) (by simp [hi])
    obtain ⟨Kn', t', le', f'⟩ := pair_item (G := G) (d1 := .int (i : Nat)) (d2 := ds[i]) le y (fun v e => by cases e; exact .int _) fun v' e' => by
      rw [e] at e'; cases e'; exact fv.mono (Le.of_sub t.kn)
    exact ⟨_, by rw [enumD_get ds 0 i ds[i] (by simp [hi])]; simp, Kn', t', le', f'⟩
def mEnumA (m : ME) : Rho → Out (List D) := fun ρ => bindO (m ρ) fun r ρ1 => match r.1 with
  | .lst ds => .ok (enumD 0 ds) ρ1
  | .tup ds => .ok (enumD 0 ds) ρ1
  | _ => .bad
theorem enumA_run {R : It → Hp → Prop} (h : TId G W (mEnumA m) σ H R) : TEd G W m σ H fun v H1 => ∃ a xs, v = .ref a ∧ ((SqL G.K H1 a xs ∧ R (Ite G.K a) H1) ∨ (SqT G.K H1 a xs ∧ R (EnT.IteT G.K a) H1)) := by
  obtain ⟨Kn, ρ, Lf, S, o⟩ := h
  have o : OI G W R σ Kn H (U Lf) (mEnumA m ρ) := o
  unfold mEnumA at o
  rw [← bindG_O] at o
  refine TEd.frozen (Z := OI G W R σ Kn H (U Lf)) (ex := .exc) (bd := .bad) S (fun z => z) (fun _ _ z => z) o fun r ρ1 Kn1 H1 Lf1 v S1 f1 t1 o1 => ?_
  split at o1
  · rename_i ds e
    rw [e] at f1
    cases f1 with
    | @lst a _ vs rd fs => exact ⟨a, vs, rfl, .inl ⟨.inl (S1.le.rd _ _ rd), o1 _ _ _ Kn1 H1 Lf1 S1 t1 (fun _ _ => Src.enum (rd_plain S1.pl rd) fs)⟩⟩
  · rename_i ds e
    rw [e] at f1
    cases f1 with
    | @tup a _ vs rd fs => exact ⟨a, vs, rfl, .inr ⟨SqT.of (S1.le.tp _ _ rd), o1 _ _ _ Kn1 H1 Lf1 S1 t1 (fun _ _ => Src.enumT rd fs)⟩⟩
  · exact o1.elim
end
section
variable {X : Cx} {W : WX} {a : Expr} {m : ME} {pos p : Pos}
theorem di_enumA {elts : List Expr} {kk : Nat} {tpos : Pos} (hg : Gl X "enumerate") (hm : X.mg "enumerate" = none) (ha : DE X W a m) (hs : starEach [a] X.env = [(false, eval a X.env)] := by rfl) : DI X W (.Tuple elts kk tpos) (.Call (.Name "enumerate" p) [a] [] pos) (mEnumA m) :=
  PI.imp (EnT.pi_ hg hm (pa_cons ha pa_nil hs) hs) fun σ H R h => TEd.mono (fun v H1 q => by
    obtain ⟨c, xs, rfl, q⟩ := q
    exact ⟨c, xs, rfl, q⟩) (enumA_run h)
end
end DL
end
section
set_option Elab.async false
set_option linter.all false
set_option maxRecDepth 100000
/-! DL: a text beside anything; lists of unlike lengths. -/
namespace DL
open PySem PySem.Spec PyProof.Rows L2 SeqAt
def rEqX (K : PySem.W.Frag) : R2 := fun x y H Q =>
  (∃ a b, x = .str a ∧ y = .str b ∧ Q (.bl (a == b)) H) ∨
  (∃ a, x = .str a ∧ Q (.bl false) H ∧ (y = .non ∨ (∃ b, y = .bl b) ∨ (∃ i, y = .int i) ∨ ∃ l xs, y = .ref l ∧ (SqL K H l xs ∨ SqT K H l xs))) ∨
  ∃ a b xs ys, x = .ref a ∧ y = .ref b ∧ SqL K H a xs ∧ SqL K H b ys ∧ xs.length ≠ ys.length ∧ Q (.bl false) H
def rNeX (K : PySem.W.Frag) : R2 := fun x y H Q =>
  (∃ a b, x = .str a ∧ y = .str b ∧ Q (.bl (!(a == b))) H) ∨
  ∃ a b xs ys, x = .ref a ∧ y = .ref b ∧ SqL K H a xs ∧ SqL K H b ys ∧ xs.length ≠ ys.length ∧ Q (.bl true) H
section
variable {X : Cx}
theorem len_ne {xs ys : List V} {us ws : List Value} (r : Vals xs us) (q : Vals ys ws) (h : xs.length ≠ ys.length) : (us.toArray.size != ws.toArray.size) = true := by
  have e1 := r.length
  have e2 := q.length
  simp only [List.size_toArray, bne_iff_ne, ne_eq]
  omega
theorem op_eqX (hu : X.A.units + 64 < cLine) : OpR X (compareOp .Eq) (rEqX X.K) := by
  intro pins s σ H x y v u Q I rx ry h
  show wpAny _ _ (richCompare .Eq _ _) _ _ _
  have lt : X.A.units < cLine := by omega
  rcases h with ⟨a, b, rfl, rfl, q⟩ | ⟨a, rfl, q, hy⟩ | ⟨a, b, xs, ys, rfl, rfl, h1, h2, hl, q⟩
  · obtain ⟨t, rfl⟩ := rx
    obtain ⟨t2, rfl⟩ := ry
    exact RcAt.str_str a t b t2 _ _ _ _ ⟨.bl (a == b), H, I, rfl, q⟩
  · obtain ⟨t, rfl⟩ := rx
    rcases hy with rfl | ⟨b, rfl⟩ | ⟨i, rfl⟩ | ⟨l, xs, rfl, hs⟩
    · cases ry
      exact RcAt.str_none a t _ _ _ _ ⟨.bl false, H, I, rfl, q⟩
    · cases ry
      exact RcAt.str_bool a t b _ _ _ _ ⟨.bl false, H, I, rfl, q⟩
    · obtain ⟨t2, rfl⟩ := ry
      exact RcAt.str_int a t i t2 _ _ _ _ ⟨.bl false, H, I, rfl, q⟩
    · cases ry
      rcases hs with hs | hs
      · obtain ⟨us, rv, p, hz⟩ := I.list hs
        exact RcAt.str_list a t p.isList lt _ _ _ _ ⟨.bl false, H, I, rfl, q⟩
      · obtain ⟨us, rv, p, hz⟩ := I.tuple hs
        exact RcAt.str_tuple a t p lt _ _ _ _ ⟨.bl false, H, I, rfl, q⟩
  · cases rx
    cases ry
    obtain ⟨us, rv, p, hz⟩ := I.list h1
    obtain ⟨ws, rw', p2, hz2⟩ := I.list h2
    exact RcAt.lists_lengths p.isList p2.isList (len_ne rv rw' hl) (by omega) _ _ _ _ ⟨.bl false, H, I, rfl, q⟩
theorem op_neX (hu : X.A.units + 64 < cLine) : OpR X (compareOp .NotEq) (rNeX X.K) := by
  intro pins s σ H x y v u Q I rx ry h
  show wpAny _ _ (richCompare .NotEq _ _) _ _ _
  rcases h with ⟨a, b, rfl, rfl, q⟩ | ⟨a, b, xs, ys, rfl, rfl, h1, h2, hl, q⟩
  · obtain ⟨t, rfl⟩ := rx
    obtain ⟨t2, rfl⟩ := ry
    exact RcNeAt.str_str a t b t2 _ _ _ _ ⟨.bl (!(a == b)), H, I, rfl, q⟩
  · cases rx
    cases ry
    obtain ⟨us, rv, p, hz⟩ := I.list h1
    obtain ⟨ws, rw', p2, hz2⟩ := I.list h2
    exact RcNeAt.lists_lengths p.isList p2.isList (len_ne rv rw' hl) (by omega) _ _ _ _ ⟨.bl true, H, I, rfl, q⟩
end
def eqX : List D → Option Val
  | [.str a, .str b] => some (.bl (a == b), 0)
  | [.str _, .non] => some (.bl false, 0)
  | [.str _, .bl _] => some (.bl false, 0)
  | [.str _, .int _] => some (.bl false, 0)
  | [.str _, .lst _] => some (.bl false, 0)
  | [.str _, .tup _] => some (.bl false, 0)
  | [.lst xs, .lst ys] => if xs.length = ys.length then none else some (.bl false, 0)
  | _ => none
def neX : List D → Option Val
  | [.str a, .str b] => some (.bl (!(a == b)), 0)
  | [.lst xs, .lst ys] => if xs.length = ys.length then none else some (.bl true, 0)
  | _ => none
theorem fit_eqX {G : Gd} : Fit2 eqX G (rEqX G.K) := by
  intro x y H Q h
  obtain ⟨Kn, d, e, r, le, t1, t2, hf, p⟩ := h.two
  unfold eqX at hf
  split at hf
  · rename_i e0; cases e0; cases hf
    exact .inl ⟨_, _, t1.str, t2.str, p.val le (.bl _)⟩
  · rename_i e0; cases e0; cases hf
    exact .inr (.inl ⟨_, t1.str, p.val le (.bl _), .inl t2.non⟩)
  · rename_i e0; cases e0; cases hf
    exact .inr (.inl ⟨_, t1.str, p.val le (.bl _), .inr (.inl ⟨_, t2.bl⟩)⟩)
  · rename_i e0; cases e0; cases hf
    exact .inr (.inl ⟨_, t1.str, p.val le (.bl _), .inr (.inr (.inl ⟨_, t2.int⟩))⟩)
  · rename_i e0; cases e0; cases hf
    obtain ⟨a, vs, rfl, r1, f1⟩ := t2.lst le
    exact .inr (.inl ⟨_, t1.str, p.val le (.bl _), .inr (.inr (.inr ⟨a, vs, rfl, .inl (.inl r1)⟩))⟩)
  · rename_i e0; cases e0; cases hf
    obtain ⟨a, vs, rfl, r1, _, f1⟩ := t2.tup le
    exact .inr (.inl ⟨_, t1.str, p.val le (.bl _), .inr (.inr (.inr ⟨a, vs, rfl, .inr (SqT.of r1)⟩))⟩)
  · rename_i e0; cases e0
    split at hf
    · cases hf
    · rename_i hl
      cases hf
      obtain ⟨a, vs, rfl, r1, f1⟩ := t1.lst le
      obtain ⟨b, us, rfl, r2, f2⟩ := t2.lst le
      exact .inr (.inr ⟨a, b, vs, us, rfl, rfl, .inl r1, .inl r2, by rw [f1.length, f2.length]; exact hl, p.val le (.bl _)⟩)
  · cases hf
theorem fit_neX {G : Gd} : Fit2 neX G (rNeX G.K) := by
  intro x y H Q h
  obtain ⟨Kn, d, e, r, le, t1, t2, hf, p⟩ := h.two
  unfold neX at hf
  split at hf
  · rename_i e0; cases e0; cases hf
    exact .inl ⟨_, _, t1.str, t2.str, p.val le (.bl _)⟩
  · rename_i e0; cases e0
    split at hf
    · cases hf
    · rename_i hl
      cases hf
      obtain ⟨a, vs, rfl, r1, f1⟩ := t1.lst le
      obtain ⟨b, us, rfl, r2, f2⟩ := t2.lst le
      exact .inr ⟨a, b, vs, us, rfl, rfl, .inl r1, .inl r2, by rw [f1.length, f2.length]; exact hl, p.val le (.bl _)⟩
  · cases hf
abbrev eqG : List D → Option Val := orF eqX eqA
abbrev neG : List D → Option Val := orF neX neA
section
variable {X : Cx} {W : WX} {a b : Expr} {oa ob : Opn} {pos : Pos} {k : Nat}
theorem g_eq (hr : Rm k X.A) (ha : DO X W a oa) (hb : DO X W b ob) (hm : behindInMarks .Eq b = false := by rfl) : DE X W (.Compare a [.Eq] [b] pos) (opN [oa, ob] eqG) := de_cmp ((op_eqX hr.u64).or ((op_eqA hr.u64).or (op_txD hr.u64))) (fit_or2 fit_eqX (fit_or2 fit_eq fit_txD)) ha hb hm
theorem g_ne (hr : Rm k X.A) (ha : DO X W a oa) (hb : DO X W b ob) (hm : behindInMarks .NotEq b = false := by rfl) : DE X W (.Compare a [.NotEq] [b] pos) (opN [oa, ob] neG) := de_cmp ((op_neX hr.u64).or (op_neA hr.u64)) (fit_or2 fit_neX fit_ne) ha hb hm
end
end DL
namespace DL
open PySem PySem.Spec PyProof.Rows L2
section
variable {X : Cx} {W : WX} {a b : Expr} {oa ob : Opn} {pos : Pos} {k : Nat}
theorem gt_eq (hr : Rm k X.A) (ha : DO X W a oa) (hb : DO X W b ob) (hm : behindInMarks .Eq b = false := by rfl) : DT X W (.Compare a [.Eq] [b] pos) (mB (opN [oa, ob] eqG)) := dt_cmpR ((op_eqX hr.u64).or ((op_eqA hr.u64).or (op_txD hr.u64))) (fit_or2 fit_eqX (fit_or2 fit_eq fit_txD)) ha hb hm
theorem gt_ne (hr : Rm k X.A) (ha : DO X W a oa) (hb : DO X W b ob) (hm : behindInMarks .NotEq b = false := by rfl) : DT X W (.Compare a [.NotEq] [b] pos) (mB (opN [oa, ob] neG)) := dt_cmpR ((op_neX hr.u64).or (op_neA hr.u64)) (fit_or2 fit_neX fit_ne) ha hb hm
end
end DL
end
section
set_option Elab.async false
set_option linter.all false
set_option maxRecDepth 100000
namespace K02
open PySem PySem.Spec PyProof.Rows L2 DL
def top (i : Nat) : Stmt := PySem.Challenge.pw_treelaws_k02_trees_and_paths.main.body.getD i (.Pass ⟨0, 0, 0, 0⟩)
/-- turns, levels: more than there are -/
def FU : Nat := 100000
/-- what is met by except NoPath -/
def hs_NoPath : Str → Option Bool := fun x => if x = "NoPath" then some true else none
structure Bg (K : PySem.W.Frag) (mg : Str → Option Value) where
  a_is_integer : Addr
  d_is_integer : FuncData
  f_is_integer : Fun K "is_integer" "is_integer" (top 4) a_is_integer d_is_integer
  g_is_integer : mg "is_integer" = some (.ref a_is_integer)
  n_is_integer : Binds K d_is_integer ["thing"] []
  a__children_at : Addr
  d__children_at : FuncData
  f__children_at : Fun K "_children_at" "_children_at" (top 7) a__children_at d__children_at
  g__children_at : mg "_children_at" = some (.ref a__children_at)
  n__children_at : Binds K d__children_at ["variants", "thing"] []
  a_is_tree : Addr
  d_is_tree : FuncData
  f_is_tree : Fun K "is_tree" "is_tree" (top 6) a_is_tree d_is_tree
  g_is_tree : mg "is_tree" = some (.ref a_is_tree)
  n_is_tree : Binds K d_is_tree ["schema", "kind", "thing"] []
  a_parts_of : Addr
  d_parts_of : FuncData
  f_parts_of : Fun K "parts_of" "parts_of" (top 9) a_parts_of d_parts_of
  g_parts_of : mg "parts_of" = some (.ref a_parts_of)
  n_parts_of : Binds K d_parts_of ["tree"] []
  a_size_of : Addr
  d_size_of : FuncData
  f_size_of : Fun K "size_of" "size_of" (top 8) a_size_of d_size_of
  g_size_of : mg "size_of" = some (.ref a_size_of)
  n_size_of : Binds K d_size_of ["tree"] []
  a_paths : Addr
  d_paths : FuncData
  f_paths : Fun K "paths" "paths" (top 10) a_paths d_paths
  g_paths : mg "paths" = some (.ref a_paths)
  n_paths : Binds K d_paths ["tree"] []
  a__parts_along : Addr
  d__parts_along : FuncData
  f__parts_along : Fun K "_parts_along" "_parts_along" (top 13) a__parts_along d__parts_along
  g__parts_along : mg "_parts_along" = some (.ref a__parts_along)
  n__parts_along : Binds K d__parts_along ["tree", "thing"] []
  a_part_at : Addr
  d_part_at : FuncData
  f_part_at : Fun K "part_at" "part_at" (top 11) a_part_at d_part_at
  g_part_at : mg "part_at" = some (.ref a_part_at)
  n_part_at : Binds K d_part_at ["tree", "path"] []
  a_put_at : Addr
  d_put_at : FuncData
  f_put_at : Fun K "put_at" "put_at" (top 12) a_put_at d_put_at
  g_put_at : mg "put_at" = some (.ref a_put_at)
  n_put_at : Binds K d_put_at ["tree", "path", "part"] []
  a__law_kneaded : Addr
  d__law_kneaded : FuncData
  f__law_kneaded : Fun K "_law_kneaded" "_law_kneaded" (top 15) a__law_kneaded d__law_kneaded
  g__law_kneaded : mg "_law_kneaded" = some (.ref a__law_kneaded)
  n__law_kneaded : Binds K d__law_kneaded ["seed", "lap"] []
  a__law_pot_of : Addr
  d__law_pot_of : FuncData
  f__law_pot_of : Fun K "_law_pot_of" "_law_pot_of" (top 16) a__law_pot_of d__law_pot_of
  g__law_pot_of : mg "_law_pot_of" = some (.ref a__law_pot_of)
  n__law_pot_of : Binds K d__law_pot_of ["script"] []
  a__law_below : Addr
  d__law_below : FuncData
  f__law_below : Fun K "_law_below" "_law_below" (top 17) a__law_below d__law_below
  g__law_below : mg "_law_below" = some (.ref a__law_below)
  n__law_below : Binds K d__law_below ["pot", "bound"] []
  a__law_pick : Addr
  d__law_pick : FuncData
  f__law_pick : Fun K "_law_pick" "_law_pick" (top 18) a__law_pick d__law_pick
  g__law_pick : mg "_law_pick" = some (.ref a__law_pick)
  n__law_pick : Binds K d__law_pick ["pot", "items"] []
  a__law_same : Addr
  d__law_same : FuncData
  f__law_same : Fun K "_law_same" "_law_same" (top 19) a__law_same d__law_same
  g__law_same : mg "_law_same" = some (.ref a__law_same)
  n__law_same : Binds K d__law_same ["one", "other"] []
  a__law_full_schema : Addr
  d__law_full_schema : FuncData
  f__law_full_schema : Fun K "_law_full_schema" "_law_full_schema" (top 20) a__law_full_schema d__law_full_schema
  g__law_full_schema : mg "_law_full_schema" = some (.ref a__law_full_schema)
  n__law_full_schema : Binds K d__law_full_schema ["pot"] []
  a__law_some_tree : Addr
  d__law_some_tree : FuncData
  f__law_some_tree : Fun K "_law_some_tree" "_law_some_tree" (top 21) a__law_some_tree d__law_some_tree
  g__law_some_tree : mg "_law_some_tree" = some (.ref a__law_some_tree)
  n__law_some_tree : Binds K d__law_some_tree ["pot", "schema", "kind", "deep"] []
  a__law_bent : Addr
  d__law_bent : FuncData
  f__law_bent : Fun K "_law_bent" "_law_bent" (top 22) a__law_bent d__law_bent
  g__law_bent : mg "_law_bent" = some (.ref a__law_bent)
  n__law_bent : Binds K d__law_bent ["pot", "thing"] []
  a__law_is_tree : Addr
  d__law_is_tree : FuncData
  f__law_is_tree : Fun K "_law_is_tree" "_law_is_tree" (top 23) a__law_is_tree d__law_is_tree
  g__law_is_tree : mg "_law_is_tree" = some (.ref a__law_is_tree)
  n__law_is_tree : Binds K d__law_is_tree ["schema", "kind", "thing"] []
  a__law_size : Addr
  d__law_size : FuncData
  f__law_size : Fun K "_law_size" "_law_size" (top 24) a__law_size d__law_size
  g__law_size : mg "_law_size" = some (.ref a__law_size)
  n__law_size : Binds K d__law_size ["tree"] []
  a__law_paths : Addr
  d__law_paths : FuncData
  f__law_paths : Fun K "_law_paths" "_law_paths" (top 25) a__law_paths d__law_paths
  g__law_paths : mg "_law_paths" = some (.ref a__law_paths)
  n__law_paths : Binds K d__law_paths ["tree"] []
  a__law_at : Addr
  d__law_at : FuncData
  f__law_at : Fun K "_law_at" "_law_at" (top 26) a__law_at d__law_at
  g__law_at : mg "_law_at" = some (.ref a__law_at)
  n__law_at : Binds K d__law_at ["tree", "path"] []
  a__law_with : Addr
  d__law_with : FuncData
  f__law_with : Fun K "_law_with" "_law_with" (top 27) a__law_with d__law_with
  g__law_with : mg "_law_with" = some (.ref a__law_with)
  n__law_with : Binds K d__law_with ["tree", "path", "part"] []
  a__law_is_path : Addr
  d__law_is_path : FuncData
  f__law_is_path : Fun K "_law_is_path" "_law_is_path" (top 28) a__law_is_path d__law_is_path
  g__law_is_path : mg "_law_is_path" = some (.ref a__law_is_path)
  n__law_is_path : Binds K d__law_is_path ["tree", "thing"] []
  a__law_refused : Addr
  d__law_refused : FuncData
  f__law_refused : Fun K "_law_refused" "_law_refused" (top 29) a__law_refused d__law_refused
  g__law_refused : mg "_law_refused" = some (.ref a__law_refused)
  n__law_refused : Binds K d__law_refused ["way", "tree", "path"] []
  a_law : Addr
  d_law : FuncData
  f_law : Fun K "law" "law" (top 30) a_law d_law
  g_law : mg "law" = some (.ref a_law)
  n_law : Binds K d_law ["script"] []
  a_NoPath : Addr
  g_NoPath : mg "NoPath" = some (.ref a_NoPath)
  x_NoPath : PySem.W.excIn K a_NoPath He.veBase "ValueError.__new__" = true
  k_NoPath : PySem.W.keepIn K (.ref a_NoPath) = true
  u_NoPath : PySem.W.subIn K (.ref a_NoPath) (.type "BaseException") = some true
  v_NoPath : PySem.W.typeIn K (.ref a_NoPath) = some (.type "type")
  h_NoPath : ∀ (x : Str) (b : Bool), hs_NoPath x = some b → ∀ A, mg x = some (.ref A) → PySem.W.exmOne K (.ref A) (.ref a_NoPath) = some b
  b_abs : mg "abs" = none
  b_bool : mg "bool" = none
  b_dict : mg "dict" = none
  b_enumerate : mg "enumerate" = none
  b_int : mg "int" = none
  b_isinstance : mg "isinstance" = none
  b_len : mg "len" = none
  b_list : mg "list" = none
  b_range : mg "range" = none
  b_repr : mg "repr" = none
  b_reversed : mg "reversed" = none
  b_str : mg "str" = none
  b_sum : mg "sum" = none
  b_tuple : mg "tuple" = none
  b_zip : mg "zip" = none
section
variable {P : Program} {w : World} {K : PySem.W.Frag} {mg : Str → Option Value} {base : Heap}
abbrev s_is_integer : Stmt := top 4
theorem sc_is_integer : FnScope ["thing"] ["thing"] (defScope s_is_integer) := ⟨rfl, rfl, rfl, by decide +kernel, rfl, by decide +kernel, by decide +kernel⟩
def ms_is_integer : MS := sRet (mAndV (opN [.nm 0] (isiD ["int"])) (mNotV (opN [.nm 0] (isiD ["bool"]))))
def mf_is_integer : MF := runD 1 1 [0] ms_is_integer
theorem ok_is_integer (B : Bg K mg) : FnG P w K mg base 1 B.a_is_integer B.d_is_integer ["thing"] (SpD ⟨K, mg⟩ 1 mf_is_integer) := fn_g B.f_is_integer sc_is_integer fun cdv A outer s H E hr =>
    (dss_one (ds_ret (de_andV (de_isi (do_nm 0) rfl B.b_isinstance rfl B.b_int rfl) (de_one (de_notV (de_isi (do_nm 0) rfl B.b_isinstance rfl B.b_bool rfl))))))
abbrev s__children_at : Stmt := top 7
theorem sc__children_at : FnScope ["variants", "thing", "tag", "children"] ["variants", "thing"] (defScope s__children_at) := ⟨rfl, rfl, rfl, by decide +kernel, rfl, by decide +kernel, by decide +kernel⟩
def ms__children_at : MS := sSeq (sIf (mOr (mNot (mB (opN [.nm 1] (isiD ["tuple"])))) (mNot (mTru (.nm 1)))) (sRet (mC .non)) (sSkip))
  (sSeq (sFor (.tup [.nm 2, .nm 3]) (mIt (mN 0)) (sIf (mAnd (mB (opN [.nm 2, .ex (opN [.nm 1, .ex (mC (.int 0))] atD)] eqG)) (mB (opN [.ex (opN [.nm 3] lenD), .ex (opN [.ex (opN [.nm 1] lenD), .ex (mC (.int 1))] subD)] eqG))) (sRet (mMv 3)) (sSkip)))
  (sRet (mC .non)))
def mf__children_at : MF := runD 2 4 [0, 1] ms__children_at
theorem ok__children_at (B : Bg K mg) : FnG P w K mg base 1 B.a__children_at B.d__children_at ["variants", "thing"] (SpD ⟨K, mg⟩ 2 mf__children_at) := fn_g B.f__children_at sc__children_at fun cdv A outer s H E hr =>
    (dss_cons (ds_if (dt_w (dw_or (dt_not (dt_val (de_isi (do_nm 1) rfl B.b_isinstance rfl B.b_tuple rfl))) (dw_or1 (dt_not (dt_tru (do_nm 1)))))) (dss_one (ds_ret de_non)) dss_nil)
    (dss_cons (ds_for (passes_of rfl) rfl (di_it (de_nm 0)) (dg_tup rfl (dgs_cons (dg_nm (i := 2) sc__children_at.nd rfl (by first | exact Or.inl rfl | exact Or.inr rfl)) (dgs_cons (dg_nm (i := 3) sc__children_at.nd rfl (by first | exact Or.inl rfl | exact Or.inr rfl)) dgs_nil))) (dss_one (ds_if (dt_w (dw_and (gt_eq hr (do_nm 2) (do_ex (e_ix hr (do_nm 1) (do_ex de_int)))) (dw_and1 (gt_eq hr (do_ex (e_len rfl B.b_len (do_nm 3))) (do_ex (e_sub (do_ex (e_len rfl B.b_len (do_nm 1))) (do_ex de_int))))))) (dss_one (ds_ret (de_mv 3))) dss_nil)))
    (dss_one (ds_ret de_non))))
abbrev s_is_tree : Stmt := top 6
theorem sc_is_tree : FnScope ["schema", "kind", "thing", "ahead", "wanted", "part", "children"] ["schema", "kind", "thing"] (defScope s_is_tree) := ⟨rfl, rfl, rfl, by decide +kernel, rfl, by decide +kernel, by decide +kernel⟩
def ms_is_tree : MS := sSeq (sAsg 3 (opN [.ex (opN [.ex (mN 1), .ex (mN 2)] tupD)] lstD))
  (sSeq (whileD (mTru (.nm 3)) (sSeq (sAsgT (.tup [.nm 4, .nm 5]) (mMut 3 isLst [] popD))
  (sSeq (sAsg 6 (mCall mf__children_at [.ex (opN [.nm 0, .nm 4] atD), .nm 5]))
  (sSeq (sIf (mB (opN [.nm 6, .ex (mC .non)] isA)) (sRet (mC (.bl false))) (sSkip))
  (sDrop (mMut 3 isLst [.ex (opN [.nm 6, .ex (opN [.nm 5, .ex (mInt (mC (.int 1)))] (slD true false))] lzipD)] extD))))) FU)
  (sRet (mC (.bl true))))
def mf_is_tree : MF := runD 3 7 [0, 1, 2] ms_is_tree
theorem ok_is_tree (B : Bg K mg) : FnG P w K mg base 2 B.a_is_tree B.d_is_tree ["schema", "kind", "thing"] (SpD ⟨K, mg⟩ 3 mf_is_tree) := fn_g B.f_is_tree sc_is_tree fun cdv A outer s H E hr =>
    (dss_cons (ds_set (i := 3) sc_is_tree.nd rfl (by first | exact Or.inl rfl | exact Or.inr rfl) (de_lst (da_cons (do_ex (de_tup (da_cons (do_ex (de_nm 1)) (da_cons (do_ex (de_nm 2)) da_nil)))) da_nil)))
    (dss_cons (ds_while FU (passes_of rfl) (dt_tru (do_nm 3)) (dss_cons (ds_asgT (e_pop (do_nm 3)) (dg_tup rfl (dgs_cons (dg_nm (i := 4) sc_is_tree.nd rfl (by first | exact Or.inl rfl | exact Or.inr rfl)) (dgs_cons (dg_nm (i := 5) sc_is_tree.nd rfl (by first | exact Or.inl rfl | exact Or.inr rfl)) dgs_nil))))
    (dss_cons (ds_set (i := 6) sc_is_tree.nd rfl (by first | exact Or.inl rfl | exact Or.inr rfl) (de_callG (ok__children_at B) (hr.mono (by omega)) rfl B.g__children_at B.f__children_at.kp B.n__children_at (takes_of rfl rfl rfl rfl) (da_cons (do_ex (e_ix hr (do_nm 0) (do_nm 4))) (da_cons (do_nm 5) da_nil))))
    (dss_cons (ds_if (t_is (do_nm 6) (do_ex de_non)) (dss_one (ds_ret de_bl)) dss_nil)
    (dss_one (ds_expr (e_extend (do_nm 3) (do_ex (de_lzip rfl rfl B.b_list rfl B.b_zip (do_nm 6) (do_ex (de_sl10 (do_nm 5) de_int)))))))))))
    (dss_one (ds_ret de_bl))))
abbrev s_parts_of : Stmt := top 9
theorem sc_parts_of : FnScope ["tree", "parts", "ahead", "part"] ["tree"] (defScope s_parts_of) := ⟨rfl, rfl, rfl, by decide +kernel, rfl, by decide +kernel, by decide +kernel⟩
def ms_parts_of : MS := sSeq (sAsg 1 (opN [] lstD))
  (sSeq (sAsg 2 (opN [.ex (mN 0)] lstD))
  (sSeq (whileD (mTru (.nm 2)) (sSeq (sAsg 3 (mMut 2 isLst [] popD))
  (sSeq (sDrop (mMut 1 isLst [.ex (mN 3)] appD))
  (sDrop (mMut 2 isLst [.ex (opN [.nm 3] (backD true))] extD)))) FU)
  (sRet (mMv 1))))
def mf_parts_of : MF := runD 1 4 [0] ms_parts_of
theorem ok_parts_of (B : Bg K mg) : FnG P w K mg base 1 B.a_parts_of B.d_parts_of ["tree"] (SpD ⟨K, mg⟩ 1 mf_parts_of) := fn_g B.f_parts_of sc_parts_of fun cdv A outer s H E hr =>
    (dss_cons (ds_set (i := 1) sc_parts_of.nd rfl (by first | exact Or.inl rfl | exact Or.inr rfl) (de_lst da_nil))
    (dss_cons (ds_set (i := 2) sc_parts_of.nd rfl (by first | exact Or.inl rfl | exact Or.inr rfl) (de_lst (da_cons (do_ex (de_nm 0)) da_nil)))
    (dss_cons (ds_while FU (passes_of rfl) (dt_tru (do_nm 2)) (dss_cons (ds_set (i := 3) sc_parts_of.nd rfl (by first | exact Or.inl rfl | exact Or.inr rfl) (e_pop (do_nm 2)))
    (dss_cons (ds_expr (e_append (do_nm 1) (do_ex (de_nm 3))))
    (dss_one (ds_expr (e_extend (do_nm 2) (do_ex (de_back0 (do_nm 3)))))))))
    (dss_one (ds_ret (de_mv 1))))))
abbrev s_size_of : Stmt := top 8
theorem sc_size_of : FnScope ["tree"] ["tree"] (defScope s_size_of) := ⟨rfl, rfl, rfl, by decide +kernel, rfl, by decide +kernel, by decide +kernel⟩
def ms_size_of : MS := sRet (opN [.ex (mCall mf_parts_of [.nm 0])] lenD)
def mf_size_of : MF := runD 1 1 [0] ms_size_of
theorem ok_size_of (B : Bg K mg) : FnG P w K mg base 2 B.a_size_of B.d_size_of ["tree"] (SpD ⟨K, mg⟩ 1 mf_size_of) := fn_g B.f_size_of sc_size_of fun cdv A outer s H E hr =>
    (dss_one (ds_ret (e_len rfl B.b_len (do_ex (de_callG (ok_parts_of B) (hr.mono (by omega)) rfl B.g_parts_of B.f_parts_of.kp B.n_parts_of (takes_of rfl rfl rfl rfl) (da_cons (do_nm 0) da_nil))))))
abbrev s_paths : Stmt := top 10
theorem sc_paths : FnScope ["tree", "found", "ahead", "path", "part", "index"] ["tree"] (defScope s_paths) := ⟨rfl, rfl, rfl, by decide +kernel, rfl, by decide +kernel, by decide +kernel⟩
def ms_paths : MS := sSeq (sAsg 1 (opN [] lstD))
  (sSeq (sAsg 2 (opN [.ex (opN [.ex (opN [] tupD), .ex (mN 0)] tupD)] lstD))
  (sSeq (whileD (mTru (.nm 2)) (sSeq (sAsgT (.tup [.nm 3, .nm 4]) (mMut 2 isLst [] popD))
  (sSeq (sDrop (mMut 1 isLst [.ex (mN 3)] appD))
  (sFor (.nm 5) (mRevR (opN [.ex (opN [.nm 4] lenD), .ex (mC (.int 1))] subD)) (sDrop (mMut 2 isLst [.ex (opN [.ex (opN [.nm 3, .ex (opN [.ex (mN 5)] tupD)] addD), .ex (opN [.nm 4, .ex (opN [.nm 5, .ex (mC (.int 1))] addD)] atD)] tupD)] appD))))) FU)
  (sRet (mMv 1))))
def mf_paths : MF := runD 1 6 [0] ms_paths
theorem ok_paths (B : Bg K mg) : FnG P w K mg base 1 B.a_paths B.d_paths ["tree"] (SpD ⟨K, mg⟩ 1 mf_paths) := fn_g B.f_paths sc_paths fun cdv A outer s H E hr =>
    (dss_cons (ds_set (i := 1) sc_paths.nd rfl (by first | exact Or.inl rfl | exact Or.inr rfl) (de_lst da_nil))
    (dss_cons (ds_set (i := 2) sc_paths.nd rfl (by first | exact Or.inl rfl | exact Or.inr rfl) (de_lst (da_cons (do_ex (de_tup (da_cons (do_ex (de_tup da_nil)) (da_cons (do_ex (de_nm 0)) da_nil)))) da_nil)))
    (dss_cons (ds_while FU (passes_of rfl) (dt_tru (do_nm 2)) (dss_cons (ds_asgT (e_pop (do_nm 2)) (dg_tup rfl (dgs_cons (dg_nm (i := 3) sc_paths.nd rfl (by first | exact Or.inl rfl | exact Or.inr rfl)) (dgs_cons (dg_nm (i := 4) sc_paths.nd rfl (by first | exact Or.inl rfl | exact Or.inr rfl)) dgs_nil))))
    (dss_cons (ds_expr (e_append (do_nm 1) (do_ex (de_nm 3))))
    (dss_one (ds_for (passes_of rfl) rfl (di_revR rfl B.b_reversed rfl B.b_range (e_sub (do_ex (e_len rfl B.b_len (do_nm 4))) (do_ex de_int))) (dg_nm (i := 5) sc_paths.nd rfl (by first | exact Or.inl rfl | exact Or.inr rfl)) (dss_one (ds_expr (e_append (do_nm 2) (do_ex (de_tup (da_cons (do_ex (e_add (do_nm 3) (do_ex (de_tup (da_cons (do_ex (de_nm 5)) da_nil))))) (da_cons (do_ex (e_ix hr (do_nm 4) (do_ex (e_add (do_nm 5) (do_ex de_int))))) da_nil))))))))))))
    (dss_one (ds_ret (de_mv 1))))))
abbrev s__parts_along : Stmt := top 13
theorem sc__parts_along : FnScope ["tree", "thing", "along", "index", "part"] ["tree", "thing"] (defScope s__parts_along) := ⟨rfl, rfl, rfl, by decide +kernel, rfl, by decide +kernel, by decide +kernel⟩
def ms__parts_along : MS := sSeq (sIf (mNot (mB (opN [.nm 1] (isiD ["tuple"])))) (sRet (mC .non)) (sSkip))
  (sSeq (sAsg 2 (opN [.ex (mN 0)] lstD))
  (sSeq (sFor (.nm 3) (mIt (mN 1)) (sSeq (sAsg 4 (opN [.nm 2, .ex (opN [.ex (mC (.int 1))] negD)] atD))
  (sSeq (sIf (mOr (mNot (mB (mCall mf_is_integer [.nm 3]))) (mNot (mB (mChain fLe fLt (.ex (mC (.int 0))) (.nm 3) (.ex (opN [.ex (opN [.nm 4] lenD), .ex (mC (.int 1))] subD)))))) (sRet (mC .non)) (sSkip))
  (sDrop (mMut 2 isLst [.ex (opN [.nm 4, .ex (opN [.nm 3, .ex (mC (.int 1))] addD)] atD)] appD)))))
  (sRet (mMv 2))))
def mf__parts_along : MF := runD 2 5 [0, 1] ms__parts_along
theorem ok__parts_along (B : Bg K mg) : FnG P w K mg base 2 B.a__parts_along B.d__parts_along ["tree", "thing"] (SpD ⟨K, mg⟩ 2 mf__parts_along) := fn_g B.f__parts_along sc__parts_along fun cdv A outer s H E hr =>
    (dss_cons (ds_if (dt_not (dt_val (de_isi (do_nm 1) rfl B.b_isinstance rfl B.b_tuple rfl))) (dss_one (ds_ret de_non)) dss_nil)
    (dss_cons (ds_set (i := 2) sc__parts_along.nd rfl (by first | exact Or.inl rfl | exact Or.inr rfl) (de_lst (da_cons (do_ex (de_nm 0)) da_nil)))
    (dss_cons (ds_for (passes_of rfl) rfl (di_it (de_nm 1)) (dg_nm (i := 3) sc__parts_along.nd rfl (by first | exact Or.inl rfl | exact Or.inr rfl)) (dss_cons (ds_set (i := 4) sc__parts_along.nd rfl (by first | exact Or.inl rfl | exact Or.inr rfl) (e_ix hr (do_nm 2) (do_ex (e_neg (do_ex de_int)))))
    (dss_cons (ds_if (dt_w (dw_or (dt_not (dt_val (de_callG (ok_is_integer B) (hr.mono (by omega)) rfl B.g_is_integer B.f_is_integer.kp B.n_is_integer (takes_of rfl rfl rfl rfl) (da_cons (do_nm 3) da_nil)))) (dw_or1 (dt_not (dt_chain op_le op_lt (do_ex de_int) (do_nm 3) (do_ex (e_sub (do_ex (e_len rfl B.b_len (do_nm 4))) (do_ex de_int)))))))) (dss_one (ds_ret de_non)) dss_nil)
    (dss_one (ds_expr (e_append (do_nm 2) (do_ex (e_ix hr (do_nm 4) (do_ex (e_add (do_nm 3) (do_ex de_int)))))))))))
    (dss_one (ds_ret (de_mv 2))))))
abbrev s_part_at : Stmt := top 11
theorem sc_part_at : FnScope ["tree", "path", "along"] ["tree", "path"] (defScope s_part_at) := ⟨rfl, rfl, rfl, by decide +kernel, rfl, by decide +kernel, by decide +kernel⟩
def ms_part_at : MS := sSeq (sAsg 2 (mCall mf__parts_along [.nm 0, .nm 1]))
  (sSeq (sIf (mB (opN [.nm 2, .ex (mC .non)] isA)) (sRaise "NoPath") (sSkip))
  (sRet (opN [.nm 2, .ex (opN [.ex (mC (.int 1))] negD)] atD)))
def mf_part_at : MF := runD 2 3 [0, 1] ms_part_at
theorem ok_part_at (B : Bg K mg) : FnG P w K mg base 3 B.a_part_at B.d_part_at ["tree", "path"] (SpD ⟨K, mg⟩ 2 mf_part_at) := fn_g B.f_part_at sc_part_at fun cdv A outer s H E hr =>
    (dss_cons (ds_set (i := 2) sc_part_at.nd rfl (by first | exact Or.inl rfl | exact Or.inr rfl) (de_callG (ok__parts_along B) (hr.mono (by omega)) rfl B.g__parts_along B.f__parts_along.kp B.n__parts_along (takes_of rfl rfl rfl rfl) (da_cons (do_nm 0) (da_cons (do_nm 1) da_nil))))
    (dss_cons (ds_if (t_is (do_nm 2) (do_ex de_non)) (dss_one (ds_raise rfl (takes_of rfl rfl rfl rfl) F.excBase_ValueError B.x_NoPath B.g_NoPath B.k_NoPath (raises_own B.u_NoPath B.v_NoPath) rfl)) dss_nil)
    (dss_one (ds_ret (e_ix hr (do_nm 2) (do_ex (e_neg (do_ex de_int))))))))
abbrev s_put_at : Stmt := top 12
theorem sc_put_at : FnScope ["tree", "path", "part", "along", "changed", "index", "old"] ["tree", "path", "part"] (defScope s_put_at) := ⟨rfl, rfl, rfl, by decide +kernel, rfl, by decide +kernel, by decide +kernel⟩
def ms_put_at : MS := sSeq (sAsg 3 (mCall mf__parts_along [.nm 0, .nm 1]))
  (sSeq (sIf (mB (opN [.nm 3, .ex (mC .non)] isA)) (sRaise "NoPath") (sSkip))
  (sSeq (sAsg 4 (mN 2))
  (sSeq (sFor (.tup [.nm 5, .nm 6]) (mRevL (opN [.nm 1, .nm 3] lzipD)) (sAsg 4 (opN [.ex (opN [.ex (opN [.nm 6, .ex (mInt (opN [.nm 5, .ex (mC (.int 1))] addD))] (slD false true)), .ex (opN [.ex (mN 4)] tupD)] addD), .ex (opN [.nm 6, .ex (mInt (opN [.nm 5, .ex (mC (.int 2))] addD))] (slD true false))] addD)))
  (sRet (mMv 4)))))
def mf_put_at : MF := runD 3 7 [0, 1, 2] ms_put_at
theorem ok_put_at (B : Bg K mg) : FnG P w K mg base 3 B.a_put_at B.d_put_at ["tree", "path", "part"] (SpD ⟨K, mg⟩ 3 mf_put_at) := fn_g B.f_put_at sc_put_at fun cdv A outer s H E hr =>
    (dss_cons (ds_set (i := 3) sc_put_at.nd rfl (by first | exact Or.inl rfl | exact Or.inr rfl) (de_callG (ok__parts_along B) (hr.mono (by omega)) rfl B.g__parts_along B.f__parts_along.kp B.n__parts_along (takes_of rfl rfl rfl rfl) (da_cons (do_nm 0) (da_cons (do_nm 1) da_nil))))
    (dss_cons (ds_if (t_is (do_nm 3) (do_ex de_non)) (dss_one (ds_raise rfl (takes_of rfl rfl rfl rfl) F.excBase_ValueError B.x_NoPath B.g_NoPath B.k_NoPath (raises_own B.u_NoPath B.v_NoPath) rfl)) dss_nil)
    (dss_cons (ds_set (i := 4) sc_put_at.nd rfl (by first | exact Or.inl rfl | exact Or.inr rfl) (de_nm 2))
    (dss_cons (ds_for (passes_of rfl) rfl (di_revL rfl B.b_reversed (de_lzip rfl rfl B.b_list rfl B.b_zip (do_nm 1) (do_nm 3))) (dg_tup rfl (dgs_cons (dg_nm (i := 5) sc_put_at.nd rfl (by first | exact Or.inl rfl | exact Or.inr rfl)) (dgs_cons (dg_nm (i := 6) sc_put_at.nd rfl (by first | exact Or.inl rfl | exact Or.inr rfl)) dgs_nil))) (dss_one (ds_set (i := 4) sc_put_at.nd rfl (by first | exact Or.inl rfl | exact Or.inr rfl) (e_add (do_ex (e_add (do_ex (de_sl01 (do_nm 6) (e_add (do_nm 5) (do_ex de_int)))) (do_ex (de_tup (da_cons (do_ex (de_nm 4)) da_nil))))) (do_ex (de_sl10 (do_nm 6) (e_add (do_nm 5) (do_ex de_int))))))))
    (dss_one (ds_ret (de_mv 4)))))))
abbrev s__law_kneaded : Stmt := top 15
theorem sc__law_kneaded : FnScope ["seed", "lap", "prime", "amount", "again"] ["seed", "lap"] (defScope s__law_kneaded) := ⟨rfl, rfl, rfl, by decide +kernel, rfl, by decide +kernel, by decide +kernel⟩
def ms__law_kneaded : MS := sSeq (sAsg 2 (mC (.int 2305843009213693907)))
  (sSeq (sAsg 3 (opN [.ex (opN [.ex (opN [.ex (opN [.nm 0, .ex (mC (.int 2862933555777941757))] mulA), .ex (opN [.nm 1, .ex (mC (.int 3037000493))] mulA)] addD), .ex (mC (.int 29))] addD), .nm 2] modD))
  (sSeq (sFor (.nm 4) (mRange rangeD1 [.ex (mC (.int 4))]) (sAsg 3 (opN [.ex (opN [.ex (opN [.ex (opN [.ex (opN [.nm 3, .nm 3] mulA), .ex (opN [.ex (mC (.int 11)), .nm 3] mulA)] addD), .ex (opN [.ex (mC (.int 4099)), .nm 4] mulA)] addD), .nm 1] addD), .nm 2] modD)))
  (sRet (opN [.ex (opN [.nm 3, .nm 2] mulA), .ex (opN [.ex (opN [.ex (opN [.nm 3, .ex (mC (.int 69621))] mulA), .nm 1] addD), .nm 2] modD)] addD))))
def mf__law_kneaded : MF := runD 2 5 [0, 1] ms__law_kneaded
theorem ok__law_kneaded (B : Bg K mg) : FnG P w K mg base 1 B.a__law_kneaded B.d__law_kneaded ["seed", "lap"] (SpD ⟨K, mg⟩ 2 mf__law_kneaded) := fn_g B.f__law_kneaded sc__law_kneaded fun cdv A outer s H E hr =>
    (dss_cons (ds_set (i := 2) sc__law_kneaded.nd rfl (by first | exact Or.inl rfl | exact Or.inr rfl) de_int)
    (dss_cons (ds_set (i := 3) sc__law_kneaded.nd rfl (by first | exact Or.inl rfl | exact Or.inr rfl) (e_mod (do_ex (e_add (do_ex (e_add (do_ex (e_mul (do_nm 0) (do_ex de_int))) (do_ex (e_mul (do_nm 1) (do_ex de_int))))) (do_ex de_int))) (do_nm 2)))
    (dss_cons (ds_for (passes_of rfl) rfl (di_range1 rfl B.b_range (da_cons (do_ex de_int) da_nil)) (dg_nm (i := 4) sc__law_kneaded.nd rfl (by first | exact Or.inl rfl | exact Or.inr rfl)) (dss_one (ds_set (i := 3) sc__law_kneaded.nd rfl (by first | exact Or.inl rfl | exact Or.inr rfl) (e_mod (do_ex (e_add (do_ex (e_add (do_ex (e_add (do_ex (e_mul (do_nm 3) (do_nm 3))) (do_ex (e_mul (do_ex de_int) (do_nm 3))))) (do_ex (e_mul (do_ex de_int) (do_nm 4))))) (do_nm 1))) (do_nm 2)))))
    (dss_one (ds_ret (e_add (do_ex (e_mul (do_nm 3) (do_nm 2))) (do_ex (e_mod (do_ex (e_add (do_ex (e_mul (do_nm 3) (do_ex de_int))) (do_nm 1))) (do_nm 2)))))))))
abbrev s__law_pot_of : Stmt := top 16
theorem sc__law_pot_of : FnScope ["script", "cells", "place", "cell"] ["script"] (defScope s__law_pot_of) := ⟨rfl, rfl, rfl, by decide +kernel, rfl, by decide +kernel, by decide +kernel⟩
def ms__law_pot_of : MS := sSeq (sAsg 1 (mLc (mIt (opN [.nm 0, .ex (mInt (mC (.int 17)))] (slD false true))) (.nm 3) (tY) (opN [.nm 3] absD) [3]))
  (sSeq (sFor (.tup [.nm 2, .nm 3]) (mEnumA (opN [.nm 0, .ex (mInt (mC (.int 17))), .ex (mInt (mC (.int 60)))] (slD true true))) (sSetI 1 (.ex (opN [.nm 2, .ex (mC (.int 17))] modD)) (opN [.ex (opN [.nm 1, .ex (opN [.nm 2, .ex (mC (.int 17))] modD)] atD), .ex (opN [.nm 3] absD)] addD)))
  (sRet (opN [.ex (mN 1), .ex (mC (.int 0)), .ex (mC (.int 0)), .ex (mC (.int 0))] lstD)))
def mf__law_pot_of : MF := runD 1 4 [0] ms__law_pot_of
theorem ok__law_pot_of (B : Bg K mg) : FnG P w K mg base 1 B.a__law_pot_of B.d__law_pot_of ["script"] (SpD ⟨K, mg⟩ 1 mf__law_pot_of) := fn_g B.f__law_pot_of sc__law_pot_of fun cdv A outer s H E hr =>
    (dss_cons (ds_setLc (i := 1) [("cell", 3)] rfl sc__law_pot_of.nd rfl rfl rfl (di_it (de_sl01 (do_nm 0) de_int)) (blkOk_by rfl) (fun _ _ _ _ _ => (dg_nm (i := 3) sc__law_pot_of.nd rfl (by first | exact Or.inl rfl | exact Or.inr rfl))) (fun _ _ _ _ _ => dts_nil) (fun _ _ _ _ _ => (e_abs rfl B.b_abs (do_nm 3))))
    (dss_cons (ds_for (passes_of rfl) rfl (di_enumA rfl B.b_enumerate (de_sl11 (do_nm 0) de_int de_int)) (dg_tup rfl (dgs_cons (dg_nm (i := 2) sc__law_pot_of.nd rfl (by first | exact Or.inl rfl | exact Or.inr rfl)) (dgs_cons (dg_nm (i := 3) sc__law_pot_of.nd rfl (by first | exact Or.inl rfl | exact Or.inr rfl)) dgs_nil))) (dss_one (ds_setI hr.u1 (do_nm 1) (do_ex (e_mod (do_nm 2) (do_ex de_int))) (e_add (do_ex (e_ix hr (do_nm 1) (do_ex (e_mod (do_nm 2) (do_ex de_int))))) (do_ex (e_abs rfl B.b_abs (do_nm 3)))))))
    (dss_one (ds_ret (de_lst (da_cons (do_ex (de_nm 1)) (da_cons (do_ex de_int) (da_cons (do_ex de_int) (da_cons (do_ex de_int) da_nil)))))))))
abbrev s__law_below : Stmt := top 17
theorem sc__law_below : FnScope ["pot", "bound", "cells", "place", "amount", "found"] ["pot", "bound"] (defScope s__law_below) := ⟨rfl, rfl, rfl, by decide +kernel, rfl, by decide +kernel, by decide +kernel⟩
def ms__law_below : MS := sSeq (sIf (mB (opN [.ex (opN [.nm 0, .ex (mC (.int 3))] atD), .nm 1] ltD)) (sSeq (sPar [2, 3] [opN [.nm 0, .ex (mC (.int 0))] atD, opN [.nm 0, .ex (mC (.int 1))] atD])
  (sSeq (sAsg 4 (mIf (mB (opN [.nm 2, .ex (opN [] lstD)] neG)) (opN [.nm 2, .ex (opN [.nm 3, .ex (opN [.nm 2] lenD)] modD)] atD) (mC (.int 0))))
  (sSeq (sIf (mOr (mB (opN [.nm 3, .ex (opN [.nm 2] lenD)] geD)) (mB (opN [.nm 4, .ex (opN [.ex (mC (.int 10)), .ex (mC (.int 16))] powD)] ltD))) (sAsg 4 (mCall mf__law_kneaded [.ex (opN [.ex (opN [.nm 4] intD), .ex (mC (.int 982451629))] modD), .nm 3])) (sSkip))
  (sSeq (sSetI 0 (.ex (mC (.int 1))) (opN [.nm 3, .ex (mC (.int 1))] addD))
  (sSeq (sSetI 0 (.ex (mC (.int 2))) (mN 4))
  (sSetI 0 (.ex (mC (.int 3))) (mN 4))))))) (sSkip))
  (sSeq (sAsg 5 (opN [.ex (opN [.ex (opN [.nm 0, .ex (mC (.int 2))] atD)] intD), .nm 1] modD))
  (sSeq (sSetI 0 (.ex (mC (.int 2))) (opN [.ex (opN [.nm 0, .ex (mC (.int 2))] atD), .nm 1] fdivD))
  (sSeq (sSetI 0 (.ex (mC (.int 3))) (opN [.ex (opN [.nm 0, .ex (mC (.int 3))] atD), .nm 1] fdivD))
  (sRet (mMv 5)))))
def mf__law_below : MF := runD 2 6 [0, 1] ms__law_below
theorem ok__law_below (B : Bg K mg) : FnG P w K mg base 2 B.a__law_below B.d__law_below ["pot", "bound"] (SpD ⟨K, mg⟩ 2 mf__law_below) := fn_g B.f__law_below sc__law_below fun cdv A outer s H E hr =>
    (dss_cons (ds_if (t_lt (do_ex (e_ix hr (do_nm 0) (do_ex de_int))) (do_nm 1)) (dss_cons (ds_par (i := 2) (j := 3) rfl sc__law_below.nd rfl rfl (by decide) rfl rfl (e_ix hr (do_nm 0) (do_ex de_int)) (e_ix hr (do_nm 0) (do_ex de_int)))
    (dss_cons (ds_set (i := 4) sc__law_below.nd rfl (by first | exact Or.inl rfl | exact Or.inr rfl) (de_if (gt_ne hr (do_nm 2) (do_ex (de_lst da_nil))) (e_ix hr (do_nm 2) (do_ex (e_mod (do_nm 3) (do_ex (e_len rfl B.b_len (do_nm 2)))))) de_int))
    (dss_cons (ds_if (dt_w (dw_or (t_ge (do_nm 3) (do_ex (e_len rfl B.b_len (do_nm 2)))) (dw_or1 (t_lt (do_nm 4) (do_ex (e_pow (do_ex de_int) (do_ex de_int))))))) (dss_one (ds_set (i := 4) sc__law_below.nd rfl (by first | exact Or.inl rfl | exact Or.inr rfl) (de_callG (ok__law_kneaded B) (hr.mono (by omega)) rfl B.g__law_kneaded B.f__law_kneaded.kp B.n__law_kneaded (takes_of rfl rfl rfl rfl) (da_cons (do_ex (e_mod (do_ex (e_int rfl B.b_int (do_nm 4))) (do_ex de_int))) (da_cons (do_nm 3) da_nil))))) dss_nil)
    (dss_cons (ds_setI hr.u1 (do_nm 0) (do_ex de_int) (e_add (do_nm 3) (do_ex de_int)))
    (dss_cons (ds_setI hr.u1 (do_nm 0) (do_ex de_int) (de_nm 4))
    (dss_one (ds_setI hr.u1 (do_nm 0) (do_ex de_int) (de_nm 4)))))))) dss_nil)
    (dss_cons (ds_set (i := 5) sc__law_below.nd rfl (by first | exact Or.inl rfl | exact Or.inr rfl) (e_mod (do_ex (e_int rfl B.b_int (do_ex (e_ix hr (do_nm 0) (do_ex de_int))))) (do_nm 1)))
    (dss_cons (ds_setI hr.u1 (do_nm 0) (do_ex de_int) (e_fdiv (do_ex (e_ix hr (do_nm 0) (do_ex de_int))) (do_nm 1)))
    (dss_cons (ds_setI hr.u1 (do_nm 0) (do_ex de_int) (e_fdiv (do_ex (e_ix hr (do_nm 0) (do_ex de_int))) (do_nm 1)))
    (dss_one (ds_ret (de_mv 5)))))))
abbrev s__law_pick : Stmt := top 18
theorem sc__law_pick : FnScope ["pot", "items"] ["pot", "items"] (defScope s__law_pick) := ⟨rfl, rfl, rfl, by decide +kernel, rfl, by decide +kernel, by decide +kernel⟩
def ms__law_pick : MS := sRet (opN [.nm 1, .ex (mCall mf__law_below [.nm 0, .ex (opN [.nm 1] lenD)])] atD)
def mf__law_pick : MF := runD 2 2 [0, 1] ms__law_pick
theorem ok__law_pick (B : Bg K mg) : FnG P w K mg base 3 B.a__law_pick B.d__law_pick ["pot", "items"] (SpD ⟨K, mg⟩ 2 mf__law_pick) := fn_g B.f__law_pick sc__law_pick fun cdv A outer s H E hr =>
    (dss_one (ds_ret (e_ix hr (do_nm 1) (do_ex (de_callG (ok__law_below B) (hr.mono (by omega)) rfl B.g__law_below B.f__law_below.kp B.n__law_below (takes_of rfl rfl rfl rfl) (da_cons (do_nm 0) (da_cons (do_ex (e_len rfl B.b_len (do_nm 1))) da_nil)))))))
abbrev s__law_same : Stmt := top 19
theorem sc__law_same : FnScope ["one", "other"] ["one", "other"] (defScope s__law_same) := ⟨rfl, rfl, rfl, by decide +kernel, rfl, by decide +kernel, by decide +kernel⟩
def ms__law_same : MS := sRet (opN [.ex (opN [.nm 0] reprD), .ex (opN [.nm 1] reprD)] eqG)
def mf__law_same : MF := runD 2 2 [0, 1] ms__law_same
theorem ok__law_same (B : Bg K mg) : FnG P w K mg base 1 B.a__law_same B.d__law_same ["one", "other"] (SpD ⟨K, mg⟩ 2 mf__law_same) := fn_g B.f__law_same sc__law_same fun cdv A outer s H E hr =>
    (dss_one (ds_ret (g_eq hr (do_ex (e_repr hr rfl B.b_repr (do_nm 0))) (do_ex (e_repr hr rfl B.b_repr (do_nm 1))))))
abbrev s__law_full_schema : Stmt := top 20
theorem sc__law_full_schema : FnScope ["pot", "kinds", "schema", "number", "kind", "variants", "turn", "many", "at", "child"] ["pot"] (defScope s__law_full_schema) := ⟨rfl, rfl, rfl, by decide +kernel, rfl, by decide +kernel, by decide +kernel⟩
def ms__law_full_schema : MS := sSeq (sPar [1, 2, 3] [opN [.ex (opN [.ex (mC (.str "root")), .ex (mC (.str "b2")), .ex (mC (.str "c"))] lstD), .ex (mInt (opN [.ex (mC (.int 1)), .ex (mCall mf__law_below [.nm 0, .ex (mC (.int 3))])] addD))] (slD false true), dicD, mC (.int 0)])
  (sSeq (sFor (.nm 4) (mIt (mN 1)) (sSeq (sAsg 5 (opN [.ex (opN [.ex (opN [.ex (mC (.str "t")), .ex (opN [.nm 3] strD)] addD), .ex (opN [] tupD)] tupD)] lstD))
  (sSeq (sFor (.nm 6) (mRange rangeD1 [.ex (mCall mf__law_pick [.nm 0, .ex (opN [.ex (mC (.int 1)), .ex (mC (.int 1)), .ex (mC (.int 2)), .ex (mC (.int 2))] lstD)])]) (sSeq (sAsg 3 (opN [.nm 3, .ex (mC (.int 1))] addD))
  (sSeq (sAsg 7 (mCall mf__law_pick [.nm 0, .ex (opN [.ex (mC (.int 0)), .ex (mC (.int 1)), .ex (mC (.int 2)), .ex (mC (.int 2)), .ex (mC (.int 3))] lstD)]))
  (sDrop (mMut 5 isLst [.ex (opN [.ex (opN [.ex (mC (.str "t")), .ex (opN [.nm 3] strD)] addD), .ex (opN [.ex (mLc (mRange rangeD1 [.nm 7]) (.nm 9) (tY) (mCall mf__law_pick [.nm 0, .nm 1]) [9])] tupleD)] tupD)] appD)))))
  (sSeq (sPar [3, 8] [opN [.nm 3, .ex (mC (.int 1))] addD, mCall mf__law_below [.nm 0, .ex (opN [.nm 5] lenD)]])
  (sSetI 2 (.nm 4) (opN [.ex (opN [.ex (opN [.nm 5, .ex (mInt (mN 8))] (slD true false)), .ex (opN [.nm 5, .ex (mInt (mN 8))] (slD false true))] addD)] tupleD))))))
  (sRet (mMv 2)))
def mf__law_full_schema : MF := runD 1 10 [0] ms__law_full_schema
theorem ok__law_full_schema (B : Bg K mg) : FnG P w K mg base 4 B.a__law_full_schema B.d__law_full_schema ["pot"] (SpD ⟨K, mg⟩ 1 mf__law_full_schema) := fn_g B.f__law_full_schema sc__law_full_schema fun cdv A outer s H E hr =>
    (dss_cons (ds_parT (is := [1, 2, 3]) rfl (da_cons (do_ex (de_sl01 (do_ex (de_lst (da_cons (do_ex de_str) (da_cons (do_ex de_str) (da_cons (do_ex de_str) da_nil))))) (e_add (do_ex de_int) (do_ex (de_callG (ok__law_below B) (hr.mono (by omega)) rfl B.g__law_below B.f__law_below.kp B.n__law_below (takes_of rfl rfl rfl rfl) (da_cons (do_nm 0) (da_cons (do_ex de_int) da_nil))))))) (da_cons (do_ex de_dnewK) (da_cons (do_ex de_int) da_nil))) (dgs_cons (dg_nm (i := 1) sc__law_full_schema.nd rfl (by first | exact Or.inl rfl | exact Or.inr rfl)) (dgs_cons (dg_nm (i := 2) sc__law_full_schema.nd rfl (by first | exact Or.inl rfl | exact Or.inr rfl)) (dgs_cons (dg_nm (i := 3) sc__law_full_schema.nd rfl (by first | exact Or.inl rfl | exact Or.inr rfl)) dgs_nil))))
    (dss_cons (ds_for (passes_of rfl) rfl (di_it (de_nm 1)) (dg_nm (i := 4) sc__law_full_schema.nd rfl (by first | exact Or.inl rfl | exact Or.inr rfl)) (dss_cons (ds_set (i := 5) sc__law_full_schema.nd rfl (by first | exact Or.inl rfl | exact Or.inr rfl) (de_lst (da_cons (do_ex (de_tup (da_cons (do_ex (e_add (do_ex de_str) (do_ex (e_str rfl B.b_str (do_nm 3))))) (da_cons (do_ex (de_tup da_nil)) da_nil)))) da_nil)))
    (dss_cons (ds_for (passes_of rfl) rfl (di_range1 rfl B.b_range (da_cons (do_ex (de_callG (ok__law_pick B) (hr.mono (by omega)) rfl B.g__law_pick B.f__law_pick.kp B.n__law_pick (takes_of rfl rfl rfl rfl) (da_cons (do_nm 0) (da_cons (do_ex (de_lst (da_cons (do_ex de_int) (da_cons (do_ex de_int) (da_cons (do_ex de_int) (da_cons (do_ex de_int) da_nil)))))) da_nil)))) da_nil)) (dg_nm (i := 6) sc__law_full_schema.nd rfl (by first | exact Or.inl rfl | exact Or.inr rfl)) (dss_cons (ds_set (i := 3) sc__law_full_schema.nd rfl (by first | exact Or.inl rfl | exact Or.inr rfl) (e_add (do_nm 3) (do_ex de_int)))
    (dss_cons (ds_set (i := 7) sc__law_full_schema.nd rfl (by first | exact Or.inl rfl | exact Or.inr rfl) (de_callG (ok__law_pick B) (hr.mono (by omega)) rfl B.g__law_pick B.f__law_pick.kp B.n__law_pick (takes_of rfl rfl rfl rfl) (da_cons (do_nm 0) (da_cons (do_ex (de_lst (da_cons (do_ex de_int) (da_cons (do_ex de_int) (da_cons (do_ex de_int) (da_cons (do_ex de_int) (da_cons (do_ex de_int) da_nil))))))) da_nil))))
    (dss_one (ds_expr (e_append (do_nm 5) (do_ex (de_tup (da_cons (do_ex (e_add (do_ex de_str) (do_ex (e_str rfl B.b_str (do_nm 3))))) (da_cons (do_ex (e_tuple rfl B.b_tuple (do_ex (de_lc [("child", 9)] rfl sc__law_full_schema.nd (di_range1 rfl B.b_range (da_cons (do_nm 7) da_nil)) (blkOk_by rfl) (fun _ _ _ _ _ => (dg_nm (i := 9) sc__law_full_schema.nd rfl (by first | exact Or.inl rfl | exact Or.inr rfl))) (fun _ _ _ _ _ => dts_nil) (fun _ _ _ _ _ => (de_callG (ok__law_pick B) (hr.mono (by omega)) rfl B.g__law_pick B.f__law_pick.kp B.n__law_pick takes0 (da_cons (do_nm 0) (da_cons (do_nm 1) da_nil)))))))) da_nil))))))))))
    (dss_cons (ds_par (i := 3) (j := 8) rfl sc__law_full_schema.nd rfl rfl (by decide) rfl rfl (e_add (do_nm 3) (do_ex de_int)) (de_callG (ok__law_below B) (hr.mono (by omega)) rfl B.g__law_below B.f__law_below.kp B.n__law_below (takes_of rfl rfl rfl rfl) (da_cons (do_nm 0) (da_cons (do_ex (e_len rfl B.b_len (do_nm 5))) da_nil))))
    (dss_one (ds_setI hr.u1 (do_nm 2) (do_nm 4) (e_tuple rfl B.b_tuple (do_ex (e_add (do_ex (de_sl10 (do_nm 5) (de_nm 8))) (do_ex (de_sl01 (do_nm 5) (de_nm 8))))))))))))
    (dss_one (ds_ret (de_mv 2)))))
abbrev s__law_some_tree : Stmt := top 21
theorem sc__law_some_tree : FnScope ["pot", "schema", "kind", "deep", "some", "tag", "children", "pair", "child"] ["pot", "schema", "kind", "deep"] (defScope s__law_some_tree) := ⟨rfl, rfl, rfl, by decide +kernel, rfl, by decide +kernel, by decide +kernel⟩
def ms__law_some_tree (g : MF) : MS := sSeq (sAsg 4 (mLc (mIt (opN [.nm 1, .nm 2] atD)) (.nm 7) (mOr (mB (opN [.ex (opN [.nm 7, .ex (mC (.int 1))] atD), .ex (opN [] tupD)] eqG)) (mB (opN [.nm 3, .ex (mC (.int 1))] gtD))) (mN 7) [7]))
  (sSeq (sAsgT (.tup [.nm 5, .nm 6]) (mCall mf__law_pick [.nm 0, .nm 4]))
  (sRet (opN [.ex (opN [.ex (mN 5)] tupD), .ex (opN [.ex (mLc (mIt (mN 6)) (.nm 8) (tY) (mCall g [.nm 0, .nm 1, .nm 8, .ex (opN [.nm 3, .ex (mC (.int 1))] subD)]) [8])] tupleD)] addD)))
def mf__law_some_tree : Nat → MF
  | 0 => fun _ => .bad
  | n + 1 => runD 4 9 [0, 1, 2, 3] (ms__law_some_tree (mf__law_some_tree n))
theorem ok__law_some_tree (B : Bg K mg) : ∀ n : Nat, FnG P w K mg base (n + 4) (B.a__law_some_tree) B.d__law_some_tree ["pot", "schema", "kind", "deep"] (SpD ⟨K, mg⟩ 4 (mf__law_some_tree n))
  | 0 => fng_bad rfl
  | n + 1 => fn_g B.f__law_some_tree sc__law_some_tree fun cdv A outer s H E hr => have G := ok__law_some_tree B n
    (dss_cons (ds_setLc (i := 4) [("pair", 7)] rfl sc__law_some_tree.nd rfl rfl rfl (di_it (e_ix hr (do_nm 1) (do_nm 2))) (blkOk_by rfl) (fun _ _ _ _ _ => (dg_nm (i := 7) sc__law_some_tree.nd rfl (by first | exact Or.inl rfl | exact Or.inr rfl))) (fun _ _ _ _ _ => (dts_one (dt_w (dw_or (gt_eq hr (do_ex (e_ix hr (do_nm 7) (do_ex de_int))) (do_ex (de_tup da_nil))) (dw_or1 (t_gt (do_nm 3) (do_ex de_int))))))) (fun _ _ _ _ _ => (de_nm 7)))
    (dss_cons (ds_asgT (de_callG (ok__law_pick B) (hr.mono (by omega)) rfl B.g__law_pick B.f__law_pick.kp B.n__law_pick (takes_of rfl rfl rfl rfl) (da_cons (do_nm 0) (da_cons (do_nm 4) da_nil))) (dg_tup rfl (dgs_cons (dg_nm (i := 5) sc__law_some_tree.nd rfl (by first | exact Or.inl rfl | exact Or.inr rfl)) (dgs_cons (dg_nm (i := 6) sc__law_some_tree.nd rfl (by first | exact Or.inl rfl | exact Or.inr rfl)) dgs_nil))))
    (dss_one (ds_ret (e_add (do_ex (de_tup (da_cons (do_ex (de_nm 5)) da_nil))) (do_ex (e_tuple rfl B.b_tuple (do_ex (de_lc [("child", 8)] rfl sc__law_some_tree.nd (di_it (de_nm 6)) (blkOk_by rfl) (fun _ _ _ _ _ => (dg_nm (i := 8) sc__law_some_tree.nd rfl (by first | exact Or.inl rfl | exact Or.inr rfl))) (fun _ _ _ _ _ => dts_nil) (fun _ _ _ _ _ => (de_callG G (hr.mono (by omega)) rfl B.g__law_some_tree B.f__law_some_tree.kp B.n__law_some_tree takes0 (da_cons (do_nm 0) (da_cons (do_nm 1) (da_cons (do_nm 8) (da_cons (do_ex (e_sub (do_nm 3) (do_ex de_int))) da_nil)))))))))))))))
abbrev s__law_bent : Stmt := top 22
theorem sc__law_bent : FnScope ["pot", "thing", "odd", "keys", "found", "way", "at", "parts"] ["pot", "thing"] (defScope s__law_bent) := ⟨rfl, rfl, rfl, by decide +kernel, rfl, by decide +kernel, by decide +kernel⟩
def ms__law_bent (g : MF) : MS := sSeq (sAsg 2 (opN [.ex (mC .non), .ex (mC (.bl true)), .ex (mC (.bl false)), .ex (mC (.int 0)), .ex (mC (.int 1)), .ex (mC (.int 2)), .ex (mC (.int 3)), .ex (mC (.str "")), .ex (mC (.str "a")), .ex (mC (.str "A")), .ex (mC (.str "b2")), .ex (mC (.str "zz")), .ex (mC (.str "abcdefghi")), .ex (opN [] tupD), .ex (opN [] lstD), .ex (dicD), .ex (opN [.ex (mC (.str "a"))] tupD), .ex (opN [.ex (mC (.str "a")), .ex (opN [] tupD)] tupD), .ex (opN [.ex (mC (.int 0))] tupD)] lstD))
  (sSeq (sIf (mAnd (mB (opN [.nm 1] (isiD ["dict"]))) (mAnd (mB (opN [.nm 1, .ex (dicD)] neG)) (mB (opN [.ex (mCall mf__law_below [.nm 0, .ex (mC (.int 5))]), .ex (mC (.int 0))] gtD)))) (sSeq (sPar [3, 4, 5] [opN [.nm 1] listA, opN [.nm 1] dictD, mCall mf__law_below [.nm 0, .ex (mC (.int 5))]])
  (sSeq (sAsg 6 (mCall mf__law_pick [.nm 0, .nm 3]))
  (sSeq (sIf (mB (opN [.nm 5, .ex (mC (.int 0))] eqG)) (sDrop (mMut 4 isDic [.ex (mN 6)] dpopD)) (sIf (mB (opN [.nm 5, .ex (mC (.int 1))] eqG)) (sSetI 4 (.ex (mCall mf__law_pick [.nm 0, .ex (opN [.ex (mC (.str "zz")), .ex (mC (.str "A")), .ex (mC (.int 1)), .ex (mC (.str "")), .ex (mC (.str "b2"))] lstD)])) (opN [.nm 1, .nm 6] atD)) (sSetI 4 (.nm 6) (mCall g [.nm 0, .ex (opN [.nm 1, .nm 6] atD)]))))
  (sRet (mMv 4))))) (sSkip))
  (sSeq (sIf (mAnd (mB (opN [.nm 1] (isiD ["tuple", "list"]))) (mAnd (mB (opN [.ex (opN [.nm 1] lenD), .ex (mC (.int 0))] gtD)) (mB (opN [.ex (mCall mf__law_below [.nm 0, .ex (mC (.int 5))]), .ex (mC (.int 0))] gtD)))) (sSeq (sPar [6, 5, 7] [mCall mf__law_below [.nm 0, .ex (opN [.nm 1] lenD)], mCall mf__law_below [.nm 0, .ex (mC (.int 7))], opN [.nm 1] listA])
  (sSeq (sIf (mB (opN [.nm 5, .ex (mC (.int 0))] eqG)) (sDrop (mMut 7 isLst [.ex (mN 6)] popAtD)) (sIf (mB (opN [.nm 5, .ex (mC (.int 1))] eqG)) (sAsg 7 (opN [.ex (opN [.nm 7, .ex (mInt (opN [.nm 6, .ex (mC (.int 1))] addD))] (slD false true)), .ex (opN [.nm 7, .ex (mInt (mN 6))] (slD true false))] addD)) (sIf (mB (opN [.nm 5, .ex (mC (.int 2))] eqG)) (sSetI 7 (.nm 6) (mCall mf__law_pick [.nm 0, .nm 2])) (sSetI 7 (.nm 6) (mCall g [.nm 0, .ex (opN [.nm 1, .nm 6] atD)])))))
  (sRet (mIf (mOr (mB (opN [.nm 1] (isiD ["list"]))) (mB (opN [.ex (mCall mf__law_below [.nm 0, .ex (mC (.int 30))]), .ex (mC (.int 0))] eqG))) (mN 7) (opN [.nm 7] tupleD))))) (sSkip))
  (sSeq (sIf (mAnd (mB (opN [.nm 1] (isiD ["int"]))) (mAnd (mNot (mB (opN [.nm 1] (isiD ["bool"])))) (mB (opN [.ex (mCall mf__law_below [.nm 0, .ex (mC (.int 2))]), .ex (mC (.int 0))] eqG)))) (sRet (mCall mf__law_pick [.nm 0, .ex (opN [.ex (opN [.ex (mC (.int 0)), .nm 1] subD), .ex (opN [.nm 1, .ex (mC (.int 1))] addD), .ex (opN [.nm 1, .ex (mC (.int 1))] subD), .ex (opN [.ex (mC (.int 10)), .ex (mC (.int 6))] powD), .ex (opN [.ex (opN [.ex (mC (.int 10)), .ex (mC (.int 6))] powD), .ex (mC (.int 1))] addD), .ex (opN [.nm 1, .ex (opN [.ex (mC (.int 10)), .ex (mC (.int 6))] powD)] mulA)] lstD)])) (sSkip))
  (sRet (mCall mf__law_pick [.nm 0, .nm 2])))))
def mf__law_bent : Nat → MF
  | 0 => fun _ => .bad
  | n + 1 => runD 2 8 [0, 1] (ms__law_bent (mf__law_bent n))
theorem ok__law_bent (B : Bg K mg) : ∀ n : Nat, FnG P w K mg base (n + 4) (B.a__law_bent) B.d__law_bent ["pot", "thing"] (SpD ⟨K, mg⟩ 2 (mf__law_bent n))
  | 0 => fng_bad rfl
  | n + 1 => fn_g B.f__law_bent sc__law_bent fun cdv A outer s H E hr => have G := ok__law_bent B n
    (dss_cons (ds_set (i := 2) sc__law_bent.nd rfl (by first | exact Or.inl rfl | exact Or.inr rfl) (de_lst (da_cons (do_ex de_non) (da_cons (do_ex de_bl) (da_cons (do_ex de_bl) (da_cons (do_ex de_int) (da_cons (do_ex de_int) (da_cons (do_ex de_int) (da_cons (do_ex de_int) (da_cons (do_ex de_str) (da_cons (do_ex de_str) (da_cons (do_ex de_str) (da_cons (do_ex de_str) (da_cons (do_ex de_str) (da_cons (do_ex de_str) (da_cons (do_ex (de_tup da_nil)) (da_cons (do_ex (de_lst da_nil)) (da_cons (do_ex de_dnewK) (da_cons (do_ex (de_tup (da_cons (do_ex de_str) da_nil))) (da_cons (do_ex (de_tup (da_cons (do_ex de_str) (da_cons (do_ex (de_tup da_nil)) da_nil)))) (da_cons (do_ex (de_tup (da_cons (do_ex de_int) da_nil))) da_nil)))))))))))))))))))))
    (dss_cons (ds_if (dt_w (dw_and (dt_val (de_isi (do_nm 1) rfl B.b_isinstance rfl B.b_dict rfl)) (dw_and (gt_ne hr (do_nm 1) (do_ex de_dnewK)) (dw_and1 (t_gt (do_ex (de_callG (ok__law_below B) (hr.mono (by omega)) rfl B.g__law_below B.f__law_below.kp B.n__law_below (takes_of rfl rfl rfl rfl) (da_cons (do_nm 0) (da_cons (do_ex de_int) da_nil)))) (do_ex de_int)))))) (dss_cons (ds_par3 (i := 3) (j := 4) (l := 5) rfl sc__law_bent.nd rfl rfl rfl (by decide) (by decide) (by decide) rfl rfl rfl (e_list rfl rfl B.b_list (do_nm 1)) (e_dict rfl rfl B.b_dict (do_nm 1)) (de_callG (ok__law_below B) (hr.mono (by omega)) rfl B.g__law_below B.f__law_below.kp B.n__law_below (takes_of rfl rfl rfl rfl) (da_cons (do_nm 0) (da_cons (do_ex de_int) da_nil))))
    (dss_cons (ds_set (i := 6) sc__law_bent.nd rfl (by first | exact Or.inl rfl | exact Or.inr rfl) (de_callG (ok__law_pick B) (hr.mono (by omega)) rfl B.g__law_pick B.f__law_pick.kp B.n__law_pick (takes_of rfl rfl rfl rfl) (da_cons (do_nm 0) (da_cons (do_nm 3) da_nil))))
    (dss_cons (ds_if (gt_eq hr (do_nm 5) (do_ex de_int)) (dss_one (ds_expr (de_dpop (do_nm 4) (do_ex (de_nm 6)) ⟨rfl, rfl, rfl, rfl⟩))) (dss_one (ds_if (gt_eq hr (do_nm 5) (do_ex de_int)) (dss_one (ds_setI hr.u1 (do_nm 4) (do_ex (de_callG (ok__law_pick B) (hr.mono (by omega)) rfl B.g__law_pick B.f__law_pick.kp B.n__law_pick (takes_of rfl rfl rfl rfl) (da_cons (do_nm 0) (da_cons (do_ex (de_lst (da_cons (do_ex de_str) (da_cons (do_ex de_str) (da_cons (do_ex de_int) (da_cons (do_ex de_str) (da_cons (do_ex de_str) da_nil))))))) da_nil)))) (e_ix hr (do_nm 1) (do_nm 6)))) (dss_one (ds_setI hr.u1 (do_nm 4) (do_nm 6) (de_callG G (hr.mono (by omega)) rfl B.g__law_bent B.f__law_bent.kp B.n__law_bent (takes_of rfl rfl rfl rfl) (da_cons (do_nm 0) (da_cons (do_ex (e_ix hr (do_nm 1) (do_nm 6))) da_nil))))))))
    (dss_one (ds_ret (de_mv 4)))))) dss_nil)
    (dss_cons (ds_if (dt_w (dw_and (dt_val (de_isi2 (do_nm 1) rfl B.b_isinstance rfl B.b_tuple rfl rfl B.b_list rfl)) (dw_and (t_gt (do_ex (e_len rfl B.b_len (do_nm 1))) (do_ex de_int)) (dw_and1 (t_gt (do_ex (de_callG (ok__law_below B) (hr.mono (by omega)) rfl B.g__law_below B.f__law_below.kp B.n__law_below (takes_of rfl rfl rfl rfl) (da_cons (do_nm 0) (da_cons (do_ex de_int) da_nil)))) (do_ex de_int)))))) (dss_cons (ds_par3 (i := 6) (j := 5) (l := 7) rfl sc__law_bent.nd rfl rfl rfl (by decide) (by decide) (by decide) rfl rfl rfl (de_callG (ok__law_below B) (hr.mono (by omega)) rfl B.g__law_below B.f__law_below.kp B.n__law_below (takes_of rfl rfl rfl rfl) (da_cons (do_nm 0) (da_cons (do_ex (e_len rfl B.b_len (do_nm 1))) da_nil))) (de_callG (ok__law_below B) (hr.mono (by omega)) rfl B.g__law_below B.f__law_below.kp B.n__law_below (takes_of rfl rfl rfl rfl) (da_cons (do_nm 0) (da_cons (do_ex de_int) da_nil))) (e_list rfl rfl B.b_list (do_nm 1)))
    (dss_cons (ds_if (gt_eq hr (do_nm 5) (do_ex de_int)) (dss_one (ds_expr (e_popAt (do_nm 7) (do_ex (de_nm 6))))) (dss_one (ds_if (gt_eq hr (do_nm 5) (do_ex de_int)) (dss_one (ds_set (i := 7) sc__law_bent.nd rfl (by first | exact Or.inl rfl | exact Or.inr rfl) (e_add (do_ex (de_sl01 (do_nm 7) (e_add (do_nm 6) (do_ex de_int)))) (do_ex (de_sl10 (do_nm 7) (de_nm 6)))))) (dss_one (ds_if (gt_eq hr (do_nm 5) (do_ex de_int)) (dss_one (ds_setI hr.u1 (do_nm 7) (do_nm 6) (de_callG (ok__law_pick B) (hr.mono (by omega)) rfl B.g__law_pick B.f__law_pick.kp B.n__law_pick (takes_of rfl rfl rfl rfl) (da_cons (do_nm 0) (da_cons (do_nm 2) da_nil))))) (dss_one (ds_setI hr.u1 (do_nm 7) (do_nm 6) (de_callG G (hr.mono (by omega)) rfl B.g__law_bent B.f__law_bent.kp B.n__law_bent (takes_of rfl rfl rfl rfl) (da_cons (do_nm 0) (da_cons (do_ex (e_ix hr (do_nm 1) (do_nm 6))) da_nil))))))))))
    (dss_one (ds_ret (de_if (dt_w (dw_or (dt_val (de_isi (do_nm 1) rfl B.b_isinstance rfl B.b_list rfl)) (dw_or1 (gt_eq hr (do_ex (de_callG (ok__law_below B) (hr.mono (by omega)) rfl B.g__law_below B.f__law_below.kp B.n__law_below (takes_of rfl rfl rfl rfl) (da_cons (do_nm 0) (da_cons (do_ex de_int) da_nil)))) (do_ex de_int))))) (de_nm 7) (e_tuple rfl B.b_tuple (do_nm 7))))))) dss_nil)
    (dss_cons (ds_if (dt_w (dw_and (dt_val (de_isi (do_nm 1) rfl B.b_isinstance rfl B.b_int rfl)) (dw_and (dt_not (dt_val (de_isi (do_nm 1) rfl B.b_isinstance rfl B.b_bool rfl))) (dw_and1 (gt_eq hr (do_ex (de_callG (ok__law_below B) (hr.mono (by omega)) rfl B.g__law_below B.f__law_below.kp B.n__law_below (takes_of rfl rfl rfl rfl) (da_cons (do_nm 0) (da_cons (do_ex de_int) da_nil)))) (do_ex de_int)))))) (dss_one (ds_ret (de_callG (ok__law_pick B) (hr.mono (by omega)) rfl B.g__law_pick B.f__law_pick.kp B.n__law_pick (takes_of rfl rfl rfl rfl) (da_cons (do_nm 0) (da_cons (do_ex (de_lst (da_cons (do_ex (e_sub (do_ex de_int) (do_nm 1))) (da_cons (do_ex (e_add (do_nm 1) (do_ex de_int))) (da_cons (do_ex (e_sub (do_nm 1) (do_ex de_int))) (da_cons (do_ex (e_pow (do_ex de_int) (do_ex de_int))) (da_cons (do_ex (e_add (do_ex (e_pow (do_ex de_int) (do_ex de_int))) (do_ex de_int))) (da_cons (do_ex (e_mul (do_nm 1) (do_ex (e_pow (do_ex de_int) (do_ex de_int))))) da_nil)))))))) da_nil))))) dss_nil)
    (dss_one (ds_ret (de_callG (ok__law_pick B) (hr.mono (by omega)) rfl B.g__law_pick B.f__law_pick.kp B.n__law_pick (takes_of rfl rfl rfl rfl) (da_cons (do_nm 0) (da_cons (do_nm 2) da_nil)))))))))
abbrev s__law_is_tree : Stmt := top 23
theorem sc__law_is_tree : FnScope ["schema", "kind", "thing", "tag", "children", "rows", "child", "part"] ["schema", "kind", "thing"] (defScope s__law_is_tree) := ⟨rfl, rfl, rfl, by decide +kernel, rfl, by decide +kernel, by decide +kernel⟩
def ms__law_is_tree (g : MF) : MS := sSeq (sIf (mOr (mNot (mB (opN [.nm 2] (isiD ["tuple"])))) (mOr (mB (opN [.ex (opN [.nm 2] lenD), .ex (mC (.int 0))] eqG)) (mNot (mB (opN [.ex (opN [.nm 2, .ex (mC (.int 0))] atD)] (isiD ["str"])))))) (sRet (mC (.bl false))) (sSkip))
  (sSeq (sFor (.tup [.nm 3, .nm 4]) (mIt (opN [.nm 0, .nm 1] atD)) (sIf (mB (opN [.nm 3, .ex (opN [.nm 2, .ex (mC (.int 0))] atD)] eqG)) (sSeq (sIf (mB (opN [.ex (opN [.nm 2] lenD), .ex (opN [.ex (mC (.int 1)), .ex (opN [.nm 4] lenD)] addD)] neG)) (sRet (mC (.bl false))) (sSkip))
  (sSeq (sAsg 5 (mLc (mZip (mN 4) (opN [.nm 2, .ex (mInt (mC (.int 1)))] (slD true false))) (.tup [.nm 6, .nm 7]) (tY) (mCall g [.nm 0, .nm 6, .nm 7]) [6, 7]))
  (sRet (opN [.ex (mC (.bl false)), .nm 5] ninA)))) (sSkip)))
  (sRet (mC (.bl false))))
def mf__law_is_tree : Nat → MF
  | 0 => fun _ => .bad
  | n + 1 => runD 3 8 [0, 1, 2] (ms__law_is_tree (mf__law_is_tree n))
theorem ok__law_is_tree (B : Bg K mg) : ∀ n : Nat, FnG P w K mg base (n + 1) (B.a__law_is_tree) B.d__law_is_tree ["schema", "kind", "thing"] (SpD ⟨K, mg⟩ 3 (mf__law_is_tree n))
  | 0 => fng_bad rfl
  | n + 1 => fn_g B.f__law_is_tree sc__law_is_tree fun cdv A outer s H E hr => have G := ok__law_is_tree B n
    (dss_cons (ds_if (dt_w (dw_or (dt_not (dt_val (de_isi (do_nm 2) rfl B.b_isinstance rfl B.b_tuple rfl))) (dw_or (gt_eq hr (do_ex (e_len rfl B.b_len (do_nm 2))) (do_ex de_int)) (dw_or1 (dt_not (dt_val (de_isi (do_ex (e_ix hr (do_nm 2) (do_ex de_int))) rfl B.b_isinstance rfl B.b_str rfl))))))) (dss_one (ds_ret de_bl)) dss_nil)
    (dss_cons (ds_for (passes_of rfl) rfl (di_it (e_ix hr (do_nm 0) (do_nm 1))) (dg_tup rfl (dgs_cons (dg_nm (i := 3) sc__law_is_tree.nd rfl (by first | exact Or.inl rfl | exact Or.inr rfl)) (dgs_cons (dg_nm (i := 4) sc__law_is_tree.nd rfl (by first | exact Or.inl rfl | exact Or.inr rfl)) dgs_nil))) (dss_one (ds_if (gt_eq hr (do_nm 3) (do_ex (e_ix hr (do_nm 2) (do_ex de_int)))) (dss_cons (ds_if (gt_ne hr (do_ex (e_len rfl B.b_len (do_nm 2))) (do_ex (e_add (do_ex de_int) (do_ex (e_len rfl B.b_len (do_nm 4)))))) (dss_one (ds_ret de_bl)) dss_nil)
    (dss_cons (ds_setLc (i := 5) [("child", 6), ("part", 7)] rfl sc__law_is_tree.nd rfl rfl rfl (di_zip rfl B.b_zip (de_nm 4) (de_sl10 (do_nm 2) de_int)) (blkOk_by rfl) (fun _ _ _ _ _ => (dg_tup rfl (dgs_cons (dg_nm (i := 6) sc__law_is_tree.nd rfl (by first | exact Or.inl rfl | exact Or.inr rfl)) (dgs_cons (dg_nm (i := 7) sc__law_is_tree.nd rfl (by first | exact Or.inl rfl | exact Or.inr rfl)) dgs_nil)))) (fun _ _ _ _ _ => dts_nil) (fun _ _ _ _ _ => (de_callG G (hr.mono (by omega)) rfl B.g__law_is_tree B.f__law_is_tree.kp B.n__law_is_tree takes0 (da_cons (do_nm 0) (da_cons (do_nm 6) (da_cons (do_nm 7) da_nil))))))
    (dss_one (ds_ret (e_nin hr (do_ex de_bl) (do_nm 5)))))) dss_nil)))
    (dss_one (ds_ret de_bl))))
abbrev s__law_size : Stmt := top 24
theorem sc__law_size : FnScope ["tree", "part"] ["tree"] (defScope s__law_size) := ⟨rfl, rfl, rfl, by decide +kernel, rfl, by decide +kernel, by decide +kernel⟩
def ms__law_size (g : MF) : MS := sRet (opN [.ex (mC (.int 1)), .ex (opN [.ex (mLc (mIt (opN [.nm 0, .ex (mInt (mC (.int 1)))] (slD true false))) (.nm 1) (tY) (mCall g [.nm 1]) [1])] sumD)] addD)
def mf__law_size : Nat → MF
  | 0 => fun _ => .bad
  | n + 1 => runD 1 2 [0] (ms__law_size (mf__law_size n))
theorem ok__law_size (B : Bg K mg) : ∀ n : Nat, FnG P w K mg base (n + 1) (B.a__law_size) B.d__law_size ["tree"] (SpD ⟨K, mg⟩ 1 (mf__law_size n))
  | 0 => fng_bad rfl
  | n + 1 => fn_g B.f__law_size sc__law_size fun cdv A outer s H E hr => have G := ok__law_size B n
    (dss_one (ds_ret (e_add (do_ex de_int) (do_ex (e_sum rfl rfl B.b_sum (do_ex (de_lc [("part", 1)] rfl sc__law_size.nd (di_it (de_sl10 (do_nm 0) de_int)) (blkOk_by rfl) (fun _ _ _ _ _ => (dg_nm (i := 1) sc__law_size.nd rfl (by first | exact Or.inl rfl | exact Or.inr rfl))) (fun _ _ _ _ _ => dts_nil) (fun _ _ _ _ _ => (de_callG G (hr.mono (by omega)) rfl B.g__law_size B.f__law_size.kp B.n__law_size takes0 (da_cons (do_nm 1) da_nil))))))))))
abbrev s__law_paths : Stmt := top 25
theorem sc__law_paths : FnScope ["tree", "found", "place", "part", "path"] ["tree"] (defScope s__law_paths) := ⟨rfl, rfl, rfl, by decide +kernel, rfl, by decide +kernel, by decide +kernel⟩
def ms__law_paths (g : MF) : MS := sSeq (sAsg 1 (opN [.ex (opN [] tupD)] lstD))
  (sSeq (sFor (.tup [.nm 2, .nm 3]) (mEnumA (opN [.nm 0, .ex (mInt (mC (.int 1)))] (slD true false))) (sAsg 1 (opN [.nm 1, .ex (mLc (mIt (mCall g [.nm 3])) (.nm 4) (tY) (opN [.ex (opN [.ex (mN 2)] tupD), .nm 4] addD) [4])] addD)))
  (sRet (mMv 1)))
def mf__law_paths : Nat → MF
  | 0 => fun _ => .bad
  | n + 1 => runD 1 5 [0] (ms__law_paths (mf__law_paths n))
theorem ok__law_paths (B : Bg K mg) : ∀ n : Nat, FnG P w K mg base (n + 1) (B.a__law_paths) B.d__law_paths ["tree"] (SpD ⟨K, mg⟩ 1 (mf__law_paths n))
  | 0 => fng_bad rfl
  | n + 1 => fn_g B.f__law_paths sc__law_paths fun cdv A outer s H E hr => have G := ok__law_paths B n
    (dss_cons (ds_set (i := 1) sc__law_paths.nd rfl (by first | exact Or.inl rfl | exact Or.inr rfl) (de_lst (da_cons (do_ex (de_tup da_nil)) da_nil)))
    (dss_cons (ds_for (passes_of rfl) rfl (di_enumA rfl B.b_enumerate (de_sl10 (do_nm 0) de_int)) (dg_tup rfl (dgs_cons (dg_nm (i := 2) sc__law_paths.nd rfl (by first | exact Or.inl rfl | exact Or.inr rfl)) (dgs_cons (dg_nm (i := 3) sc__law_paths.nd rfl (by first | exact Or.inl rfl | exact Or.inr rfl)) dgs_nil))) (dss_one (ds_set (i := 1) sc__law_paths.nd rfl (by first | exact Or.inl rfl | exact Or.inr rfl) (e_add (do_nm 1) (do_ex (de_lc [("path", 4)] rfl sc__law_paths.nd (di_it (de_callG G (hr.mono (by omega)) rfl B.g__law_paths B.f__law_paths.kp B.n__law_paths (takes_of rfl rfl rfl rfl) (da_cons (do_nm 3) da_nil))) (blkOk_by rfl) (fun _ _ _ _ _ => (dg_nm (i := 4) sc__law_paths.nd rfl (by first | exact Or.inl rfl | exact Or.inr rfl))) (fun _ _ _ _ _ => dts_nil) (fun _ _ _ _ _ => (e_add (do_ex (de_tup (da_cons (do_ex (de_nm 2)) da_nil))) (do_nm 4)))))))))
    (dss_one (ds_ret (de_mv 1)))))
abbrev s__law_at : Stmt := top 26
theorem sc__law_at : FnScope ["tree", "path", "place"] ["tree", "path"] (defScope s__law_at) := ⟨rfl, rfl, rfl, by decide +kernel, rfl, by decide +kernel, by decide +kernel⟩
def ms__law_at : MS := sSeq (sFor (.nm 2) (mIt (mN 1)) (sAsg 0 (opN [.nm 0, .ex (opN [.nm 2, .ex (mC (.int 1))] addD)] atD)))
  (sRet (mN 0))
def mf__law_at : MF := runD 2 3 [1] ms__law_at
theorem ok__law_at (B : Bg K mg) : FnG P w K mg base 1 B.a__law_at B.d__law_at ["tree", "path"] (SpD ⟨K, mg⟩ 2 mf__law_at) := fn_g B.f__law_at sc__law_at fun cdv A outer s H E hr =>
    (dss_cons (ds_for (passes_of rfl) rfl (di_it (de_nm 1)) (dg_nm (i := 2) sc__law_at.nd rfl (by first | exact Or.inl rfl | exact Or.inr rfl)) (dss_one (ds_set (i := 0) sc__law_at.nd rfl (by first | exact Or.inl rfl | exact Or.inr rfl) (e_ix hr (do_nm 0) (do_ex (e_add (do_nm 2) (do_ex de_int)))))))
    (dss_one (ds_ret (de_nm 0))))
abbrev s__law_with : Stmt := top 27
theorem sc__law_with : FnScope ["tree", "path", "part", "some"] ["tree", "path", "part"] (defScope s__law_with) := ⟨rfl, rfl, rfl, by decide +kernel, rfl, by decide +kernel, by decide +kernel⟩
def ms__law_with (g : MF) : MS := sSeq (sIf (mB (opN [.nm 1, .ex (opN [] tupD)] eqG)) (sRet (mN 2)) (sSkip))
  (sSeq (sAsg 3 (opN [.nm 0] listA))
  (sSeq (sSetI 3 (.ex (opN [.ex (opN [.nm 1, .ex (mC (.int 0))] atD), .ex (mC (.int 1))] addD)) (mCall g [.ex (opN [.nm 0, .ex (opN [.ex (opN [.nm 1, .ex (mC (.int 0))] atD), .ex (mC (.int 1))] addD)] atD), .ex (opN [.nm 1, .ex (mInt (mC (.int 1)))] (slD true false)), .nm 2]))
  (sRet (opN [.nm 3] tupleD))))
def mf__law_with : Nat → MF
  | 0 => fun _ => .bad
  | n + 1 => runD 3 4 [0, 1, 2] (ms__law_with (mf__law_with n))
theorem ok__law_with (B : Bg K mg) : ∀ n : Nat, FnG P w K mg base (n + 1) (B.a__law_with) B.d__law_with ["tree", "path", "part"] (SpD ⟨K, mg⟩ 3 (mf__law_with n))
  | 0 => fng_bad rfl
  | n + 1 => fn_g B.f__law_with sc__law_with fun cdv A outer s H E hr => have G := ok__law_with B n
    (dss_cons (ds_if (gt_eq hr (do_nm 1) (do_ex (de_tup da_nil))) (dss_one (ds_ret (de_nm 2))) dss_nil)
    (dss_cons (ds_set (i := 3) sc__law_with.nd rfl (by first | exact Or.inl rfl | exact Or.inr rfl) (e_list rfl rfl B.b_list (do_nm 0)))
    (dss_cons (ds_setI hr.u1 (do_nm 3) (do_ex (e_add (do_ex (e_ix hr (do_nm 1) (do_ex de_int))) (do_ex de_int))) (de_callG G (hr.mono (by omega)) rfl B.g__law_with B.f__law_with.kp B.n__law_with (takes_of rfl rfl rfl rfl) (da_cons (do_ex (e_ix hr (do_nm 0) (do_ex (e_add (do_ex (e_ix hr (do_nm 1) (do_ex de_int))) (do_ex de_int))))) (da_cons (do_ex (de_sl10 (do_nm 1) de_int)) (da_cons (do_nm 2) da_nil)))))
    (dss_one (ds_ret (e_tuple rfl B.b_tuple (do_nm 3)))))))
abbrev s__law_is_path : Stmt := top 28
theorem sc__law_is_path : FnScope ["tree", "thing", "place"] ["tree", "thing"] (defScope s__law_is_path) := ⟨rfl, rfl, rfl, by decide +kernel, rfl, by decide +kernel, by decide +kernel⟩
def ms__law_is_path : MS := sSeq (sIf (mNot (mB (opN [.nm 1] (isiD ["tuple"])))) (sRet (mC (.bl false))) (sSkip))
  (sSeq (sIf (mB (opN [.ex (mLc (mIt (mN 1)) (.nm 2) (mOr (mNot (mB (opN [.nm 2] (isiD ["int"])))) (mB (opN [.nm 2] (isiD ["bool"])))) (mN 2) [2]), .ex (opN [] lstD)] neG)) (sRet (mC (.bl false))) (sSkip))
  (sRet (opN [.nm 1, .ex (mCall (mf__law_paths 64) [.nm 0])] inA)))
def mf__law_is_path : MF := runD 2 3 [0, 1] ms__law_is_path
theorem ok__law_is_path (B : Bg K mg) : FnG P w K mg base 66 B.a__law_is_path B.d__law_is_path ["tree", "thing"] (SpD ⟨K, mg⟩ 2 mf__law_is_path) := fn_g B.f__law_is_path sc__law_is_path fun cdv A outer s H E hr =>
    (dss_cons (ds_if (dt_not (dt_val (de_isi (do_nm 1) rfl B.b_isinstance rfl B.b_tuple rfl))) (dss_one (ds_ret de_bl)) dss_nil)
    (dss_cons (ds_if (gt_ne hr (do_ex (de_lc [("place", 2)] rfl sc__law_is_path.nd (di_it (de_nm 1)) (blkOk_by rfl) (fun _ _ _ _ _ => (dg_nm (i := 2) sc__law_is_path.nd rfl (by first | exact Or.inl rfl | exact Or.inr rfl))) (fun _ _ _ _ _ => (dts_one (dt_w (dw_or (dt_not (dt_val (de_isi (do_nm 2) rfl B.b_isinstance rfl B.b_int rfl))) (dw_or1 (dt_val (de_isi (do_nm 2) rfl B.b_isinstance rfl B.b_bool rfl))))))) (fun _ _ _ _ _ => (de_nm 2)))) (do_ex (de_lst da_nil))) (dss_one (ds_ret de_bl)) dss_nil)
    (dss_one (ds_ret (e_in hr (do_nm 1) (do_ex (de_callG (ok__law_paths B 64) (hr.mono (by omega)) rfl B.g__law_paths B.f__law_paths.kp B.n__law_paths (takes_of rfl rfl rfl rfl) (da_cons (do_nm 0) da_nil))))))))
abbrev s__law_refused : Stmt := top 29
theorem sc__law_refused : FnScope ["way", "tree", "path", "caught", "error"] ["way", "tree", "path"] (defScope s__law_refused) := ⟨rfl, rfl, rfl, by decide +kernel, rfl, by decide +kernel, by decide +kernel⟩
def ms__law_refused : MS := sSeq (sAsg 3 (mC .non))
  (sSeq (sTryAs 4 hs_NoPath (sIf (mB (opN [.nm 0, .ex (mC (.int 0))] eqG)) (sDrop (mCall mf_part_at [.nm 1, .nm 2])) (sDrop (mCall mf_put_at [.nm 1, .nm 2, .ex (opN [.ex (mC (.str "t0"))] tupD)]))) (sAsg 3 (mN 4)))
  (sRet (opN [.nm 3, .ex (mC .non)] isntA)))
def mf__law_refused : MF := runD 3 5 [0, 1, 2] ms__law_refused
theorem ok__law_refused (B : Bg K mg) : FnG P w K mg base 4 B.a__law_refused B.d__law_refused ["way", "tree", "path"] (SpD ⟨K, mg⟩ 3 mf__law_refused) := fn_g B.f__law_refused sc__law_refused fun cdv A outer s H E hr =>
    (dss_cons (ds_set (i := 3) sc__law_refused.nd rfl (by first | exact Or.inl rfl | exact Or.inr rfl) de_non)
    (dss_cons (ds_tryAs (i := 4) rfl rfl sc__law_refused.nd rfl rfl ⟨rfl, rfl, Or.inl B.g_NoPath⟩ (takes_of rfl rfl rfl rfl) (by decide) B.h_NoPath (fun W' pn xe tk' => (dss_one (ds_if (gt_eq hr (do_nm 0) (do_ex de_int)) (dss_one (ds_expr (de_callG (ok_part_at B) (hr.mono (by omega)) rfl B.g_part_at B.f_part_at.kp B.n_part_at tk' (da_cons (do_nm 1) (da_cons (do_nm 2) da_nil))))) (dss_one (ds_expr (de_callG (ok_put_at B) (hr.mono (by omega)) rfl B.g_put_at B.f_put_at.kp B.n_put_at tk' (da_cons (do_nm 1) (da_cons (do_nm 2) (da_cons (do_ex (de_tup (da_cons (do_ex de_str) da_nil))) da_nil))))))))) (fun a oe pn => (dss_one (ds_set (i := 3) sc__law_refused.nd rfl (by first | exact Or.inl rfl | exact Or.inr rfl) (de_nm 4)))))
    (dss_one (ds_ret (e_isnt (do_nm 3) (do_ex de_non))))))
abbrev s_law : Stmt := top 30
theorem sc_law : FnScope ["script", "pot", "turn", "schema", "kind", "tree", "other", "things", "due", "before", "again", "thing", "one", "path", "odd", "way"] ["script"] (defScope s_law) := ⟨rfl, rfl, rfl, by decide +kernel, rfl, by decide +kernel, by decide +kernel⟩
def ms_law : MS := sSeq (sAsg 1 (mCall mf__law_pot_of [.nm 0]))
  (sSeq (sFor (.nm 2) (mRange rangeD1 [.ex (mC (.int 7))]) (sSeq (sAsg 3 (mCall mf__law_full_schema [.nm 1]))
  (sSeq (sAsg 4 (mCall mf__law_pick [.nm 1, .ex (opN [.nm 3] listA)]))
  (sSeq (sPar [5, 6] [mCall (mf__law_some_tree 64) [.nm 1, .nm 3, .nm 4, .ex (mC (.int 4))], mCall (mf__law_some_tree 64) [.nm 1, .nm 3, .nm 4, .ex (mC (.int 3))]])
  (sSeq (sPar [7, 8] [opN [.ex (mN 5), .ex (mC .non), .ex (opN [] tupD), .ex (opN [.ex (mC (.str "t0"))] tupD), .ex (opN [.nm 5, .ex (mInt (mC (.int 1)))] (slD false true)), .ex (opN [.nm 5] listA), .ex (mC (.str "t0"))] lstD, mCall (mf__law_paths 64) [.nm 5]])
  (sSeq (sAsg 9 (opN [.ex (opN [.ex (mN 3), .ex (mN 5)] lstD)] reprD))
  (sSeq (sFor (.nm 10) (mRange rangeD1 [.ex (mC (.int 6))]) (sDrop (mMut 7 isLst [.ex (mCall (mf__law_bent 64) [.nm 1, .ex (mCall mf__law_pick [.nm 1, .ex (opN [.ex (mN 5), .ex (opN [.nm 7, .ex (opN [.ex (mC (.int 1))] negD)] atD)] lstD)])])] appD)))
  (sSeq (sFor (.nm 11) (mIt (mN 7)) (sForK (.nm 12) .keys 3 (sIf (mB (opN [.ex (opN [.ex (mCall mf_is_tree [.nm 3, .nm 12, .nm 11])] reprD), .ex (opN [.ex (mCall (mf__law_is_tree 64) [.nm 3, .nm 12, .nm 11])] reprD)] neG)) (sRet (mC (.bl false))) (sSkip))))
  (sSeq (sIf (mOr (mB (opN [.ex (mCall mf_size_of [.nm 5]), .ex (mCall (mf__law_size 64) [.nm 5])] neG)) (mB (opN [.ex (mCall mf_paths [.nm 5]), .nm 8] neG))) (sRet (mC (.bl false))) (sSkip))
  (sSeq (sFor (.nm 13) (mIt (opN [.ex (opN [.nm 8, .ex (mInt (mC (.int 6)))] (slD false true)), .ex (opN [.nm 8, .ex (mInt (opN [.ex (mC (.int 4))] negD))] (slD true false))] addD)) (sIf (mOr (mB (opN [.ex (mCall mf_part_at [.nm 5, .nm 13]), .ex (mCall mf__law_at [.ex (mN 5), .nm 13])] neG)) (mB (opN [.ex (mCall mf_put_at [.nm 5, .nm 13, .nm 6]), .ex (mCall (mf__law_with 64) [.nm 5, .nm 13, .nm 6])] neG))) (sRet (mC (.bl false))) (sSkip)))
  (sSeq (sAsg 14 (opN [.ex (mC .non), .ex (opN [] lstD), .ex (mC (.str "")), .ex (mC (.int 0)), .ex (opN [.ex (mC (.bl true))] tupD), .ex (opN [.ex (mC (.int 0)), .ex (mC (.bl true))] tupD), .ex (opN [.ex (mC (.int 9))] tupD), .ex (opN [.ex (opN [.ex (mC (.int 0)), .ex (mC (.int 1))] subD)] tupD), .ex (opN [.ex (mC (.str "0"))] tupD), .ex (opN [.ex (opN [.ex (mC (.int 0))] tupD), .ex (mC (.int 9))] mulA), .ex (opN [.ex (mC .non)] tupD), .ex (opN [.ex (opN [.ex (mC (.int 0))] tupD)] tupD), .ex (opN [.ex (mC (.int 0))] lstD)] lstD))
  (sSeq (sFor (.nm 13) (mIt (opN [.nm 14, .ex (mLc (mRange rangeD1 [.ex (mC (.int 8))]) (.nm 10) (tY) (mCall (mf__law_bent 64) [.nm 1, .ex (mCall mf__law_pick [.nm 1, .nm 8])]) [10])] addD)) (sIf (mB (opN [.ex (mLc (mRange rangeD1 [.ex (mC (.int 2))]) (.nm 15) (mB (opN [.ex (mCall mf__law_refused [.nm 15, .nm 5, .nm 13]), .ex (mCall mf__law_is_path [.nm 5, .nm 13])] eqG)) (mN 15) [15]), .ex (opN [] lstD)] neG)) (sRet (mC (.bl false))) (sSkip)))
  (sIf (mB (opN [.ex (opN [.ex (opN [.ex (mN 3), .ex (mN 5)] lstD)] reprD), .nm 9] neG)) (sRet (mC (.bl false))) (sSkip))))))))))))))
  (sRet (mC (.bl true))))
def mf_law : MF := runD 1 16 [0] ms_law
theorem ok_law (B : Bg K mg) : FnG P w K mg base 69 B.a_law B.d_law ["script"] (SpD ⟨K, mg⟩ 1 mf_law) := fn_g B.f_law sc_law fun cdv A outer s H E hr =>
    (dss_cons (ds_set (i := 1) sc_law.nd rfl (by first | exact Or.inl rfl | exact Or.inr rfl) (de_callG (ok__law_pot_of B) (hr.mono (by omega)) rfl B.g__law_pot_of B.f__law_pot_of.kp B.n__law_pot_of (takes_of rfl rfl rfl rfl) (da_cons (do_nm 0) da_nil)))
    (dss_cons (ds_for (passes_of rfl) rfl (di_range1 rfl B.b_range (da_cons (do_ex de_int) da_nil)) (dg_nm (i := 2) sc_law.nd rfl (by first | exact Or.inl rfl | exact Or.inr rfl)) (dss_cons (ds_set (i := 3) sc_law.nd rfl (by first | exact Or.inl rfl | exact Or.inr rfl) (de_callG (ok__law_full_schema B) (hr.mono (by omega)) rfl B.g__law_full_schema B.f__law_full_schema.kp B.n__law_full_schema (takes_of rfl rfl rfl rfl) (da_cons (do_nm 1) da_nil)))
    (dss_cons (ds_set (i := 4) sc_law.nd rfl (by first | exact Or.inl rfl | exact Or.inr rfl) (de_callG (ok__law_pick B) (hr.mono (by omega)) rfl B.g__law_pick B.f__law_pick.kp B.n__law_pick (takes_of rfl rfl rfl rfl) (da_cons (do_nm 1) (da_cons (do_ex (e_list rfl rfl B.b_list (do_nm 3))) da_nil))))
    (dss_cons (ds_parT (is := [5, 6]) rfl (da_cons (do_ex (de_callG (ok__law_some_tree B 64) (hr.mono (by omega)) rfl B.g__law_some_tree B.f__law_some_tree.kp B.n__law_some_tree (takes_of rfl rfl rfl rfl) (da_cons (do_nm 1) (da_cons (do_nm 3) (da_cons (do_nm 4) (da_cons (do_ex de_int) da_nil)))))) (da_cons (do_ex (de_callG (ok__law_some_tree B 64) (hr.mono (by omega)) rfl B.g__law_some_tree B.f__law_some_tree.kp B.n__law_some_tree (takes_of rfl rfl rfl rfl) (da_cons (do_nm 1) (da_cons (do_nm 3) (da_cons (do_nm 4) (da_cons (do_ex de_int) da_nil)))))) da_nil)) (dgs_cons (dg_nm (i := 5) sc_law.nd rfl (by first | exact Or.inl rfl | exact Or.inr rfl)) (dgs_cons (dg_nm (i := 6) sc_law.nd rfl (by first | exact Or.inl rfl | exact Or.inr rfl)) dgs_nil)))
    (dss_cons (ds_parT (is := [7, 8]) rfl (da_cons (do_ex (de_lst (da_cons (do_ex (de_nm 5)) (da_cons (do_ex de_non) (da_cons (do_ex (de_tup da_nil)) (da_cons (do_ex (de_tup (da_cons (do_ex de_str) da_nil))) (da_cons (do_ex (de_sl01 (do_nm 5) de_int)) (da_cons (do_ex (e_list rfl rfl B.b_list (do_nm 5))) (da_cons (do_ex de_str) da_nil))))))))) (da_cons (do_ex (de_callG (ok__law_paths B 64) (hr.mono (by omega)) rfl B.g__law_paths B.f__law_paths.kp B.n__law_paths (takes_of rfl rfl rfl rfl) (da_cons (do_nm 5) da_nil))) da_nil)) (dgs_cons (dg_nm (i := 7) sc_law.nd rfl (by first | exact Or.inl rfl | exact Or.inr rfl)) (dgs_cons (dg_nm (i := 8) sc_law.nd rfl (by first | exact Or.inl rfl | exact Or.inr rfl)) dgs_nil)))
    (dss_cons (ds_set (i := 9) sc_law.nd rfl (by first | exact Or.inl rfl | exact Or.inr rfl) (e_repr hr rfl B.b_repr (do_ex (de_lst (da_cons (do_ex (de_nm 3)) (da_cons (do_ex (de_nm 5)) da_nil))))))
    (dss_cons (ds_for (passes_of rfl) rfl (di_range1 rfl B.b_range (da_cons (do_ex de_int) da_nil)) (dg_nm (i := 10) sc_law.nd rfl (by first | exact Or.inl rfl | exact Or.inr rfl)) (dss_one (ds_expr (e_append (do_nm 7) (do_ex (de_callG (ok__law_bent B 64) (hr.mono (by omega)) rfl B.g__law_bent B.f__law_bent.kp B.n__law_bent (takes_of rfl rfl rfl rfl) (da_cons (do_nm 1) (da_cons (do_ex (de_callG (ok__law_pick B) (hr.mono (by omega)) rfl B.g__law_pick B.f__law_pick.kp B.n__law_pick (takes_of rfl rfl rfl rfl) (da_cons (do_nm 1) (da_cons (do_ex (de_lst (da_cons (do_ex (de_nm 5)) (da_cons (do_ex (e_ix hr (do_nm 7) (do_ex (e_neg (do_ex de_int))))) da_nil)))) da_nil)))) da_nil))))))))
    (dss_cons (ds_for (passes_of rfl) rfl (di_it (de_nm 7)) (dg_nm (i := 11) sc_law.nd rfl (by first | exact Or.inl rfl | exact Or.inr rfl)) (dss_one (ds_forK (passes_of rfl) rfl (dk_keys (W := fun _ _ _ _ => False) (do_nm 3)) (dg_nm (i := 12) sc_law.nd rfl (by first | exact Or.inl rfl | exact Or.inr rfl)) (dss_one (ds_if (gt_ne hr (do_ex (e_repr hr rfl B.b_repr (do_ex (de_callG (ok_is_tree B) (hr.mono (by omega)) rfl B.g_is_tree B.f_is_tree.kp B.n_is_tree (takes_of rfl rfl rfl rfl) (da_cons (do_nm 3) (da_cons (do_nm 12) (da_cons (do_nm 11) da_nil))))))) (do_ex (e_repr hr rfl B.b_repr (do_ex (de_callG (ok__law_is_tree B 64) (hr.mono (by omega)) rfl B.g__law_is_tree B.f__law_is_tree.kp B.n__law_is_tree (takes_of rfl rfl rfl rfl) (da_cons (do_nm 3) (da_cons (do_nm 12) (da_cons (do_nm 11) da_nil)))))))) (dss_one (ds_ret de_bl)) dss_nil)))))
    (dss_cons (ds_if (dt_w (dw_or (gt_ne hr (do_ex (de_callG (ok_size_of B) (hr.mono (by omega)) rfl B.g_size_of B.f_size_of.kp B.n_size_of (takes_of rfl rfl rfl rfl) (da_cons (do_nm 5) da_nil))) (do_ex (de_callG (ok__law_size B 64) (hr.mono (by omega)) rfl B.g__law_size B.f__law_size.kp B.n__law_size (takes_of rfl rfl rfl rfl) (da_cons (do_nm 5) da_nil)))) (dw_or1 (gt_ne hr (do_ex (de_callG (ok_paths B) (hr.mono (by omega)) rfl B.g_paths B.f_paths.kp B.n_paths (takes_of rfl rfl rfl rfl) (da_cons (do_nm 5) da_nil))) (do_nm 8))))) (dss_one (ds_ret de_bl)) dss_nil)
    (dss_cons (ds_for (passes_of rfl) rfl (di_it (e_add (do_ex (de_sl01 (do_nm 8) de_int)) (do_ex (de_sl10 (do_nm 8) (e_neg (do_ex de_int)))))) (dg_nm (i := 13) sc_law.nd rfl (by first | exact Or.inl rfl | exact Or.inr rfl)) (dss_one (ds_if (dt_w (dw_or (gt_ne hr (do_ex (de_callG (ok_part_at B) (hr.mono (by omega)) rfl B.g_part_at B.f_part_at.kp B.n_part_at (takes_of rfl rfl rfl rfl) (da_cons (do_nm 5) (da_cons (do_nm 13) da_nil)))) (do_ex (de_callG (ok__law_at B) (hr.mono (by omega)) rfl B.g__law_at B.f__law_at.kp B.n__law_at (takes_of rfl rfl rfl rfl) (da_cons (do_ex (de_nm 5)) (da_cons (do_nm 13) da_nil))))) (dw_or1 (gt_ne hr (do_ex (de_callG (ok_put_at B) (hr.mono (by omega)) rfl B.g_put_at B.f_put_at.kp B.n_put_at (takes_of rfl rfl rfl rfl) (da_cons (do_nm 5) (da_cons (do_nm 13) (da_cons (do_nm 6) da_nil))))) (do_ex (de_callG (ok__law_with B 64) (hr.mono (by omega)) rfl B.g__law_with B.f__law_with.kp B.n__law_with (takes_of rfl rfl rfl rfl) (da_cons (do_nm 5) (da_cons (do_nm 13) (da_cons (do_nm 6) da_nil))))))))) (dss_one (ds_ret de_bl)) dss_nil)))
    (dss_cons (ds_set (i := 14) sc_law.nd rfl (by first | exact Or.inl rfl | exact Or.inr rfl) (de_lst (da_cons (do_ex de_non) (da_cons (do_ex (de_lst da_nil)) (da_cons (do_ex de_str) (da_cons (do_ex de_int) (da_cons (do_ex (de_tup (da_cons (do_ex de_bl) da_nil))) (da_cons (do_ex (de_tup (da_cons (do_ex de_int) (da_cons (do_ex de_bl) da_nil)))) (da_cons (do_ex (de_tup (da_cons (do_ex de_int) da_nil))) (da_cons (do_ex (de_tup (da_cons (do_ex (e_sub (do_ex de_int) (do_ex de_int))) da_nil))) (da_cons (do_ex (de_tup (da_cons (do_ex de_str) da_nil))) (da_cons (do_ex (e_mul (do_ex (de_tup (da_cons (do_ex de_int) da_nil))) (do_ex de_int))) (da_cons (do_ex (de_tup (da_cons (do_ex de_non) da_nil))) (da_cons (do_ex (de_tup (da_cons (do_ex (de_tup (da_cons (do_ex de_int) da_nil))) da_nil))) (da_cons (do_ex (de_lst (da_cons (do_ex de_int) da_nil))) da_nil)))))))))))))))
    (dss_cons (ds_for (passes_of rfl) rfl (di_it (e_add (do_nm 14) (do_ex (de_lc [("again", 10)] rfl sc_law.nd (di_range1 rfl B.b_range (da_cons (do_ex de_int) da_nil)) (blkOk_by rfl) (fun _ _ _ _ _ => (dg_nm (i := 10) sc_law.nd rfl (by first | exact Or.inl rfl | exact Or.inr rfl))) (fun _ _ _ _ _ => dts_nil) (fun _ _ _ _ _ => (de_callG (ok__law_bent B 64) (hr.mono (by omega)) rfl B.g__law_bent B.f__law_bent.kp B.n__law_bent takes0 (da_cons (do_nm 1) (da_cons (do_ex (de_callG (ok__law_pick B) (hr.mono (by omega)) rfl B.g__law_pick B.f__law_pick.kp B.n__law_pick takes0 (da_cons (do_nm 1) (da_cons (do_nm 8) da_nil)))) da_nil)))))))) (dg_nm (i := 13) sc_law.nd rfl (by first | exact Or.inl rfl | exact Or.inr rfl)) (dss_one (ds_if (gt_ne hr (do_ex (de_lc [("way", 15)] rfl sc_law.nd (di_range1 rfl B.b_range (da_cons (do_ex de_int) da_nil)) (blkOk_by rfl) (fun _ _ _ _ _ => (dg_nm (i := 15) sc_law.nd rfl (by first | exact Or.inl rfl | exact Or.inr rfl))) (fun _ _ _ _ _ => (dts_one (gt_eq hr (do_ex (de_callG (ok__law_refused B) (hr.mono (by omega)) rfl B.g__law_refused B.f__law_refused.kp B.n__law_refused takes0 (da_cons (do_nm 15) (da_cons (do_nm 5) (da_cons (do_nm 13) da_nil))))) (do_ex (de_callG (ok__law_is_path B) (hr.mono (by omega)) rfl B.g__law_is_path B.f__law_is_path.kp B.n__law_is_path takes0 (da_cons (do_nm 5) (da_cons (do_nm 13) da_nil))))))) (fun _ _ _ _ _ => (de_nm 15)))) (do_ex (de_lst da_nil))) (dss_one (ds_ret de_bl)) dss_nil)))
    (dss_one (ds_if (gt_ne hr (do_ex (e_repr hr rfl B.b_repr (do_ex (de_lst (da_cons (do_ex (de_nm 3)) (da_cons (do_ex (de_nm 5)) da_nil)))))) (do_nm 9)) (dss_one (ds_ret de_bl)) dss_nil))))))))))))))
    (dss_one (ds_ret de_bl))))
end
end K02
end
section
set_option Elab.async false
set_option linter.all false
set_option maxRecDepth 100000
set_option maxHeartbeats 1000000
namespace K02
open PySem L2 DL
/-! ### what the pot's defs do -/
abbrev potD (cs : List D) (i p q : Int) : D := .lst [.lst cs, .int i, .int p, .int q]
theorem forD_inv {t : Tg} {body : MS} (I : Rho → Prop) : ∀ (ds : List D), (∀ d ∈ ds, ∀ ρ, I ρ → ∃ ρ1 ρ2, asgT t d ρ = some ρ1 ∧ body ρ1 = .nx ρ2 ∧ I ρ2) → ∀ ρ, I ρ → ∃ ρ', forD t body ds ρ = .nx ρ' ∧ I ρ'
  | [], _, ρ, h => ⟨ρ, rfl, h⟩
  | d :: ds, hb, ρ, h => by
    obtain ⟨ρ1, ρ2, e1, e2, h2⟩ := hb d (by simp) ρ h
    obtain ⟨ρ', e3, h3⟩ := forD_inv I ds (fun d' hd' => hb d' (by simp [hd'])) ρ2 h2
    exact ⟨ρ', by rw [forD, e1]; simp only [e2]; exact e3, h3⟩
theorem fitMul_l {i j : Int} (h1 : -(2 ^ 64) < i) (h2 : i < 2 ^ 64) : fitMul i j = true := by
  unfold fitMul
  rw [decide_eq_true (show -(2 ^ 64) < i ∧ i < 2 ^ 64 from ⟨h1, h2⟩)]
  rfl
theorem fitMul_r {i j : Int} (h1 : -(2 ^ 64) < j) (h2 : j < 2 ^ 64) : fitMul i j = true := by
  unfold fitMul
  rw [decide_eq_true (show -(2 ^ 64) < j ∧ j < 2 ^ 64 from ⟨h1, h2⟩), Bool.or_true]
  rfl
theorem kneaded_ok (a l : Int) : ∃ r, mf__law_kneaded [(.int a, 0), (.int l, 0)] = .ok (.int r, 0) [some (.int a, 0), some (.int l, 0)] := by
  have step : ∀ am : Int, 0 ≤ am → am < 2305843009213693907 → ∀ k : Int, ∃ am2 : Int, 0 ≤ am2 ∧ am2 < 2305843009213693907 ∧
      sAsg 3 (opN [.ex (opN [.ex (opN [.ex (opN [.ex (opN [.nm 3, .nm 3] mulA), .ex (opN [.ex (mC (.int 11)), .nm 3] mulA)] addD), .ex (opN [.ex (mC (.int 4099)), .nm 4] mulA)] addD), .nm 1] addD), .nm 2] modD) [some (.int a, 0), some (.int l, 0), some (.int 2305843009213693907, 0), some (.int am, 0), some (.int k, 0)] = .nx [some (.int a, 0), some (.int l, 0), some (.int 2305843009213693907, 0), some (.int am2, 0), some (.int k, 0)] := by
    intro am h0 h1 k
    refine ⟨(am * am + 11 * am + 4099 * k + l) % 2305843009213693907, Int.emod_nonneg _ (by decide), Int.emod_lt_of_pos _ (by decide), ?_⟩
    have f1 : fitMul am am = true := fitMul_l (by omega) (by omega)
    have f2 : fitMul 11 am = true := fitMul_l (by decide) (by decide)
    have f3 : fitMul 4099 k = true := fitMul_l (by decide) (by decide)
    simp [sSeq, sIf, sAsg, sRet, sSkip, sPar, sSetI, sFor, mRange, rangeFin, rangeD1, opN, evOs, evO, bindO, DL.bindG, lookOs, lookO, fin, cap, mC, mN, mMv, mB, mIf, mOr, mAnd, mNot, mAndV, mNotV, mCall, callF, takeOs, giveOs, runD, outP, orF, addD, subD, mulA, mulD, repD, modD, fdivD, powD, absD, DL.intD, lenD, lstD, tupD, cmpD, atD, ixD, setFin, topOf, setID, evMs, setRs, asgT, asgTs, D.box, List.range, List.range.loop, sizeLine_eq, mTru, truB, sDrop, mMut, mutFin, sAsgT, mIt, itD, f1, f2, f3]
  have f1 : fitMul a 2862933555777941757 = true := fitMul_r (by decide) (by decide)
  have f2 : fitMul l 3037000493 = true := fitMul_r (by decide) (by decide)
  let I : Rho → Prop := fun ρ => ∃ am k, 0 ≤ am ∧ am < 2305843009213693907 ∧ ρ = [some (.int a, 0), some (.int l, 0), some (.int 2305843009213693907, 0), some (.int am, 0), k]
  obtain ⟨ρ', e, am, k, h0, h1, rfl⟩ := forD_inv (t := .nm 4) (body := sAsg 3 (opN [.ex (opN [.ex (opN [.ex (opN [.ex (opN [.nm 3, .nm 3] mulA), .ex (opN [.ex (mC (.int 11)), .nm 3] mulA)] addD), .ex (opN [.ex (mC (.int 4099)), .nm 4] mulA)] addD), .nm 1] addD), .nm 2] modD)) I (rngD 0 4) (fun d hd ρ ⟨am, k, h0, h1, e⟩ => by
    subst e
    simp only [rngD, List.mem_map] at hd
    obtain ⟨i, _, rfl⟩ := hd
    obtain ⟨am2, g0, g1, e2⟩ := step am h0 h1 (0 + (i : Int))
    exact ⟨_, _, by simp [asgT], e2, am2, _, g0, g1, rfl⟩) [some (.int a, 0), some (.int l, 0), some (.int 2305843009213693907, 0), some (.int ((a * 2862933555777941757 + l * 3037000493 + 29) % 2305843009213693907), 0), none] ⟨_, _, Int.emod_nonneg _ (by decide), Int.emod_lt_of_pos _ (by decide), rfl⟩
  have f3 : fitMul am 2305843009213693907 = true := fitMul_r (by decide) (by decide)
  have f4 : fitMul am 69621 = true := fitMul_r (by decide) (by decide)
  refine ⟨am * 2305843009213693907 + (am * 69621 + l) % 2305843009213693907, ?_⟩
  unfold mf__law_kneaded runD ms__law_kneaded
  simp [sSeq, sIf, sAsg, sRet, sSkip, sPar, sSetI, sFor, mRange, rangeFin, rangeD1, opN, evOs, evO, bindO, DL.bindG, lookOs, lookO, fin, cap, mC, mN, mMv, mB, mIf, mOr, mAnd, mNot, mAndV, mNotV, mCall, callF, takeOs, giveOs, runD, outP, orF, addD, subD, mulA, mulD, repD, modD, fdivD, powD, absD, DL.intD, lenD, lstD, tupD, cmpD, atD, ixD, setFin, topOf, setID, evMs, setRs, asgT, asgTs, D.box, List.range, List.range.loop, sizeLine_eq, mTru, truB, sDrop, mMut, mutFin, sAsgT, mIt, itD, f1, f2, e, f3, f4]
end K02
end
section
set_option Elab.async false
set_option linter.all false
set_option maxRecDepth 100000
set_option maxHeartbeats 2000000
namespace K02
open PySem L2 DL
theorem at_0 {α : Type} {a : α} {l : List α} : atI (a :: l) 0 = some a := by
  unfold atI ixN
  simp [show (0 : Int) < (l.length : Int) + 1 by omega]
theorem at_1 {α : Type} {a b : α} {l : List α} : atI (a :: b :: l) 1 = some b := by
  unfold atI ixN
  simp [show (1 : Int) < (l.length : Int) + 1 + 1 by omega]
theorem at_2 {α : Type} {a b c : α} {l : List α} : atI (a :: b :: c :: l) 2 = some c := by
  unfold atI ixN
  simp [show (2 : Int) < (l.length : Int) + 1 + 1 + 1 by omega]
theorem at_3 {α : Type} {a b c d : α} {l : List α} : atI (a :: b :: c :: d :: l) 3 = some d := by
  unfold atI ixN
  simp [show (3 : Int) < (l.length : Int) + 1 + 1 + 1 + 1 by omega]
theorem ix4_1 : ixN 4 1 = some 1 := by decide
theorem ix4_2 : ixN 4 2 = some 2 := by decide
theorem ix4_3 : ixN 4 3 = some 3 := by decide
theorem ne_nil (xs : List D) : neG [.lst xs, .lst []] = some (.bl (!xs.isEmpty), 0) := by
  cases xs with
  | nil => kernel_rfl
  | cons x xs => simp [orF, neX]
theorem at_ints {ns : List Int} (h : ns ≠ []) (i : Int) : ∃ v, atI (ns.map D.int) (i % (ns.length : Int)) = some (.int v) := by
  have hl : 0 < ns.length := List.length_pos_iff.mpr h
  have h0 : 0 ≤ i % (ns.length : Int) := Int.emod_nonneg _ (by omega)
  have h1 : i % (ns.length : Int) < ns.length := Int.emod_lt_of_pos _ (by omega)
  unfold atI ixN
  rw [if_pos h0, List.length_map, if_pos h1]
  have h2 : (i % (ns.length : Int)).toNat < ns.length := by omega
  exact ⟨ns[(i % (ns.length : Int)).toNat], by simp [List.getElem?_eq_getElem h2]⟩
theorem below_ok (ns : List Int) (i p q b : Int) (hb : 0 < b) (hs : b.natAbs.log2 < 9000) :
    ∃ r i' p' q', mf__law_below [(potD (ns.map D.int) i p q, 1), (.int b, 0)] = .ok (.int r, 0) [some (potD (ns.map D.int) i' p' q', 1), some (.int b, 0)] ∧ 0 ≤ r ∧ r < b := by
  have tail : ∀ i p q x2 x3 x4 x5, ∃ r p' q', 0 ≤ r ∧ r < b ∧ (sSeq (sAsg 5 (opN [.ex (opN [.ex (opN [.nm 0, .ex (mC (.int 2))] atD)] DL.intD), .nm 1] modD))
      (sSeq (sSetI 0 (.ex (mC (.int 2))) (opN [.ex (opN [.nm 0, .ex (mC (.int 2))] atD), .nm 1] fdivD))
      (sSeq (sSetI 0 (.ex (mC (.int 3))) (opN [.ex (opN [.nm 0, .ex (mC (.int 3))] atD), .nm 1] fdivD))
      (sRet (mMv 5))))) [some (potD (ns.map D.int) i p q, 1), some (.int b, 0), x2, x3, x4, x5] = .rt (.int r, 0) [some (potD (ns.map D.int) i p' q', 1), some (.int b, 0), x2, x3, x4, none] := by
    intro i p q x2 x3 x4 x5
    refine ⟨p % b, p / b, q / b, Int.emod_nonneg _ (by omega), Int.emod_lt_of_pos _ hb, ?_⟩
    simp [sSeq, sIf, sAsg, sRet, sSkip, sPar, sSetI, sFor, mRange, rangeFin, rangeD1, opN, evOs, evO, bindO, DL.bindG, lookOs, lookO, fin, cap, mC, mN, mMv, mB, mIf, mOr, mAnd, mNot, mAndV, mNotV, mCall, callF, takeOs, giveOs, runD, outP, orF, addD, subD, mulA, mulD, repD, modD, fdivD, powD, absD, DL.intD, lenD, lstD, tupD, cmpD, atD, ixD, setFin, topOf, setID, evMs, setRs, asgT, asgTs, D.box, List.range, List.range.loop, sizeLine_eq, mTru, truB, sDrop, mMut, mutFin, sAsgT, mIt, itD, at_2, at_3, ix4_2, ix4_3, hb, hs]
  by_cases hq : q < b
  · -- drawn anew
    have hA : ∃ v, mIf (mB (opN [.nm 2, .ex (opN [] lstD)] neG)) (opN [.nm 2, .ex (opN [.nm 3, .ex (opN [.nm 2] lenD)] modD)] atD) (mC (.int 0)) [some (potD (ns.map D.int) i p q, 1), some (.int b, 0), some (.lst (ns.map D.int), 0), some (.int i, 0), none, none]
        = .ok (.int v, 0) [some (potD (ns.map D.int) i p q, 1), some (.int b, 0), some (.lst (ns.map D.int), 0), some (.int i, 0), none, none] := by
      by_cases hn : ns = []
      · subst hn
        exact ⟨0, by simp [sSeq, sIf, sAsg, sRet, sSkip, sPar, sSetI, sFor, mRange, rangeFin, rangeD1, opN, evOs, evO, bindO, DL.bindG, lookOs, lookO, fin, cap, mC, mN, mMv, mB, mIf, mOr, mAnd, mNot, mAndV, mNotV, mCall, callF, takeOs, giveOs, runD, outP, orF, addD, subD, mulA, mulD, repD, modD, fdivD, powD, absD, DL.intD, lenD, lstD, tupD, cmpD, atD, ixD, setFin, topOf, setID, evMs, setRs, asgT, asgTs, D.box, List.range, List.range.loop, sizeLine_eq, mTru, truB, sDrop, mMut, mutFin, sAsgT, mIt, itD, ne_nil]⟩
      · obtain ⟨v, hv⟩ := at_ints hn i
        have hl : 0 < ns.length := List.length_pos_iff.mpr hn
        have he : ns.isEmpty = false := by cases ns <;> simp at hn ⊢
        exact ⟨v, by simp [sSeq, sIf, sAsg, sRet, sSkip, sPar, sSetI, sFor, mRange, rangeFin, rangeD1, opN, evOs, evO, bindO, DL.bindG, lookOs, lookO, fin, cap, mC, mN, mMv, mB, mIf, mOr, mAnd, mNot, mAndV, mNotV, mCall, callF, takeOs, giveOs, runD, outP, orF, addD, subD, mulA, mulD, repD, modD, fdivD, powD, absD, DL.intD, lenD, lstD, tupD, cmpD, atD, ixD, setFin, topOf, setID, evMs, setRs, asgT, asgTs, D.box, List.range, List.range.loop, sizeLine_eq, mTru, truB, sDrop, mMut, mutFin, sAsgT, mIt, itD, ne_nil (ns.map D.int), he, hl, hv]⟩
    obtain ⟨v, hv⟩ := hA
    have hB : ∃ v', sIf (mOr (mB (opN [.nm 3, .ex (opN [.nm 2] lenD)] geD)) (mB (opN [.nm 4, .ex (opN [.ex (mC (.int 10)), .ex (mC (.int 16))] powD)] ltD))) (sAsg 4 (mCall mf__law_kneaded [.ex (opN [.ex (opN [.nm 4] DL.intD), .ex (mC (.int 982451629))] modD), .nm 3])) (sSkip)
        [some (potD (ns.map D.int) i p q, 1), some (.int b, 0), some (.lst (ns.map D.int), 0), some (.int i, 0), some (.int v, 0), none]
        = .nx [some (potD (ns.map D.int) i p q, 1), some (.int b, 0), some (.lst (ns.map D.int), 0), some (.int i, 0), some (.int v', 0), none] := by
      obtain ⟨r, hr⟩ := kneaded_ok (v % 982451629) i
      by_cases h1 : (ns.length : Int) ≤ i
      · exact ⟨r, by simp [sSeq, sIf, sAsg, sRet, sSkip, sPar, sSetI, sFor, mRange, rangeFin, rangeD1, opN, evOs, evO, bindO, DL.bindG, lookOs, lookO, fin, cap, mC, mN, mMv, mB, mIf, mOr, mAnd, mNot, mAndV, mNotV, mCall, callF, takeOs, giveOs, runD, outP, orF, addD, subD, mulA, mulD, repD, modD, fdivD, powD, absD, DL.intD, lenD, lstD, tupD, cmpD, atD, ixD, setFin, topOf, setID, evMs, setRs, asgT, asgTs, D.box, List.range, List.range.loop, sizeLine_eq, mTru, truB, sDrop, mMut, mutFin, sAsgT, mIt, itD, h1, hr]⟩
      · by_cases h2 : v < 10000000000000000
        · exact ⟨r, by simp [sSeq, sIf, sAsg, sRet, sSkip, sPar, sSetI, sFor, mRange, rangeFin, rangeD1, opN, evOs, evO, bindO, DL.bindG, lookOs, lookO, fin, cap, mC, mN, mMv, mB, mIf, mOr, mAnd, mNot, mAndV, mNotV, mCall, callF, takeOs, giveOs, runD, outP, orF, addD, subD, mulA, mulD, repD, modD, fdivD, powD, absD, DL.intD, lenD, lstD, tupD, cmpD, atD, ixD, setFin, topOf, setID, evMs, setRs, asgT, asgTs, D.box, List.range, List.range.loop, sizeLine_eq, mTru, truB, sDrop, mMut, mutFin, sAsgT, mIt, itD, h1, h2, hr]⟩
        · exact ⟨v, by simp [sSeq, sIf, sAsg, sRet, sSkip, sPar, sSetI, sFor, mRange, rangeFin, rangeD1, opN, evOs, evO, bindO, DL.bindG, lookOs, lookO, fin, cap, mC, mN, mMv, mB, mIf, mOr, mAnd, mNot, mAndV, mNotV, mCall, callF, takeOs, giveOs, runD, outP, orF, addD, subD, mulA, mulD, repD, modD, fdivD, powD, absD, DL.intD, lenD, lstD, tupD, cmpD, atD, ixD, setFin, topOf, setID, evMs, setRs, asgT, asgTs, D.box, List.range, List.range.loop, sizeLine_eq, mTru, truB, sDrop, mMut, mutFin, sAsgT, mIt, itD, h1, h2]⟩
    obtain ⟨v', hv'⟩ := hB
    obtain ⟨r, p', q', h0, h1, ht⟩ := tail (i + 1) v' v' (some (.lst (ns.map D.int), 0)) (some (.int i, 0)) (some (.int v', 0)) none
    refine ⟨r, i + 1, p', q', ?_, h0, h1⟩
    unfold mf__law_below runD ms__law_below
    generalize hT : sSeq (sAsg 5 (opN [.ex (opN [.ex (opN [.nm 0, .ex (mC (.int 2))] atD)] DL.intD), .nm 1] modD)) _ = T at ht ⊢
    generalize hM : mIf (mB (opN [.nm 2, .ex (opN [] lstD)] neG)) (opN [.nm 2, .ex (opN [.nm 3, .ex (opN [.nm 2] lenD)] modD)] atD) (mC (.int 0)) = M at hv ⊢
    generalize hN : sIf (mOr (mB (opN [.nm 3, .ex (opN [.nm 2] lenD)] geD)) _) _ _ = N at hv' ⊢
    clear hT hM hN
    simp [sSeq, sIf, sAsg, sRet, sSkip, sPar, sSetI, sFor, mRange, rangeFin, rangeD1, opN, evOs, evO, bindO, DL.bindG, lookOs, lookO, fin, cap, mC, mN, mMv, mB, mIf, mOr, mAnd, mNot, mAndV, mNotV, mCall, callF, takeOs, giveOs, runD, outP, orF, addD, subD, mulA, mulD, repD, modD, fdivD, powD, absD, DL.intD, lenD, lstD, tupD, cmpD, atD, ixD, setFin, topOf, setID, evMs, setRs, asgT, asgTs, D.box, List.range, List.range.loop, sizeLine_eq, mTru, truB, sDrop, mMut, mutFin, sAsgT, mIt, itD, at_0, at_1, at_2, at_3, ix4_1, ix4_2, ix4_3, hq, hv, hv', ht]
  · obtain ⟨r, p', q', h0, h1, ht⟩ := tail i p q none none none none
    refine ⟨r, i, p', q', ?_, h0, h1⟩
    unfold mf__law_below runD ms__law_below
    generalize hT : sSeq (sAsg 5 (opN [.ex (opN [.ex (opN [.nm 0, .ex (mC (.int 2))] atD)] DL.intD), .nm 1] modD)) _ = T at ht ⊢
    clear hT
    simp [sSeq, sIf, sAsg, sRet, sSkip, sPar, sSetI, sFor, mRange, rangeFin, rangeD1, opN, evOs, evO, bindO, DL.bindG, lookOs, lookO, fin, cap, mC, mN, mMv, mB, mIf, mOr, mAnd, mNot, mAndV, mNotV, mCall, callF, takeOs, giveOs, runD, outP, orF, addD, subD, mulA, mulD, repD, modD, fdivD, powD, absD, DL.intD, lenD, lstD, tupD, cmpD, atD, ixD, setFin, topOf, setID, evMs, setRs, asgT, asgTs, D.box, List.range, List.range.loop, sizeLine_eq, mTru, truB, sDrop, mMut, mutFin, sAsgT, mIt, itD, at_3, hq, ht]

end K02
end
section
set_option Elab.async false
set_option linter.all false
set_option maxRecDepth 100000
set_option maxHeartbeats 2000000
namespace K02
open PySem L2 DL
theorem pick_ok (ns : List Int) (i p q : Int) (items : List D) (h0 : 0 < items.length) (h1 : items.length < 1000) :
    ∃ d i' p' q', mf__law_pick [(potD (ns.map D.int) i p q, 1), (.lst items, 0)] = .ok (d, 0) [some (potD (ns.map D.int) i' p' q', 1), some (.lst items, 0)] ∧ d ∈ items := by
  have hs : ((items.length : Int)).natAbs.log2 < 9000 := by
    rw [Int.natAbs_natCast]
    exact Nat.lt_of_le_of_lt (Nat.log2_le_self _) (by omega)
  obtain ⟨r, i', p', q', e, r0, r1⟩ := below_ok ns i p q items.length (by omega) hs
  have h2 : r.toNat < items.length := by omega
  have e2 : atI items r = some items[r.toNat] := by
    unfold atI ixN
    rw [if_pos r0, if_pos r1]
    simp [List.getElem?_eq_getElem h2]
  refine ⟨items[r.toNat], i', p', q', ?_, List.getElem_mem h2⟩
  unfold mf__law_pick runD ms__law_pick
  simp [sSeq, sIf, sAsg, sRet, sSkip, sPar, sSetI, sFor, mRange, rangeFin, rangeD1, opN, evOs, evO, bindO, DL.bindG, lookOs, lookO, fin, cap, mC, mN, mMv, mB, mIf, mOr, mAnd, mNot, mAndV, mNotV, mCall, callF, takeOs, giveOs, runD, outP, orF, addD, subD, mulA, mulD, repD, modD, fdivD, powD, absD, DL.intD, lenD, lstD, tupD, cmpD, atD, ixD, setFin, topOf, setID, evMs, setRs, asgT, asgTs, D.box, List.range, List.range.loop, sizeLine_eq, mTru, truB, sDrop, mMut, mutFin, sAsgT, mIt, itD, e, e2]
abbrev absI (i : Int) : Int := if i < 0 then -i else i
theorem comp_abs {x0 x1 x2 : Option Val} : ∀ (ns : List Int) (acc : List D), acc.length + ns.length < 1000 →
    compK (.nm 3) tY (opN [.nm 3] absD) [3] .ok (ns.map D.int) acc [x0, x1, x2, none] = .ok (acc ++ (ns.map absI).map D.int) [x0, x1, x2, none]
  | [], acc, _ => by simp [compK]
  | n :: ns, acc, h => by
    have ih := comp_abs (x0 := x0) (x1 := x1) (x2 := x2) ns (acc ++ [.int (absI n)]) (by simp at h ⊢; omega)
    have hl : acc.length < 16777216 := by simp at h; omega
    simp only [List.map_cons, compK]
    simp [sSeq, sIf, sAsg, sRet, sSkip, sPar, sSetI, sFor, mRange, rangeFin, rangeD1, opN, evOs, evO, bindO, DL.bindG, lookOs, lookO, fin, cap, mC, mN, mMv, mB, mIf, mOr, mAnd, mNot, mAndV, mNotV, mCall, callF, takeOs, giveOs, runD, outP, orF, addD, subD, mulA, mulD, repD, modD, fdivD, powD, absD, DL.intD, lenD, lstD, tupD, cmpD, atD, ixD, setFin, topOf, setID, evMs, setRs, asgT, asgTs, D.box, List.range, List.range.loop, sizeLine_eq, mTru, truB, sDrop, mMut, mutFin, sAsgT, mIt, itD, stepD, tY, wipeR, hl]
    simpa [absI, hl] using ih
theorem cut17 {α : Type} (xs : List α) : cutG xs none (some 17) = xs.take 17 := by
  unfold cutG
  rw [show (some (17 : Int)) = some ((17 : Nat) : Int) from rfl, HT.sIx_nat, HT.sIx_none, List.drop_zero, Nat.sub_zero]
  rw [List.take_eq_take_iff]
  omega
theorem cut60 {α : Type} (xs : List α) (h : xs.length ≤ 17) : cutG xs (some 17) (some 60) = [] := by
  unfold cutG
  rw [show (some (17 : Int)) = some ((17 : Nat) : Int) from rfl, show (some (60 : Int)) = some ((60 : Nat) : Int) from rfl, HT.sIx_nat, HT.sIx_nat]
  rw [Nat.min_eq_right h, List.drop_length, List.take_nil]
theorem cut_int (ns : List Int) (lo hi : Option Int) : ∃ ms : List Int, cutG (ns.map D.int) lo hi = ms.map D.int := by
  unfold cutG
  exact ⟨_, by rw [List.map_take, List.map_drop]⟩
theorem enum_mem : ∀ (ms : List Int) (k : Nat), ∀ d ∈ enumD k (ms.map D.int), ∃ (j : Nat) (c : Int), d = .tup [.int j, .int c]
  | [], k, d, h => by simp [enumD] at h
  | m :: ms, k, d, h => by
    simp only [List.map_cons, enumD, List.mem_cons] at h
    rcases h with rfl | h
    · exact ⟨k, m, rfl⟩
    · exact enum_mem ms (k + 1) d h
theorem pot_ok (ns : List Int) : ∃ ms : List Int, mf__law_pot_of [(.lst (ns.map D.int), 0)] = .ok (potD (ms.map D.int) 0 0 0, 1) [some (.lst (ns.map D.int), 0)] := by
  have c1 : cutG (ns.map D.int) none (some 17) = (ns.take 17).map D.int := by rw [cut17, List.map_take]
  have c2 := comp_abs (x0 := some (.lst (ns.map D.int), 0)) (x1 := none) (x2 := none) (ns.take 17) [] (by simp; omega)
  have lenA : ((ns.take 17).map absI).length ≤ 17 := by simp; omega
  obtain ⟨es, ce⟩ := cut_int ns (some 17) (some 60)
  let I : Rho → Prop := fun ρ => ∃ (ms : List Int) (x2 x3 : Option Val), ms.length = ((ns.take 17).map absI).length ∧ ρ = [some (.lst (ns.map D.int), 0), some (.lst (ms.map D.int), 1), x2, x3]
  have hb : ∀ d ∈ enumD 0 (es.map D.int), ∀ ρ, I ρ → ∃ ρ1 ρ2, asgT (.tup [.nm 2, .nm 3]) d ρ = some ρ1 ∧
      sSetI 1 (.ex (opN [.nm 2, .ex (mC (.int 17))] modD)) (opN [.ex (opN [.nm 1, .ex (opN [.nm 2, .ex (mC (.int 17))] modD)] atD), .ex (opN [.nm 3] absD)] addD) ρ1 = .nx ρ2 ∧ I ρ2 := by
    rintro d hd ρ ⟨ms, x2, x3, hl, rfl⟩
    obtain ⟨j, c, rfl⟩ := enum_mem es 0 d hd
    by_cases hn : ns.length ≤ 17
    · have : es.map D.int = [] := by rw [← ce]; exact cut60 _ (by simpa using hn)
      rw [this] at hd
      simp [enumD] at hd
    · have h17 : ms.length = 17 := by rw [hl]; simp; omega
      have g0 : 0 ≤ (j : Int) % 17 := Int.emod_nonneg _ (by decide)
      have g1 : (j : Int) % 17 < 17 := Int.emod_lt_of_pos _ (by decide)
      have e1 : ixN (ms.map D.int).length ((j : Int) % 17) = some ((j : Int) % 17).toNat := by
        unfold ixN
        rw [if_pos g0, List.length_map, h17, if_pos (by omega)]
      have g2 : ((j : Int) % 17).toNat < ms.length := by omega
      have e2 : atI (ms.map D.int) ((j : Int) % 17) = some (.int ms[((j : Int) % 17).toNat]) := by
        unfold atI
        rw [e1]
        simp [List.getElem?_eq_getElem g2]
      rw [List.length_map] at e1
      refine ⟨_, _, by simp [asgT, asgTs]; rfl, ?_, ms.set ((j : Int) % 17).toNat (ms[((j : Int) % 17).toNat] + absI c), some (.int j, 0), some (.int c, 0), by simp [hl], rfl⟩
      simp [sSeq, sIf, sAsg, sRet, sSkip, sPar, sSetI, sFor, mRange, rangeFin, rangeD1, opN, evOs, evO, bindO, DL.bindG, lookOs, lookO, fin, cap, mC, mN, mMv, mB, mIf, mOr, mAnd, mNot, mAndV, mNotV, mCall, callF, takeOs, giveOs, runD, outP, orF, addD, subD, mulA, mulD, repD, modD, fdivD, powD, absD, DL.intD, lenD, lstD, tupD, cmpD, atD, ixD, setFin, topOf, setID, evMs, setRs, asgT, asgTs, D.box, List.range, List.range.loop, sizeLine_eq, mTru, truB, sDrop, mMut, mutFin, sAsgT, mIt, itD, e1, e2, List.map_set]
  obtain ⟨ρ', ef, ms, x2, x3, hl, rfl⟩ := forD_inv (t := .tup [.nm 2, .nm 3]) I (enumD 0 (es.map D.int)) hb [some (.lst (ns.map D.int), 0), some (.lst (((ns.take 17).map absI).map D.int), 1), none, none] ⟨_, none, none, rfl, rfl⟩
  refine ⟨ms, ?_⟩
  unfold mf__law_pot_of runD ms__law_pot_of
  rw [List.nil_append] at c2
  generalize hB : sSetI 1 (.ex (opN [.nm 2, .ex (mC (.int 17))] modD)) (opN [.ex (opN [.nm 1, .ex (opN [.nm 2, .ex (mC (.int 17))] modD)] atD), .ex (opN [.nm 3] absD)] addD) = B at ef ⊢
  clear hB hb
  clear lenA
  generalize hS : ns.map D.int = S at c1 c2 ce ef ⊢
  generalize hA2 : ((ns.take 17).map absI).map D.int = A2 at c2 ef
  generalize hA : (ns.take 17).map D.int = A at c1 c2
  generalize hE : es.map D.int = E at ce ef
  generalize hM : ms.map D.int = M at ef ⊢
  clear hA2 hA hE hM
  simp [sSeq, sIf, sAsg, sRet, sSkip, sPar, sSetI, sFor, mRange, rangeFin, rangeD1, opN, evOs, evO, bindO, DL.bindG, lookOs, lookO, fin, cap, mC, mN, mMv, mB, mIf, mOr, mAnd, mNot, mAndV, mNotV, mCall, callF, takeOs, giveOs, runD, outP, orF, addD, subD, mulA, mulD, repD, modD, fdivD, powD, absD, DL.intD, lenD, lstD, tupD, cmpD, atD, ixD, setFin, topOf, setID, evMs, setRs, asgT, asgTs, D.box, List.range, List.range.loop, sizeLine_eq, mTru, truB, sDrop, mMut, mutFin, sAsgT, mIt, itD, mLc, mIt, mInt, slD, slV, c1, c2, itD, wipeR, lcFin, mEnumA, ce, ef]
end K02
end
section
set_option Elab.async false
set_option linter.all false
set_option maxRecDepth 100000
set_option maxHeartbeats 2000000
namespace K02
open PySem L2 DL
/-- a pot -/
def Pot (d : D) : Prop := ∃ (ns : List Int) (i p q : Int), d = potD (ns.map D.int) i p q
theorem small_log {b : Int} (h0 : 0 < b) (h1 : b < 1000000) : b.natAbs.log2 < 9000 := by
  have : b.natAbs < 2 ^ 20 := by omega
  exact Nat.lt_trans ((Nat.log2_lt (by omega)).mpr this) (by decide)
theorem below {d : D} (h : Pot d) {b : Int} (h0 : 0 < b) (h1 : b < 1000000) : ∃ r d', Pot d' ∧ 0 ≤ r ∧ r < b ∧ mf__law_below [(d, 1), (.int b, 0)] = .ok (.int r, 0) [some (d', 1), some (.int b, 0)] := by
  obtain ⟨ns, i, p, q, rfl⟩ := h
  obtain ⟨r, i', p', q', e, r0, r1⟩ := below_ok ns i p q b h0 (small_log h0 h1)
  exact ⟨r, _, ⟨ns, i', p', q', rfl⟩, r0, r1, e⟩
theorem atI_nat {α : Type} {xs : List α} {r : Int} (h0 : 0 ≤ r) (h1 : r < xs.length) : atI xs r = some (xs[r.toNat]'(by omega)) := by
  have h2 : r.toNat < xs.length := by omega
  unfold atI ixN
  rw [if_pos h0, if_pos h1]
  simp [List.getElem?_eq_getElem h2]
theorem pick {d : D} (h : Pot d) {items : List D} (h0 : 0 < items.length) (h1 : items.length < 1000) (k : Nat) (hk : k = 0 ∨ k = 1) : ∃ x d', Pot d' ∧ x ∈ items ∧ mf__law_pick [(d, 1), (.lst items, k)] = .ok (x, 0) [some (d', 1), some (.lst items, k)] := by
  obtain ⟨r, d', hd, r0, r1, e⟩ := below h (b := items.length) (by omega) (by omega)
  refine ⟨items[r.toNat]'(by omega), d', hd, List.getElem_mem _, ?_⟩
  have e2 := atI_nat r0 r1
  unfold mf__law_pick runD ms__law_pick
  rcases hk with rfl | rfl <;> simp [sSeq, sIf, sAsg, sRet, sSkip, sPar, sSetI, sFor, mRange, rangeFin, rangeD1, opN, evOs, evO, bindO, DL.bindG, lookOs, lookO, fin, cap, mC, mN, mMv, mB, mIf, mOr, mAnd, mNot, mAndV, mNotV, mCall, callF, takeOs, giveOs, runD, outP, orF, addD, subD, mulA, mulD, repD, modD, fdivD, powD, absD, DL.intD, lenD, lstD, tupD, cmpD, atD, ixD, setFin, topOf, setID, evMs, setRs, asgT, asgTs, D.box, List.range, List.range.loop, sizeLine_eq, mTru, truB, sDrop, mMut, mutFin, sAsgT, mIt, itD, e, e2]
end K02
end
section
set_option Elab.async false
set_option linter.all false
set_option maxRecDepth 100000
set_option maxHeartbeats 2000000
namespace K02
open PySem L2 DL
/-! ### loops -/
inductive Par {α β : Type} (R : α → β → Prop) : List α → List β → Prop
  | nil : Par R [] []
  | cons {a : α} {b : β} {as : List α} {bs : List β} : R a b → Par R as bs → Par R (a :: as) (b :: bs)
theorem Par.length {α β : Type} {R : α → β → Prop} : ∀ {as : List α} {bs : List β}, Par R as bs → as.length = bs.length
  | _, _, .nil => rfl
  | _, _, .cons _ t => by simp [t.length]
theorem Par.imp {α β : Type} {R R' : α → β → Prop} (h : ∀ a b, R a b → R' a b) : ∀ {as : List α} {bs : List β}, Par R as bs → Par R' as bs
  | _, _, .nil => .nil
  | _, _, .cons r t => .cons (h _ _ r) (t.imp h)
theorem forD_ix {t : Tg} {body : MS} (I : Nat → Rho → Prop) : ∀ (ds : List D) (k : Nat), (∀ j d, ds[j]? = some d → ∀ ρ, I (k + j) ρ → ∃ ρ1 ρ2, asgT t d ρ = some ρ1 ∧ body ρ1 = .nx ρ2 ∧ I (k + j + 1) ρ2) → ∀ ρ, I k ρ → ∃ ρ', forD t body ds ρ = .nx ρ' ∧ I (k + ds.length) ρ'
  | [], _, _, ρ, h => ⟨ρ, rfl, h⟩
  | d :: ds, k, hb, ρ, h => by
    obtain ⟨ρ1, ρ2, e1, e2, h2⟩ := hb 0 d rfl ρ h
    obtain ⟨ρ', e3, h3⟩ := forD_ix I ds (k + 1) (fun j d' hd' ρ hI => by
      have := hb (j + 1) d' (by simpa using hd') ρ (by rw [show k + (j + 1) = k + 1 + j by omega]; exact hI)
      rw [show k + (j + 1) + 1 = k + 1 + j + 1 by omega] at this
      exact this) ρ2 h2
    exact ⟨ρ', by rw [forD, e1]; simp only [e2]; exact e3, by rw [List.length_cons, show k + (ds.length + 1) = k + 1 + ds.length by omega]; exact h3⟩
theorem forD_at {t : Tg} {body : MS} (I : Nat → Rho → Prop) (ds : List D) (h : ∀ j d, ds[j]? = some d → ∀ ρ, I j ρ → ∃ ρ1 ρ2, asgT t d ρ = some ρ1 ∧ body ρ1 = .nx ρ2 ∧ I (j + 1) ρ2) (ρ : Rho) (h0 : I 0 ρ) : ∃ ρ', forD t body ds ρ = .nx ρ' ∧ I ds.length ρ' := by
  have := forD_ix (t := t) (body := body) I ds 0 (fun j d hd ρ hI => by rw [Nat.zero_add] at hI ⊢; exact h j d hd ρ hI) ρ h0
  rwa [Nat.zero_add] at this
theorem comp_rel {t : Tg} {m : ME} {vs : List Nat} {R : D → D → Prop} (I : Rho → Prop) : ∀ (ds : List D), (∀ d ∈ ds, ∀ ρ, I ρ → ∃ ρ1 r ρ2, asgT t d ρ = some ρ1 ∧ m ρ1 = .ok r ρ2 ∧ R d r.1 ∧ I (wipeR ρ2 vs)) → ∀ acc ρ, I ρ → acc.length + ds.length ≤ 16777216 → ∃ xs ρ', compK t tY m vs .ok ds acc ρ = .ok (acc ++ xs) ρ' ∧ I ρ' ∧ Par R ds xs
  | [], _, acc, ρ, h, _ => ⟨[], ρ, by simp [compK], h, .nil⟩
  | d :: ds, hb, acc, ρ, h, hl => by
    obtain ⟨ρ1, r, ρ2, e1, e2, hr, h2⟩ := hb d (by simp) ρ h
    obtain ⟨xs, ρ', e3, h3, p⟩ := comp_rel I ds (fun d' hd' => hb d' (by simp [hd'])) (acc ++ [r.1]) _ h2 (by simp at hl ⊢; omega)
    have h4 : acc.length < sizeLine := by rw [sizeLine_eq]; simp at hl; omega
    exact ⟨r.1 :: xs, ρ', by simp only [compK, e1, stepD, tY, e2, if_true, if_pos h4]; rw [e3]; simp, h3, .cons hr p⟩
theorem comp_filter {t : Tg} {tt : MT} {m : ME} {vs : List Nat} (ρ0 : Rho) (b : D → Bool) : ∀ (ds : List D), (∀ d ∈ ds, ∃ ρ1 ρ2, asgT t d ρ0 = some ρ1 ∧ tt ρ1 = .ok (b d) ρ2 ∧ wipeR ρ2 vs = ρ0 ∧ ∃ k ρ3, m ρ2 = .ok (d, k) ρ3 ∧ wipeR ρ3 vs = ρ0) → ∀ acc : List D, acc.length + ds.length ≤ 16777216 → compK t tt m vs .ok ds acc ρ0 = .ok (acc ++ ds.filter b) ρ0
  | [], _, acc, _ => by simp [compK]
  | d :: ds, hb, acc, hl => by
    obtain ⟨ρ1, ρ2, e1, e2, e3, k, ρ3, e4, e5⟩ := hb d (by simp)
    have h4 : acc.length < sizeLine := by rw [sizeLine_eq]; simp at hl; omega
    have ih := fun acc' hl' => comp_filter (t := t) (tt := tt) (m := m) (vs := vs) ρ0 b ds (fun d' hd' => hb d' (by simp [hd'])) acc' hl'
    simp only [compK, e1, stepD, e2]
    cases hd : b d with
    | true =>
      simp only [if_true, e4, if_pos h4, e5]
      rw [ih _ (by simp at hl ⊢; omega), List.filter_cons_of_pos hd]
      simp
    | false =>
      simp only [Bool.false_eq_true, if_false, e3]
      rw [ih _ (by simp at hl ⊢; omega), List.filter_cons_of_neg (by simp [hd])]
/-! ### lists that are changed -/
theorem app_ev {j : Nat} {m : ME} {ρ ρ1 : Rho} {d : D} {k l : Nat} {xs : List D} (e0 : ρ[j]? = some (some (.lst xs, l))) (em : m ρ = .ok (d, k) ρ1) (e1 : ρ1[j]? = some (some (.lst xs, 1))) (h : xs.length < 1000000) : mMut j isLst [.ex m] appD ρ = .ok (.non, 0) (ρ1.set j (some (.lst (xs ++ [d]), 1))) := by
  have h' : xs.length < sizeLine := by rw [sizeLine_eq]; omega
  simp only [mMut, e0, isLst, if_true, evOs, evO, bindO, em, mutFin, lookOs, lookO, topOf, e1, D.box, cap, Nat.le_refl, appD, if_pos h']
theorem ext_ev {j : Nat} {m : ME} {ρ ρ1 : Rho} {k l : Nat} {xs ys : List D} (e0 : ρ[j]? = some (some (.lst xs, l))) (em : m ρ = .ok (.lst ys, k) ρ1) (e1 : ρ1[j]? = some (some (.lst xs, 1))) (h : xs.length + ys.length < 1000000) : mMut j isLst [.ex m] extD ρ = .ok (.non, 0) (ρ1.set j (some (.lst (xs ++ ys), 1))) := by
  have h' : xs.length + ys.length ≤ sizeLine := by rw [sizeLine_eq]; omega
  simp only [mMut, e0, isLst, if_true, evOs, evO, bindO, em, mutFin, lookOs, lookO, topOf, e1, D.box, cap, Nat.le_refl, extD, if_pos h']
theorem extT_ev {j : Nat} {m : ME} {ρ ρ1 : Rho} {k l : Nat} {xs ys : List D} (e0 : ρ[j]? = some (some (.lst xs, l))) (em : m ρ = .ok (.tup ys, k) ρ1) (e1 : ρ1[j]? = some (some (.lst xs, 1))) (h : xs.length + ys.length < 1000000) : mMut j isLst [.ex m] extD ρ = .ok (.non, 0) (ρ1.set j (some (.lst (xs ++ ys), 1))) := by
  have h' : xs.length + ys.length ≤ sizeLine := by rw [sizeLine_eq]; omega
  simp only [mMut, e0, isLst, if_true, evOs, evO, bindO, em, mutFin, lookOs, lookO, topOf, e1, D.box, cap, Nat.le_refl, extD, if_pos h']
theorem pop_ev {j : Nat} {ρ : Rho} {x : D} {xs : List D} (e0 : ρ[j]? = some (some (.lst (xs ++ [x]), 1))) : mMut j isLst [] popD ρ = .ok (x, 0) (ρ.set j (some (.lst xs, 1))) := by
  have h1 : (xs ++ [x])[(xs ++ [x]).length - 1]? = some x := by simp
  have h2 : (xs ++ [x]).dropLast = xs := by simp
  simp only [mMut, e0, isLst, if_true, evOs, bindO, mutFin, lookOs, topOf, D.box, cap, Nat.le_refl, popD, h1, h2, Option.map_some]
theorem two_le : 2 ≤ sizeLine := by rw [sizeLine_eq]; decide
theorem tup2_ev {m n : ME} {ρ ρ1 ρ2 : Rho} {a b : D} {k l : Nat} (h1 : m ρ = .ok (a, k) ρ1) (h2 : n ρ1 = .ok (b, l) ρ2) : opN [.ex m, .ex n] tupD ρ = .ok (.tup [a, b], 0) ρ2 := by
  have h : [a, b].length ≤ sizeLine := two_le
  simp only [opN, evOs, evO, bindO, h1, h2, lookOs, lookO, fin, tupD, if_pos h]
/-! ### operations -/
section
variable {m n : ME} {f : List D → Option Val} {ρ ρ1 ρ2 : Rho} {a b : D} {i j k l : Nat} {r : Val}
theorem cap_le {i : Nat} {ρ : Rho} {d : D} {k : Nat} (e : ρ[i]? = some (some (d, k))) (h : k ≤ 1) : cap i ρ = ρ := by
  simp only [cap, e, if_pos h]
theorem ev_x (h1 : m ρ = .ok (a, k) ρ1) (hf : f [a] = some r) : opN [.ex m] f ρ = .ok r ρ1 := by
  simp only [opN, evOs, evO, bindO, h1, lookOs, lookO, fin, hf]
theorem ev_n (h1 : ρ[i]? = some (some (a, k))) (hk : k ≤ 1) (hf : f [a] = some r) : opN [.nm i] f ρ = .ok r ρ := by
  simp only [opN, evOs, evO, bindO, h1, lookOs, lookO, fin, hf, cap_le h1 hk]
theorem ev_xx (h1 : m ρ = .ok (a, k) ρ1) (h2 : n ρ1 = .ok (b, l) ρ2) (hf : f [a, b] = some r) : opN [.ex m, .ex n] f ρ = .ok r ρ2 := by
  simp only [opN, evOs, evO, bindO, h1, h2, lookOs, lookO, fin, hf]
theorem ev_nx {p : Val} (h0 : ρ[i]? = some (some p)) (h2 : n ρ = .ok (b, l) ρ1) (h1 : ρ1[i]? = some (some (a, k))) (hk : k ≤ 1) (hf : f [a, b] = some r) : opN [.nm i, .ex n] f ρ = .ok r ρ1 := by
  simp only [opN, evOs, evO, bindO, h0, h2, lookOs, lookO, h1, cap_le h1 hk, fin, hf]
theorem ev_xn {p : Val} (h1 : m ρ = .ok (a, k) ρ1) (h2 : ρ1[j]? = some (some (b, l))) (hl : l ≤ 1) (hf : f [a, b] = some r) : opN [.ex m, .nm j] f ρ = .ok r ρ1 := by
  simp only [opN, evOs, evO, bindO, h1, h2, lookOs, lookO, cap_le h2 hl, fin, hf]
theorem ev_nn (h1 : ρ[i]? = some (some (a, k))) (hk : k ≤ 1) (h2 : ρ[j]? = some (some (b, l))) (hl : l ≤ 1) (hf : f [a, b] = some r) : opN [.nm i, .nm j] f ρ = .ok r ρ := by
  simp only [opN, evOs, evO, bindO, h1, h2, lookOs, lookO, cap_le h1 hk, cap_le h2 hl, fin, hf]
theorem ev_B (h : m ρ = .ok (.bl true, k) ρ1) : mB m ρ = .ok true ρ1 := by simp only [mB, h, bindO]
theorem ev_F (h : m ρ = .ok (.bl false, k) ρ1) : mB m ρ = .ok false ρ1 := by simp only [mB, h, bindO]
theorem ev_N {x : D} (h : ρ[i]? = some (some (x, 0))) : mN i ρ = .ok (x, 0) ρ := by simp [mN, h]
theorem ev_I {z : Int} (h : m ρ = .ok (.int z, k) ρ1) : mInt m ρ = .ok (.int z, 0) ρ1 := by simp only [mInt, h, bindO]
theorem ev_C {x : D} : mC x ρ = .ok (x, 0) ρ := rfl
end
section
variable {a b : MS} {m : ME} {ρ ρ1 ρ2 : Rho} {r : Val} {i : Nat} {o : SOut} {t : MT}
theorem seq_nx (h : a ρ = .nx ρ1) : sSeq a b ρ = b ρ1 := by simp only [sSeq, h]
theorem seq_rt (h : a ρ = .rt r ρ1) : sSeq a b ρ = .rt r ρ1 := by simp only [sSeq, h]
theorem asg_ev (h : m ρ = .ok r ρ1) (hi : i < ρ1.length) : sAsg i m ρ = .nx (ρ1.set i (some r)) := by simp only [sAsg, h, if_pos hi]
theorem drop_ev (h : m ρ = .ok r ρ1) : sDrop m ρ = .nx ρ1 := by simp only [sDrop, h]
theorem ret_ev (h : m ρ = .ok r ρ1) : sRet m ρ = .rt r ρ1 := by simp only [sRet, h]
theorem for_ev {tg : Tg} {mi : Rho → Out (List D)} {ds : List D} (h : mi ρ = .ok ds ρ1) : sFor tg mi a ρ = forD tg a ds ρ1 := by simp only [sFor, h]
theorem if_t (h : t ρ = .ok true ρ1) : sIf t a b ρ = a ρ1 := by simp only [sIf, h, if_true]
theorem if_f (h : t ρ = .ok false ρ1) : sIf t a b ρ = b ρ1 := by simp only [sIf, h, Bool.false_eq_true, if_false]
theorem setI_nm {j : Nat} {x d d' : D} (h : m ρ = .ok r ρ1) (hj : ρ1[j]? = some (some (d, 1))) (hi : ρ1[i]? = some (some (x, 0))) (hb : d.box = true) (hs : setID d x r.1 = some d') : sSetI j (.nm i) m ρ = .nx (ρ1.set j (some (d', 1))) := by
  simp only [sSetI, h, DL.bindG, evOs, evO, bindO, hj, hi, setFin, List.drop_succ_cons, List.drop_zero, lookOs, lookO, cap, Nat.zero_le, Nat.le_refl, if_true, topOf, hb, hs]
theorem setI_x {j k : Nat} {n : ME} {x d d' : D} (h : m ρ = .ok r ρ1) (hj : ρ1[j]? = some (some (d, 1))) (hi : n ρ1 = .ok (x, k) ρ2) (hj2 : ρ2[j]? = some (some (d, 1))) (hb : d.box = true) (hs : setID d x r.1 = some d') : sSetI j (.ex n) m ρ = .nx (ρ2.set j (some (d', 1))) := by
  simp only [sSetI, h, DL.bindG, evOs, evO, bindO, hj, hi, setFin, List.drop_succ_cons, List.drop_zero, lookOs, lookO, cap, hj2, Nat.zero_le, Nat.le_refl, if_true, topOf, hb, hs]
theorem it_ev {ds : List D} {d : D} {k : Nat} (h : m ρ = .ok (d, k) ρ1) (e : itD d = some ds) : mIt m ρ = .ok ds ρ1 := by simp only [mIt, h, bindO, e]
end
theorem ok_len {n : Nat} (h : n < 1000000) : n ≤ sizeLine := by rw [sizeLine_eq]; omega
theorem ok_lt {n : Nat} (h : n < 1000000) : n < sizeLine := by rw [sizeLine_eq]; omega
/-! ### trees, schemas -/
inductive T where
  | node (t : Str) (ks : List T)
mutual
def T.d : T → D
  | .node t ks => .tup (.str t :: T.ds ks)
def T.ds : List T → List D
  | [] => []
  | k :: ks => k.d :: T.ds ks
end
theorem T.ds_map : ∀ ks : List T, T.ds ks = ks.map T.d
  | [] => rfl
  | k :: ks => by simp [T.ds, T.ds_map ks]
/-- a variant: tag, kinds of the children -/
abbrev Vr := Str × List Str
abbrev Sch := List (Str × List Vr)
def varD (v : Vr) : D := .tup [.str v.1, .tup (v.2.map D.str)]
def kvD (k : Str × List Vr) : Key × D := (.inr k.1, .tup (k.2.map varD))
def schD (S : Sch) : D := D.dict (S.map kvD)
theorem get_kv : ∀ (S : Sch) (k : Str) (vs : List Vr), S.lookup k = some vs → getG (S.map kvD) (.inr k) = some (.tup (vs.map varD))
  | [], _, _, h => by simp at h
  | (k', ws) :: S, k, vs, h => by
    rw [List.lookup_cons] at h
    unfold getG
    rw [List.map_cons, List.find?_cons]
    by_cases e : k' = k
    · subst e
      simp only [beq_self_eq_true] at h
      cases h
      simp [kvD]
    · have e' : (k == k') = false := by simp; exact fun z => e z.symm
      rw [e'] at h
      have ih := get_kv S k vs h
      unfold getG at ih
      have e2 : decide ((kvD (k', ws)).1 = Sum.inr k) = false := by simp [kvD, e]
      rw [e2]
      exact ih
theorem at_sch {S : Sch} {k : Str} {vs : List Vr} (h : S.lookup k = some vs) : atD [schD S, .str k] = some (.tup (vs.map varD), 0) := by
  simp only [atD, schD, D.dict, ixD, dgetD, keyD, zip_fst_snd, get_kv S k vs h]
end K02
end
section
set_option Elab.async false
set_option linter.all false
set_option maxRecDepth 100000
set_option maxHeartbeats 2000000
namespace K02
open PySem L2 DL
/-! ### the schemas that are drawn -/
def tagOf (n : Nat) : Str := "t" ++ Str.ofString (toString (n : Int))
theorem tag_inj : ∀ a < 10, ∀ b < 10, tagOf a = tagOf b → a = b := by decide +kernel
theorem tag_str : ∀ n < 10, strD [.int ((n : Nat) : Int)] = some (.str (Str.ofString (toString ((n : Nat) : Int))), 0) := by
  intro n h
  have : ((n : Nat) : Int).natAbs.log2 < 1920 := by
    rw [Int.natAbs_natCast]
    exact Nat.lt_of_le_of_lt (Nat.log2_le_self _) (by omega)
  simp only [strD, if_pos this]
theorem tag_len : ∀ n < 10, (Str.ofString (toString ((n : Nat) : Int))).length ≤ 1 := by decide +kernel
theorem tag_add : ∀ n < 10, addD [.str "t", .str (Str.ofString (toString ((n : Nat) : Int)))] = some (.str (tagOf n), 0) := by
  intro n h
  have h1 := tag_len n h
  have h2 : ("t" : Str).length = 1 := by decide
  have h3 : ("t" : Str).length + (Str.ofString (toString ((n : Nat) : Int))).length ≤ sizeLine := by rw [sizeLine_eq]; omega
  simp only [addD, if_pos h3]
  rfl
theorem tag_ev {n : Nat} (h : n < 10) {ρ : Rho} (e : ρ[3]? = some (some (.int ((n : Nat) : Int), 0))) : opN [.ex (mC (.str "t")), .ex (opN [.nm 3] strD)] addD ρ = .ok (.str (tagOf n), 0) ρ := by
  have t1 := tag_str n h
  have t2 := tag_add n h
  simp only [opN, evOs, evO, bindO, mC, lookOs, lookO, fin, cap, e, t1, t2, Nat.zero_le, if_true]
theorem range_f {f : List D → Option (Int × Nat)} {i : Nat} {d : D} {lo : Int} {n : Nat} {ρ : Rho} (e : ρ[i]? = some (some (d, 0))) (h : f [d] = some (lo, n)) : mRange f [.nm i] ρ = .ok (rngD lo n) ρ := by
  simp only [mRange, evOs, evO, bindO, e, rangeFin, lookOs, lookO, cap, Nat.zero_le, if_true, h]
theorem range_nat {k : Nat} (hk : k < 1000000) : rangeD1 [.int (k : Nat)] = some (0, k) := by
  have hr : -(2 ^ 62) ≤ ((k : Nat) : Int) ∧ ((k : Nat) : Int) < 2 ^ 62 := by omega
  simp only [rangeD1, if_pos hr, Int.toNat_natCast]
theorem range_nm {i : Nat} {k : Nat} {ρ : Rho} (e : ρ[i]? = some (some (.int ((k : Nat) : Int), 0))) (hk : k < 1000000) : mRange rangeD1 [.nm i] ρ = .ok (rngD 0 k) ρ := range_f e (range_nat hk)
theorem comp_tup9 {R : Rho → Out (List D)} {G : ME} {ds xs : List D} {x0 x1 x2 x3 x4 x5 x6 x7 x8 x9 y0 : Option Val} (r1 : R [x0, x1, x2, x3, x4, x5, x6, x7, x8, x9] = .ok ds [x0, x1, x2, x3, x4, x5, x6, x7, x8, x9])
    (ec : compK (.nm 9) tY G [9] .ok ds [] [x0, x1, x2, x3, x4, x5, x6, x7, x8, none] = .ok xs [y0, x1, x2, x3, x4, x5, x6, x7, x8, none]) :
    opN [.ex (mLc R (.nm 9) (tY) G [9])] tupleD [x0, x1, x2, x3, x4, x5, x6, x7, x8, x9] = .ok (.tup xs, 0) [y0, x1, x2, x3, x4, x5, x6, x7, x8, none] := by
  simp [sSeq, sIf, sAsg, sRet, sSkip, sPar, sSetI, sFor, mRange, rangeFin, rangeD1, opN, evOs, evO, bindO, DL.bindG, lookOs, lookO, fin, cap, mC, mN, mMv, mB, mIf, mOr, mAnd, mNot, mAndV, mNotV, mCall, callF, takeOs, giveOs, runD, outP, orF, addD, subD, mulA, mulD, repD, modD, fdivD, powD, absD, DL.intD, lenD, lstD, tupD, cmpD, atD, ixD, setFin, topOf, setID, evMs, setRs, asgT, asgTs, D.box, List.range, List.range.loop, sizeLine_eq, mTru, truB, sDrop, mMut, mutFin, sAsgT, mIt, itD, mLc, lcFin, wipeR, tupleD, r1, ec]
structure GoodV (ks : List Str) (vs : List Vr) : Prop where
  len : vs.length ≤ 3
  nd : (vs.map Prod.fst).Nodup
  leaf : ∃ v ∈ vs, v.2 = []
  tag : ∀ v ∈ vs, ∃ n : Nat, n < 10 ∧ v.1 = tagOf n
  ch : ∀ v ∈ vs, v.2.length ≤ 3 ∧ ∀ c ∈ v.2, c ∈ ks
structure Good (S : Sch) : Prop where
  keys : S.map Prod.fst = (["root", "b2", "c"] : List Str).take S.length
  len0 : 0 < S.length
  len1 : S.length ≤ 3
  vr : ∀ p ∈ S, GoodV (S.map Prod.fst) p.2
section
variable {ks : List Str} {x1 x4 x6 x8 : Option Val} {S : Sch}
theorem turn_ok {d : D} (hd : Pot d) (h1 : x1 = some (.lst (ks.map D.str), 0)) (hk0 : 0 < ks.length) (hk1 : ks.length ≤ 3) {n : Nat} (hn : n + 1 < 10) (vs : List Vr) (hv : vs.length < 100) (x7 x9 : Option Val) :
    ∃ d' cs x7', Pot d' ∧ cs.length ≤ 3 ∧ (∀ c ∈ cs, c ∈ ks) ∧ (sSeq (sAsg 3 (opN [.nm 3, .ex (mC (.int 1))] addD))
  (sSeq (sAsg 7 (mCall mf__law_pick [.nm 0, .ex (opN [.ex (mC (.int 0)), .ex (mC (.int 1)), .ex (mC (.int 2)), .ex (mC (.int 2)), .ex (mC (.int 3))] lstD)]))
  (sDrop (mMut 5 isLst [.ex (opN [.ex (opN [.ex (mC (.str "t")), .ex (opN [.nm 3] strD)] addD), .ex (opN [.ex (mLc (mRange rangeD1 [.nm 7]) (.nm 9) (tY) (mCall mf__law_pick [.nm 0, .nm 1]) [9])] tupleD)] tupD)] appD))))
      [some (d, 1), x1, some (schD S, 1), some (.int n, 0), x4, some (.lst (vs.map varD), 1), x6, x7, x8, x9] =
      .nx [some (d', 1), x1, some (schD S, 1), some (.int ((n + 1 : Nat) : Int), 0), x4, some (.lst ((vs ++ [(tagOf (n + 1), cs)]).map varD), 1), x6, x7', x8, none] := by
  subst h1
  obtain ⟨m, d1, hd1, hm, e1⟩ := pick hd (items := [.int 0, .int 1, .int 2, .int 2, .int 3]) (by simp) (by simp) 0 (.inl rfl)
  obtain ⟨k, rfl, hk⟩ : ∃ k : Nat, m = .int (k : Int) ∧ k ≤ 3 := by
    simp only [List.mem_cons, List.not_mem_nil, or_false] at hm
    rcases hm with rfl | rfl | rfl | rfl | rfl
    · exact ⟨0, rfl, by omega⟩
    · exact ⟨1, rfl, by omega⟩
    · exact ⟨2, rfl, by omega⟩
    · exact ⟨2, rfl, by omega⟩
    · exact ⟨3, rfl, by omega⟩
  let I : Rho → Prop := fun ρ => ∃ d, Pot d ∧ ρ = [some (d, 1), some (.lst (ks.map D.str), 0), some (schD S, 1), some (.int ((n : Int) + 1), 0), x4, some (.lst (vs.map varD), 1), x6, some (.int (k : Int), 0), x8, none]
  obtain ⟨xs, ρ', ec, ⟨d2, hd2, rfl⟩, hx⟩ := comp_rel (t := .nm 9) (m := mCall mf__law_pick [.nm 0, .nm 1]) (vs := [9]) (R := fun _ x => ∃ c ∈ ks, x = .str c) I (rngD 0 k) (fun i hi ρ ⟨d, hd, e⟩ => by
    subst e
    obtain ⟨x, d', hd', hx, e⟩ := pick hd (items := ks.map D.str) (by simpa using hk0) (by simp; omega) 0 (.inl rfl)
    obtain ⟨c, hc, rfl⟩ := List.mem_map.mp hx
    exact ⟨_, _, _, by simp [asgT]; rfl, by simp [sSeq, sIf, sAsg, sRet, sSkip, sPar, sSetI, sFor, mRange, rangeFin, rangeD1, opN, evOs, evO, bindO, DL.bindG, lookOs, lookO, fin, cap, mC, mN, mMv, mB, mIf, mOr, mAnd, mNot, mAndV, mNotV, mCall, callF, takeOs, giveOs, runD, outP, orF, addD, subD, mulA, mulD, repD, modD, fdivD, powD, absD, DL.intD, lenD, lstD, tupD, cmpD, atD, ixD, setFin, topOf, setID, evMs, setRs, asgT, asgTs, D.box, List.range, List.range.loop, sizeLine_eq, mTru, truB, sDrop, mMut, mutFin, sAsgT, mIt, itD, e]; exact ⟨rfl, rfl⟩, ⟨c, hc, rfl⟩, d', hd', by simp [wipeR]⟩) [] [some (d1, 1), some (.lst (ks.map D.str), 0), some (schD S, 1), some (.int ((n : Int) + 1), 0), x4, some (.lst (vs.map varD), 1), x6, some (.int (k : Int), 0), x8, none] ⟨d1, hd1, rfl⟩ (by simp [rngD]; omega)
  have hcs : ∃ cs : List Str, xs = cs.map D.str ∧ cs.length = k ∧ ∀ c ∈ cs, c ∈ ks := by
    have l := hx.length
    simp only [rngD, List.length_map, List.length_range] at l
    clear ec hm
    generalize rngD 0 k = ds at hx
    clear I
    rw [l]
    clear l hk e1
    induction hx with
    | nil => exact ⟨[], rfl, rfl, fun _ h => nomatch h⟩
    | cons r _ ih =>
      obtain ⟨c, hc, rfl⟩ := r
      obtain ⟨cs, rfl, l, h⟩ := ih
      exact ⟨c :: cs, rfl, by simp, fun c' h' => by
        rcases List.mem_cons.mp h' with rfl | h'
        · exact hc
        · exact h c' h'⟩
  obtain ⟨cs, rfl, hl, hc⟩ := hcs
  refine ⟨d2, cs, some (.int (k : Int), 0), hd2, by omega, hc, ?_⟩
  have tv : ∀ ρ : Rho, ρ[3]? = some (some (.int ((n : Int) + 1), 0)) → opN [.ex (mC (.str "t")), .ex (opN [.nm 3] strD)] addD ρ = .ok (.str (tagOf (n + 1)), 0) ρ := fun ρ e => tag_ev hn (by rw [e]; simp)
  have c1 : ((n + 1 : Nat) : Int) = (n : Int) + 1 := by omega
  have hv' : vs.length < 16777216 := by omega
  have hP : mCall mf__law_pick [.nm 0, .ex (opN [.ex (mC (.int 0)), .ex (mC (.int 1)), .ex (mC (.int 2)), .ex (mC (.int 2)), .ex (mC (.int 3))] lstD)] [some (d, 1), some (.lst (ks.map D.str), 0), some (schD S, 1), some (.int ((n : Int) + 1), 0), x4, some (.lst (vs.map varD), 1), x6, x7, x8, x9] = .ok (.int (k : Int), 0) [some (d1, 1), some (.lst (ks.map D.str), 0), some (schD S, 1), some (.int ((n : Int) + 1), 0), x4, some (.lst (vs.map varD), 1), x6, x7, x8, x9] := by
    simp [sSeq, sIf, sAsg, sRet, sSkip, sPar, sSetI, sFor, mRange, rangeFin, rangeD1, opN, evOs, evO, bindO, DL.bindG, lookOs, lookO, fin, cap, mC, mN, mMv, mB, mIf, mOr, mAnd, mNot, mAndV, mNotV, mCall, callF, takeOs, giveOs, runD, outP, orF, addD, subD, mulA, mulD, repD, modD, fdivD, powD, absD, DL.intD, lenD, lstD, tupD, cmpD, atD, ixD, setFin, topOf, setID, evMs, setRs, asgT, asgTs, D.box, List.range, List.range.loop, sizeLine_eq, mTru, truB, sDrop, mMut, mutFin, sAsgT, mIt, itD, e1]
  have hL : opN [.ex (mLc (mRange rangeD1 [.nm 7]) (.nm 9) (tY) (mCall mf__law_pick [.nm 0, .nm 1]) [9])] tupleD [some (d1, 1), some (.lst (ks.map D.str), 0), some (schD S, 1), some (.int ((n : Int) + 1), 0), x4, some (.lst (vs.map varD), 1), x6, some (.int (k : Int), 0), x8, x9] = .ok (.tup (cs.map D.str), 0) [some (d2, 1), some (.lst (ks.map D.str), 0), some (schD S, 1), some (.int ((n : Int) + 1), 0), x4, some (.lst (vs.map varD), 1), x6, some (.int (k : Int), 0), x8, none] := comp_tup9 (range_nm rfl (by omega)) ec
  generalize opN [.ex (mC (.str "t")), .ex (opN [.nm 3] strD)] addD = G at tv ⊢
  generalize opN [.ex (mLc (mRange rangeD1 [.nm 7]) (.nm 9) (tY) (mCall mf__law_pick [.nm 0, .nm 1]) [9])] tupleD = L at hL ⊢
  generalize mCall mf__law_pick [.nm 0, .ex (opN [.ex (mC (.int 0)), .ex (mC (.int 1)), .ex (mC (.int 2)), .ex (mC (.int 2)), .ex (mC (.int 3))] lstD)] = P at hP ⊢
  have hA := app_ev (j := 5) (m := opN [.ex G, .ex L] tupD) (ρ := [some (d1, 1), some (.lst (ks.map D.str), 0), some (schD S, 1), some (.int ((n : Int) + 1), 0), x4, some (.lst (vs.map varD), 1), x6, some (.int (k : Int), 0), x8, x9])
    (ρ1 := [some (d2, 1), some (.lst (ks.map D.str), 0), some (schD S, 1), some (.int ((n : Int) + 1), 0), x4, some (.lst (vs.map varD), 1), x6, some (.int (k : Int), 0), x8, none]) (d := varD (tagOf (n + 1), cs)) (k := 0) (l := 1) (xs := vs.map varD) rfl
    (tup2_ev (tv _ rfl) hL) rfl (by rw [List.length_map]; omega)
  generalize mMut 5 isLst [.ex (opN [.ex G, .ex L] tupD)] appD = A at hA ⊢
  clear ec hx e1 hm I
  simp [sSeq, sIf, sAsg, sRet, sSkip, sPar, sSetI, sFor, mRange, rangeFin, rangeD1, opN, evOs, evO, bindO, DL.bindG, lookOs, lookO, fin, cap, mC, mN, mMv, mB, mIf, mOr, mAnd, mNot, mAndV, mNotV, mCall, callF, takeOs, giveOs, runD, outP, orF, addD, subD, mulA, mulD, repD, modD, fdivD, powD, absD, DL.intD, lenD, lstD, tupD, cmpD, atD, ixD, setFin, topOf, setID, evMs, setRs, asgT, asgTs, D.box, List.range, List.range.loop, sizeLine_eq, mTru, truB, sDrop, mMut, mutFin, sAsgT, mIt, itD, hP, hA]
end
end K02
end
section
set_option Elab.async false
set_option linter.all false
set_option maxRecDepth 100000
set_option maxHeartbeats 2000000
namespace K02
open PySem L2 DL
theorem cut_from {α : Type} {xs : List α} {a : Nat} (h : a ≤ xs.length) : cutG xs (some (a : Nat)) none = xs.drop a := by
  unfold cutG
  rw [HT.sIx_nat, HT.sIx_none, Nat.min_eq_left h, List.take_of_length_le (by simp)]
theorem cut_to {α : Type} {xs : List α} {a : Nat} (h : a ≤ xs.length) : cutG xs none (some (a : Nat)) = xs.take a := by
  unfold cutG
  rw [HT.sIx_nat, HT.sIx_none, Nat.min_eq_left h, List.drop_zero, Nat.sub_zero]
/-- what holds of the variants while they grow -/
structure Grow (ks : List Str) (n0 j : Nat) (vs : List Vr) : Prop where
  tags : vs.map Prod.fst = (List.range' n0 (j + 1)).map tagOf
  leaf : ∃ v ∈ vs, v.2 = []
  ch : ∀ v ∈ vs, v.2.length ≤ 3 ∧ ∀ c ∈ v.2, c ∈ ks
theorem Grow.len {ks : List Str} {n0 j : Nat} {vs : List Vr} (g : Grow ks n0 j vs) : vs.length = j + 1 := by
  have := congrArg List.length g.tags
  simpa using this
theorem Grow.step {ks : List Str} {n0 j : Nat} {vs : List Vr} {cs : List Str} (g : Grow ks n0 j vs) (h1 : cs.length ≤ 3) (h2 : ∀ c ∈ cs, c ∈ ks) : Grow ks n0 (j + 1) (vs ++ [(tagOf (n0 + j + 1), cs)]) where
  tags := by rw [List.range'_concat (n := j + 1), List.map_append, List.map_append, g.tags]; simp [Nat.add_assoc]
  leaf := let ⟨v, hv, e⟩ := g.leaf; ⟨v, by simp [hv], e⟩
  ch := fun v hv => by
    rcases List.mem_append.mp hv with hv | hv
    · exact g.ch v hv
    · cases List.mem_singleton.mp hv
      exact ⟨h1, h2⟩
theorem Grow.good {ks : List Str} {n0 j a : Nat} {vs : List Vr} (g : Grow ks n0 j vs) (hj : j ≤ 2) (hn : n0 + j < 10) : GoodV ks (vs.drop a ++ vs.take a) where
  len := by have := g.len; simp; omega
  nd := by
    have p : (vs.drop a ++ vs.take a).map Prod.fst |>.Perm (vs.map Prod.fst) := by
      refine List.Perm.map _ ?_
      have := List.perm_append_comm (l₁ := vs.drop a) (l₂ := vs.take a)
      rwa [List.take_append_drop] at this
    refine p.nodup_iff.mpr ?_
    rw [g.tags]
    refine List.pairwise_map.mpr (List.Pairwise.imp_of_mem ?_ (List.nodup_range' (s := n0) (n := j + 1) (step := 1) (by decide)))
    intro x y hx hy ne e
    have h1 := List.mem_range'_1.mp hx
    have h2 := List.mem_range'_1.mp hy
    exact ne (tag_inj x (by omega) y (by omega) e)
  leaf := by
    obtain ⟨v, hv, e⟩ := g.leaf
    refine ⟨v, ?_, e⟩
    rw [← List.take_append_drop a vs] at hv
    rcases List.mem_append.mp hv with hv | hv
    · exact List.mem_append_right _ hv
    · exact List.mem_append_left _ hv
  tag := fun v hv => by
    have hv' : v ∈ vs := by
      rcases List.mem_append.mp hv with hv | hv
      · exact List.mem_of_mem_drop hv
      · exact List.mem_of_mem_take hv
    have : v.1 ∈ vs.map Prod.fst := List.mem_map_of_mem hv'
    rw [g.tags] at this
    obtain ⟨m, hm, e⟩ := List.mem_map.mp this
    have := List.mem_range'_1.mp hm
    exact ⟨m, by omega, e.symm⟩
  ch := fun v hv => g.ch v (by
    rcases List.mem_append.mp hv with hv | hv
    · exact List.mem_of_mem_drop hv
    · exact List.mem_of_mem_take hv)
theorem put_sch {S : Sch} {k : Str} {vs : List Vr} (h : k ∉ S.map Prod.fst) (hl : S.length < 1000) : setID (schD S) (.str k) (.tup (vs.map varD)) = some (schD (S ++ [(k, vs)])) := by
  have h1 : ((S.map kvD).map Prod.fst).length < sizeLine := ok_lt (by simp; omega)
  have h2 : ((S.map kvD).any fun kv => decide (kv.1 = Sum.inr k)) = false := by
    rw [List.any_eq_false]
    intro p hp
    obtain ⟨q, hq, rfl⟩ := List.mem_map.mp hp
    simp only [kvD, decide_eq_true_eq]
    intro e
    exact h (List.mem_map.mpr ⟨q, hq, Sum.inr.inj (of_decide_eq_true e)⟩)
  simp only [setID, schD, D.dict, keyD, if_pos h1, zip_fst_snd, putG, h2, Bool.false_eq_true, if_false, List.map_append, List.map_cons, List.map_nil, kvD]
section
variable {ks : List Str} {S : Sch}
abbrev BIN : MS := sSeq (sAsg 3 (opN [.nm 3, .ex (mC (.int 1))] addD))
  (sSeq (sAsg 7 (mCall mf__law_pick [.nm 0, .ex (opN [.ex (mC (.int 0)), .ex (mC (.int 1)), .ex (mC (.int 2)), .ex (mC (.int 2)), .ex (mC (.int 3))] lstD)]))
  (sDrop (mMut 5 isLst [.ex (opN [.ex (opN [.ex (mC (.str "t")), .ex (opN [.nm 3] strD)] addD), .ex (opN [.ex (mLc (mRange rangeD1 [.nm 7]) (.nm 9) (tY) (mCall mf__law_pick [.nm 0, .nm 1]) [9])] tupleD)] tupD)] appD)))
theorem grow_ok {d : D} (hd : Pot d) (hk0 : 0 < ks.length) (hk1 : ks.length ≤ 3) {n0 m : Nat} (hm : m ≤ 2) (hn : n0 + m < 10) (x4 x6 x7 x8 x9 : Option Val) :
    ∃ d' vs x6' x7' x9', Pot d' ∧ Grow ks n0 m vs ∧ forD (.nm 6) BIN (rngD 0 m) [some (d, 1), some (.lst (ks.map D.str), 0), some (schD S, 1), some (.int n0, 0), x4, some (.lst ([((tagOf n0, []) : Vr)].map varD), 1), x6, x7, x8, x9] =
      .nx [some (d', 1), some (.lst (ks.map D.str), 0), some (schD S, 1), some (.int ((n0 + m : Nat) : Int), 0), x4, some (.lst (vs.map varD), 1), x6', x7', x8, x9'] := by
  let I : Nat → Rho → Prop := fun j ρ => ∃ d vs x6 x7 x9, Pot d ∧ Grow ks n0 j vs ∧ ρ = [some (d, 1), some (.lst (ks.map D.str), 0), some (schD S, 1), some (.int ((n0 + j : Nat) : Int), 0), x4, some (.lst (vs.map varD), 1), x6, x7, x8, x9]
  obtain ⟨ρ', e, d', vs, x6', x7', x9', hd', g, rfl⟩ := forD_at (t := .nm 6) (body := BIN) I (rngD 0 m) (fun j q hq ρ ⟨d, vs, x6, x7, x9, hd, g, e⟩ => by
    subst e
    have hj : j < m := by
      have := (List.getElem?_eq_some_iff.mp hq).1
      simpa [rngD] using this
    obtain ⟨d', cs, x7', hd', c1, c2, et⟩ := turn_ok (S := S) (x1 := some (.lst (ks.map D.str), 0)) (x4 := x4) (x6 := some (q, 0)) (x8 := x8) hd rfl hk0 hk1 (n := n0 + j) (by omega) vs (by rw [g.len]; omega) x7 x9
    exact ⟨_, _, by simp only [asgT]; rfl, et, d', vs ++ [(tagOf (n0 + j + 1), cs)], some (q, 0), x7', none, hd', g.step c1 c2, rfl⟩) [some (d, 1), some (.lst (ks.map D.str), 0), some (schD S, 1), some (.int n0, 0), x4, some (.lst ([((tagOf n0, []) : Vr)].map varD), 1), x6, x7, x8, x9] ⟨d, [(tagOf n0, [])], x6, x7, x9, hd, ⟨rfl, ⟨_, List.mem_singleton_self _, rfl⟩, fun v hv => by
      cases List.mem_singleton.mp hv
      exact ⟨by simp, fun c hc => nomatch hc⟩⟩, rfl⟩
  have hl : (rngD 0 m).length = m := by simp [rngD]
  rw [hl] at g e
  exact ⟨d', vs, x6', x7', x9', hd', g, e⟩
end
end K02
end
section
set_option Elab.async false
set_option linter.all false
set_option maxRecDepth 100000
set_option maxHeartbeats 2000000
namespace K02
open PySem L2 DL
section
variable {ks : List Str} {S : Sch}
abbrev TAGE : ME := opN [.ex (mC (.str "t")), .ex (opN [.nm 3] strD)] addD
abbrev PK : ME := mCall mf__law_pick [.nm 0, .ex (opN [.ex (mC (.int 1)), .ex (mC (.int 1)), .ex (mC (.int 2)), .ex (mC (.int 2))] lstD)]
abbrev ROT : ME := opN [.ex (opN [.ex (opN [.nm 5, .ex (mInt (mN 8))] (slD true false)), .ex (opN [.nm 5, .ex (mInt (mN 8))] (slD false true))] addD)] tupleD
abbrev BOUT : MS := sSeq (sAsg 5 (opN [.ex (opN [.ex (opN [.ex (mC (.str "t")), .ex (opN [.nm 3] strD)] addD), .ex (opN [] tupD)] tupD)] lstD))
  (sSeq (sFor (.nm 6) (mRange rangeD1 [.ex (mCall mf__law_pick [.nm 0, .ex (opN [.ex (mC (.int 1)), .ex (mC (.int 1)), .ex (mC (.int 2)), .ex (mC (.int 2))] lstD)])]) BIN)
  (sSeq (sPar [3, 8] [opN [.nm 3, .ex (mC (.int 1))] addD, mCall mf__law_below [.nm 0, .ex (opN [.nm 5] lenD)]])
  (sSetI 2 (.nm 4) (opN [.ex (opN [.ex (opN [.nm 5, .ex (mInt (mN 8))] (slD true false)), .ex (opN [.nm 5, .ex (mInt (mN 8))] (slD false true))] addD)] tupleD))))
theorem range_x {f : List D → Option (Int × Nat)} {m : ME} {d : D} {k : Nat} {lo : Int} {n : Nat} {ρ ρ1 : Rho} (e : m ρ = .ok (d, k) ρ1) (h : f [d] = some (lo, n)) : mRange f [.ex m] ρ = .ok (rngD lo n) ρ1 := by
  simp only [mRange, evOs, evO, bindO, e, rangeFin, lookOs, lookO, h]
theorem rot_ev {x0 x1 x2 x3 x4 x6 x7 x9 : Option Val} {xs : List D} {a : Nat} (h : a ≤ xs.length) (hl : xs.length < 1000) : ROT [x0, x1, x2, x3, x4, some (.lst xs, 1), x6, x7, some (.int (a : Nat), 0), x9] = .ok (.tup (xs.drop a ++ xs.take a), 0) [x0, x1, x2, x3, x4, some (.lst xs, 1), x6, x7, some (.int (a : Nat), 0), x9] := by
  have e1 : opN [.nm 5, .ex (mInt (mN 8))] (slD true false) [x0, x1, x2, x3, x4, some (.lst xs, 1), x6, x7, some (.int (a : Nat), 0), x9] = .ok (.lst (xs.drop a), 1) [x0, x1, x2, x3, x4, some (.lst xs, 1), x6, x7, some (.int (a : Nat), 0), x9] :=
    ev_nx rfl (ev_I (ev_N rfl)) rfl (Nat.le_refl _) (by simp only [slD, slV, cut_from h])
  have e2 : opN [.nm 5, .ex (mInt (mN 8))] (slD false true) [x0, x1, x2, x3, x4, some (.lst xs, 1), x6, x7, some (.int (a : Nat), 0), x9] = .ok (.lst (xs.take a), 1) [x0, x1, x2, x3, x4, some (.lst xs, 1), x6, x7, some (.int (a : Nat), 0), x9] :=
    ev_nx rfl (ev_I (ev_N rfl)) rfl (Nat.le_refl _) (by simp only [slD, slV, cut_to h])
  have hz : (xs.drop a).length + (xs.take a).length ≤ sizeLine := ok_len (by simp; omega)
  have e3 : addD [.lst (xs.drop a), .lst (xs.take a)] = some (.lst (xs.drop a ++ xs.take a), 1) := by simp only [addD, if_pos hz]
  exact ev_x (ev_xx e1 e2 e3) rfl
theorem out_ok {d : D} (hd : Pot d) (hk0 : 0 < ks.length) (hk1 : ks.length ≤ 3) {n : Nat} (hn : n + 2 < 10) {k : Str} (hkS : k ∉ S.map Prod.fst) (hS : S.length ≤ 3) (x5 x6 x7 x8 x9 : Option Val) :
    ∃ d' vs n' x5' x6' x7' x8' x9', Pot d' ∧ GoodV ks vs ∧ n' ≤ n + 3 ∧ BOUT [some (d, 1), some (.lst (ks.map D.str), 0), some (schD S, 1), some (.int n, 0), some (.str k, 0), x5, x6, x7, x8, x9] =
      .nx [some (d', 1), some (.lst (ks.map D.str), 0), some (schD (S ++ [(k, vs)]), 1), some (.int ((n' : Nat) : Int), 0), some (.str k, 0), x5', x6', x7', x8', x9'] := by
  obtain ⟨m0, d1, hd1, hm0, e1⟩ := pick hd (items := [.int 1, .int 1, .int 2, .int 2]) (by simp) (by simp) 0 (.inl rfl)
  obtain ⟨m, rfl, hm⟩ : ∃ m : Nat, m0 = .int (m : Int) ∧ m ≤ 2 := by
    simp only [List.mem_cons, List.not_mem_nil, or_false] at hm0
    rcases hm0 with rfl | rfl | rfl | rfl
    · exact ⟨1, rfl, by omega⟩
    · exact ⟨1, rfl, by omega⟩
    · exact ⟨2, rfl, by omega⟩
    · exact ⟨2, rfl, by omega⟩
  obtain ⟨d2, vs, x6', x7', x9', hd2, g, ef⟩ := grow_ok (S := S) hd1 hk0 hk1 (n0 := n) hm (by omega) (some (.str k, 0)) x6 x7 x8 x9
  obtain ⟨r, d3, hd3, r0, r1, e3⟩ := below hd2 (b := vs.length) (by have := g.len; omega) (by have := g.len; omega)
  obtain ⟨a, rfl⟩ : ∃ a : Nat, r = a := ⟨r.toNat, by omega⟩
  have ha : a < vs.length := by omega
  have gl := g.len
  have gg := g.good (a := a) hm (by omega)
  refine ⟨d3, vs.drop a ++ vs.take a, n + m + 1, some (.lst (vs.map varD), 1), x6', x7', some (.int (a : Int), 0), x9', hd3, gg, by omega, ?_⟩
  have E1 : opN [.ex (opN [.ex TAGE, .ex (opN [] tupD)] tupD)] lstD [some (d, 1), some (.lst (ks.map D.str), 0), some (schD S, 1), some (.int n, 0), some (.str k, 0), x5, x6, x7, x8, x9] = .ok (.lst ([((tagOf n, []) : Vr)].map varD), 1) [some (d, 1), some (.lst (ks.map D.str), 0), some (schD S, 1), some (.int n, 0), some (.str k, 0), x5, x6, x7, x8, x9] := by
    have h1 : [D.tup [.str (tagOf n), .tup []]].length ≤ sizeLine := Nat.le_of_lt (Nat.lt_of_lt_of_le (by decide : 1 < 2) two_le)
    exact ev_x (tup2_ev (tag_ev (by omega) rfl) rfl) (by simp only [lstD, if_pos h1]; rfl)
  have EP : PK [some (d, 1), some (.lst (ks.map D.str), 0), some (schD S, 1), some (.int n, 0), some (.str k, 0), some (.lst ([((tagOf n, []) : Vr)].map varD), 1), x6, x7, x8, x9] = .ok (.int (m : Nat), 0) [some (d1, 1), some (.lst (ks.map D.str), 0), some (schD S, 1), some (.int n, 0), some (.str k, 0), some (.lst ([((tagOf n, []) : Vr)].map varD), 1), x6, x7, x8, x9] := by simp [sSeq, sIf, sAsg, sRet, sSkip, sPar, sSetI, sFor, mRange, rangeFin, rangeD1, opN, evOs, evO, bindO, DL.bindG, lookOs, lookO, fin, cap, mC, mN, mMv, mB, mIf, mOr, mAnd, mNot, mAndV, mNotV, mCall, callF, takeOs, giveOs, runD, outP, orF, addD, subD, mulA, mulD, repD, modD, fdivD, powD, absD, DL.intD, lenD, lstD, tupD, cmpD, atD, ixD, setFin, topOf, setID, evMs, setRs, asgT, asgTs, D.box, List.range, List.range.loop, sizeLine_eq, mTru, truB, sDrop, mMut, mutFin, sAsgT, mIt, itD, e1]
  have E2 : mRange rangeD1 [.ex PK] [some (d, 1), some (.lst (ks.map D.str), 0), some (schD S, 1), some (.int n, 0), some (.str k, 0), some (.lst ([((tagOf n, []) : Vr)].map varD), 1), x6, x7, x8, x9] = .ok (rngD 0 m) [some (d1, 1), some (.lst (ks.map D.str), 0), some (schD S, 1), some (.int n, 0), some (.str k, 0), some (.lst ([((tagOf n, []) : Vr)].map varD), 1), x6, x7, x8, x9] :=
    range_x (d := .int (m : Nat)) (k := 0) EP (range_nat (by omega))
  have E3 : sPar [3, 8] [opN [.nm 3, .ex (mC (.int 1))] addD, mCall mf__law_below [.nm 0, .ex (opN [.nm 5] lenD)]] [some (d2, 1), some (.lst (ks.map D.str), 0), some (schD S, 1), some (.int ((n + m : Nat) : Int), 0), some (.str k, 0), some (.lst (vs.map varD), 1), x6', x7', x8, x9'] =
      .nx [some (d3, 1), some (.lst (ks.map D.str), 0), some (schD S, 1), some (.int ((n + m + 1 : Nat) : Int), 0), some (.str k, 0), some (.lst (vs.map varD), 1), x6', x7', some (.int (a : Int), 0), x9'] := by
    simp [sSeq, sIf, sAsg, sRet, sSkip, sPar, sSetI, sFor, mRange, rangeFin, rangeD1, opN, evOs, evO, bindO, DL.bindG, lookOs, lookO, fin, cap, mC, mN, mMv, mB, mIf, mOr, mAnd, mNot, mAndV, mNotV, mCall, callF, takeOs, giveOs, runD, outP, orF, addD, subD, mulA, mulD, repD, modD, fdivD, powD, absD, DL.intD, lenD, lstD, tupD, cmpD, atD, ixD, setFin, topOf, setID, evMs, setRs, asgT, asgTs, D.box, List.range, List.range.loop, sizeLine_eq, mTru, truB, sDrop, mMut, mutFin, sAsgT, mIt, itD, e3]
  have E4 : sSetI 2 (.nm 4) ROT [some (d3, 1), some (.lst (ks.map D.str), 0), some (schD S, 1), some (.int ((n + m + 1 : Nat) : Int), 0), some (.str k, 0), some (.lst (vs.map varD), 1), x6', x7', some (.int (a : Int), 0), x9'] =
      .nx [some (d3, 1), some (.lst (ks.map D.str), 0), some (schD (S ++ [(k, vs.drop a ++ vs.take a)]), 1), some (.int ((n + m + 1 : Nat) : Int), 0), some (.str k, 0), some (.lst (vs.map varD), 1), x6', x7', some (.int (a : Int), 0), x9'] := by
    have hr := rot_ev (x0 := some (d3, 1)) (x1 := some (.lst (ks.map D.str), 0)) (x2 := some (schD S, 1)) (x3 := some (.int ((n + m + 1 : Nat) : Int), 0)) (x4 := some (.str k, 0)) (x6 := x6') (x7 := x7') (x9 := x9') (xs := vs.map varD) (a := a) (by simp; omega) (by simp; omega)
    rw [← List.map_drop, ← List.map_take, ← List.map_append] at hr
    have hp := put_sch (S := S) (k := k) (vs := vs.drop a ++ vs.take a) hkS (by omega)
    exact setI_nm hr rfl rfl rfl hp
  refine (seq_nx (asg_ev E1 (by simp))).trans ?_
  refine (seq_nx ((for_ev E2).trans ef)).trans ?_
  exact (seq_nx E3).trans E4
end
end K02
end
section
set_option Elab.async false
set_option linter.all false
set_option maxRecDepth 100000
set_option maxHeartbeats 2000000
namespace K02
open PySem L2 DL
abbrev KEYS : List Str := ["root", "b2", "c"]
theorem keys_fresh : ∀ n ≤ 3, ∀ j < n, ∀ k, (KEYS.take n)[j]? = some k → k ∉ (KEYS.take n).take j := by
  intro n hn j hj k e
  have : j < 3 := by omega
  rcases n with _ | _ | _ | _ | n <;> rcases j with _ | _ | _ | j <;> first | omega | (simp [KEYS] at e; subst e; decide)
theorem full_ok {d : D} (hd : Pot d) : ∃ S d', Good S ∧ Pot d' ∧ mf__law_full_schema [(d, 1)] = .ok (schD S, 1) [some (d', 1)] := by
  obtain ⟨r, d1, hd1, r0, r1, e1⟩ := below hd (b := 3) (by decide) (by decide)
  obtain ⟨q, rfl⟩ : ∃ q : Nat, r = q := ⟨r.toNat, by omega⟩
  have hq : q < 3 := by omega
  generalize hks : KEYS.take (1 + q) = ks
  have hk0 : 0 < ks.length := by subst hks; simp [KEYS]; omega
  have hk1 : ks.length ≤ 3 := by subst hks; simp [KEYS]; omega
  have E0 : sPar [1, 2, 3] [opN [.ex (opN [.ex (mC (.str "root")), .ex (mC (.str "b2")), .ex (mC (.str "c"))] lstD), .ex (mInt (opN [.ex (mC (.int 1)), .ex (mCall mf__law_below [.nm 0, .ex (mC (.int 3))])] addD))] (slD false true), dicD, mC (.int 0)] [some (d, 1), none, none, none, none, none, none, none, none, none] =
      .nx [some (d1, 1), some (.lst (ks.map D.str), 1), some (schD [], 1), some (.int ((0 : Nat) : Int), 0), none, none, none, none, none, none] := by
    have A1 : opN [.ex (mC (.str "root")), .ex (mC (.str "b2")), .ex (mC (.str "c"))] lstD [some (d, 1), none, none, none, none, none, none, none, none, none] = .ok (.lst (KEYS.map D.str), 1) [some (d, 1), none, none, none, none, none, none, none, none, none] := by
      have h3 : [D.str "root", D.str "b2", D.str "c"].length ≤ sizeLine := ok_len (by simp)
      simp only [opN, evOs, evO, bindO, mC, lookOs, lookO, fin, lstD, if_pos h3]
      rfl
    have A2 : mCall mf__law_below [.nm 0, .ex (mC (.int 3))] [some (d, 1), none, none, none, none, none, none, none, none, none] = .ok (.int (q : Int), 0) [some (d1, 1), none, none, none, none, none, none, none, none, none] := by simp [sSeq, sIf, sAsg, sRet, sSkip, sPar, sSetI, sFor, mRange, rangeFin, rangeD1, opN, evOs, evO, bindO, DL.bindG, lookOs, lookO, fin, cap, mC, mN, mMv, mB, mIf, mOr, mAnd, mNot, mAndV, mNotV, mCall, callF, takeOs, giveOs, runD, outP, orF, addD, subD, mulA, mulD, repD, modD, fdivD, powD, absD, DL.intD, lenD, lstD, tupD, cmpD, atD, ixD, setFin, topOf, setID, evMs, setRs, asgT, asgTs, D.box, List.range, List.range.loop, sizeLine_eq, mTru, truB, sDrop, mMut, mutFin, sAsgT, mIt, itD, e1]
    have A3 : opN [.ex (mC (.int 1)), .ex (mCall mf__law_below [.nm 0, .ex (mC (.int 3))])] addD [some (d, 1), none, none, none, none, none, none, none, none, none] = .ok (.int ((1 + q : Nat) : Int), 0) [some (d1, 1), none, none, none, none, none, none, none, none, none] :=
      ev_xx ev_C A2 (by simp only [addD]; simp)
    have A4 : slD false true [.lst (KEYS.map D.str), .int ((1 + q : Nat) : Int)] = some (.lst (ks.map D.str), 1) := by
      have := cut_to (xs := KEYS.map D.str) (a := 1 + q) (by simp [KEYS]; omega)
      simp only [slD, slV, this, ← List.map_take, hks]
    have A5 := ev_xx A1 (ev_I A3) A4
    simp only [sPar, evMs, A5, bindO, dicD, mC]
    rfl
  let I : Nat → Rho → Prop := fun j ρ => ∃ d S n x4 x5 x6 x7 x8 x9, Pot d ∧ S.map Prod.fst = ks.take j ∧ (∀ p ∈ S, GoodV ks p.2) ∧ n ≤ 3 * j ∧ ρ = [some (d, 1), some (.lst (ks.map D.str), 0), some (schD S, 1), some (.int ((n : Nat) : Int), 0), x4, x5, x6, x7, x8, x9]
  obtain ⟨ρ', ef, d2, S, n, x4, x5, x6, x7, x8, x9, hd2, hS, hG, hn, rfl⟩ := forD_at (t := .nm 4) (body := BOUT) I (ks.map D.str) (fun j q' hq' ρ ⟨d, S, n, x4, x5, x6, x7, x8, x9, hd, hS, hG, hn, e⟩ => by
    subst e
    have hj : j < ks.length := by
      have := (List.getElem?_eq_some_iff.mp hq').1
      simpa using this
    have ek : ks[j]? = some ks[j] := by simp [hj]
    rw [List.getElem?_map, ek] at hq'
    cases hq'
    have hlen : S.length = j := by
      have := congrArg List.length hS
      simp at this
      omega
    have hf : ks[j] ∉ S.map Prod.fst := by
      rw [hS]
      have h1 : ks.length = 1 + q := by subst hks; simp [KEYS]; omega
      have ek' := ek
      subst hks
      exact keys_fresh (1 + q) (by omega) j (by omega) _ ek'
    obtain ⟨d', vs, n', x5', x6', x7', x8', x9', hd', gv, hn', eb⟩ := out_ok (S := S) hd hk0 hk1 (n := n) (by omega) hf (by omega) x5 x6 x7 x8 x9
    refine ⟨_, _, by simp only [asgT]; rfl, eb, d', S ++ [(ks[j], vs)], n', _, _, _, _, _, _, hd', ?_, ?_, by omega, rfl⟩
    · rw [List.map_append, hS, List.take_add_one, ek]; rfl
    · intro p hp
      rcases List.mem_append.mp hp with hp | hp
      · exact hG p hp
      · cases List.mem_singleton.mp hp
        exact gv) [some (d1, 1), some (.lst (ks.map D.str), 0), some (schD [], 1), some (.int ((0 : Nat) : Int), 0), none, none, none, none, none, none] ⟨d1, [], 0, _, _, _, _, _, _, hd1, rfl, (fun p hp => nomatch hp), by omega, rfl⟩
  have hS' : S.map Prod.fst = ks := by rw [hS]; simp
  have hl : S.length = ks.length := by rw [← hS']; simp
  refine ⟨S, d2, ⟨?_, by omega, by omega, fun p hp => by rw [hS']; exact hG p hp⟩, hd2, ?_⟩
  · rw [hS', hl, ← hks]; simp [KEYS]
  · have EM : mIt (mN 1) [some (d1, 1), some (.lst (ks.map D.str), 1), some (schD [], 1), some (.int ((0 : Nat) : Int), 0), none, none, none, none, none, none] = .ok (ks.map D.str) [some (d1, 1), some (.lst (ks.map D.str), 0), some (schD [], 1), some (.int ((0 : Nat) : Int), 0), none, none, none, none, none, none] := rfl
    have EB : ms__law_full_schema [some (d, 1), none, none, none, none, none, none, none, none, none] = .rt (schD S, 1) [some (d2, 1), some (.lst (ks.map D.str), 0), none, some (.int ((n : Nat) : Int), 0), x4, x5, x6, x7, x8, x9] := by
      unfold ms__law_full_schema
      refine (seq_nx E0).trans ((seq_nx ((for_ev EM).trans ef)).trans ?_)
      exact ret_ev rfl
    unfold mf__law_full_schema runD
    have e0 : ([(d, 1)] : List Val).map some ++ List.replicate (10 - 1) none = [some (d, 1), none, none, none, none, none, none, none, none, none] := rfl
    rw [e0, EB]
    rfl
end K02
end
section
set_option Elab.async false
set_option linter.all false
set_option maxRecDepth 100000
set_option maxHeartbeats 2000000
namespace K02
open PySem L2 DL
theorem lc_ev {mi : Rho → Out (List D)} {t : Tg} {tt : MT} {m : ME} {vs : List Nat} {ds xs : List D} {ρ ρ1 ρ2 : Rho} (h : mi ρ = .ok ds ρ1) (h2 : compK t tt m vs .ok ds [] (wipeR ρ1 vs) = .ok xs ρ2) : mLc mi t tt m vs ρ = .ok (.lst xs, 1) ρ2 := by
  simp only [mLc, h, bindO, h2, lcFin]
theorem pds_str : ∀ cs : List Str, pds (cs.map D.str) = some (cs.map PyData.str)
  | [] => by simp [pds]
  | n :: ns => by simp [pds, pd, pds_str ns]
theorem dep_str : ∀ cs : List Str, PyData.depthAll (cs.map PyData.str) = 0
  | [] => by simp [PyData.depthAll]
  | n :: ns => by simp [PyData.depthAll, PyData.depth, dep_str ns]
theorem lay_str : ∀ cs : List Str, (∀ c ∈ cs, PyData.strOk c = true) → PyData.canLayAll0 (cs.map PyData.str) = true
  | [], _ => by simp [PyData.canLayAll0]
  | n :: ns, h => by simp [PyData.canLayAll0, PyData.canLay0, lay_str ns (fun c hc => h c (List.mem_cons_of_mem _ hc)), h n List.mem_cons_self]
theorem eq_nil {cs : List Str} (h : ∀ c ∈ cs, PyData.strOk c = true) : eqG [.tup (cs.map D.str), .tup []] = some (.bl cs.isEmpty, 0) := by
  have e1 : pd (.tup (cs.map D.str)) = some (.tuple (cs.map PyData.str)) := by simp [pd, pds_str]
  have e2 : pd (.tup []) = some (.tuple []) := by simp [pd, pds]
  have s1 : SeqAt.shaped (.tuple (cs.map PyData.str)) = true := by simp [SeqAt.shaped, PyData.canLay0, lay_str cs h, PyData.depth, dep_str]
  have s2 : SeqAt.shaped (.tuple []) = true := by decide
  have e3 : eqX [.tup (cs.map D.str), .tup []] = none := rfl
  simp only [eqG, eqA, orF, e3, eqD, eqB, e1, e2, s1, s2, Bool.and_self, if_true]
  cases cs <;> simp [PyData.eqv, PyData.eqvAll]
mutual
inductive Wf (S : Sch) : Str → T → Prop
  | mk {k t : Str} {vs : List Vr} {cs : List Str} {ts : List T} : S.lookup k = some vs → (t, cs) ∈ vs → Wfs S cs ts → Wf S k (.node t ts)
inductive Wfs (S : Sch) : List Str → List T → Prop
  | nil : Wfs S [] []
  | cons {c : Str} {t : T} {cs : List Str} {ts : List T} : Wf S c t → Wfs S cs ts → Wfs S (c :: cs) (t :: ts)
end
mutual
def T.dp : T → Nat
  | .node _ ks => T.dps ks + 1
def T.dps : List T → Nat
  | [] => 0
  | k :: ks => max k.dp (T.dps ks)
end
theorem key_ok : ∀ c ∈ KEYS, PyData.strOk c = true := by decide +kernel
theorem lookup_mem : ∀ (S : Sch) {k : Str}, k ∈ S.map Prod.fst → ∃ vs, S.lookup k = some vs ∧ (k, vs) ∈ S
  | [], _, h => by simp at h
  | (k', ws) :: S, k, h => by
    rw [List.lookup_cons]
    by_cases e : k = k'
    · subst e
      exact ⟨ws, by simp, by simp⟩
    · have e' : (k == k') = false := by simp [e]
      rw [e']
      have h' : k ∈ S.map Prod.fst := by
        rcases List.mem_cons.mp h with h | h
        · exact (e h).elim
        · exact h
      obtain ⟨vs, h1, h2⟩ := lookup_mem S h'
      exact ⟨vs, h1, List.mem_cons_of_mem _ h2⟩
theorem Good.look {S : Sch} (g : Good S) {k : Str} (h : k ∈ S.map Prod.fst) : ∃ vs, S.lookup k = some vs ∧ GoodV (S.map Prod.fst) vs := by
  obtain ⟨vs, h1, h2⟩ := lookup_mem S h
  exact ⟨vs, h1, g.vr _ h2⟩
theorem Good.key {S : Sch} (g : Good S) {k : Str} (h : k ∈ S.map Prod.fst) : k ∈ KEYS := by
  rw [g.keys] at h
  exact List.mem_of_mem_take h
theorem if_or {t u : MT} {ρ ρ1 ρ2 : Rho} {a b : Bool} (h1 : t ρ = .ok a ρ1) (h2 : a = false → u ρ1 = .ok b ρ2) (h3 : a = true → ρ1 = ρ2) : mOr t u ρ = .ok (a || b) ρ2 := by
  simp only [mOr, h1, bindO]
  cases a with
  | true => simp [h3 rfl]
  | false => simp [h2 rfl]
theorem ev_b {m : ME} {ρ ρ1 : Rho} {b : Bool} {k : Nat} (h : m ρ = .ok (.bl b, k) ρ1) : mB m ρ = .ok b ρ1 := by simp only [mB, h, bindO]
/-- the variants that are drawn from -/
def pickable (deep : Nat) (v : Vr) : Bool := v.2.isEmpty || decide (1 < deep)
def pickD (deep : Nat) : D → Bool
  | .tup [_, .tup cs] => cs.isEmpty || decide (1 < deep)
  | _ => false
theorem pick_map (deep : Nat) (vs : List Vr) : (vs.map varD).filter (pickD deep) = (vs.filter (pickable deep)).map varD := by
  rw [List.filter_map]
  congr 2
  funext v
  obtain ⟨t, cs⟩ := v
  simp [pickD, varD, pickable]
theorem wfs_of {S : Sch} {n : Nat} : ∀ {cs : List Str} {xs : List D}, Par (fun c x => ∃ t, Wf S c t ∧ t.dp ≤ n ∧ x = t.d) cs xs → ∃ ts, Wfs S cs ts ∧ T.dps ts ≤ n ∧ xs = T.ds ts
  | _, _, .nil => ⟨[], .nil, by simp [T.dps], rfl⟩
  | _, _, .cons ⟨t, h1, h2, rfl⟩ r => by
    obtain ⟨ts, h3, h4, rfl⟩ := wfs_of r
    exact ⟨t :: ts, .cons h1 h3, by simp only [T.dps]; omega, rfl⟩
theorem par_map {α β γ : Type} {f : α → β} {R : β → γ → Prop} : ∀ {as : List α} {bs : List γ}, Par R (as.map f) bs → Par (fun a b => R (f a) b) as bs
  | [], _, .nil => .nil
  | _ :: _, _, .cons h t => .cons h (par_map t)
theorem Wfs.length {S : Sch} : ∀ {cs : List Str} {ts : List T}, Wfs S cs ts → ts.length = cs.length
  | _, _, .nil => rfl
  | _, _, .cons _ h => by simp [Wfs.length h]
theorem some_tree_ok {S : Sch} (g : Good S) (l : Nat) (hl : l ≤ 1) : ∀ (n deep : Nat), deep ≤ n → 1 ≤ deep → ∀ {k : Str}, k ∈ S.map Prod.fst → ∀ {d : D}, Pot d → ∃ t d', Wf S k t ∧ t.dp ≤ deep ∧ Pot d' ∧
    mf__law_some_tree n [(d, 1), (schD S, l), (.str k, 0), (.int (deep : Nat), 0)] = .ok (t.d, 0) [some (d', 1), some (schD S, l), some (.str k, 0), some (.int (deep : Nat), 0)]
  | 0, deep, h, h1, _, _, _, _ => by omega
  | n + 1, deep, h, h1, k, hk, d, hd => by
    have ih := some_tree_ok g l hl n
    obtain ⟨vs, hv, gv⟩ := g.look hk
    have ks_ok : ∀ v ∈ vs, ∀ c ∈ v.2, PyData.strOk c = true := fun v hv' c hc => key_ok c (g.key ((gv.ch v hv').2 c hc))
    generalize hms : vs.filter (pickable deep) = ms
    have ms_sub : ∀ v ∈ ms, v ∈ vs ∧ pickable deep v = true := fun v hv' => by
      subst hms
      exact List.mem_filter.mp hv'
    have ms0 : 0 < ms.length := by
      obtain ⟨v, h2, h3⟩ := gv.leaf
      have : v ∈ ms := by
        rw [← hms]
        exact List.mem_filter.mpr ⟨h2, by simp [pickable, h3]⟩
      exact List.length_pos_of_mem this
    have ms1 : ms.length ≤ 3 := by
      rw [← hms]
      exact Nat.le_trans (List.length_filter_le _ _) gv.len
    obtain ⟨x, d1, hd1, hx, ep⟩ := pick hd (items := ms.map varD) (by simpa using ms0) (by simp; omega) 1 (.inr rfl)
    obtain ⟨⟨tg, cs⟩, hm, rfl⟩ := List.mem_map.mp hx
    obtain ⟨hin, hpk⟩ := ms_sub _ hm
    -- the variants
    have F : mLc (mIt (opN [.nm 1, .nm 2] atD)) (.nm 7) (mOr (mB (opN [.ex (opN [.nm 7, .ex (mC (.int 1))] atD), .ex (opN [] tupD)] eqG)) (mB (opN [.nm 3, .ex (mC (.int 1))] gtD))) (mN 7) [7] [some (d, 1), some (schD S, l), some (.str k, 0), some (.int (deep : Nat), 0), none, none, none, none, none] =
        .ok (.lst (ms.map varD), 1) [some (d, 1), some (schD S, l), some (.str k, 0), some (.int (deep : Nat), 0), none, none, none, none, none] := by
      refine lc_ev (it_ev (ev_nn rfl hl rfl (Nat.zero_le _) (at_sch hv)) rfl) ?_
      have := comp_filter (t := .nm 7) (tt := mOr (mB (opN [.ex (opN [.nm 7, .ex (mC (.int 1))] atD), .ex (opN [] tupD)] eqG)) (mB (opN [.nm 3, .ex (mC (.int 1))] gtD))) (m := mN 7) (vs := [7]) [some (d, 1), some (schD S, l), some (.str k, 0), some (.int (deep : Nat), 0), none, none, none, none, none] (pickD deep) (vs.map varD) (fun q hq => by
        obtain ⟨⟨t', cs'⟩, hv', rfl⟩ := List.mem_map.mp hq
        refine ⟨_, [some (d, 1), some (schD S, l), some (.str k, 0), some (.int (deep : Nat), 0), none, none, none, some (varD (t', cs'), 0), none], by simp only [asgT]; rfl, ?_, rfl, 0, _, rfl, rfl⟩
        have z : gtD [.int (deep : Nat), .int 1] = some (.bl (decide (1 < deep)), 0) := by
          have : decide ((1 : Int) < (deep : Int)) = decide (1 < deep) := by
            by_cases z : 1 < deep
            · rw [decide_eq_true z]; exact decide_eq_true (by omega)
            · rw [decide_eq_false z]; exact decide_eq_false (by omega)
          simp only [gtD, cmpD, this]
        have a1 : atD [varD (t', cs'), .int 1] = some (.tup (cs'.map D.str), 0) := by simp [atD, ixD, varD, at_1]
        have e1 : mB (opN [.ex (opN [.nm 7, .ex (mC (.int 1))] atD), .ex (opN [] tupD)] eqG) [some (d, 1), some (schD S, l), some (.str k, 0), some (.int (deep : Nat), 0), none, none, none, some (varD (t', cs'), 0), none] = .ok cs'.isEmpty [some (d, 1), some (schD S, l), some (.str k, 0), some (.int (deep : Nat), 0), none, none, none, some (varD (t', cs'), 0), none] :=
          ev_b (ev_xx (ev_nx rfl ev_C rfl (Nat.zero_le _) a1) rfl (eq_nil (ks_ok _ hv')))
        have e2 : mB (opN [.nm 3, .ex (mC (.int 1))] gtD) [some (d, 1), some (schD S, l), some (.str k, 0), some (.int (deep : Nat), 0), none, none, none, some (varD (t', cs'), 0), none] = .ok (decide (1 < deep)) [some (d, 1), some (schD S, l), some (.str k, 0), some (.int (deep : Nat), 0), none, none, none, some (varD (t', cs'), 0), none] :=
          ev_b (k := 0) (ev_nx rfl ev_C rfl (Nat.zero_le _) z)
        have e3 := if_or e1 (fun _ => e2) fun _ => rfl
        exact e3.trans (by simp [pickD, varD])) [] (by simp; have := gv.len; omega)
      rw [List.nil_append, pick_map, hms] at this
      exact this
    -- one of them
    have E2 : sAsgT (.tup [.nm 5, .nm 6]) (mCall mf__law_pick [.nm 0, .nm 4]) [some (d, 1), some (schD S, l), some (.str k, 0), some (.int (deep : Nat), 0), some (.lst (ms.map varD), 1), none, none, none, none] =
        .nx [some (d1, 1), some (schD S, l), some (.str k, 0), some (.int (deep : Nat), 0), some (.lst (ms.map varD), 1), some (.str tg, 0), some (.tup (cs.map D.str), 0), none, none] := by
      clear F
      generalize schD S = Y
      generalize ms.map varD = L at ep ⊢
      simp [sSeq, sIf, sAsg, sRet, sSkip, sPar, sSetI, sFor, mRange, rangeFin, rangeD1, opN, evOs, evO, bindO, DL.bindG, lookOs, lookO, fin, cap, mC, mN, mMv, mB, mIf, mOr, mAnd, mNot, mAndV, mNotV, mCall, callF, takeOs, giveOs, runD, outP, orF, addD, subD, mulA, mulD, repD, modD, fdivD, powD, absD, DL.intD, lenD, lstD, tupD, cmpD, atD, ixD, setFin, topOf, setID, evMs, setRs, asgT, asgTs, D.box, List.range, List.range.loop, sizeLine_eq, mTru, truB, sDrop, mMut, mutFin, sAsgT, mIt, itD, ep, varD]
    -- its children
    let I : Rho → Prop := fun ρ => ∃ d, Pot d ∧ ρ = [some (d, 1), some (schD S, l), some (.str k, 0), some (.int (deep : Nat), 0), some (.lst (ms.map varD), 1), some (.str tg, 0), some (.tup (cs.map D.str), 0), none, none]
    have csl : cs.length ≤ 3 := (gv.ch _ hin).1
    obtain ⟨xs, ρ', ec, ⟨d2, hd2, rfl⟩, hp⟩ := comp_rel (t := .nm 8) (m := mCall (mf__law_some_tree n) [.nm 0, .nm 1, .nm 8, .ex (opN [.nm 3, .ex (mC (.int 1))] subD)]) (vs := [8]) (R := fun c x => ∃ c' t, c = .str c' ∧ Wf S c' t ∧ t.dp ≤ deep - 1 ∧ x = t.d) I (cs.map D.str) (fun q hq ρ ⟨d, hd, e⟩ => by
      subst e
      obtain ⟨c, hc, rfl⟩ := List.mem_map.mp hq
      have hdeep : 1 < deep := by
        simp only [pickable, Bool.or_eq_true, decide_eq_true_eq] at hpk
        rcases hpk with z | z
        · cases cs with
          | nil => cases hc
          | cons _ _ => simp at z
        · exact z
      obtain ⟨t, d', w, hdp, hd', e⟩ := ih (deep - 1) (by omega) (by omega) ((gv.ch _ hin).2 c hc) hd
      have cast : ((deep - 1 : Nat) : Int) = (deep : Int) - 1 := by omega
      rw [cast] at e
      refine ⟨_, (t.d, 0), [some (d', 1), some (schD S, l), some (.str k, 0), some (.int (deep : Nat), 0), some (.lst (ms.map varD), 1), some (.str tg, 0), some (.tup (cs.map D.str), 0), none, some (.str c, 0)], by simp only [asgT]; rfl, ?_, ⟨c, t, rfl, w, hdp, rfl⟩, d', hd', rfl⟩
      clear ih F E2 ep
      generalize mf__law_some_tree n = G at e ⊢
      generalize schD S = Y at e ⊢
      generalize t.d = td at e ⊢
      generalize ms.map varD = L
      generalize cs.map D.str = C
      have hl' : l = 0 ∨ l = 1 := by omega
      rcases hl' with rfl | rfl <;> simp [sSeq, sIf, sAsg, sRet, sSkip, sPar, sSetI, sFor, mRange, rangeFin, rangeD1, opN, evOs, evO, bindO, DL.bindG, lookOs, lookO, fin, cap, mC, mN, mMv, mB, mIf, mOr, mAnd, mNot, mAndV, mNotV, mCall, callF, takeOs, giveOs, runD, outP, orF, addD, subD, mulA, mulD, repD, modD, fdivD, powD, absD, DL.intD, lenD, lstD, tupD, cmpD, atD, ixD, setFin, topOf, setID, evMs, setRs, asgT, asgTs, D.box, List.range, List.range.loop, sizeLine_eq, mTru, truB, sDrop, mMut, mutFin, sAsgT, mIt, itD, e]) [] [some (d1, 1), some (schD S, l), some (.str k, 0), some (.int (deep : Nat), 0), some (.lst (ms.map varD), 1), some (.str tg, 0), some (.tup (cs.map D.str), 0), none, none] ⟨d1, hd1, rfl⟩ (by simp; omega)
    obtain ⟨ts, w, hdp, rfl⟩ := wfs_of ((par_map hp).imp fun c x ⟨c', t, e1, e2, e3, e4⟩ => ⟨t, by cases e1; exact e2, e3, e4⟩)
    rw [List.nil_append] at ec
    have tl : (T.ds ts).length = cs.length := by rw [T.ds_map, List.length_map, w.length]
    refine ⟨.node tg ts, d2, .mk hv hin w, by simp only [T.dp]; omega, hd2, ?_⟩
    have A1 : opN [.ex (mN 5)] tupD [some (d1, 1), some (schD S, l), some (.str k, 0), some (.int (deep : Nat), 0), some (.lst (ms.map varD), 1), some (.str tg, 0), some (.tup (cs.map D.str), 0), none, none] = .ok (.tup [.str tg], 0) [some (d1, 1), some (schD S, l), some (.str k, 0), some (.int (deep : Nat), 0), some (.lst (ms.map varD), 1), some (.str tg, 0), some (.tup (cs.map D.str), 0), none, none] := by
      have h1 : [D.str tg].length ≤ sizeLine := ok_len (by simp)
      exact ev_x (ev_N rfl) (by simp only [tupD, if_pos h1])
    have A2 := ev_x (f := tupleD) (r := (.tup (T.ds ts), 0)) (lc_ev (mi := mIt (mN 6)) (ρ := [some (d1, 1), some (schD S, l), some (.str k, 0), some (.int (deep : Nat), 0), some (.lst (ms.map varD), 1), some (.str tg, 0), some (.tup (cs.map D.str), 0), none, none]) rfl ec) rfl
    have hz : [D.str tg].length + (T.ds ts).length ≤ sizeLine := ok_len (by simp; omega)
    have EB : ms__law_some_tree (mf__law_some_tree n) [some (d, 1), some (schD S, l), some (.str k, 0), some (.int (deep : Nat), 0), none, none, none, none, none] = .rt (T.d (.node tg ts), 0) [some (d2, 1), some (schD S, l), some (.str k, 0), some (.int (deep : Nat), 0), some (.lst (ms.map varD), 1), some (.str tg, 0), some (.tup (cs.map D.str), 0), none, none] := by
      unfold ms__law_some_tree
      refine (seq_nx (asg_ev F (by simp))).trans ((seq_nx E2).trans ?_)
      exact ret_ev (ev_xx A1 A2 (by simp only [addD, if_pos hz, T.d]; rfl))
    show runD 4 9 [0, 1, 2, 3] (ms__law_some_tree (mf__law_some_tree n)) _ = _
    unfold runD
    have e0 : ([(d, 1), (schD S, l), (.str k, 0), (.int (deep : Nat), 0)] : List Val).map some ++ List.replicate (9 - 4) none = [some (d, 1), some (schD S, l), some (.str k, 0), some (.int (deep : Nat), 0), none, none, none, none, none] := rfl
    rw [e0, EB]
    rfl
end K02
end
section
set_option Elab.async false
set_option linter.all false
set_option maxRecDepth 100000
set_option maxHeartbeats 2000000
namespace K02
open PySem L2 DL
/-! ### things that are bent -/
mutual
def sz : D → Nat
  | .tup xs => szs xs + 1
  | .lst xs => szs xs + 1
  | _ => 1
def szs : List D → Nat
  | [] => 0
  | x :: xs => sz x + szs xs
end
mutual
def hi : D → Nat
  | .tup xs => his xs + 1
  | .lst xs => his xs + 1
  | _ => 0
def his : List D → Nat
  | [] => 0
  | x :: xs => max (hi x) (his xs)
end
inductive Ok : D → Prop
  | non : Ok .non
  | bl (b : Bool) : Ok (.bl b)
  | int (i : Int) : Ok (.int i)
  | str (x : Str) : Ok (.str x)
  | emp : Ok (.dic [] [])
  | tup {xs : List D} : (∀ x ∈ xs, Ok x) → Ok (.tup xs)
  | lst {xs : List D} : (∀ x ∈ xs, Ok x) → Ok (.lst xs)
theorem his_le {h : Nat} : ∀ {xs : List D}, his xs ≤ h ↔ ∀ x ∈ xs, hi x ≤ h
  | [] => by simp [his]
  | x :: xs => by simp only [his, Nat.max_le, his_le (xs := xs), List.mem_cons, forall_eq_or_imp]
theorem szs_app : ∀ xs ys : List D, szs (xs ++ ys) = szs xs + szs ys
  | [], ys => by simp [szs]
  | x :: xs, ys => by simp only [List.cons_append, szs, szs_app xs ys]; omega
theorem szs_at {xs : List D} {a : Nat} (h : a < xs.length) : szs xs = szs (xs.take a) + sz xs[a] + szs (xs.drop (a + 1)) := by
  have e : xs = xs.take a ++ (xs[a] :: xs.drop (a + 1)) := by
    rw [← List.drop_eq_getElem_cons h, List.take_append_drop]
  conv => lhs; rw [e]
  rw [szs_app, szs]
  omega
theorem sz_pos (d : D) : 1 ≤ sz d := by cases d <;> simp [sz]
theorem len_szs : ∀ xs : List D, xs.length ≤ szs xs
  | [] => by simp
  | x :: xs => by have := sz_pos x; have := len_szs xs; simp only [szs, List.length_cons]; omega
theorem szs_set {xs : List D} {a : Nat} (h : a < xs.length) (y : D) : szs (xs.set a y) ≤ szs xs + sz y - sz xs[a] := by
  rw [List.set_eq_take_append_cons_drop, if_pos h, szs_app, szs, szs_at h]
  omega
theorem szs_erase {xs : List D} {a : Nat} (h : a < xs.length) : szs (xs.eraseIdx a) ≤ szs xs := by
  rw [List.eraseIdx_eq_take_drop_succ, szs_app, szs_at h]
  omega
theorem szs_dup {xs : List D} {a : Nat} (h : a < xs.length) : szs (xs.take (a + 1) ++ xs.drop a) ≤ 2 * szs xs := by
  have e1 : szs (xs.take (a + 1)) = szs (xs.take a) + sz xs[a] := by
    rw [List.take_add_one, szs_app, List.getElem?_eq_getElem h]
    simp [szs]
  have e2 : szs (xs.drop a) = sz xs[a] + szs (xs.drop (a + 1)) := by
    rw [List.drop_eq_getElem_cons h, szs]
  rw [szs_app, e1, e2, szs_at h]
  omega
def ODDL : List D := [.non, .bl true, .bl false, .int 0, .int 1, .int 2, .int 3, .str "", .str "a", .str "A", .str "b2", .str "zz", .str "abcdefghi", .tup [], .lst [], .dic [] [], .tup [.str "a"], .tup [.str "a", .tup []], .tup [.int 0]]
theorem odd_ok : ∀ x ∈ ODDL, Ok x ∧ sz x ≤ 3 ∧ hi x ≤ 2 := by
  intro x hx
  simp only [ODDL, List.mem_cons, List.not_mem_nil, or_false] at hx
  rcases hx with rfl | rfl | rfl | rfl | rfl | rfl | rfl | rfl | rfl | rfl | rfl | rfl | rfl | rfl | rfl | rfl | rfl | rfl | rfl
  · exact ⟨.non, by decide, by decide⟩
  · exact ⟨.bl _, by decide, by decide⟩
  · exact ⟨.bl _, by decide, by decide⟩
  · exact ⟨.int _, by decide, by decide⟩
  · exact ⟨.int _, by decide, by decide⟩
  · exact ⟨.int _, by decide, by decide⟩
  · exact ⟨.int _, by decide, by decide⟩
  · exact ⟨.str _, by decide, by decide⟩
  · exact ⟨.str _, by decide, by decide⟩
  · exact ⟨.str _, by decide, by decide⟩
  · exact ⟨.str _, by decide, by decide⟩
  · exact ⟨.str _, by decide, by decide⟩
  · exact ⟨.str _, by decide, by decide⟩
  · exact ⟨.tup (fun _ h => nomatch h), by decide, by decide⟩
  · exact ⟨.lst (fun _ h => nomatch h), by decide, by decide⟩
  · exact ⟨.emp, by decide, by decide⟩
  · exact ⟨.tup (by simp; exact .str _), by decide, by decide⟩
  · exact ⟨.tup (by simp; exact ⟨.str _, .tup (fun _ h => nomatch h)⟩), by decide, by decide⟩
  · exact ⟨.tup (by simp; exact .int _), by decide, by decide⟩
abbrev ODDE : ME := opN [.ex (mC .non), .ex (mC (.bl true)), .ex (mC (.bl false)), .ex (mC (.int 0)), .ex (mC (.int 1)), .ex (mC (.int 2)), .ex (mC (.int 3)), .ex (mC (.str "")), .ex (mC (.str "a")), .ex (mC (.str "A")), .ex (mC (.str "b2")), .ex (mC (.str "zz")), .ex (mC (.str "abcdefghi")), .ex (opN [] tupD), .ex (opN [] lstD), .ex (dicD), .ex (opN [.ex (mC (.str "a"))] tupD), .ex (opN [.ex (mC (.str "a")), .ex (opN [] tupD)] tupD), .ex (opN [.ex (mC (.int 0))] tupD)] lstD
theorem odd_ev (ρ : Rho) : ODDE ρ = .ok (.lst ODDL, 1) ρ := by rfl
theorem eq_int (a b : Int) : eqG [.int a, .int b] = some (.bl (a == b), 0) := by
  have e1 : eqX [.int a, .int b] = none := rfl
  have s1 : SeqAt.shaped (.int a) = true := rfl
  have s2 : SeqAt.shaped (.int b) = true := rfl
  simp only [eqG, eqA, orF, e1, eqD, eqB, pd, s1, s2, Bool.and_self, if_true, PyData.eqv]
  simp
def isSeq : D → Option (List D)
  | .tup xs => some xs
  | .lst xs => some xs
  | _ => none
theorem dict_no {x : D} (h : Ok x) (ρ : Rho) (e : ρ[1]? = some (some (x, 0))) (m : MT) : mAnd (mB (opN [.nm 1] (isiD ["dict"]))) (mAnd (mB (opN [.nm 1, .ex (dicD)] neG)) m) ρ = .ok false ρ := by
  have f : ∀ {b : Bool}, isiD ["dict"] [x] = some (.bl b, 0) → mB (opN [.nm 1] (isiD ["dict"])) ρ = .ok b ρ := fun h => ev_b (ev_n e (Nat.zero_le _) h)
  cases h with
  | emp =>
    have e2 : mB (opN [.nm 1, .ex (dicD)] neG) ρ = .ok false ρ := ev_b (k := 0) (ev_nx e rfl e (Nat.zero_le _) (by rfl))
    simp only [mAnd, f (b := true) rfl, bindO, e2, if_true, Bool.false_eq_true, if_false]
  | _ => simp only [mAnd, f (b := false) rfl, bindO, Bool.false_eq_true, if_false]
end K02
end
section
set_option Elab.async false
set_option linter.all false
set_option maxRecDepth 100000
set_option maxHeartbeats 2000000
namespace K02
open PySem L2 DL
theorem ifs_f {t : MT} {a : MS} {ρ ρ1 : Rho} (h : t ρ = .ok false ρ1) : sIf t a sSkip ρ = .nx ρ1 := by simp only [sIf, h, Bool.false_eq_true, if_false, sSkip]
theorem below_ev {d : D} {ρ : Rho} {m : ME} {b : Int} {k : Nat} (hd : Pot d) (h0 : 0 < b) (h1 : b < 1000000) (hm : m (some (d, 1) :: ρ) = .ok (.int b, k) (some (d, 1) :: ρ)) : ∃ r d', Pot d' ∧ 0 ≤ r ∧ r < b ∧ mCall mf__law_below [.nm 0, .ex m] (some (d, 1) :: ρ) = .ok (.int r, 0) (some (d', 1) :: ρ) := by
  obtain ⟨r, d', hd', r0, r1, e⟩ := below hd h0 h1
  refine ⟨r, d', hd', r0, r1, ?_⟩
  generalize mf__law_below = F at e ⊢
  simp only [mCall, evOs, evO, bindO, List.getElem?_cons_zero, hm, callF, takeOs, List.set_cons_zero, e, giveOs]
theorem pick_ev {d : D} {ρ : Rho} {m : ME} {items : List D} {k : Nat} (hd : Pot d) (h0 : 0 < items.length) (h1 : items.length < 1000) (hm : m (some (d, 1) :: ρ) = .ok (.lst items, k) (some (d, 1) :: ρ)) : ∃ x d', Pot d' ∧ x ∈ items ∧ mCall mf__law_pick [.nm 0, .ex m] (some (d, 1) :: ρ) = .ok (x, 0) (some (d', 1) :: ρ) := by
  obtain ⟨x, d', hd', hx, e⟩ := pick hd h0 h1 0 (.inl rfl)
  refine ⟨x, d', hd', hx, ?_⟩
  generalize mf__law_pick = F at e ⊢
  simp only [mCall, evOs, evO, bindO, List.getElem?_cons_zero, hm, callF, takeOs, List.set_cons_zero, e, giveOs]
/-- how the def ends -/
def Fin (x : D) (o : SOut) : Prop := ∃ r d' ρ', o = .rt (r, 0) (some (d', 1) :: some (x, 0) :: ρ') ∧ Pot d' ∧ Ok r ∧ sz r ≤ 2 * sz x + 4 ∧ hi r ≤ hi x + 2
theorem last_ok {d x : D} (hd : Pot d) (x3 x4 x5 x6 x7 : Option Val) : Fin x (sRet (mCall mf__law_pick [.nm 0, .nm 2]) [some (d, 1), some (x, 0), some (.lst ODDL, 1), x3, x4, x5, x6, x7]) := by
  obtain ⟨r, d', hd', hr, e⟩ := pick hd (items := ODDL) (by decide) (by decide) 1 (.inr rfl)
  obtain ⟨h1, h2, h3⟩ := odd_ok r hr
  refine ⟨r, d', [some (.lst ODDL, 1), x3, x4, x5, x6, x7], ret_ev ?_, hd', h1, by omega, by omega⟩
  generalize mf__law_pick = F at e ⊢
  generalize D.lst ODDL = O at e ⊢
  simp [sSeq, sIf, sAsg, sRet, sSkip, sPar, sSetI, sFor, mRange, rangeFin, rangeD1, opN, evOs, evO, bindO, DL.bindG, lookOs, lookO, fin, cap, mC, mN, mMv, mB, mIf, mOr, mAnd, mNot, mAndV, mNotV, mCall, callF, takeOs, giveOs, runD, outP, orF, addD, subD, mulA, mulD, repD, modD, fdivD, powD, absD, DL.intD, lenD, lstD, tupD, cmpD, atD, ixD, setFin, topOf, setID, evMs, setRs, asgT, asgTs, D.box, List.range, List.range.loop, sizeLine_eq, mTru, truB, sDrop, mMut, mutFin, sAsgT, mIt, itD, e]
theorem ints_ok {d x : D} (hx : Ok x) (hd : Pot d) (x3 x4 x5 x6 x7 : Option Val) : Fin x ((sSeq (sIf (mAnd (mB (opN [.nm 1] (isiD ["int"]))) (mAnd (mNot (mB (opN [.nm 1] (isiD ["bool"])))) (mB (opN [.ex (mCall mf__law_below [.nm 0, .ex (mC (.int 2))]), .ex (mC (.int 0))] eqG)))) (sRet (mCall mf__law_pick [.nm 0, .ex (opN [.ex (opN [.ex (mC (.int 0)), .nm 1] subD), .ex (opN [.nm 1, .ex (mC (.int 1))] addD), .ex (opN [.nm 1, .ex (mC (.int 1))] subD), .ex (opN [.ex (mC (.int 10)), .ex (mC (.int 6))] powD), .ex (opN [.ex (opN [.ex (mC (.int 10)), .ex (mC (.int 6))] powD), .ex (mC (.int 1))] addD), .ex (opN [.nm 1, .ex (opN [.ex (mC (.int 10)), .ex (mC (.int 6))] powD)] mulA)] lstD)])) (sSkip))
  (sRet (mCall mf__law_pick [.nm 0, .nm 2]))) [some (d, 1), some (x, 0), some (.lst ODDL, 1), x3, x4, x5, x6, x7]) := by
  have f1 : ∀ {b : Bool}, isiD ["int"] [x] = some (.bl b, 0) → mB (opN [.nm 1] (isiD ["int"])) [some (d, 1), some (x, 0), some (.lst ODDL, 1), x3, x4, x5, x6, x7] = .ok b [some (d, 1), some (x, 0), some (.lst ODDL, 1), x3, x4, x5, x6, x7] := fun h => ev_b (ev_n rfl (Nat.zero_le _) h)
  have f2 : ∀ {b : Bool}, isiD ["bool"] [x] = some (.bl b, 0) → mB (opN [.nm 1] (isiD ["bool"])) [some (d, 1), some (x, 0), some (.lst ODDL, 1), x3, x4, x5, x6, x7] = .ok b [some (d, 1), some (x, 0), some (.lst ODDL, 1), x3, x4, x5, x6, x7] := fun h => ev_b (ev_n rfl (Nat.zero_le _) h)
  have no : ∀ {t : MT} {p : MS}, mAnd (mB (opN [.nm 1] (isiD ["int"]))) (mAnd (mNot (mB (opN [.nm 1] (isiD ["bool"])))) t) [some (d, 1), some (x, 0), some (.lst ODDL, 1), x3, x4, x5, x6, x7] = .ok false [some (d, 1), some (x, 0), some (.lst ODDL, 1), x3, x4, x5, x6, x7] → Fin x (sSeq (sIf (mAnd (mB (opN [.nm 1] (isiD ["int"]))) (mAnd (mNot (mB (opN [.nm 1] (isiD ["bool"])))) t)) p sSkip) (sRet (mCall mf__law_pick [.nm 0, .nm 2])) [some (d, 1), some (x, 0), some (.lst ODDL, 1), x3, x4, x5, x6, x7]) := fun h => by
    rw [seq_nx (ifs_f h)]
    exact last_ok hd x3 x4 x5 x6 x7
  cases hx with
  | int i =>
    obtain ⟨r, d1, hd1, r0, r1, e⟩ := below_ev (ρ := [some (.int i, 0), some (.lst ODDL, 1), x3, x4, x5, x6, x7]) (m := mC (.int 2)) hd (by decide) (by decide) rfl
    have hb := ev_b (k := 0) (ev_xx e (ev_C (x := .int 0)) (eq_int r 0))
    have hc : mAnd (mB (opN [.nm 1] (isiD ["int"]))) (mAnd (mNot (mB (opN [.nm 1] (isiD ["bool"])))) (mB (opN [.ex (mCall mf__law_below [.nm 0, .ex (mC (.int 2))]), .ex (mC (.int 0))] eqG))) [some (d, 1), some (.int i, 0), some (.lst ODDL, 1), x3, x4, x5, x6, x7] = .ok (r == 0) [some (d1, 1), some (.int i, 0), some (.lst ODDL, 1), x3, x4, x5, x6, x7] := by
      simp only [mAnd, f1 (b := true) rfl, bindO, if_true, mNot, f2 (b := false) rfl, Bool.not_false, hb]
    cases hr : (r == 0) with
    | false =>
      rw [hr] at hc
      rw [seq_nx (ifs_f hc)]
      exact last_ok hd1 x3 x4 x5 x6 x7
    | true =>
      rw [hr] at hc
      have f : fitMul i 1000000 = true := fitMul_r (by decide) (by decide)
      have hp : powD [.int 10, .int 6] = some (.int 1000000, 0) := by kernel_rfl
      have h6 : [D.int (0 - i), .int (i + 1), .int (i - 1), .int 1000000, .int (1000000 + 1), .int (i * 1000000)].length ≤ sizeLine := ok_len (by simp)
      have EL : opN [.ex (opN [.ex (mC (.int 0)), .nm 1] subD), .ex (opN [.nm 1, .ex (mC (.int 1))] addD), .ex (opN [.nm 1, .ex (mC (.int 1))] subD), .ex (opN [.ex (mC (.int 10)), .ex (mC (.int 6))] powD), .ex (opN [.ex (opN [.ex (mC (.int 10)), .ex (mC (.int 6))] powD), .ex (mC (.int 1))] addD), .ex (opN [.nm 1, .ex (opN [.ex (mC (.int 10)), .ex (mC (.int 6))] powD)] mulA)] lstD [some (d1, 1), some (.int i, 0), some (.lst ODDL, 1), x3, x4, x5, x6, x7] = .ok (.lst [D.int (0 - i), .int (i + 1), .int (i - 1), .int 1000000, .int (1000000 + 1), .int (i * 1000000)], 1) [some (d1, 1), some (.int i, 0), some (.lst ODDL, 1), x3, x4, x5, x6, x7] := by
        simp only [opN, evOs, evO, bindO, mC, lookOs, lookO, cap, List.getElem?_cons_succ, List.getElem?_cons_zero, Nat.zero_le, if_true, fin, subD, addD, hp, mulA, orF, mulD, f, lstD, if_pos h6]
      obtain ⟨y, d2, hd2, hy, e2⟩ := pick_ev (ρ := [some (.int i, 0), some (.lst ODDL, 1), x3, x4, x5, x6, x7]) hd1 (by simp) (by simp) EL
      obtain ⟨j, rfl⟩ : ∃ j, y = .int j := by
        simp only [List.mem_cons, List.not_mem_nil, or_false] at hy
        rcases hy with rfl | rfl | rfl | rfl | rfl | rfl <;> exact ⟨_, rfl⟩
      rw [seq_rt ((if_t hc).trans (ret_ev e2))]
      exact ⟨.int j, d2, _, rfl, hd2, .int j, by simp [sz], by simp [hi]⟩
  | bl b => exact no (p := _) (by simp only [mAnd, f1 (b := true) rfl, bindO, if_true, mNot, f2 (b := true) rfl, Bool.not_true, Bool.false_eq_true, if_false])
  | non => exact no (by simp only [mAnd, f1 (b := false) rfl, bindO, Bool.false_eq_true, if_false])
  | str _ => exact no (by simp only [mAnd, f1 (b := false) rfl, bindO, Bool.false_eq_true, if_false])
  | emp => exact no (by simp only [mAnd, f1 (b := false) rfl, bindO, Bool.false_eq_true, if_false])
  | tup _ => exact no (by simp only [mAnd, f1 (b := false) rfl, bindO, Bool.false_eq_true, if_false])
  | lst _ => exact no (by simp only [mAnd, f1 (b := false) rfl, bindO, Bool.false_eq_true, if_false])
end K02
end
section
set_option Elab.async false
set_option linter.all false
set_option maxRecDepth 100000
set_option maxHeartbeats 2000000
namespace K02
open PySem L2 DL
theorem seqI {n a : Nat} (h : a < n) : seqIndex? ((a : Nat) : Int) n = some a := by
  unfold seqIndex?
  have h1 : ¬ ((a : Nat) : Int) < 0 := by omega
  simp only [h1, if_false]
  have h2 : (decide (0 ≤ ((a : Nat) : Int)) && decide (((a : Nat) : Int) < (n : Int))) = true := by simp; omega
  rw [if_pos h2, Int.toNat_natCast]
theorem ixN_nat {n a : Nat} (h : a < n) : ixN n ((a : Nat) : Int) = some a := by
  unfold ixN
  rw [if_pos (by omega), if_pos (by omega), Int.toNat_natCast]
theorem ret_ok {d x : D} {xs ys : List D} (hx : Ok x) (hs : isSeq x = some xs) (hd : Pot d) (hy : ∀ y ∈ ys, Ok y) (b1 : szs ys ≤ 2 * szs xs + 4) (b2 : his ys ≤ his xs + 2) (x3 x4 x5 x6 : Option Val) :
    Fin x (sRet (mIf (mOr (mB (opN [.nm 1] (isiD ["list"]))) (mB (opN [.ex (mCall mf__law_below [.nm 0, .ex (mC (.int 30))]), .ex (mC (.int 0))] eqG))) (mN 7) (opN [.nm 7] tupleD)) [some (d, 1), some (x, 0), some (.lst ODDL, 1), x3, x4, x5, x6, some (.lst ys, 1)]) := by
  have fin : ∀ {r : D} {d' : D} {ρ'}, (r = .lst ys ∨ r = .tup ys) → Pot d' → sRet (mIf (mOr (mB (opN [.nm 1] (isiD ["list"]))) (mB (opN [.ex (mCall mf__law_below [.nm 0, .ex (mC (.int 30))]), .ex (mC (.int 0))] eqG))) (mN 7) (opN [.nm 7] tupleD)) [some (d, 1), some (x, 0), some (.lst ODDL, 1), x3, x4, x5, x6, some (.lst ys, 1)] = .rt (r, 0) (some (d', 1) :: some (x, 0) :: ρ') → Fin x (sRet (mIf (mOr (mB (opN [.nm 1] (isiD ["list"]))) (mB (opN [.ex (mCall mf__law_below [.nm 0, .ex (mC (.int 30))]), .ex (mC (.int 0))] eqG))) (mN 7) (opN [.nm 7] tupleD)) [some (d, 1), some (x, 0), some (.lst ODDL, 1), x3, x4, x5, x6, some (.lst ys, 1)]) := fun {r d' ρ'} hr hd' e => by
    have hz : sz x = szs xs + 1 ∧ hi x = his xs + 1 := by
      cases hx <;> simp only [isSeq, Option.some.injEq, reduceCtorEq] at hs <;> subst hs <;> exact ⟨by simp [sz], by simp [hi]⟩
    rcases hr with rfl | rfl
    · exact ⟨_, d', ρ', e, hd', .lst hy, by simp only [sz]; omega, by simp only [hi]; omega⟩
    · exact ⟨_, d', ρ', e, hd', .tup hy, by simp only [sz]; omega, by simp only [hi]; omega⟩
  cases hx with
  | lst h =>
    rename_i zs
    have c : mOr (mB (opN [.nm 1] (isiD ["list"]))) (mB (opN [.ex (mCall mf__law_below [.nm 0, .ex (mC (.int 30))]), .ex (mC (.int 0))] eqG)) [some (d, 1), some (.lst zs, 0), some (.lst ODDL, 1), x3, x4, x5, x6, some (.lst ys, 1)] = .ok true [some (d, 1), some (.lst zs, 0), some (.lst ODDL, 1), x3, x4, x5, x6, some (.lst ys, 1)] := by
      have := ev_b (k := 0) (b := true) (ev_n (f := isiD ["list"]) (i := 1) (ρ := [some (d, 1), some (.lst zs, 0), some (.lst ODDL, 1), x3, x4, x5, x6, some (.lst ys, 1)]) rfl (Nat.zero_le _) rfl)
      simp only [mOr, this, bindO, if_true]
    refine fin (.inl rfl) hd (ρ' := [some (.lst ODDL, 1), x3, x4, x5, x6, some (.lst ys, 0)]) (ret_ev ?_)
    simp only [mIf, c, bindO, if_true]
    rfl
  | tup h =>
    rename_i zs
    obtain ⟨r, d1, hd1, r0, r1, e⟩ := below_ev (ρ := [some (.tup zs, 0), some (.lst ODDL, 1), x3, x4, x5, x6, some (.lst ys, 1)]) (m := mC (.int 30)) hd (by decide) (by decide) rfl
    have hb := ev_b (k := 0) (ev_xx e (ev_C (x := .int 0)) (eq_int r 0))
    have c : mOr (mB (opN [.nm 1] (isiD ["list"]))) (mB (opN [.ex (mCall mf__law_below [.nm 0, .ex (mC (.int 30))]), .ex (mC (.int 0))] eqG)) [some (d, 1), some (.tup zs, 0), some (.lst ODDL, 1), x3, x4, x5, x6, some (.lst ys, 1)] = .ok (r == 0) [some (d1, 1), some (.tup zs, 0), some (.lst ODDL, 1), x3, x4, x5, x6, some (.lst ys, 1)] := by
      have := ev_b (k := 0) (b := false) (ev_n (f := isiD ["list"]) (i := 1) (ρ := [some (d, 1), some (.tup zs, 0), some (.lst ODDL, 1), x3, x4, x5, x6, some (.lst ys, 1)]) rfl (Nat.zero_le _) rfl)
      simp only [mOr, this, bindO, Bool.false_eq_true, if_false, hb]
    cases hr : (r == 0) with
    | true =>
      rw [hr] at c
      refine fin (.inl rfl) hd1 (ρ' := [some (.lst ODDL, 1), x3, x4, x5, x6, some (.lst ys, 0)]) (ret_ev ?_)
      simp only [mIf, c, bindO, if_true]
      rfl
    | false =>
      rw [hr] at c
      refine fin (.inr rfl) hd1 (ρ' := [some (.lst ODDL, 1), x3, x4, x5, x6, some (.lst ys, 1)]) (ret_ev ?_)
      simp only [mIf, c, bindO, Bool.false_eq_true, if_false]
      exact ev_n rfl (Nat.le_refl _) rfl
  | _ => simp [isSeq] at hs
end K02
end
section
set_option Elab.async false
set_option linter.all false
set_option maxRecDepth 100000
set_option maxHeartbeats 2000000
namespace K02
open PySem L2 DL
theorem par3_ev {m1 m2 m3 : ME} {ρ ρ1 ρ2 ρ3 : Rho} {r1 r2 r3 : Val} {i j k : Nat} (h1 : m1 ρ = .ok r1 ρ1) (h2 : m2 ρ1 = .ok r2 ρ2) (h3 : m3 ρ2 = .ok r3 ρ3) (a : i < ρ3.length) (b : j < ρ3.length) (c : k < ρ3.length) : sPar [i, j, k] [m1, m2, m3] ρ = .nx (((ρ3.set i (some r1)).set j (some r2)).set k (some r3)) := by
  simp only [sPar, evMs, h1, h2, h3, bindO, List.all_cons, List.all_nil, decide_eq_true a, decide_eq_true b, decide_eq_true c, Bool.and_self, if_true, setRs]
theorem mut_ev {f : D → List D → Option (D × D)} {j k : Nat} {m : ME} {ρ : Rho} {xs ys : List D} {d r : D} (e0 : ρ[j]? = some (some (.lst xs, 1))) (em : m ρ = .ok (d, k) ρ) (hf : f (.lst xs) [d] = some (.lst ys, r)) : mMut j isLst [.ex m] f ρ = .ok (r, 0) (ρ.set j (some (.lst ys, 1))) := by
  simp only [mMut, e0, isLst, if_true, evOs, evO, bindO, em, mutFin, lookOs, lookO, topOf, D.box, cap, Nat.le_refl, hf]
theorem popAt_val {xs : List D} {a : Nat} (h : a < xs.length) (hl : xs.length < 1000000) : popAtD (.lst xs) [.int (a : Nat)] = some (.lst (xs.eraseIdx a), xs[a]) := by
  have hb : -(2 ^ 63) ≤ ((a : Nat) : Int) ∧ ((a : Nat) : Int) < 2 ^ 63 := by omega
  have hx : xs[a]? = some xs[a] := List.getElem?_eq_getElem h
  simp only [popAtD, if_pos hb, seqI h, Option.bind_some, hx, Option.map_some]
theorem popAt_ev {j a k : Nat} {m : ME} {ρ : Rho} {xs : List D} (e0 : ρ[j]? = some (some (.lst xs, 1))) (em : m ρ = .ok (.int (a : Nat), k) ρ) (h : a < xs.length) (hl : xs.length < 1000000) : mMut j isLst [.ex m] popAtD ρ = .ok (xs[a], 0) (ρ.set j (some (.lst (xs.eraseIdx a), 1))) := mut_ev e0 em (popAt_val h hl)
theorem call2_ev {d d' y : D} {r : Val} {ρ : Rho} {m : ME} {k : Nat} {F : MF} (hm : m (some (d, 1) :: ρ) = .ok (y, k) (some (d, 1) :: ρ)) (e : F [(d, 1), (y, 0)] = .ok r [some (d', 1), some (y, 0)]) : mCall F [.nm 0, .ex m] (some (d, 1) :: ρ) = .ok r (some (d', 1) :: ρ) := by
  simp only [mCall, evOs, evO, bindO, List.getElem?_cons_zero, hm, callF, takeOs, List.set_cons_zero, e, giveOs]
theorem at_seq {x : D} {xs : List D} (h : isSeq x = some xs) {a : Nat} (ha : a < xs.length) : atD [x, .int (a : Nat)] = some (xs[a], 0) := by
  have e := atI_nat (xs := xs) (r := (a : Nat)) (by omega) (by omega)
  simp only [Int.toNat_natCast] at e
  unfold isSeq at h
  split at h <;> cases h <;> simp only [atD, ixD, e, Option.map_some]
theorem set_lst {xs : List D} {a : Nat} (h : a < xs.length) (y : D) : setID (.lst xs) (.int (a : Nat)) y = some (.lst (xs.set a y)) := by
  simp only [setID, ixN_nat h, Option.map_some]
theorem len_seq {x : D} {xs : List D} (h : isSeq x = some xs) : lenD [x] = some (.int (xs.length : Nat), 0) := by
  unfold isSeq at h
  split at h <;> cases h <;> rfl
theorem list_seq {x : D} {xs : List D} (h : isSeq x = some xs) : listA [x] = some (.lst xs, 1) := by
  unfold isSeq at h
  split at h <;> cases h <;> rfl
theorem ok_part {x : D} {xs : List D} (hx : Ok x) (h : isSeq x = some xs) : ∀ y ∈ xs, Ok y := by
  cases hx <;> simp only [isSeq, Option.some.injEq, reduceCtorEq] at h <;> subst h <;> assumption
abbrev RETE : MS := sRet (mIf (mOr (mB (opN [.nm 1] (isiD ["list"]))) (mB (opN [.ex (mCall mf__law_below [.nm 0, .ex (mC (.int 30))]), .ex (mC (.int 0))] eqG))) (mN 7) (opN [.nm 7] tupleD))
abbrev DUPE : ME := opN [.ex (opN [.nm 7, .ex (mInt (opN [.nm 6, .ex (mC (.int 1))] addD))] (slD false true)), .ex (opN [.nm 7, .ex (mInt (mN 6))] (slD true false))] addD
abbrev W (k : Int) : MT := mB (opN [.nm 5, .ex (mC (.int k))] eqG)
theorem seq_ok {x : D} {xs : List D} {g : MF} (hx : Ok x) (hs : isSeq x = some xs) (h0 : 0 < xs.length) (hl : xs.length < 100000)
    (ih : ∀ y ∈ xs, ∀ d, Pot d → ∃ r d', Ok r ∧ sz r ≤ 2 * sz y + 4 ∧ hi r ≤ hi y + 2 ∧ Pot d' ∧ g [(d, 1), (y, 0)] = .ok (r, 0) [some (d', 1), some (y, 0)]) {d : D} (hd : Pot d) (x3 x4 x5 x6 x7 : Option Val) :
    Fin x (sSeq (sPar [6, 5, 7] [mCall mf__law_below [.nm 0, .ex (opN [.nm 1] lenD)], mCall mf__law_below [.nm 0, .ex (mC (.int 7))], opN [.nm 1] listA])
      (sSeq (sIf (W 0) (sDrop (mMut 7 isLst [.ex (mN 6)] popAtD)) (sIf (W 1) (sAsg 7 DUPE) (sIf (W 2) (sSetI 7 (.nm 6) (mCall mf__law_pick [.nm 0, .nm 2])) (sSetI 7 (.nm 6) (mCall g [.nm 0, .ex (opN [.nm 1, .nm 6] atD)])))))
      RETE) [some (d, 1), some (x, 0), some (.lst ODDL, 1), x3, x4, x5, x6, x7]) := by
  have okp := ok_part hx hs
  obtain ⟨a', d1, hd1, a0, a1, e1⟩ := below_ev (ρ := [some (x, 0), some (.lst ODDL, 1), x3, x4, x5, x6, x7]) (m := opN [.nm 1] lenD) hd (b := (xs.length : Nat)) (k := 0) (by omega) (by omega) (ev_n rfl (Nat.zero_le _) (len_seq hs))
  obtain ⟨a, rfl⟩ : ∃ a : Nat, a' = a := ⟨a'.toNat, by omega⟩
  have ha : a < xs.length := by omega
  obtain ⟨w, d2, hd2, w0, w1, e2⟩ := below_ev (ρ := [some (x, 0), some (.lst ODDL, 1), x3, x4, x5, x6, x7]) (m := mC (.int 7)) hd1 (by decide) (by decide) rfl
  have E1 := par3_ev (i := 6) (j := 5) (k := 7) e1 e2 (ev_n (i := 1) (f := listA) rfl (Nat.zero_le _) (list_seq hs)) (by simp) (by simp) (by simp)
  have E1' : sPar [6, 5, 7] [mCall mf__law_below [.nm 0, .ex (opN [.nm 1] lenD)], mCall mf__law_below [.nm 0, .ex (mC (.int 7))], opN [.nm 1] listA] [some (d, 1), some (x, 0), some (.lst ODDL, 1), x3, x4, x5, x6, x7] = .nx [some (d2, 1), some (x, 0), some (.lst ODDL, 1), x3, x4, some (.int w, 0), some (.int (a : Nat), 0), some (.lst xs, 1)] := E1
  rw [seq_nx E1']
  have Wv : ∀ k : Int, W k [some (d2, 1), some (x, 0), some (.lst ODDL, 1), x3, x4, some (.int w, 0), some (.int (a : Nat), 0), some (.lst xs, 1)] = .ok (w == k) [some (d2, 1), some (x, 0), some (.lst ODDL, 1), x3, x4, some (.int w, 0), some (.int (a : Nat), 0), some (.lst xs, 1)] := fun k => ev_b (k := 0) (ev_nx (i := 5) rfl (ev_C (x := .int k)) rfl (Nat.zero_le _) (eq_int w k))
  have xm : xs[a] ∈ xs := List.getElem_mem ha
  have hset : ∀ {y : D}, Ok y → ∀ z ∈ xs.set a y, Ok z := fun {y} hy z hz => by
    rcases List.mem_or_eq_of_mem_set hz with h | h
    · exact okp z h
    · exact h ▸ hy
  have hiset : ∀ {y : D}, hi y ≤ his xs + 2 → his (xs.set a y) ≤ his xs + 2 := fun {y} hy => his_le.mpr fun z hz => by
    rcases List.mem_or_eq_of_mem_set hz with h | h
    · exact Nat.le_trans (his_le.mp (Nat.le_refl _) z h) (by omega)
    · exact h ▸ hy
  by_cases h : w = 0
  · have c := Wv 0
    rw [h] at c
    have P := popAt_ev (j := 7) (m := mN 6) (ρ := [some (d2, 1), some (x, 0), some (.lst ODDL, 1), x3, x4, some (.int w, 0), some (.int (a : Nat), 0), some (.lst xs, 1)]) (k := 0) rfl rfl ha (by omega)
    rw [h] at P ⊢
    rw [seq_nx ((if_t c).trans (drop_ev P))]
    exact ret_ok hx hs hd2 (fun y hy => okp y (List.mem_of_mem_eraseIdx hy)) (by have := szs_erase ha; omega) (his_le.mpr fun y hy => Nat.le_trans (his_le.mp (Nat.le_refl _) y (List.mem_of_mem_eraseIdx hy)) (by omega)) _ _ _ _
  have c0 := Wv 0
  rw [show (w == 0) = false by simpa using h] at c0
  by_cases h1 : w = 1
  · have c := Wv 1
    rw [show (w == 1) = true by simpa using h1] at c
    have z1 : addD [.int (a : Nat), .int 1] = some (.int ((a + 1 : Nat) : Int), 0) := by simp only [addD]; simp
    have s1 : slD false true [.lst xs, .int ((a + 1 : Nat) : Int)] = some (.lst (xs.take (a + 1)), 1) := by simp only [slD, slV, cut_to (xs := xs) (a := a + 1) (by omega)]
    have s2 : slD true false [.lst xs, .int ((a : Nat) : Int)] = some (.lst (xs.drop a), 1) := by simp only [slD, slV, cut_from (xs := xs) (a := a) (by omega)]
    have hz : (xs.take (a + 1)).length + (xs.drop a).length ≤ sizeLine := ok_len (by simp; omega)
    have s3 : addD [.lst (xs.take (a + 1)), .lst (xs.drop a)] = some (.lst (xs.take (a + 1) ++ xs.drop a), 1) := by simp only [addD, if_pos hz]
    have DU : DUPE [some (d2, 1), some (x, 0), some (.lst ODDL, 1), x3, x4, some (.int w, 0), some (.int (a : Nat), 0), some (.lst xs, 1)] = .ok (.lst (xs.take (a + 1) ++ xs.drop a), 1) [some (d2, 1), some (x, 0), some (.lst ODDL, 1), x3, x4, some (.int w, 0), some (.int (a : Nat), 0), some (.lst xs, 1)] :=
      ev_xx (ev_nx rfl (ev_I (ev_nx (i := 6) rfl ev_C rfl (Nat.zero_le _) z1)) rfl (Nat.le_refl _) s1) (ev_nx rfl (ev_I (ev_N rfl)) rfl (Nat.le_refl _) s2) s3
    rw [seq_nx ((if_f c0).trans ((if_t c).trans (asg_ev DU (by simp))))]
    have mm : ∀ y ∈ xs.take (a + 1) ++ xs.drop a, y ∈ xs := fun y hy => by
      rcases List.mem_append.mp hy with h | h
      · exact List.mem_of_mem_take h
      · exact List.mem_of_mem_drop h
    exact ret_ok hx hs hd2 (fun y hy => okp y (mm y hy)) (by have := szs_dup ha; omega) (his_le.mpr fun y hy => Nat.le_trans (his_le.mp (Nat.le_refl _) y (mm y hy)) (by omega)) _ _ _ _
  have c1 := Wv 1
  rw [show (w == 1) = false by simpa using h1] at c1
  by_cases h2 : w = 2
  · have c := Wv 2
    rw [show (w == 2) = true by simpa using h2] at c
    obtain ⟨y, d3, hd3, hy, e3⟩ := pick hd2 (items := ODDL) (by decide) (by decide) 1 (.inr rfl)
    obtain ⟨q1, q2, q3⟩ := odd_ok y hy
    have PE : mCall mf__law_pick [.nm 0, .nm 2] [some (d2, 1), some (x, 0), some (.lst ODDL, 1), x3, x4, some (.int w, 0), some (.int (a : Nat), 0), some (.lst xs, 1)] = .ok (y, 0) [some (d3, 1), some (x, 0), some (.lst ODDL, 1), x3, x4, some (.int w, 0), some (.int (a : Nat), 0), some (.lst xs, 1)] := by
      generalize mf__law_pick = F at e3 ⊢
      generalize D.lst ODDL = O at e3 ⊢
      simp [sSeq, sIf, sAsg, sRet, sSkip, sPar, sSetI, sFor, mRange, rangeFin, rangeD1, opN, evOs, evO, bindO, DL.bindG, lookOs, lookO, fin, cap, mC, mN, mMv, mB, mIf, mOr, mAnd, mNot, mAndV, mNotV, mCall, callF, takeOs, giveOs, runD, outP, orF, addD, subD, mulA, mulD, repD, modD, fdivD, powD, absD, DL.intD, lenD, lstD, tupD, cmpD, atD, ixD, setFin, topOf, setID, evMs, setRs, asgT, asgTs, D.box, List.range, List.range.loop, sizeLine_eq, mTru, truB, sDrop, mMut, mutFin, sAsgT, mIt, itD, e3]
    rw [seq_nx ((if_f c0).trans ((if_f c1).trans ((if_t c).trans (setI_nm PE rfl rfl rfl (set_lst ha y)))))]
    exact ret_ok hx hs hd3 (hset q1) (by have := szs_set ha y; omega) (hiset (by omega)) _ _ _ _
  · have c := Wv 2
    rw [show (w == 2) = false by simpa using h2] at c
    obtain ⟨y, d3, q1, q2, q3, hd3, e3⟩ := ih xs[a] xm d2 hd2
    have CE := call2_ev (m := opN [.nm 1, .nm 6] atD) (ρ := [some (x, 0), some (.lst ODDL, 1), x3, x4, some (.int w, 0), some (.int (a : Nat), 0), some (.lst xs, 1)]) (k := 0) (ev_nn (i := 1) (j := 6) rfl (Nat.zero_le _) rfl (Nat.zero_le _) (at_seq hs ha)) e3
    rw [seq_nx ((if_f c0).trans ((if_f c1).trans ((if_f c).trans (setI_nm CE rfl rfl rfl (set_lst ha y)))))]
    have hp := his_le.mp (Nat.le_refl (his xs)) _ xm
    have sp := szs_at ha
    exact ret_ok hx hs hd3 (hset q1) (by have := szs_set ha y; omega) (hiset (by omega)) _ _ _ _
theorem bent_ok : ∀ (n : Nat) (x : D), Ok x → hi x < n → sz x < 100000 → ∀ d, Pot d → ∃ r d', Ok r ∧ sz r ≤ 2 * sz x + 4 ∧ hi r ≤ hi x + 2 ∧ Pot d' ∧ mf__law_bent n [(d, 1), (x, 0)] = .ok (r, 0) [some (d', 1), some (x, 0)]
  | 0, _, _, h, _, _, _ => by omega
  | n + 1, x, hx, hn, hz, d, hd => by
    have F : Fin x (ms__law_bent (mf__law_bent n) [some (d, 1), some (x, 0), none, none, none, none, none, none]) := by
      unfold ms__law_bent
      rw [seq_nx (asg_ev (odd_ev _) (by simp)), seq_nx (ifs_f (dict_no hx _ rfl _))]
      show Fin x (sSeq _ _ [some (d, 1), some (x, 0), some (.lst ODDL, 1), none, none, none, none, none])
      have q : ∀ {b : Bool}, isiD ["tuple", "list"] [x] = some (.bl b, 0) → mB (opN [.nm 1] (isiD ["tuple", "list"])) [some (d, 1), some (x, 0), some (.lst ODDL, 1), none, none, none, none, none] = .ok b [some (d, 1), some (x, 0), some (.lst ODDL, 1), none, none, none, none, none] := fun h => ev_b (ev_n rfl (Nat.zero_le _) h)
      cases hs : isSeq x with
      | none =>
        have hb : isiD ["tuple", "list"] [x] = some (.bl false, 0) := by
          cases hx <;> first | rfl | simp [isSeq] at hs
        rw [seq_nx (ifs_f (ρ1 := [some (d, 1), some (x, 0), some (.lst ODDL, 1), none, none, none, none, none]) (by simp only [mAnd, q hb, bindO, Bool.false_eq_true, if_false]))]
        exact ints_ok hx hd _ _ _ _ _
      | some xs =>
        have hb : isiD ["tuple", "list"] [x] = some (.bl true, 0) := by
          cases hx <;> first | rfl | simp [isSeq] at hs
        have hzz : sz x = szs xs + 1 ∧ hi x = his xs + 1 := by
          cases hx <;> simp only [isSeq, Option.some.injEq, reduceCtorEq] at hs <;> subst hs <;> exact ⟨by simp [sz], by simp [hi]⟩
        have hlen := len_szs xs
        have l1 : opN [.nm 1] lenD [some (d, 1), some (x, 0), some (.lst ODDL, 1), none, none, none, none, none] = .ok (.int (xs.length : Nat), 0) [some (d, 1), some (x, 0), some (.lst ODDL, 1), none, none, none, none, none] := ev_n rfl (Nat.zero_le _) (len_seq hs)
        have l2 : mB (opN [.ex (opN [.nm 1] lenD), .ex (mC (.int 0))] gtD) [some (d, 1), some (x, 0), some (.lst ODDL, 1), none, none, none, none, none] = .ok (decide ((0 : Int) < (xs.length : Nat))) [some (d, 1), some (x, 0), some (.lst ODDL, 1), none, none, none, none, none] := ev_b (k := 0) (ev_xx l1 ev_C rfl)
        by_cases h0 : 0 < xs.length
        · obtain ⟨r, d1, hd1, r0, r1, e⟩ := below_ev (ρ := [some (x, 0), some (.lst ODDL, 1), none, none, none, none, none]) (m := mC (.int 5)) hd (by decide) (by decide) rfl
          have l3 : mB (opN [.ex (mCall mf__law_below [.nm 0, .ex (mC (.int 5))]), .ex (mC (.int 0))] gtD) [some (d, 1), some (x, 0), some (.lst ODDL, 1), none, none, none, none, none] = .ok (decide (0 < r)) [some (d1, 1), some (x, 0), some (.lst ODDL, 1), none, none, none, none, none] := ev_b (k := 0) (ev_xx e (ev_C (x := .int 0)) rfl)
          have z0 : decide ((0 : Int) < (xs.length : Nat)) = true := decide_eq_true (by omega)
          rw [z0] at l2
          cases hr : decide (0 < r) with
          | true =>
            rw [hr] at l3
            have c : mAnd (mB (opN [.nm 1] (isiD ["tuple", "list"]))) (mAnd (mB (opN [.ex (opN [.nm 1] lenD), .ex (mC (.int 0))] gtD)) (mB (opN [.ex (mCall mf__law_below [.nm 0, .ex (mC (.int 5))]), .ex (mC (.int 0))] gtD))) [some (d, 1), some (x, 0), some (.lst ODDL, 1), none, none, none, none, none] = .ok true [some (d1, 1), some (x, 0), some (.lst ODDL, 1), none, none, none, none, none] := by
              simp only [mAnd, q hb, bindO, if_true, l2, l3]
            obtain ⟨r', d', ρ', e', f⟩ := seq_ok hx hs h0 (by omega) (g := mf__law_bent n) (fun y hy d hd => bent_ok n y (ok_part hx hs y hy) (by have := his_le.mp (Nat.le_refl (his xs)) y hy; omega) (by
              obtain ⟨i, hi', rfl⟩ := List.mem_iff_getElem.mp hy
              have := szs_at hi'
              omega) d hd) hd1 none none none none none
            exact ⟨r', d', ρ', seq_rt ((if_t c).trans e'), f⟩
          | false =>
            rw [hr] at l3
            rw [seq_nx (ifs_f (ρ1 := [some (d1, 1), some (x, 0), some (.lst ODDL, 1), none, none, none, none, none]) (by simp only [mAnd, q hb, bindO, if_true, l2, l3]))]
            exact ints_ok hx hd1 _ _ _ _ _
        · have z0 : decide ((0 : Int) < (xs.length : Nat)) = false := decide_eq_false (by omega)
          rw [z0] at l2
          rw [seq_nx (ifs_f (ρ1 := [some (d, 1), some (x, 0), some (.lst ODDL, 1), none, none, none, none, none]) (by simp only [mAnd, q hb, bindO, if_true, l2, Bool.false_eq_true, if_false]))]
          exact ints_ok hx hd _ _ _ _ _
    obtain ⟨r, d', ρ', e, hd', h1, h2, h3⟩ := F
    refine ⟨r, d', h1, h2, h3, hd', ?_⟩
    show runD 2 8 [0, 1] (ms__law_bent (mf__law_bent n)) _ = _
    unfold runD
    have e0 : ([(d, 1), (x, 0)] : List Val).map some ++ List.replicate (8 - 2) none = [some (d, 1), some (x, 0), none, none, none, none, none, none] := rfl
    rw [e0, e]
    rfl
end K02
end
section
set_option Elab.async false
set_option linter.all false
set_option maxRecDepth 100000
set_option maxHeartbeats 2000000
namespace K02
open PySem L2 DL
/-! ### is it a tree -/
def tagV (vs : List Vr) (t : Str) : Option (List Str) := (vs.find? fun v => v.1 == t).map Prod.snd
def tagK (S : Sch) (k t : Str) : Option (List Str) := (S.lookup k).bind fun vs => tagV vs t
mutual
def isT (S : Sch) : D → Str → Bool
  | .tup xs, k => isH S xs k
  | _, _ => false
def isH (S : Sch) : List D → Str → Bool
  | y :: ps, k => match y with
    | .str t => match tagK S k t with
      | some cs => isTs S ps cs
      | none => false
    | _ => false
  | [], _ => false
def isTs (S : Sch) : List D → List Str → Bool
  | [], [] => true
  | p :: ps, c :: cs => isT S p c && isTs S ps cs
  | _, _ => false
end
theorem isTs_len {S : Sch} : ∀ {ps : List D} {cs : List Str}, isTs S ps cs = true → ps.length = cs.length
  | [], [], _ => rfl
  | p :: ps, c :: cs, h => by
    simp only [isTs, Bool.and_eq_true] at h
    simp [isTs_len h.2]
  | [], _ :: _, h => by simp [isTs] at h
  | _ :: _, [], h => by simp [isTs] at h
theorem ne_int (a b : Int) : neG [.int a, .int b] = some (.bl (!(a == b)), 0) := by
  have e1 : neX [.int a, .int b] = none := rfl
  have s1 : SeqAt.shaped (.int a) = true := rfl
  have s2 : SeqAt.shaped (.int b) = true := rfl
  simp only [neG, neA, orF, e1, eqD, eqB, pd, s1, s2, Bool.and_self, if_true, PyData.eqv]
def sameS (a : Str) : D → Bool
  | .str b => a == b
  | _ => false
theorem eq_any (a : Str) {y : D} (h : Ok y) : eqG [.str a, y] = some (.bl (sameS a y), 0) := by
  cases h <;> rfl
theorem at0 {y : D} {ys : List D} : atD [.tup (y :: ys), .int 0] = some (y, 0) := by simp only [atD, ixD, at_0, Option.map_some]
theorem cut1 (y : D) (ys : List D) : slD true false [.tup (y :: ys), .int 1] = some (.tup ys, 0) := by
  have := cut_from (xs := y :: ys) (a := 1) (by simp)
  simp only [slD, slV]
  rw [show ((1 : Int)) = ((1 : Nat) : Int) from rfl, this]
  rfl
def kidsD (vs : List Vr) : D → D
  | .tup (y :: ps) => match y with
    | .str t => match tagV vs t with
      | some cs => if cs.length = ps.length then .tup (cs.map D.str) else .non
      | none => .non
    | _ => .non
  | _ => .non
theorem forD_skip {t : Tg} {body : MS} {d : D} {ds : List D} {ρ ρ1 ρ2 : Rho} (h1 : asgT t d ρ = some ρ1) (h2 : body ρ1 = .nx ρ2) : forD t body (d :: ds) ρ = forD t body ds ρ2 := by rw [forD, h1]; simp only [h2]
theorem forD_ret {t : Tg} {body : MS} {d : D} {ds : List D} {ρ ρ1 ρ2 : Rho} {r : Val} (h1 : asgT t d ρ = some ρ1) (h2 : body ρ1 = .rt r ρ2) : forD t body (d :: ds) ρ = .rt r ρ2 := by rw [forD, h1]; simp only [h2]
theorem asg2 {d1 d2 : D} {a b : D} {x2 x3 : Option Val} : asgT (.tup [.nm 2, .nm 3]) (.tup [d1, d2]) [some (a, 0), some (b, 0), x2, x3] = some [some (a, 0), some (b, 0), some (d1, 0), some (d2, 0)] := rfl
/-- the loop of _children_at -/
theorem kids_loop (V : D) {y : D} {ps : List D} (hy : Ok y) (hl : ps.length < 100000) : ∀ (vs : List Vr) (x2 x3 : Option Val), (vs.map Prod.fst).Nodup → (∀ v ∈ vs, v.2.length ≤ 3) →
    (kidsD vs (.tup (y :: ps)) = .non ∧ ∃ x2' x3', forD (.tup [.nm 2, .nm 3]) (sIf (mAnd (mB (opN [.nm 2, .ex (opN [.nm 1, .ex (mC (.int 0))] atD)] eqG)) (mB (opN [.ex (opN [.nm 3] lenD), .ex (opN [.ex (opN [.nm 1] lenD), .ex (mC (.int 1))] subD)] eqG))) (sRet (mMv 3)) (sSkip)) (vs.map varD) [some (V, 0), some (.tup (y :: ps), 0), x2, x3] = .nx [some (V, 0), some (.tup (y :: ps), 0), x2', x3']) ∨
    (kidsD vs (.tup (y :: ps)) ≠ .non ∧ ∃ x2' x3', forD (.tup [.nm 2, .nm 3]) (sIf (mAnd (mB (opN [.nm 2, .ex (opN [.nm 1, .ex (mC (.int 0))] atD)] eqG)) (mB (opN [.ex (opN [.nm 3] lenD), .ex (opN [.ex (opN [.nm 1] lenD), .ex (mC (.int 1))] subD)] eqG))) (sRet (mMv 3)) (sSkip)) (vs.map varD) [some (V, 0), some (.tup (y :: ps), 0), x2, x3] = .rt (kidsD vs (.tup (y :: ps)), 0) [some (V, 0), some (.tup (y :: ps), 0), x2', x3'])
  | [], x2, x3, _, _ => .inl ⟨by cases hy <;> rfl, x2, x3, rfl⟩
  | (t, cs) :: vs, x2, x3, nd, hc => by
    have nd' := List.nodup_cons.mp (show (t :: vs.map Prod.fst).Nodup from nd)
    have ih := kids_loop V hy hl vs (some (.str t, 0)) (some (.tup (cs.map D.str), 0)) nd'.2 fun v hv => hc v (List.mem_cons_of_mem _ hv)
    have c1 : mB (opN [.nm 2, .ex (opN [.nm 1, .ex (mC (.int 0))] atD)] eqG) [some (V, 0), some (.tup (y :: ps), 0), some (.str t, 0), some (.tup (cs.map D.str), 0)] = .ok (sameS t y) [some (V, 0), some (.tup (y :: ps), 0), some (.str t, 0), some (.tup (cs.map D.str), 0)] :=
      ev_b (ev_nx (i := 2) rfl (ev_nx (i := 1) rfl ev_C rfl (Nat.zero_le _) at0) rfl (Nat.zero_le _) (eq_any t hy))
    have z1 : subD [.int ((y :: ps).length : Nat), .int 1] = some (.int (ps.length : Nat), 0) := by simp only [subD, List.length_cons]; congr 3; omega
    have c2 : mB (opN [.ex (opN [.nm 3] lenD), .ex (opN [.ex (opN [.nm 1] lenD), .ex (mC (.int 1))] subD)] eqG) [some (V, 0), some (.tup (y :: ps), 0), some (.str t, 0), some (.tup (cs.map D.str), 0)] = .ok (decide (cs.length = ps.length)) [some (V, 0), some (.tup (y :: ps), 0), some (.str t, 0), some (.tup (cs.map D.str), 0)] := by
      have e := eq_int (((cs.map D.str).length : Nat) : Int) ((ps.length : Nat) : Int)
      have q : ((((cs.map D.str).length : Nat) : Int) == ((ps.length : Nat) : Int)) = decide (cs.length = ps.length) := by
        rw [List.length_map]
        by_cases h : cs.length = ps.length
        · rw [decide_eq_true h]; exact beq_iff_eq.mpr (by omega)
        · rw [decide_eq_false h]; exact beq_eq_false_iff_ne.mpr (by omega)
      rw [q] at e
      exact ev_b (ev_xx (ev_n (i := 3) rfl (Nat.zero_le _) rfl) (ev_xx (ev_n (i := 1) rfl (Nat.zero_le _) rfl) ev_C z1) e)
    have skip : ∀ {body : MS} {b : Bool}, (kidsD ((t, cs) :: vs) (.tup (y :: ps)) = kidsD vs (.tup (y :: ps))) → body [some (V, 0), some (.tup (y :: ps), 0), some (.str t, 0), some (.tup (cs.map D.str), 0)] = .nx [some (V, 0), some (.tup (y :: ps), 0), some (.str t, 0), some (.tup (cs.map D.str), 0)] → forD (.tup [.nm 2, .nm 3]) body (((t, cs) :: vs).map varD) [some (V, 0), some (.tup (y :: ps), 0), x2, x3] = forD (.tup [.nm 2, .nm 3]) body (vs.map varD) [some (V, 0), some (.tup (y :: ps), 0), some (.str t, 0), some (.tup (cs.map D.str), 0)] := fun _ h => forD_skip asg2 h
    cases h1 : sameS t y with
    | false =>
      rw [h1] at c1
      have ek : kidsD ((t, cs) :: vs) (.tup (y :: ps)) = kidsD vs (.tup (y :: ps)) := by
        cases hy with
        | str u =>
          have : (t == u) = false := h1
          simp only [kidsD, tagV, List.find?_cons, this]
        | _ => rfl
      rw [ek, skip (b := true) ek (by rw [ifs_f]; simp only [mAnd, c1, bindO, Bool.false_eq_true, if_false])]
      exact ih
    | true =>
      rw [h1] at c1
      obtain ⟨u, rfl⟩ : ∃ u, y = .str u := by
        cases hy <;> first | exact ⟨_, rfl⟩ | simp [sameS] at h1
      have hu : t = u := by simpa [sameS] using h1
      subst hu
      have tg : tagV ((t, cs) :: vs) t = some cs := by simp [tagV]
      have tg' : tagV vs t = none := by
        simp only [tagV, Option.map_eq_none_iff, List.find?_eq_none]
        intro v hv
        simp only [beq_iff_eq]
        intro e
        exact nd'.1 (e ▸ List.mem_map_of_mem (f := Prod.fst) hv)
      by_cases h2 : cs.length = ps.length
      · rw [decide_eq_true h2] at c2
        refine .inr ⟨?_, some (.str t, 0), none, ?_⟩
        · simp only [kidsD, tg, if_pos h2]
          intro z; cases z
        · simp only [kidsD, tg, if_pos h2]
          exact forD_ret asg2 ((if_t (ρ1 := [some (V, 0), some (.tup (.str t :: ps), 0), some (.str t, 0), some (.tup (cs.map D.str), 0)]) (by simp only [mAnd, c1, bindO, if_true, c2])).trans (ret_ev rfl))
      · rw [decide_eq_false h2] at c2
        have ek : kidsD ((t, cs) :: vs) (.tup (.str t :: ps)) = kidsD vs (.tup (.str t :: ps)) := by
          simp only [kidsD, tg, tg', if_neg h2]
        rw [ek, skip (b := true) ek (by rw [ifs_f]; simp only [mAnd, c1, bindO, if_true, c2])]
        exact ih
theorem kids_ok {vs : List Vr} (nd : (vs.map Prod.fst).Nodup) (hc : ∀ v ∈ vs, v.2.length ≤ 3) {x : D} (hx : Ok x) (hz : sz x < 100000) : mf__children_at [(.tup (vs.map varD), 0), (x, 0)] = .ok (kidsD vs x, 0) [some (.tup (vs.map varD), 0), some (x, 0)] := by
  unfold mf__children_at runD
  have e0 : ([(.tup (vs.map varD), 0), (x, 0)] : List Val).map some ++ List.replicate (4 - 2) none = [some (.tup (vs.map varD), 0), some (x, 0), none, none] := rfl
  rw [e0]
  generalize hV : D.tup (vs.map varD) = V
  have fin : ∀ {a b : Option Val}, ms__children_at [some (V, 0), some (x, 0), none, none] = .rt (kidsD vs x, 0) [some (V, 0), some (x, 0), a, b] → (match ms__children_at [some (V, 0), some (x, 0), none, none] with | .nx ρ => .ok (.non, 0) (outP 2 [0, 1] ρ) | .rt r ρ => .ok r (outP 2 [0, 1] ρ) | .exc x ρ => .exc x (outP 2 [0, 1] ρ) | _ => .bad) = FOut.ok (kidsD vs x, 0) [some (V, 0), some (x, 0)] := fun {a b} h => by rw [h]; rfl
  have no : kidsD vs x = .non → mOr (mNot (mB (opN [.nm 1] (isiD ["tuple"])))) (mNot (mTru (.nm 1))) [some (V, 0), some (x, 0), none, none] = .ok true [some (V, 0), some (x, 0), none, none] → ms__children_at [some (V, 0), some (x, 0), none, none] = .rt (kidsD vs x, 0) [some (V, 0), some (x, 0), none, none] := fun e h => by
    unfold ms__children_at
    rw [e]
    exact seq_rt ((if_t h).trans rfl)
  have q : ∀ {b : Bool}, isiD ["tuple"] [x] = some (.bl b, 0) → mB (opN [.nm 1] (isiD ["tuple"])) [some (V, 0), some (x, 0), none, none] = .ok b [some (V, 0), some (x, 0), none, none] := fun h => ev_b (ev_n rfl (Nat.zero_le _) h)
  have nt : isiD ["tuple"] [x] = some (.bl false, 0) → mOr (mNot (mB (opN [.nm 1] (isiD ["tuple"])))) (mNot (mTru (.nm 1))) [some (V, 0), some (x, 0), none, none] = .ok true [some (V, 0), some (x, 0), none, none] := fun h => by simp only [mOr, mNot, q h, bindO, Bool.not_false, if_true]
  cases hx with
  | tup h =>
    rename_i xs
    cases xs with
    | nil =>
      refine fin (no rfl ?_)
      simp only [mOr, mNot, q (b := true) rfl, bindO, Bool.not_true, Bool.false_eq_true, if_false]
      rfl
    | cons y ps =>
      have hp : ps.length < 100000 := by
        have := len_szs (y :: ps)
        simp only [sz] at hz
        simp at this
        omega
      have c : mOr (mNot (mB (opN [.nm 1] (isiD ["tuple"])))) (mNot (mTru (.nm 1))) [some (V, 0), some (.tup (y :: ps), 0), none, none] = .ok false [some (V, 0), some (.tup (y :: ps), 0), none, none] := by
        simp only [mOr, mNot, q (b := true) rfl, bindO, Bool.not_true, Bool.false_eq_true, if_false]
        rfl
      have EI : mIt (mN 0) [some (V, 0), some (.tup (y :: ps), 0), none, none] = .ok (vs.map varD) [some (V, 0), some (.tup (y :: ps), 0), none, none] := by subst hV; rfl
      rcases kids_loop V (h y List.mem_cons_self) hp vs none none nd hc with ⟨e, a, b, l⟩ | ⟨e, a, b, l⟩
      · refine fin (a := a) (b := b) ?_
        unfold ms__children_at
        rw [e]
        exact (seq_nx (ifs_f c)).trans ((seq_nx ((for_ev EI).trans l)).trans rfl)
      · refine fin (a := a) (b := b) ?_
        unfold ms__children_at
        exact (seq_nx (ifs_f c)).trans (seq_rt ((for_ev EI).trans l))
  | non => exact fin (no rfl (nt rfl))
  | bl _ => exact fin (no rfl (nt rfl))
  | int _ => exact fin (no rfl (nt rfl))
  | str _ => exact fin (no rfl (nt rfl))
  | emp => exact fin (no rfl (nt rfl))
  | lst _ => exact fin (no rfl (nt rfl))
end K02
end
section
set_option Elab.async false
set_option linter.all false
set_option maxRecDepth 100000
set_option maxHeartbeats 2000000
namespace K02
open PySem L2 DL
theorem tag_mem {vs : List Vr} {t : Str} {cs : List Str} (h : tagV vs t = some cs) : (t, cs) ∈ vs := by
  unfold tagV at h
  cases e : vs.find? (fun v => v.1 == t) with
  | none => rw [e] at h; cases h
  | some v =>
    rw [e] at h
    cases h
    have h1 := List.find?_some e
    have h2 := List.mem_of_find?_eq_some e
    have : v.1 = t := by simpa using h1
    subst this
    exact h2
theorem kids_spec {S : Sch} {k : Str} {vs : List Vr} (hv : S.lookup k = some vs) {x : D} (hx : Ok x) : (kidsD vs x = .non ∧ isT S x k = false) ∨ ∃ t ps cs, x = .tup (.str t :: ps) ∧ tagV vs t = some cs ∧ cs.length = ps.length ∧ kidsD vs x = .tup (cs.map D.str) ∧ isT S x k = isTs S ps cs := by
  cases hx with
  | tup h =>
    rename_i xs
    cases xs with
    | nil => exact .inl ⟨rfl, by simp [isT, isH]⟩
    | cons y ps =>
      have hy := h y List.mem_cons_self
      cases hy with
      | str t =>
        have e1 : tagK S k t = tagV vs t := by simp [tagK, hv]
        cases e : tagV vs t with
        | none => exact .inl ⟨by simp [kidsD, e], by simp [isT, isH, e1, e]⟩
        | some cs =>
          by_cases hl : cs.length = ps.length
          · exact .inr ⟨t, ps, cs, rfl, e, hl, by simp [kidsD, e, hl], by simp [isT, isH, e1, e]⟩
          · refine .inl ⟨by simp [kidsD, e, hl], ?_⟩
            simp only [isT, isH, e1, e]
            cases q : isTs S ps cs with
            | false => rfl
            | true => exact (hl (isTs_len q).symm).elim
      | _ => exact .inl ⟨rfl, by simp [isT, isH]⟩
  | _ => exact .inl ⟨rfl, by simp [isT]⟩
def pD (p : Str × D) : D := .tup [.str p.1, p.2]
theorem zip_pD : ∀ (cs : List Str) (ps : List D), zipD (cs.map D.str) ps = (cs.zip ps).map pD
  | [], _ => rfl
  | _ :: _, [] => rfl
  | c :: cs, p :: ps => by simp only [List.map_cons, zipD, List.zip_cons_cons, zip_pD cs ps, pD]
theorem all_zip {S : Sch} : ∀ (cs : List Str) (ps : List D), cs.length = ps.length → (cs.zip ps).all (fun p => isT S p.2 p.1) = isTs S ps cs
  | [], [], _ => rfl
  | c :: cs, p :: ps, h => by simp only [List.zip_cons_cons, List.all_cons, isTs, all_zip cs ps (by simpa using h)]
  | [], _ :: _, h => by simp at h
  | _ :: _, [], h => by simp at h
def mst : List (Str × D) → Nat
  | [] => 0
  | p :: st => sz p.2 + mst st
theorem mst_app : ∀ a b, mst (a ++ b) = mst a + mst b
  | [], b => by simp [mst]
  | p :: a, b => by simp only [List.cons_append, mst, mst_app a b]; omega
theorem mst_zip : ∀ (cs : List Str) (ps : List D), mst (cs.zip ps) ≤ szs ps
  | [], _ => by simp [mst]
  | _ :: _, [] => by simp [mst]
  | c :: cs, p :: ps => by have := mst_zip cs ps; simp only [List.zip_cons_cons, mst, szs]; omega
theorem len_mst : ∀ st : List (Str × D), st.length ≤ mst st
  | [] => by simp
  | p :: st => by have := len_mst st; have := sz_pos p.2; simp only [mst, List.length_cons]; omega
theorem callk_ev {F : MF} {m : ME} {a b : D} {k j : Nat} {r : Val} {ρ : Rho} (hm : m ρ = .ok (a, k) ρ) (hj : ρ[j]? = some (some (b, 0))) (e : F [(a, 0), (b, 0)] = .ok r [some (a, 0), some (b, 0)]) : mCall F [.ex m, .nm j] ρ = .ok r ρ := by
  simp only [mCall, evOs, evO, bindO, hm, hj, callF, takeOs, e, giveOs]
theorem while_t {t : MT} {b : MS} {n : Nat} {ρ ρ1 ρ2 : Rho} (h1 : t ρ = .ok true ρ1) (h2 : b ρ1 = .nx ρ2) : whileD t b (n + 1) ρ = whileD t b n ρ2 := by simp only [whileD, h1, if_true, h2]
theorem while_r {t : MT} {b : MS} {n : Nat} {ρ ρ1 ρ2 : Rho} {r : Val} (h1 : t ρ = .ok true ρ1) (h2 : b ρ1 = .rt r ρ2) : whileD t b (n + 1) ρ = .rt r ρ2 := by simp only [whileD, h1, if_true, h2]
theorem while_f {t : MT} {b : MS} {n : Nat} {ρ ρ1 : Rho} (h1 : t ρ = .ok false ρ1) : whileD t b (n + 1) ρ = .nx ρ1 := by simp only [whileD, h1, Bool.false_eq_true, if_false]
theorem tru_lst {i : Nat} {ρ : Rho} {xs : List D} (h : ρ[i]? = some (some (.lst xs, 1))) : mTru (.nm i) ρ = .ok (!xs.isEmpty) ρ := by
  simp only [mTru, evO, h, bindO, lookO, cap, Nat.le_refl, if_true, truB]
abbrev BTREE : MS := sSeq (sAsgT (.tup [.nm 4, .nm 5]) (mMut 3 isLst [] popD))
  (sSeq (sAsg 6 (mCall mf__children_at [.ex (opN [.nm 0, .nm 4] atD), .nm 5]))
  (sSeq (sIf (mB (opN [.nm 6, .ex (mC .non)] isA)) (sRet (mC (.bl false))) (sSkip))
  (sDrop (mMut 3 isLst [.ex (opN [.nm 6, .ex (opN [.nm 5, .ex (mInt (mC (.int 1)))] (slD true false))] lzipD)] extD))))
theorem asgT_ev {t : Tg} {m : ME} {r : Val} {ρ ρ1 ρ2 : Rho} (h : m ρ = .ok r ρ1) (h2 : asgT t r.1 ρ1 = some ρ2) : sAsgT t m ρ = .nx ρ2 := by simp only [sAsgT, h, h2]
theorem tree_while {S : Sch} (g : Good S) (K X : Option Val) : ∀ (n : Nat) (st : List (Str × D)) (x4 x5 x6 : Option Val), (∀ p ∈ st, p.1 ∈ S.map Prod.fst ∧ Ok p.2) → mst st < n → mst st < 100000 →
    (st.all (fun p => isT S p.2 p.1) = true ∧ ∃ y4 y5 y6, whileD (mTru (.nm 3)) BTREE n [some (schD S, 0), K, X, some (.lst (st.map pD), 1), x4, x5, x6] = .nx [some (schD S, 0), K, X, some (.lst [], 1), y4, y5, y6]) ∨
    (st.all (fun p => isT S p.2 p.1) = false ∧ ∃ y3 y4 y5 y6, whileD (mTru (.nm 3)) BTREE n [some (schD S, 0), K, X, some (.lst (st.map pD), 1), x4, x5, x6] = .rt (.bl false, 0) [some (schD S, 0), K, X, y3, y4, y5, y6])
  | 0, _, _, _, _, _, h, _ => by omega
  | n + 1, st, x4, x5, x6, hst, hn, hm => by
    rcases List.eq_nil_or_concat st with rfl | ⟨st', ⟨k, x⟩, rfl⟩
    · exact .inl ⟨rfl, x4, x5, x6, while_f (by rw [tru_lst rfl]; rfl)⟩
    · rw [List.concat_eq_append] at *
      have hx := hst (k, x) (by simp)
      obtain ⟨vs, hv, gv⟩ := g.look hx.1
      have hsz : mst (st' ++ [(k, x)]) = mst st' + sz x := by rw [mst_app]; simp [mst]
      have t1 : mTru (.nm 3) [some (schD S, 0), K, X, some (.lst ((st' ++ [(k, x)]).map pD), 1), x4, x5, x6] = .ok true [some (schD S, 0), K, X, some (.lst ((st' ++ [(k, x)]).map pD), 1), x4, x5, x6] := by
        rw [tru_lst rfl]; simp
      have P := pop_ev (j := 3) (x := pD (k, x)) (xs := st'.map pD) (ρ := [some (schD S, 0), K, X, some (.lst ((st' ++ [(k, x)]).map pD), 1), x4, x5, x6]) (by simp)
      have b1 : sAsgT (.tup [.nm 4, .nm 5]) (mMut 3 isLst [] popD) [some (schD S, 0), K, X, some (.lst ((st' ++ [(k, x)]).map pD), 1), x4, x5, x6] = .nx [some (schD S, 0), K, X, some (.lst (st'.map pD), 1), some (.str k, 0), some (x, 0), x6] := asgT_ev P rfl
      have C := callk_ev (F := mf__children_at) (m := opN [.nm 0, .nm 4] atD) (j := 5) (ρ := [some (schD S, 0), K, X, some (.lst (st'.map pD), 1), some (.str k, 0), some (x, 0), x6]) (ev_nn (i := 0) (j := 4) rfl (Nat.zero_le _) rfl (Nat.zero_le _) (at_sch hv)) rfl (kids_ok gv.nd (fun v hv => (gv.ch v hv).1) hx.2 (by omega))
      have b2 := asg_ev (i := 6) C (by simp)
      have all_eq : (st' ++ [(k, x)]).all (fun p => isT S p.2 p.1) = (st'.all (fun p => isT S p.2 p.1) && isT S x k) := by simp
      rcases kids_spec hv hx.2 with ⟨e1, e2⟩ | ⟨t, ps, cs, rfl, ht, hl, e1, e2⟩
      · refine .inr ⟨by rw [all_eq, e2, Bool.and_false], some (.lst (st'.map pD), 1), some (.str k, 0), some (x, 0), some (.non, 0), ?_⟩
        rw [e1] at b2
        have b3 : mB (opN [.nm 6, .ex (mC .non)] isA) [some (schD S, 0), K, X, some (.lst (st'.map pD), 1), some (.str k, 0), some (x, 0), some (.non, 0)] = .ok true [some (schD S, 0), K, X, some (.lst (st'.map pD), 1), some (.str k, 0), some (x, 0), some (.non, 0)] := ev_b (k := 0) (ev_nx (i := 6) rfl (ev_C (x := .non)) rfl (Nat.zero_le _) rfl)
        exact while_r t1 ((seq_nx b1).trans ((seq_nx b2).trans (seq_rt ((if_t b3).trans rfl))))
      · rw [e1] at b2
        have b3 : mB (opN [.nm 6, .ex (mC .non)] isA) [some (schD S, 0), K, X, some (.lst (st'.map pD), 1), some (.str k, 0), some (.tup (.str t :: ps), 0), some (.tup (cs.map D.str), 0)] = .ok false [some (schD S, 0), K, X, some (.lst (st'.map pD), 1), some (.str k, 0), some (.tup (.str t :: ps), 0), some (.tup (cs.map D.str), 0)] := ev_b (k := 0) (ev_nx (i := 6) rfl (ev_C (x := .non)) rfl (Nat.zero_le _) rfl)
        have lz : lzipD [.tup (cs.map D.str), .tup ps] = some (.lst ((cs.zip ps).map pD), 1) := by simp only [lzipD, seqD, zip_pD]
        have hsx : sz (.tup (.str t :: ps)) = szs ps + 2 := by simp only [sz, szs]; omega
        have hz := mst_zip cs ps
        have l1 := len_mst st'
        have l2 := len_szs ps
        have hzip : (cs.zip ps).length ≤ ps.length := by simp; omega
        have b4 := drop_ev (ext_ev (j := 3) (m := opN [.nm 6, .ex (opN [.nm 5, .ex (mInt (mC (.int 1)))] (slD true false))] lzipD) (ρ := [some (schD S, 0), K, X, some (.lst (st'.map pD), 1), some (.str k, 0), some (.tup (.str t :: ps), 0), some (.tup (cs.map D.str), 0)]) (k := 1) (l := 1) rfl (ev_nx (i := 6) rfl (ev_nx (i := 5) rfl (ev_I ev_C) rfl (Nat.zero_le _) (cut1 _ _)) rfl (Nat.zero_le _) lz) rfl (by rw [List.length_map, List.length_map]; omega))
        have step := while_t (b := BTREE) (n := n) t1 ((seq_nx b1).trans ((seq_nx b2).trans ((seq_nx (ifs_f b3)).trans b4)))
        have okx : ∀ p ∈ ps, Ok p := fun p hp => by
          have := ok_part hx.2 (xs := .str t :: ps) rfl
          exact this p (List.mem_cons_of_mem _ hp)
        have ih := tree_while g K X n (st' ++ cs.zip ps) (some (.str k, 0)) (some (.tup (.str t :: ps), 0)) (some (.tup (cs.map D.str), 0)) (fun p hp => by
          rcases List.mem_append.mp hp with hp | hp
          · exact hst p (List.mem_append_left _ hp)
          · obtain ⟨h1, h2⟩ := List.of_mem_zip (a := p.1) (b := p.2) hp
            exact ⟨(gv.ch _ (tag_mem ht)).2 _ h1, okx _ h2⟩) (by rw [mst_app]; omega) (by rw [mst_app]; omega)
        have ae : (st' ++ cs.zip ps).all (fun p => isT S p.2 p.1) = (st' ++ [(k, D.tup (.str t :: ps))]).all (fun p => isT S p.2 p.1) := by
          rw [all_eq, e2, List.all_append, all_zip cs ps hl]
        rw [ae, List.map_append] at ih
        rw [step]
        exact ih
theorem is_tree_ok {S : Sch} (g : Good S) {k : Str} (hk : k ∈ S.map Prod.fst) {x : D} (hx : Ok x) (hz : sz x < 50000) : mf_is_tree [(schD S, 0), (.str k, 0), (x, 0)] = .ok (.bl (isT S x k), 0) [some (schD S, 0), some (.str k, 0), some (x, 0)] := by
  have E1 : sAsg 3 (opN [.ex (opN [.ex (mN 1), .ex (mN 2)] tupD)] lstD) [some (schD S, 0), some (.str k, 0), some (x, 0), none, none, none, none] = .nx [some (schD S, 0), some (.str k, 0), some (x, 0), some (.lst ([(k, x)].map pD), 1), none, none, none] := by
    have h1 : [pD (k, x)].length ≤ sizeLine := ok_len (by simp)
    exact asg_ev (ev_x (tup2_ev (ev_N rfl) (ev_N rfl)) (by simp only [lstD]; exact if_pos h1)) (by simp)
  have w := tree_while g (some (.str k, 0)) (some (x, 0)) FU [(k, x)] none none none (fun p hp => by cases List.mem_singleton.mp hp; exact ⟨hk, hx⟩) (by simp only [mst, FU]; omega) (by simp only [mst]; omega)
  unfold mf_is_tree runD
  have e0 : ([(schD S, 0), (.str k, 0), (x, 0)] : List Val).map some ++ List.replicate (7 - 3) none = [some (schD S, 0), some (.str k, 0), some (x, 0), none, none, none, none] := rfl
  rw [e0]
  have al : [(k, x)].all (fun p => isT S p.2 p.1) = isT S x k := by simp
  rw [al] at w
  rcases w with ⟨e, x4, x5, x6, w⟩ | ⟨e, x3, x4, x5, x6, w⟩
  · have : ms_is_tree [some (schD S, 0), some (.str k, 0), some (x, 0), none, none, none, none] = .rt (.bl true, 0) [some (schD S, 0), some (.str k, 0), some (x, 0), some (.lst [], 1), x4, x5, x6] := by
      unfold ms_is_tree
      exact (seq_nx E1).trans ((seq_nx w).trans rfl)
    rw [this, e]
    rfl
  · have : ms_is_tree [some (schD S, 0), some (.str k, 0), some (x, 0), none, none, none, none] = .rt (.bl false, 0) [some (schD S, 0), some (.str k, 0), some (x, 0), x3, x4, x5, x6] := by
      unfold ms_is_tree
      exact (seq_nx E1).trans (seq_rt w)
    rw [this, e]
    rfl
end K02
end
section
set_option Elab.async false
set_option linter.all false
set_option maxRecDepth 100000
set_option maxHeartbeats 2000000
namespace K02
open PySem L2 DL
theorem nin_false (bs : List Bool) : ninA [.bl false, .lst (bs.map D.bl)] = some (.bl (bs.all fun b => b), 0) := by
  have h1 : (bs.map D.bl).all flatD = true := by
    rw [List.all_eq_true]
    intro x hx
    obtain ⟨b, _, rfl⟩ := List.mem_map.mp hx
    rfl
  have h2 : inV (.bl false) ((bs.map D.bl).map vOf) = !(bs.all fun b => b) := by
    clear h1
    induction bs with
    | nil => rfl
    | cons b bs ih =>
      show (eqV (.bl b) (.bl false) || inV (.bl false) ((bs.map D.bl).map vOf)) = _
      rw [ih, List.all_cons]
      cases b <;> simp [eqV]
  have e : inB (.bl false) (.lst (bs.map D.bl)) = some (!(bs.all fun b => b)) := by
    unfold inB
    simp only [show flatD (.bl false) = true from rfl, h1, Bool.and_self, if_true]
    rw [show vOf (.bl false) = V.bl false from rfl, h2]
  simp only [ninA, orF, inD, e, Option.map_some, if_true, Bool.not_not]
theorem call3_ev {F : MF} {a b c : D} {i j l : Nat} {r : Val} {ρ : Rho} (hi : ρ[i]? = some (some (a, 0))) (hj : ρ[j]? = some (some (b, 0))) (hl : ρ[l]? = some (some (c, 0))) (e : F [(a, 0), (b, 0), (c, 0)] = .ok r [some (a, 0), some (b, 0), some (c, 0)]) : mCall F [.nm i, .nm j, .nm l] ρ = .ok r ρ := by
  simp only [mCall, evOs, evO, bindO, hi, hj, hl, callF, takeOs, e, giveOs]
theorem bools_of {S : Sch} : ∀ {qs : List (Str × D)} {xs : List D}, Par (fun q x => ∃ c p, q = D.tup [.str c, p] ∧ x = D.bl (isT S p c)) (qs.map pD) xs → xs = (qs.map fun p => isT S p.2 p.1).map D.bl
  | [], _, .nil => rfl
  | (c, p) :: qs, _, .cons ⟨c', p', e1, e2⟩ r => by
    simp only [pD, D.tup.injEq, List.cons.injEq, D.str.injEq, and_true] at e1
    obtain ⟨rfl, rfl⟩ := e1
    rw [e2, bools_of r]
    rfl
abbrev BLIT (g : MF) : MS := sIf (mB (opN [.nm 3, .ex (opN [.nm 2, .ex (mC (.int 0))] atD)] eqG)) (sSeq (sIf (mB (opN [.ex (opN [.nm 2] lenD), .ex (opN [.ex (mC (.int 1)), .ex (opN [.nm 4] lenD)] addD)] neG)) (sRet (mC (.bl false))) (sSkip))
  (sSeq (sAsg 5 (mLc (mZip (mN 4) (opN [.nm 2, .ex (mInt (mC (.int 1)))] (slD true false))) (.tup [.nm 6, .nm 7]) (tY) (mCall g [.nm 0, .nm 6, .nm 7]) [6, 7]))
  (sRet (opN [.ex (mC (.bl false)), .nm 5] ninA)))) (sSkip)
theorem lit_loop {S : Sch} {g : MF} {K : Option Val} {t : Str} {ps : List D} (hl : ps.length < 100000) (ih : ∀ p ∈ ps, ∀ c ∈ S.map Prod.fst, g [(schD S, 0), (.str c, 0), (p, 0)] = .ok (.bl (isT S p c), 0) [some (schD S, 0), some (.str c, 0), some (p, 0)]) : ∀ (vs : List Vr) (x3 x4 x5 x6 x7 : Option Val), (∀ v ∈ vs, v.2.length ≤ 3 ∧ ∀ c ∈ v.2, c ∈ S.map Prod.fst) →
    (tagV vs t = none ∧ ∃ y3 y4 y5 y6 y7, forD (.tup [.nm 3, .nm 4]) (BLIT g) (vs.map varD) [some (schD S, 0), K, some (.tup (.str t :: ps), 0), x3, x4, x5, x6, x7] = .nx [some (schD S, 0), K, some (.tup (.str t :: ps), 0), y3, y4, y5, y6, y7]) ∨
    ∃ cs, tagV vs t = some cs ∧ ∃ y3 y4 y5 y6 y7, forD (.tup [.nm 3, .nm 4]) (BLIT g) (vs.map varD) [some (schD S, 0), K, some (.tup (.str t :: ps), 0), x3, x4, x5, x6, x7] = .rt (.bl (isTs S ps cs), 0) [some (schD S, 0), K, some (.tup (.str t :: ps), 0), y3, y4, y5, y6, y7]
  | [], x3, x4, x5, x6, x7, _ => .inl ⟨rfl, x3, x4, x5, x6, x7, rfl⟩
  | (u, cs) :: vs, x3, x4, x5, x6, x7, hc => by
    have ihl := lit_loop (K := K) (t := t) hl ih vs (some (.str u, 0)) (some (.tup (cs.map D.str), 0)) x5 x6 x7 fun v hv => hc v (List.mem_cons_of_mem _ hv)
    have a2 : asgT (.tup [.nm 3, .nm 4]) (varD (u, cs)) [some (schD S, 0), K, some (.tup (.str t :: ps), 0), x3, x4, x5, x6, x7] = some [some (schD S, 0), K, some (.tup (.str t :: ps), 0), some (.str u, 0), some (.tup (cs.map D.str), 0), x5, x6, x7] := rfl
    have c1 : mB (opN [.nm 3, .ex (opN [.nm 2, .ex (mC (.int 0))] atD)] eqG) [some (schD S, 0), K, some (.tup (.str t :: ps), 0), some (.str u, 0), some (.tup (cs.map D.str), 0), x5, x6, x7] = .ok (u == t) [some (schD S, 0), K, some (.tup (.str t :: ps), 0), some (.str u, 0), some (.tup (cs.map D.str), 0), x5, x6, x7] :=
      ev_b (k := 0) (ev_nx (i := 3) rfl (ev_nx (i := 2) rfl ev_C rfl (Nat.zero_le _) at0) rfl (Nat.zero_le _) (eq_any u (.str t)))
    cases hu : (u == t) with
    | false =>
      rw [hu] at c1
      have et : tagV ((u, cs) :: vs) t = tagV vs t := by simp only [tagV, List.find?_cons, hu]
      rw [et, List.map_cons, forD_skip a2 (ifs_f c1)]
      exact ihl
    | true =>
      rw [hu] at c1
      have hut : u = t := by simpa using hu
      subst hut
      have et : tagV ((u, cs) :: vs) u = some cs := by simp [tagV]
      refine .inr ⟨cs, et, ?_⟩
      obtain ⟨h3, hck⟩ := hc (u, cs) List.mem_cons_self
      have z1 : addD [.int 1, .int ((cs.map D.str).length : Nat)] = some (.int ((cs.length + 1 : Nat) : Int), 0) := by simp only [addD, List.length_map]; congr 3; omega
      have c2 : mB (opN [.ex (opN [.nm 2] lenD), .ex (opN [.ex (mC (.int 1)), .ex (opN [.nm 4] lenD)] addD)] neG) [some (schD S, 0), K, some (.tup (.str u :: ps), 0), some (.str u, 0), some (.tup (cs.map D.str), 0), x5, x6, x7] = .ok (!(decide (ps.length = cs.length))) [some (schD S, 0), K, some (.tup (.str u :: ps), 0), some (.str u, 0), some (.tup (cs.map D.str), 0), x5, x6, x7] := by
        have e := ne_int (((D.str u :: ps).length : Nat) : Int) ((cs.length + 1 : Nat) : Int)
        have q : ((((D.str u :: ps).length : Nat) : Int) == ((cs.length + 1 : Nat) : Int)) = decide (ps.length = cs.length) := by
          rw [List.length_cons]
          by_cases h : ps.length = cs.length
          · rw [decide_eq_true h]; exact beq_iff_eq.mpr (by omega)
          · rw [decide_eq_false h]; exact beq_eq_false_iff_ne.mpr (by omega)
        rw [q] at e
        exact ev_b (k := 0) (ev_xx (ev_n (i := 2) rfl (Nat.zero_le _) rfl) (ev_xx (ev_C (x := .int 1)) (ev_n (i := 4) rfl (Nat.zero_le _) rfl) z1) e)
      by_cases hlen : ps.length = cs.length
      · rw [decide_eq_true hlen] at c2
        have Z : mZip (mN 4) (opN [.nm 2, .ex (mInt (mC (.int 1)))] (slD true false)) [some (schD S, 0), K, some (.tup (.str u :: ps), 0), some (.str u, 0), some (.tup (cs.map D.str), 0), x5, x6, x7] = .ok ((cs.zip ps).map pD) [some (schD S, 0), K, some (.tup (.str u :: ps), 0), some (.str u, 0), some (.tup (cs.map D.str), 0), x5, x6, x7] := by
          have e2 := ev_nx (i := 2) (f := slD true false) (ρ := [some (schD S, 0), K, some (.tup (.str u :: ps), 0), some (.str u, 0), some (.tup (cs.map D.str), 0), x5, x6, x7]) rfl (ev_I (ev_C (x := .int 1))) rfl (Nat.zero_le _) (cut1 (.str u) ps)
          have e1 : mN 4 [some (schD S, 0), K, some (.tup (.str u :: ps), 0), some (.str u, 0), some (.tup (cs.map D.str), 0), x5, x6, x7] = .ok (.tup (cs.map D.str), 0) [some (schD S, 0), K, some (.tup (.str u :: ps), 0), some (.str u, 0), some (.tup (cs.map D.str), 0), x5, x6, x7] := rfl
          simp only [mZip, e1, e2, bindO, zip_pD]
        let I : Rho → Prop := fun ρ => ρ = [some (schD S, 0), K, some (.tup (.str u :: ps), 0), some (.str u, 0), some (.tup (cs.map D.str), 0), x5, none, none]
        obtain ⟨xs, ρ', ec, hI, hp⟩ := comp_rel (t := .tup [.nm 6, .nm 7]) (m := mCall g [.nm 0, .nm 6, .nm 7]) (vs := [6, 7]) (R := fun q x => ∃ c p, q = D.tup [.str c, p] ∧ x = D.bl (isT S p c)) I ((cs.zip ps).map pD) (fun q hq ρ e => by
          cases (show ρ = _ from e)
          obtain ⟨⟨c, p⟩, hm, rfl⟩ := List.mem_map.mp hq
          obtain ⟨m1, m2⟩ := List.of_mem_zip hm
          exact ⟨_, (.bl (isT S p c), 0), [some (schD S, 0), K, some (.tup (.str u :: ps), 0), some (.str u, 0), some (.tup (cs.map D.str), 0), x5, some (.str c, 0), some (p, 0)], rfl, call3_ev rfl rfl rfl (ih p m2 c (hck c m1)), ⟨c, p, rfl, rfl⟩, rfl⟩) [] [some (schD S, 0), K, some (.tup (.str u :: ps), 0), some (.str u, 0), some (.tup (cs.map D.str), 0), x5, none, none] rfl (by simp; omega)
        cases (show ρ' = _ from hI)
        rw [bools_of hp, List.nil_append] at ec
        have b5 := asg_ev (i := 5) (lc_ev Z ec) (by simp)
        have nf := nin_false ((cs.zip ps).map fun p => isT S p.2 p.1)
        have al : ((cs.zip ps).map fun p => isT S p.2 p.1).all (fun b => b) = isTs S ps cs := by
          rw [List.all_map]
          exact all_zip cs ps hlen.symm
        rw [al] at nf
        exact ⟨_, _, _, _, _, forD_ret a2 ((if_t c1).trans ((seq_nx (ifs_f c2)).trans ((seq_nx b5).trans (ret_ev (ev_xn (p := (.non, 0)) (j := 5) ev_C rfl (Nat.le_refl _) nf)))))⟩
      · rw [decide_eq_false hlen] at c2
        have : isTs S ps cs = false := by
          cases q : isTs S ps cs with
          | false => rfl
          | true => exact (hlen (isTs_len q)).elim
        rw [this]
        exact ⟨_, _, _, _, _, forD_ret a2 ((if_t c1).trans (seq_rt ((if_t c2).trans rfl)))⟩
theorem law_is_tree_ok {S : Sch} (g : Good S) : ∀ (n : Nat) (x : D), Ok x → hi x < n → sz x < 100000 → ∀ {k : Str}, k ∈ S.map Prod.fst → mf__law_is_tree n [(schD S, 0), (.str k, 0), (x, 0)] = .ok (.bl (isT S x k), 0) [some (schD S, 0), some (.str k, 0), some (x, 0)]
  | 0, _, _, h, _, _, _ => by omega
  | n + 1, x, hx, hn, hz, k, hk => by
    obtain ⟨vs, hv, gv⟩ := g.look hk
    show runD 3 8 [0, 1, 2] (ms__law_is_tree (mf__law_is_tree n)) _ = _
    unfold runD
    have e0 : ([(schD S, 0), (.str k, 0), (x, 0)] : List Val).map some ++ List.replicate (8 - 3) none = [some (schD S, 0), some (.str k, 0), some (x, 0), none, none, none, none, none] := rfl
    rw [e0]
    have fin : ∀ {b : Bool} {a3 a4 a5 a6 a7 : Option Val}, isT S x k = b → ms__law_is_tree (mf__law_is_tree n) [some (schD S, 0), some (.str k, 0), some (x, 0), none, none, none, none, none] = .rt (.bl b, 0) [some (schD S, 0), some (.str k, 0), some (x, 0), a3, a4, a5, a6, a7] → (match ms__law_is_tree (mf__law_is_tree n) [some (schD S, 0), some (.str k, 0), some (x, 0), none, none, none, none, none] with | .nx ρ => .ok (.non, 0) (outP 3 [0, 1, 2] ρ) | .rt r ρ => .ok r (outP 3 [0, 1, 2] ρ) | .exc x ρ => .exc x (outP 3 [0, 1, 2] ρ) | _ => .bad) = FOut.ok (.bl (isT S x k), 0) [some (schD S, 0), some (.str k, 0), some (x, 0)] := fun {b a3 a4 a5 a6 a7} e h => by rw [h, e]; rfl
    have q : ∀ {b : Bool}, isiD ["tuple"] [x] = some (.bl b, 0) → mB (opN [.nm 2] (isiD ["tuple"])) [some (schD S, 0), some (.str k, 0), some (x, 0), none, none, none, none, none] = .ok b [some (schD S, 0), some (.str k, 0), some (x, 0), none, none, none, none, none] := fun h => ev_b (ev_n rfl (Nat.zero_le _) h)
    have no : isT S x k = false → mOr (mNot (mB (opN [.nm 2] (isiD ["tuple"])))) (mOr (mB (opN [.ex (opN [.nm 2] lenD), .ex (mC (.int 0))] eqG)) (mNot (mB (opN [.ex (opN [.nm 2, .ex (mC (.int 0))] atD)] (isiD ["str"]))))) [some (schD S, 0), some (.str k, 0), some (x, 0), none, none, none, none, none] = .ok true [some (schD S, 0), some (.str k, 0), some (x, 0), none, none, none, none, none] → _ := fun e h => fin e (by
      unfold ms__law_is_tree
      exact seq_rt ((if_t h).trans rfl))
    have nt : isiD ["tuple"] [x] = some (.bl false, 0) → mOr (mNot (mB (opN [.nm 2] (isiD ["tuple"])))) (mOr (mB (opN [.ex (opN [.nm 2] lenD), .ex (mC (.int 0))] eqG)) (mNot (mB (opN [.ex (opN [.nm 2, .ex (mC (.int 0))] atD)] (isiD ["str"]))))) [some (schD S, 0), some (.str k, 0), some (x, 0), none, none, none, none, none] = .ok true [some (schD S, 0), some (.str k, 0), some (x, 0), none, none, none, none, none] := fun h => by simp only [mOr, mNot, q h, bindO, Bool.not_false, if_true]
    cases hx with
    | tup h =>
      rename_i xs
      cases xs with
      | nil =>
        have e2 : mB (opN [.ex (opN [.nm 2] lenD), .ex (mC (.int 0))] eqG) [some (schD S, 0), some (.str k, 0), some (.tup [], 0), none, none, none, none, none] = .ok true [some (schD S, 0), some (.str k, 0), some (.tup [], 0), none, none, none, none, none] := ev_b (k := 0) (ev_xx (ev_n (i := 2) rfl (Nat.zero_le _) rfl) (ev_C (x := .int 0)) (eq_int 0 0))
        exact no (by simp [isT, isH]) (by simp only [mOr, mNot, q (b := true) rfl, bindO, Bool.not_true, Bool.false_eq_true, if_false, e2, if_true])
      | cons y ps =>
        have e2 : mB (opN [.ex (opN [.nm 2] lenD), .ex (mC (.int 0))] eqG) [some (schD S, 0), some (.str k, 0), some (.tup (y :: ps), 0), none, none, none, none, none] = .ok false [some (schD S, 0), some (.str k, 0), some (.tup (y :: ps), 0), none, none, none, none, none] := by
          have e := eq_int (((y :: ps).length : Nat) : Int) 0
          rw [show ((((y :: ps).length : Nat) : Int) == 0) = false from beq_eq_false_iff_ne.mpr (by rw [List.length_cons]; omega)] at e
          exact ev_b (k := 0) (ev_xx (ev_n (i := 2) rfl (Nat.zero_le _) rfl) (ev_C (x := .int 0)) e)
        have e3 : ∀ {b : Bool}, isiD ["str"] [y] = some (.bl b, 0) → mB (opN [.ex (opN [.nm 2, .ex (mC (.int 0))] atD)] (isiD ["str"])) [some (schD S, 0), some (.str k, 0), some (.tup (y :: ps), 0), none, none, none, none, none] = .ok b [some (schD S, 0), some (.str k, 0), some (.tup (y :: ps), 0), none, none, none, none, none] := fun h => ev_b (k := 0) (ev_x (ev_nx (i := 2) rfl (ev_C (x := .int 0)) rfl (Nat.zero_le _) at0) h)
        have nos : isiD ["str"] [y] = some (.bl false, 0) → isT S (.tup (y :: ps)) k = false → _ := fun h e => no e (by simp only [mOr, mNot, q (b := true) rfl, bindO, Bool.not_true, Bool.false_eq_true, if_false, e2, e3 h, Bool.not_false])
        have hy := h y List.mem_cons_self
        cases hy with
        | str t =>
          have c : mOr (mNot (mB (opN [.nm 2] (isiD ["tuple"])))) (mOr (mB (opN [.ex (opN [.nm 2] lenD), .ex (mC (.int 0))] eqG)) (mNot (mB (opN [.ex (opN [.nm 2, .ex (mC (.int 0))] atD)] (isiD ["str"]))))) [some (schD S, 0), some (.str k, 0), some (.tup (.str t :: ps), 0), none, none, none, none, none] = .ok false [some (schD S, 0), some (.str k, 0), some (.tup (.str t :: ps), 0), none, none, none, none, none] := by simp only [mOr, mNot, q (b := true) rfl, bindO, Bool.not_true, Bool.false_eq_true, if_false, e2, e3 (b := true) rfl]
          have EI : mIt (opN [.nm 0, .nm 1] atD) [some (schD S, 0), some (.str k, 0), some (.tup (.str t :: ps), 0), none, none, none, none, none] = .ok (vs.map varD) [some (schD S, 0), some (.str k, 0), some (.tup (.str t :: ps), 0), none, none, none, none, none] := it_ev (ev_nn (i := 0) (j := 1) rfl (Nat.zero_le _) rfl (Nat.zero_le _) (at_sch hv)) rfl
          have hs1 : sz (.tup (.str t :: ps)) = szs ps + 2 := by simp only [sz, szs]; omega
          have hh1 : hi (.tup (.str t :: ps)) = his ps + 1 := by simp [hi, his]
          have lp := len_szs ps
          have ek : tagK S k t = tagV vs t := by simp [tagK, hv]
          rcases lit_loop (S := S) (g := mf__law_is_tree n) (K := some (.str k, 0)) (t := t) (ps := ps) (by omega) (fun p hp c hc => law_is_tree_ok g n p (h p (List.mem_cons_of_mem _ hp)) (by have := his_le.mp (Nat.le_refl (his ps)) p hp; omega) (by
            obtain ⟨i, hi', rfl⟩ := List.mem_iff_getElem.mp hp
            have := szs_at hi'
            omega) hc) vs none none none none none gv.ch with ⟨e, y3, y4, y5, y6, y7, l⟩ | ⟨cs, e, y3, y4, y5, y6, y7, l⟩
          · refine fin (b := false) (by simp [isT, isH, ek, e]) (a3 := y3) (a4 := y4) (a5 := y5) (a6 := y6) (a7 := y7) ?_
            unfold ms__law_is_tree
            exact (seq_nx (ifs_f c)).trans ((seq_nx ((for_ev EI).trans l)).trans rfl)
          · refine fin (b := isTs S ps cs) (by simp [isT, isH, ek, e]) (a3 := y3) (a4 := y4) (a5 := y5) (a6 := y6) (a7 := y7) ?_
            unfold ms__law_is_tree
            exact (seq_nx (ifs_f c)).trans (seq_rt ((for_ev EI).trans l))
        | non => exact nos rfl (by simp [isT, isH])
        | bl _ => exact nos rfl (by simp [isT, isH])
        | int _ => exact nos rfl (by simp [isT, isH])
        | emp => exact nos rfl (by simp [isT, isH])
        | tup _ => exact nos rfl (by simp [isT, isH])
        | lst _ => exact nos rfl (by simp [isT, isH])
    | non => exact no (by simp [isT]) (nt rfl)
    | bl _ => exact no (by simp [isT]) (nt rfl)
    | int _ => exact no (by simp [isT]) (nt rfl)
    | str _ => exact no (by simp [isT]) (nt rfl)
    | emp => exact no (by simp [isT]) (nt rfl)
    | lst _ => exact no (by simp [isT]) (nt rfl)
end K02
end
section
set_option Elab.async false
set_option linter.all false
set_option maxRecDepth 100000
set_option maxHeartbeats 2000000
namespace K02
open PySem L2 DL
/-! ### sizes -/
mutual
def T.nd : T → Nat
  | .node _ ks => T.nds ks + 1
def T.nds : List T → Nat
  | [] => 0
  | k :: ks => k.nd + T.nds ks
end
theorem T.nds_app : ∀ a b, T.nds (a ++ b) = T.nds a + T.nds b
  | [], b => by simp [T.nds]
  | p :: a, b => by simp only [List.cons_append, T.nds, T.nds_app a b]; omega
theorem T.nds_rev : ∀ a, T.nds a.reverse = T.nds a
  | [] => rfl
  | p :: a => by rw [List.reverse_cons, T.nds_app, T.nds_rev a]; simp only [T.nds]; omega
theorem T.nd_pos (t : T) : 1 ≤ t.nd := by cases t; simp [T.nd]
theorem T.len_nds : ∀ ks, ks.length ≤ T.nds ks
  | [] => by simp
  | k :: ks => by have := T.len_nds ks; have := k.nd_pos; simp only [T.nds, List.length_cons]; omega
mutual
theorem sz_d : ∀ t : T, sz t.d = 2 * t.nd
  | .node t ks => by simp only [T.d, sz, szs, T.nd, szs_ds ks]; omega
theorem szs_ds : ∀ ks : List T, szs (T.ds ks) = 2 * T.nds ks
  | [] => rfl
  | k :: ks => by simp only [T.ds, szs, T.nds, sz_d k, szs_ds ks]; omega
end
mutual
theorem hi_d : ∀ t : T, hi t.d = t.dp
  | .node t ks => by simp only [T.d, hi, his, T.dp, his_ds ks]; omega
theorem his_ds : ∀ ks : List T, his (T.ds ks) = T.dps ks
  | [] => rfl
  | k :: ks => by simp only [T.ds, his, T.dps, hi_d k, his_ds ks]
end
mutual
theorem ok_d : ∀ t : T, Ok t.d
  | .node t ks => .tup fun x hx => by
    rcases List.mem_cons.mp hx with rfl | hx
    · exact .str t
    · exact ok_ds ks x hx
theorem ok_ds : ∀ ks : List T, ∀ x ∈ T.ds ks, Ok x
  | [], _, h => nomatch h
  | k :: ks, x, h => by
    rcases List.mem_cons.mp h with rfl | h
    · exact ok_d k
    · exact ok_ds ks x h
end
theorem lookup_in : ∀ (S : Sch) {k : Str} {vs : List Vr}, S.lookup k = some vs → (k, vs) ∈ S
  | [], _, _, h => by simp at h
  | (k', ws) :: S, k, vs, h => by
    rw [List.lookup_cons] at h
    by_cases e : k = k'
    · subst e
      simp at h
      subst h
      exact List.mem_cons_self
    · have e' : (k == k') = false := by simp [e]
      rw [e'] at h
      exact List.mem_cons_of_mem _ (lookup_in S h)
mutual
theorem wf_nd {S : Sch} (g : Good S) : ∀ (n : Nat) {k : Str} {t : T}, Wf S k t → t.dp ≤ n → t.nd ≤ 4 ^ n
  | 0, _, .node _ ks, _, h => by simp [T.dp] at h
  | n + 1, _, _, .mk (vs := vs) (cs := cs) (ts := ts) hv hm w, h => by
    have hl : cs.length ≤ 3 := by
      exact ((g.vr _ (lookup_in S hv)).ch _ hm).1
    have := wfs_nd g n w (by simp only [T.dp] at h; omega)
    have : T.nds ts ≤ 3 * 4 ^ n := Nat.le_trans this (Nat.mul_le_mul_right _ hl)
    have p : 1 ≤ 4 ^ n := Nat.one_le_pow _ _ (by decide)
    simp only [T.nd, Nat.pow_succ]
    omega
theorem wfs_nd {S : Sch} (g : Good S) : ∀ (n : Nat) {cs : List Str} {ts : List T}, Wfs S cs ts → T.dps ts ≤ n → T.nds ts ≤ cs.length * 4 ^ n
  | n, _, _, .nil, _ => by simp [T.nds]
  | n, _, _, .cons (t := t) (ts := ts) (cs := cs) w ws, h => by
    simp only [T.dps] at h
    have h1 := wf_nd g n w (by omega)
    have h2 := wfs_nd g n ws (by omega)
    simp only [T.nds, List.length_cons, Nat.add_mul]
    omega
end
theorem call1_ev {F : MF} {a : D} {i : Nat} {r : Val} {ρ : Rho} (hi : ρ[i]? = some (some (a, 0))) (e : F [(a, 0)] = .ok r [some (a, 0)]) : mCall F [.nm i] ρ = .ok r ρ := by
  simp only [mCall, evOs, evO, bindO, hi, callF, takeOs, e, giveOs]
abbrev BPARTS : MS := sSeq (sAsg 3 (mMut 2 isLst [] popD))
  (sSeq (sDrop (mMut 1 isLst [.ex (mN 3)] appD))
  (sDrop (mMut 2 isLst [.ex (opN [.nm 3] (backD true))] extD)))
theorem parts_while (X : Option Val) : ∀ (n : Nat) (st : List T) (ps : List D) (x3 : Option Val), T.nds st < n → ps.length + T.nds st < 10000 →
    ∃ ps' y3, ps'.length = ps.length + T.nds st ∧ whileD (mTru (.nm 2)) BPARTS n [X, some (.lst ps, 1), some (.lst (st.map T.d), 1), x3] = .nx [X, some (.lst ps', 1), some (.lst [], 1), y3]
  | 0, _, _, _, h, _ => by omega
  | n + 1, st, ps, x3, hn, hm => by
    rcases List.eq_nil_or_concat st with rfl | ⟨st', ⟨t, ks⟩, rfl⟩
    · exact ⟨ps, x3, by simp [T.nds], while_f (by rw [tru_lst rfl]; rfl)⟩
    · rw [List.concat_eq_append] at *
      have hs : T.nds (st' ++ [T.node t ks]) = T.nds st' + T.nds ks + 1 := by rw [T.nds_app]; simp only [T.nds, T.nd]; omega
      have t1 : mTru (.nm 2) [X, some (.lst ps, 1), some (.lst ((st' ++ [T.node t ks]).map T.d), 1), x3] = .ok true [X, some (.lst ps, 1), some (.lst ((st' ++ [T.node t ks]).map T.d), 1), x3] := by rw [tru_lst rfl]; simp
      have P := pop_ev (j := 2) (x := T.d (.node t ks)) (xs := st'.map T.d) (ρ := [X, some (.lst ps, 1), some (.lst ((st' ++ [T.node t ks]).map T.d), 1), x3]) (by simp)
      have b1 : sAsg 3 (mMut 2 isLst [] popD) [X, some (.lst ps, 1), some (.lst ((st' ++ [T.node t ks]).map T.d), 1), x3] = .nx [X, some (.lst ps, 1), some (.lst (st'.map T.d), 1), some (T.d (.node t ks), 0)] := asg_ev P (by simp)
      have b2 := drop_ev (app_ev (j := 1) (m := mN 3) (ρ := [X, some (.lst ps, 1), some (.lst (st'.map T.d), 1), some (T.d (.node t ks), 0)]) (k := 0) (l := 1) rfl rfl rfl (by omega))
      have bk : backD true [T.d (.node t ks)] = some (.tup (ks.reverse.map T.d), 0) := by
        simp only [T.d, backD, SB.lead, if_true, List.drop_succ_cons, List.drop_zero, T.ds_map, List.map_reverse]
      have l1 := T.len_nds st'
      have l2 := T.len_nds ks
      have b3 := drop_ev (extT_ev (j := 2) (m := opN [.nm 3] (backD true)) (ρ := [X, some (.lst (ps ++ [T.d (.node t ks)]), 1), some (.lst (st'.map T.d), 1), some (T.d (.node t ks), 0)]) (k := 0) (l := 1) rfl (ev_n (i := 3) rfl (Nat.zero_le _) bk) rfl (by simp; omega))
      have step := while_t (b := BPARTS) (n := n) t1 ((seq_nx b1).trans ((seq_nx b2).trans b3))
      obtain ⟨ps', y3, e1, e2⟩ := parts_while X n (st' ++ ks.reverse) (ps ++ [T.d (.node t ks)]) (some (T.d (.node t ks), 0)) (by rw [T.nds_app, T.nds_rev]; omega) (by rw [T.nds_app, T.nds_rev]; simp; omega)
      refine ⟨ps', y3, by rw [e1, T.nds_app, T.nds_rev, hs]; simp; omega, ?_⟩
      rw [List.map_append] at e2
      rw [step]
      exact e2
theorem parts_ok (t : T) (h : t.nd < 9000) : ∃ ps, ps.length = t.nd ∧ mf_parts_of [(t.d, 0)] = .ok (.lst ps, 1) [some (t.d, 0)] := by
  obtain ⟨ps, y3, e1, e2⟩ := parts_while (some (t.d, 0)) FU [t] [] none (by simp only [T.nds, FU]; omega) (by simp only [T.nds, List.length_nil]; omega)
  refine ⟨ps, by simpa [T.nds] using e1, ?_⟩
  have h1 : [t.d].length ≤ sizeLine := ok_len (by simp)
  have A1 : sAsg 1 (opN [] lstD) [some (t.d, 0), none, none, none] = .nx [some (t.d, 0), some (.lst [], 1), none, none] := rfl
  have A2 : sAsg 2 (opN [.ex (mN 0)] lstD) [some (t.d, 0), some (.lst [], 1), none, none] = .nx [some (t.d, 0), some (.lst [], 1), some (.lst [t.d], 1), none] := asg_ev (ev_x (ev_N rfl) (by simp only [lstD, if_pos h1])) (by simp)
  have EB : ms_parts_of [some (t.d, 0), none, none, none] = .rt (.lst ps, 1) [some (t.d, 0), none, some (.lst [], 1), y3] := by
    unfold ms_parts_of
    exact (seq_nx A1).trans ((seq_nx A2).trans ((seq_nx e2).trans rfl))
  unfold mf_parts_of runD
  rw [show ([(t.d, 0)] : List Val).map some ++ List.replicate (4 - 1) none = [some (t.d, 0), none, none, none] from rfl, EB]
  rfl
theorem size_of_ok (t : T) (h : t.nd < 9000) : mf_size_of [(t.d, 0)] = .ok (.int (t.nd : Nat), 0) [some (t.d, 0)] := by
  obtain ⟨ps, hl, e⟩ := parts_ok t h
  have EB : ms_size_of [some (t.d, 0)] = .rt (.int (t.nd : Nat), 0) [some (t.d, 0)] := by
    unfold ms_size_of
    exact ret_ev (ev_x (call1_ev rfl e) (by simp only [lenD, hl]))
  unfold mf_size_of runD
  rw [show ([(t.d, 0)] : List Val).map some ++ List.replicate (1 - 1) none = [some (t.d, 0)] from rfl, EB]
  rfl
theorem ints_nd : ∀ {ks : List T} {xs : List D}, Par (fun k x => ∃ t : T, k = t.d ∧ x = D.int (t.nd : Nat)) (ks.map T.d) xs → ∃ is, intsD xs = some is ∧ is.sum = ((T.nds ks : Nat) : Int)
  | [], _, .nil => ⟨[], rfl, rfl⟩
  | k :: ks, _, .cons ⟨t, e1, e2⟩ r => by
    obtain ⟨is, h1, h2⟩ := ints_nd r
    have : t.nd = k.nd := by
      have a := sz_d t
      have b := sz_d k
      rw [← e1, b] at a
      omega
    refine ⟨((t.nd : Nat) : Int) :: is, by rw [e2]; simp only [intsD, h1], ?_⟩
    rw [List.sum_cons, h2, this]
    simp only [T.nds]
    omega
theorem law_size_ok : ∀ (n : Nat) (t : T), t.dp ≤ n → t.nd < 9000 → mf__law_size n [(t.d, 0)] = .ok (.int (t.nd : Nat), 0) [some (t.d, 0)]
  | 0, .node _ _, h, _ => by simp [T.dp] at h
  | n + 1, .node tg ks, h, hz => by
    simp only [T.dp] at h
    simp only [T.nd] at hz
    have l2 := T.len_nds ks
    let I : Rho → Prop := fun ρ => ρ = [some (T.d (.node tg ks), 0), none]
    have sub : ∀ k ∈ ks, k.dp ≤ T.dps ks ∧ k.nd ≤ T.nds ks := by
      intro k hk
      clear I h hz l2
      induction ks with
      | nil => cases hk
      | cons a as ih =>
        simp only [T.dps, T.nds]
        rcases List.mem_cons.mp hk with rfl | hk
        · omega
        · have := ih hk; omega
    obtain ⟨xs, ρ', ec, hI, hp⟩ := comp_rel (t := .nm 1) (m := mCall (mf__law_size n) [.nm 1]) (vs := [1]) (R := fun k x => ∃ t : T, k = t.d ∧ x = D.int (t.nd : Nat)) I (ks.map T.d) (fun q hq ρ e => by
      cases (show ρ = _ from e)
      obtain ⟨k, hk, rfl⟩ := List.mem_map.mp hq
      exact ⟨_, _, _, rfl, call1_ev (i := 1) rfl (law_size_ok n k (by have := (sub k hk).1; omega) (by have := (sub k hk).2; omega)), ⟨k, rfl, rfl⟩, rfl⟩) [] [some (T.d (.node tg ks), 0), none] rfl (by simp; omega)
    cases (show ρ' = _ from hI)
    obtain ⟨is, e1, e2⟩ := ints_nd hp
    have SL : mIt (opN [.nm 0, .ex (mInt (mC (.int 1)))] (slD true false)) [some (T.d (.node tg ks), 0), none] = .ok (ks.map T.d) [some (T.d (.node tg ks), 0), none] := it_ev (ev_nx (i := 0) rfl (ev_I ev_C) rfl (Nat.zero_le _) (cut1 _ _)) (by rw [T.ds_map]; rfl)
    have EB : ms__law_size (mf__law_size n) [some (T.d (.node tg ks), 0), none] = .rt (.int ((T.nd (.node tg ks) : Nat) : Int), 0) [some (T.d (.node tg ks), 0), none] := by
      unfold ms__law_size
      refine ret_ev (ev_xx (ev_C (x := .int 1)) (ev_x (r := (.int ((T.nds ks : Nat) : Int), 0)) (lc_ev SL ec) (by rw [List.nil_append]; simp only [sumD, e1, e2])) ?_)
      simp only [addD, T.nd]
      congr 3
      omega
    show runD 1 2 [0] (ms__law_size (mf__law_size n)) _ = _
    unfold runD
    rw [show ([(T.d (.node tg ks), 0)] : List Val).map some ++ List.replicate (2 - 1) none = [some (T.d (.node tg ks), 0), none] from rfl, EB]
    rfl
end K02
end
section
set_option Elab.async false
set_option linter.all false
set_option maxRecDepth 100000
set_option maxHeartbeats 2000000
namespace K02
open PySem L2 DL
/-! ### paths -/
mutual
def pathsT : T → List (List Nat)
  | .node _ ks => [] :: pathsK 0 ks
def pathsK : Nat → List T → List (List Nat)
  | _, [] => []
  | i, k :: ks => (pathsT k).map (i :: ·) ++ pathsK (i + 1) ks
end
mutual
theorem paths_len : ∀ t : T, (pathsT t).length = t.nd
  | .node _ ks => by simp only [pathsT, List.length_cons, T.nd, pathsK_len 0 ks]
theorem pathsK_len : ∀ (i : Nat) (ks : List T), (pathsK i ks).length = T.nds ks
  | _, [] => rfl
  | i, k :: ks => by simp only [pathsK, List.length_append, List.length_map, T.nds, paths_len k, pathsK_len (i + 1) ks]
end
mutual
theorem paths_dp : ∀ t : T, ∀ p ∈ pathsT t, p.length < t.dp
  | .node _ ks, p, h => by
    simp only [pathsT, List.mem_cons] at h
    rcases h with rfl | h
    · simp [T.dp]
    · have := pathsK_dp 0 ks p h
      simp only [T.dp]
      omega
theorem pathsK_dp : ∀ (i : Nat) (ks : List T), ∀ p ∈ pathsK i ks, p.length ≤ T.dps ks
  | _, [], p, h => by simp [pathsK] at h
  | i, k :: ks, p, h => by
    simp only [pathsK, List.mem_append, List.mem_map] at h
    simp only [T.dps]
    rcases h with ⟨q, hq, rfl⟩ | h
    · have := paths_dp k q hq
      simp only [List.length_cons]
      omega
    · have := pathsK_dp (i + 1) ks p h
      omega
end
def pathD (p : List Nat) : D := .tup (p.map fun i => D.int (i : Nat))
theorem add_path (i : Nat) (q : List Nat) (h : q.length < 100000) : addD [.tup [.int (i : Nat)], pathD q] = some (pathD (i :: q), 0) := by
  have hz : [D.int (i : Nat)].length + (q.map fun i => D.int (i : Nat)).length ≤ sizeLine := ok_len (by simp; omega)
  simp only [pathD, addD, if_pos hz]
  rfl
theorem tup1_ev {m : ME} {ρ ρ1 : Rho} {a : D} {k : Nat} (h : m ρ = .ok (a, k) ρ1) : opN [.ex m] tupD ρ = .ok (.tup [a], 0) ρ1 := by
  have h1 : [a].length ≤ sizeLine := ok_len (by simp)
  exact ev_x h (by simp only [tupD, if_pos h1])
abbrev BLP (g : MF) : MS := sAsg 1 (opN [.nm 1, .ex (mLc (mIt (mCall g [.nm 3])) (.nm 4) (tY) (opN [.ex (opN [.ex (mN 2)] tupD), .nm 4] addD) [4])] addD)
theorem lp_loop {g : MF} {X : Option Val} : ∀ (ks : List T) (i : Nat) (fs : List (List Nat)) (x2 x3 x4 : Option Val), (∀ k ∈ ks, k.dp < 1000 ∧ ∃ l, g [(k.d, 0)] = .ok (.lst ((pathsT k).map pathD), l) [some (k.d, 0)]) → fs.length + T.nds ks < 100000 →
    ∃ y2 y3 y4, forD (.tup [.nm 2, .nm 3]) (BLP g) (enumD i (T.ds ks)) [X, some (.lst (fs.map pathD), 1), x2, x3, x4] = .nx [X, some (.lst ((fs ++ pathsK i ks).map pathD), 1), y2, y3, y4]
  | [], i, fs, x2, x3, x4, _, _ => ⟨x2, x3, x4, by simp [T.ds, enumD, forD, pathsK]⟩
  | k :: ks, i, fs, x2, x3, x4, hg, hl => by
    obtain ⟨hdp, l, eg⟩ := hg k List.mem_cons_self
    simp only [T.nds] at hl
    have pl := paths_len k
    let I : Rho → Prop := fun ρ => ρ = [X, some (.lst (fs.map pathD), 1), some (.int (i : Nat), 0), some (k.d, 0), none]
    obtain ⟨xs, ρ', ec, hI, hp⟩ := comp_rel (t := .nm 4) (m := opN [.ex (opN [.ex (mN 2)] tupD), .nm 4] addD) (vs := [4]) (R := fun q x => ∃ p : List Nat, q = pathD p ∧ x = pathD (i :: p)) I ((pathsT k).map pathD) (fun q hq ρ e => by
      cases (show ρ = _ from e)
      obtain ⟨p, hp, rfl⟩ := List.mem_map.mp hq
      have := paths_dp k p hp
      refine ⟨_, (pathD (i :: p), 0), [X, some (.lst (fs.map pathD), 1), some (.int (i : Nat), 0), some (k.d, 0), some (pathD p, 0)], rfl, ?_, ⟨p, rfl, rfl⟩, rfl⟩
      exact ev_xn (p := (.non, 0)) (tup1_ev (ev_N (i := 2) rfl)) (j := 4) rfl (Nat.zero_le _) (add_path i p (by omega))) [] [X, some (.lst (fs.map pathD), 1), some (.int (i : Nat), 0), some (k.d, 0), none] rfl (by simp; omega)
    cases (show ρ' = _ from hI)
    have hx : xs = ((pathsT k).map (i :: ·)).map pathD := by
      clear hI
      clear I
      clear ec pl eg hl hg
      generalize pathsT k = qs at hp
      induction qs generalizing xs with
      | nil => cases hp; rfl
      | cons q qs ih =>
        cases hp with
        | cons r t =>
          obtain ⟨p, e1, e2⟩ := r
          have : p = q := by
            simp only [pathD, D.tup.injEq] at e1
            have inj : ∀ {a b : List Nat}, (a.map fun i => D.int (i : Nat)) = (b.map fun i => D.int (i : Nat)) → a = b := by
              intro a
              induction a with
              | nil => intro b h; cases b with
                | nil => rfl
                | cons _ _ => simp at h
              | cons a as ih2 => intro b h; cases b with
                | nil => simp at h
                | cons b bs =>
                  simp only [List.map_cons, List.cons.injEq, D.int.injEq] at h
                  rw [ih2 h.2, Int.ofNat.inj h.1]
            exact (inj e1).symm
          subst this
          rw [e2, ih _ t]
          rfl
    subst hx
    rw [List.nil_append] at ec
    have M : mIt (mCall g [.nm 3]) [X, some (.lst (fs.map pathD), 1), some (.int (i : Nat), 0), some (k.d, 0), x4] = .ok ((pathsT k).map pathD) [X, some (.lst (fs.map pathD), 1), some (.int (i : Nat), 0), some (k.d, 0), x4] := it_ev (call1_ev (i := 3) rfl eg) rfl
    have hz : (fs.map pathD).length + (((pathsT k).map (i :: ·)).map pathD).length ≤ sizeLine := ok_len (by simp; omega)
    have ad : addD [.lst (fs.map pathD), .lst (((pathsT k).map (i :: ·)).map pathD)] = some (.lst ((fs ++ (pathsT k).map (i :: ·)).map pathD), 1) := by
      simp only [addD, if_pos hz, List.map_append]
    have st := asg_ev (i := 1) (ev_nx (i := 1) (ρ := [X, some (.lst (fs.map pathD), 1), some (.int (i : Nat), 0), some (k.d, 0), x4]) rfl (lc_ev M ec) rfl (Nat.le_refl _) ad) (by simp)
    obtain ⟨y2, y3, y4, e⟩ := lp_loop (X := X) ks (i + 1) (fs ++ (pathsT k).map (i :: ·)) (some (.int (i : Nat), 0)) (some (k.d, 0)) none (fun k' hk' => hg k' (List.mem_cons_of_mem _ hk')) (by simp; omega)
    refine ⟨y2, y3, y4, ?_⟩
    simp only [T.ds, enumD, pathsK]
    rw [← List.append_assoc]
    exact (forD_skip (ρ1 := [X, some (.lst (fs.map pathD), 1), some (.int (i : Nat), 0), some (k.d, 0), x4]) rfl st).trans e
theorem law_paths_ok : ∀ (n : Nat) (t : T), t.dp ≤ n → t.dp < 1000 → t.nd < 9000 → mf__law_paths n [(t.d, 0)] = .ok (.lst ((pathsT t).map pathD), 1) [some (t.d, 0)]
  | 0, .node _ _, h, _, _ => by simp [T.dp] at h
  | n + 1, .node tg ks, h, hd, hz => by
    simp only [T.dp] at h hd
    simp only [T.nd] at hz
    have sub : ∀ k ∈ ks, k.dp ≤ T.dps ks ∧ k.nd ≤ T.nds ks := by
      intro k hk
      clear h hz hd
      induction ks with
      | nil => cases hk
      | cons a as ih =>
        simp only [T.dps, T.nds]
        rcases List.mem_cons.mp hk with rfl | hk
        · omega
        · have := ih hk; omega
    have h1 : [D.tup []].length ≤ sizeLine := ok_len (by simp)
    have A1 : sAsg 1 (opN [.ex (opN [] tupD)] lstD) [some (T.d (.node tg ks), 0), none, none, none, none] = .nx [some (T.d (.node tg ks), 0), some (.lst ([([] : List Nat)].map pathD), 1), none, none, none] :=
      asg_ev (ev_x (m := opN [] tupD) (a := .tup []) (k := 0) rfl (by simp only [lstD, if_pos h1]; rfl)) (by simp)
    have EN : mEnumA (opN [.nm 0, .ex (mInt (mC (.int 1)))] (slD true false)) [some (T.d (.node tg ks), 0), some (.lst ([([] : List Nat)].map pathD), 1), none, none, none] = .ok (enumD 0 (T.ds ks)) [some (T.d (.node tg ks), 0), some (.lst ([([] : List Nat)].map pathD), 1), none, none, none] := by
      have e := ev_nx (i := 0) (f := slD true false) (ρ := [some (T.d (.node tg ks), 0), some (.lst ([([] : List Nat)].map pathD), 1), none, none, none]) rfl (ev_I (ev_C (x := .int 1))) rfl (Nat.zero_le _) (cut1 (.str tg) (T.ds ks))
      simp only [mEnumA, e, bindO]
    obtain ⟨y2, y3, y4, l⟩ := lp_loop (g := mf__law_paths n) (X := some (T.d (.node tg ks), 0)) ks 0 [[]] none none none (fun k hk => ⟨by have := (sub k hk).1; omega, 1, law_paths_ok n k (by have := (sub k hk).1; omega) (by have := (sub k hk).1; omega) (by have := (sub k hk).2; omega)⟩) (by simp; omega)
    have EB : ms__law_paths (mf__law_paths n) [some (T.d (.node tg ks), 0), none, none, none, none] = .rt (.lst ((pathsT (.node tg ks)).map pathD), 1) [some (T.d (.node tg ks), 0), none, y2, y3, y4] := by
      unfold ms__law_paths
      exact (seq_nx A1).trans ((seq_nx ((for_ev EN).trans l)).trans rfl)
    show runD 1 5 [0] (ms__law_paths (mf__law_paths n)) _ = _
    unfold runD
    rw [show ([(T.d (.node tg ks), 0)] : List Val).map some ++ List.replicate (5 - 1) none = [some (T.d (.node tg ks), 0), none, none, none, none] from rfl, EB]
    rfl
end K02
end
section
set_option Elab.async false
set_option linter.all false
set_option maxRecDepth 100000
set_option maxHeartbeats 2000000
namespace K02
open PySem L2 DL
def qD (q : List Nat × T) : D := .tup [pathD q.1, q.2.d]
/-- the children of a place -/
def kidsQ (p : List Nat) : Nat → List T → List (List Nat × T)
  | _, [] => []
  | i, k :: ks => (p ++ [i], k) :: kidsQ p (i + 1) ks
def outQ : List (List Nat × T) → List (List Nat)
  | [] => []
  | q :: qs => (pathsT q.2).map (q.1 ++ ·) ++ outQ qs
theorem outQ_app : ∀ a b, outQ (a ++ b) = outQ a ++ outQ b
  | [], b => rfl
  | q :: a, b => by simp only [List.cons_append, outQ, outQ_app a b, List.append_assoc]
theorem outQ_kids (p : List Nat) : ∀ (i : Nat) (ks : List T), outQ (kidsQ p i ks) = (pathsK i ks).map (p ++ ·)
  | _, [] => rfl
  | i, k :: ks => by
    simp only [kidsQ, outQ, pathsK, List.map_append, outQ_kids p (i + 1) ks, List.map_map]
    congr 2
    funext x
    simp
theorem kidsQ_len (p : List Nat) : ∀ (i : Nat) (ks : List T), (kidsQ p i ks).length = ks.length
  | _, [] => rfl
  | i, k :: ks => by simp [kidsQ, kidsQ_len p (i + 1) ks]
theorem kidsQ_get (p : List Nat) : ∀ (i : Nat) (ks : List T) (j : Nat) (k : T), ks[j]? = some k → (kidsQ p i ks)[j]? = some (p ++ [i + j], k)
  | _, [], _, _, h => by simp at h
  | i, a :: ks, 0, k, h => by simp at h; subst h; simp [kidsQ]
  | i, a :: ks, j + 1, k, h => by
    have := kidsQ_get p (i + 1) ks j k (by simpa using h)
    rw [show i + 1 + j = i + (j + 1) by omega] at this
    simpa only [kidsQ, List.getElem?_cons_succ] using this
def mq : List (List Nat × T) → Nat
  | [] => 0
  | q :: qs => q.2.nd + mq qs
theorem mq_app : ∀ a b, mq (a ++ b) = mq a + mq b
  | [], b => by simp [mq]
  | q :: a, b => by simp only [List.cons_append, mq, mq_app a b]; omega
theorem mq_rev : ∀ a, mq a.reverse = mq a
  | [] => rfl
  | q :: a => by rw [List.reverse_cons, mq_app, mq_rev a]; simp only [mq]; omega
theorem mq_kids (p : List Nat) : ∀ (i : Nat) (ks : List T), mq (kidsQ p i ks) = T.nds ks
  | _, [] => rfl
  | i, k :: ks => by simp only [kidsQ, mq, T.nds, mq_kids p (i + 1) ks]
theorem len_mq : ∀ qs, qs.length ≤ mq qs
  | [] => by simp
  | q :: qs => by have := len_mq qs; have := q.2.nd_pos; simp only [mq, List.length_cons]; omega
theorem path_snoc (p : List Nat) (i : Nat) (h : p.length < 100000) : addD [pathD p, .tup [.int (i : Nat)]] = some (pathD (p ++ [i]), 0) := by
  have hz : (p.map fun i => D.int (i : Nat)).length + [D.int (i : Nat)].length ≤ sizeLine := ok_len (by simp; omega)
  simp only [pathD, addD, if_pos hz, List.map_append]
  rfl
theorem at_kid {t : Str} {ks : List T} {j : Nat} (h : j < ks.length) : atD [T.d (.node t ks), .int ((j + 1 : Nat) : Int)] = some ((ks[j]).d, 0) := by
  have := at_seq (x := T.d (.node t ks)) (xs := .str t :: T.ds ks) rfl (a := j + 1) (by simp [T.ds_map]; omega)
  rw [this]
  simp [T.ds_map]
abbrev BPI : MS := sDrop (mMut 2 isLst [.ex (opN [.ex (opN [.nm 3, .ex (opN [.ex (mN 5)] tupD)] addD), .ex (opN [.nm 4, .ex (opN [.nm 5, .ex (mC (.int 1))] addD)] atD)] tupD)] appD)
abbrev BPO : MS := sSeq (sAsgT (.tup [.nm 3, .nm 4]) (mMut 2 isLst [] popD))
  (sSeq (sDrop (mMut 1 isLst [.ex (mN 3)] appD))
  (sFor (.nm 5) (mRevR (opN [.ex (opN [.nm 4] lenD), .ex (mC (.int 1))] subD)) BPI))
theorem push_kids {X : Option Val} {fs : D} {p : List Nat} {t : Str} {ks : List T} (hp : p.length < 1000) (hk : ks.length < 9000) (st : List (List Nat × T)) (hst : st.length < 9000) (x5 : Option Val) :
    ∃ y5, forD (.nm 5) BPI (downD ks.length) [X, some (fs, 1), some (.lst (st.map qD), 1), some (pathD p, 0), some (T.d (.node t ks), 0), x5] = .nx [X, some (fs, 1), some (.lst ((st ++ (kidsQ p 0 ks).reverse).map qD), 1), some (pathD p, 0), some (T.d (.node t ks), 0), y5] := by
  let I : Nat → Rho → Prop := fun j ρ => ∃ y5, ρ = [X, some (fs, 1), some (.lst ((st ++ (kidsQ p 0 ks).reverse.take j).map qD), 1), some (pathD p, 0), some (T.d (.node t ks), 0), y5]
  obtain ⟨ρ', e, y5, rfl⟩ := forD_at (t := .nm 5) (body := BPI) I (downD ks.length) (fun j q hq ρ ⟨y5, e⟩ => by
    subst e
    have hj : j < ks.length := by
      have := (List.getElem?_eq_some_iff.mp hq).1
      simpa [downD] using this
    have hq' : q = .int ((ks.length - 1 - j : Nat) : Int) := by
      simp only [downD, List.getElem?_map, List.getElem?_range hj, Option.map_some, Option.some.injEq] at hq
      rw [← hq]
      congr 1
      omega
    subst hq'
    have hi : ks.length - 1 - j < ks.length := by omega
    have z1 : addD [.int ((ks.length - 1 - j : Nat) : Int), .int 1] = some (.int ((ks.length - 1 - j + 1 : Nat) : Int), 0) := by simp only [addD]; simp
    have ev := tup2_ev (ρ := [X, some (fs, 1), some (.lst ((st ++ (kidsQ p 0 ks).reverse.take j).map qD), 1), some (pathD p, 0), some (T.d (.node t ks), 0), some (.int ((ks.length - 1 - j : Nat) : Int), 0)])
      (ev_nx (i := 3) rfl (tup1_ev (ev_N (i := 5) rfl)) rfl (Nat.zero_le _) (path_snoc p (ks.length - 1 - j) (by omega)))
      (ev_nx (i := 4) rfl (ev_nx (i := 5) rfl (ev_C (x := .int 1)) rfl (Nat.zero_le _) z1) rfl (Nat.zero_le _) (at_kid hi))
    have ap := drop_ev (app_ev (j := 2) (l := 1) rfl ev rfl (by simp; omega))
    refine ⟨_, _, rfl, ap, some (.int ((ks.length - 1 - j : Nat) : Int), 0), ?_⟩
    have ek : (kidsQ p 0 ks).reverse[j]? = some (p ++ [ks.length - 1 - j], ks[ks.length - 1 - j]) := by
      rw [List.getElem?_reverse (by rw [kidsQ_len]; exact hj), kidsQ_len]
      have := kidsQ_get p 0 ks (ks.length - 1 - j) ks[ks.length - 1 - j] (by simp [hi])
      rw [this, Nat.zero_add]
    rw [List.take_add_one, ek]
    simp only [List.map_append, List.append_assoc]
    rfl) [X, some (fs, 1), some (.lst (st.map qD), 1), some (pathD p, 0), some (T.d (.node t ks), 0), x5] ⟨x5, by simp⟩
  have hl : (downD ks.length).length = ks.length := by simp [downD]
  rw [hl, List.take_of_length_le (by simp [kidsQ_len])] at e
  exact ⟨y5, e⟩
theorem rev_range {m : ME} {ρ ρ1 : Rho} {n k : Nat} (h : m ρ = .ok (.int (n : Nat), k) ρ1) (hn : n < 1000000) : mRevR m ρ = .ok (downD n) ρ1 := by
  have hr : -(2 ^ 62) ≤ ((n : Nat) : Int) ∧ ((n : Nat) : Int) < 2 ^ 62 := by omega
  simp only [mRevR, h, bindO, if_pos hr, Int.toNat_natCast]
theorem paths_while {X : Option Val} : ∀ (n : Nat) (st : List (List Nat × T)) (fs : List (List Nat)) (x3 x4 x5 : Option Val), (∀ q ∈ st, q.1.length + q.2.dp < 900) → mq st < n → fs.length + mq st < 9000 →
    ∃ y3 y4 y5, whileD (mTru (.nm 2)) BPO n [X, some (.lst (fs.map pathD), 1), some (.lst (st.map qD), 1), x3, x4, x5] = .nx [X, some (.lst ((fs ++ outQ st.reverse).map pathD), 1), some (.lst [], 1), y3, y4, y5]
  | 0, _, _, _, _, _, _, h, _ => by omega
  | n + 1, st, fs, x3, x4, x5, hd, hn, hm => by
    rcases List.eq_nil_or_concat st with rfl | ⟨st', ⟨p, ⟨t, ks⟩⟩, rfl⟩
    · exact ⟨x3, x4, x5, while_f (by rw [tru_lst rfl]; simp [outQ])⟩
    · rw [List.concat_eq_append] at *
      have hs : mq (st' ++ [(p, T.node t ks)]) = mq st' + T.nds ks + 1 := by rw [mq_app]; simp only [mq, T.nd]; omega
      have hq := hd (p, T.node t ks) (by simp)
      simp only [T.dp] at hq
      have l1 := len_mq st'
      have l2 := T.len_nds ks
      have t1 : mTru (.nm 2) [X, some (.lst (fs.map pathD), 1), some (.lst ((st' ++ [(p, T.node t ks)]).map qD), 1), x3, x4, x5] = .ok true [X, some (.lst (fs.map pathD), 1), some (.lst ((st' ++ [(p, T.node t ks)]).map qD), 1), x3, x4, x5] := by rw [tru_lst rfl]; simp
      have P := pop_ev (j := 2) (x := qD (p, T.node t ks)) (xs := st'.map qD) (ρ := [X, some (.lst (fs.map pathD), 1), some (.lst ((st' ++ [(p, T.node t ks)]).map qD), 1), x3, x4, x5]) (by simp)
      have b1 : sAsgT (.tup [.nm 3, .nm 4]) (mMut 2 isLst [] popD) [X, some (.lst (fs.map pathD), 1), some (.lst ((st' ++ [(p, T.node t ks)]).map qD), 1), x3, x4, x5] = .nx [X, some (.lst (fs.map pathD), 1), some (.lst (st'.map qD), 1), some (pathD p, 0), some (T.d (.node t ks), 0), x5] := asgT_ev P rfl
      have b2 : sDrop (mMut 1 isLst [.ex (mN 3)] appD) [X, some (.lst (fs.map pathD), 1), some (.lst (st'.map qD), 1), some (pathD p, 0), some (T.d (.node t ks), 0), x5] = .nx [X, some (.lst ((fs ++ [p]).map pathD), 1), some (.lst (st'.map qD), 1), some (pathD p, 0), some (T.d (.node t ks), 0), x5] := by
        have := drop_ev (app_ev (j := 1) (m := mN 3) (ρ := [X, some (.lst (fs.map pathD), 1), some (.lst (st'.map qD), 1), some (pathD p, 0), some (T.d (.node t ks), 0), x5]) (k := 0) (l := 1) rfl rfl rfl (by rw [List.length_map]; omega))
        rw [List.map_append]
        exact this
      have z1 : subD [.int ((D.str t :: T.ds ks).length : Nat), .int 1] = some (.int (ks.length : Nat), 0) := by simp only [subD, List.length_cons, T.ds_map, List.length_map]; congr 3; omega
      have RR : mRevR (opN [.ex (opN [.nm 4] lenD), .ex (mC (.int 1))] subD) [X, some (.lst ((fs ++ [p]).map pathD), 1), some (.lst (st'.map qD), 1), some (pathD p, 0), some (T.d (.node t ks), 0), x5] = .ok (downD ks.length) [X, some (.lst ((fs ++ [p]).map pathD), 1), some (.lst (st'.map qD), 1), some (pathD p, 0), some (T.d (.node t ks), 0), x5] :=
        rev_range (ev_xx (ev_n (i := 4) rfl (Nat.zero_le _) rfl) (ev_C (x := .int 1)) z1) (by omega)
      obtain ⟨z5, b3⟩ := push_kids (X := X) (fs := .lst ((fs ++ [p]).map pathD)) (p := p) (t := t) (ks := ks) (by omega) (by omega) st' (by omega) x5
      have step := while_t (b := BPO) (n := n) t1 ((seq_nx b1).trans ((seq_nx b2).trans ((for_ev RR).trans b3)))
      obtain ⟨y3, y4, y5, e⟩ := paths_while (X := X) n (st' ++ (kidsQ p 0 ks).reverse) (fs ++ [p]) (some (pathD p, 0)) (some (T.d (.node t ks), 0)) z5 (fun q hq' => by
        rcases List.mem_append.mp hq' with h | h
        · exact hd q (List.mem_append_left _ h)
        · obtain ⟨j, hj⟩ := List.mem_iff_getElem?.mp (List.mem_reverse.mp h)
          have hjl : j < ks.length := by
            have := (List.getElem?_eq_some_iff.mp hj).1
            rwa [kidsQ_len] at this
          have := kidsQ_get p 0 ks j ks[j] (by simp [hjl])
          rw [this] at hj
          cases hj
          have hk : ks[j].dp ≤ T.dps ks := by
            have := his_le.mp (Nat.le_refl (his (T.ds ks))) ks[j].d (by rw [T.ds_map]; exact List.mem_map_of_mem (List.getElem_mem hjl))
            rw [hi_d, his_ds] at this
            exact this
          simp only [List.length_append, List.length_cons, List.length_nil]
          omega) (by rw [mq_app, mq_rev, mq_kids]; omega) (by rw [mq_app, mq_rev, mq_kids]; simp; omega)
      refine ⟨y3, y4, y5, ?_⟩
      rw [step, e]
      congr 5
      rw [List.reverse_append, List.reverse_reverse, outQ_app, outQ_kids, List.reverse_append, List.reverse_cons, List.reverse_nil, List.nil_append, List.singleton_append, outQ, pathsT]
      simp
theorem paths_ok (t : T) (h1 : t.dp < 900) (h2 : t.nd < 8000) : mf_paths [(t.d, 0)] = .ok (.lst ((pathsT t).map pathD), 1) [some (t.d, 0)] := by
  have hz : [qD ([], t)].length ≤ sizeLine := ok_len (by simp)
  have A1 : sAsg 1 (opN [] lstD) [some (t.d, 0), none, none, none, none, none] = .nx [some (t.d, 0), some (.lst (([] : List (List Nat)).map pathD), 1), none, none, none, none] := rfl
  have A2 : sAsg 2 (opN [.ex (opN [.ex (opN [] tupD), .ex (mN 0)] tupD)] lstD) [some (t.d, 0), some (.lst (([] : List (List Nat)).map pathD), 1), none, none, none, none] = .nx [some (t.d, 0), some (.lst (([] : List (List Nat)).map pathD), 1), some (.lst ([(([] : List Nat), t)].map qD), 1), none, none, none] :=
    asg_ev (ev_x (tup2_ev (m := opN [] tupD) (a := .tup []) (k := 0) rfl (ev_N rfl)) (by simp only [lstD]; exact if_pos hz)) (by simp)
  obtain ⟨y3, y4, y5, e⟩ := paths_while (X := some (t.d, 0)) FU [([], t)] [] none none none (fun q hq => by cases List.mem_singleton.mp hq; simpa using h1) (by simp only [mq, FU]; omega) (by simp only [mq, List.length_nil]; omega)
  have eo : ([] : List (List Nat)) ++ outQ [(([] : List Nat), t)].reverse = pathsT t := by simp [outQ]
  rw [eo] at e
  have EB : ms_paths [some (t.d, 0), none, none, none, none, none] = .rt (.lst ((pathsT t).map pathD), 1) [some (t.d, 0), none, some (.lst [], 1), y3, y4, y5] := by
    unfold ms_paths
    exact (seq_nx A1).trans ((seq_nx A2).trans ((seq_nx e).trans rfl))
  unfold mf_paths runD
  rw [show ([(t.d, 0)] : List Val).map some ++ List.replicate (6 - 1) none = [some (t.d, 0), none, none, none, none, none] from rfl, EB]
  rfl
end K02
end
section
set_option Elab.async false
set_option linter.all false
set_option maxRecDepth 100000
set_option maxHeartbeats 2000000
namespace K02
open PySem L2 DL
/-! ### parts -/
def isI : D → Bool
  | .int _ => true
  | _ => false
theorem is_integer_ok {x : D} (h : Ok x) : mf_is_integer [(x, 0)] = .ok (.bl (isI x), 0) [some (x, 0)] := by
  cases h <;> rfl
def along : List D → T → Option (List T)
  | [], t => some [t]
  | .int i :: ps, .node tg ks => if 0 ≤ i ∧ i < ks.length then match ks[i.toNat]? with
      | some k => (along ps k).map (T.node tg ks :: ·)
      | none => none
    else none
  | _ :: _, _ => none
def atT : List Nat → T → T
  | [], t => t
  | i :: p, .node tg ks => match ks[i]? with
    | some k => atT p k
    | none => .node tg ks
def withT : List Nat → T → T → T
  | [], _, u => u
  | i :: p, .node tg ks, u => match ks[i]? with
    | some k => .node tg (ks.set i (withT p k u))
    | none => .node tg ks
abbrev intsP (p : List Nat) : List D := p.map fun i => D.int (i : Nat)
theorem mem_pathsK : ∀ (ks : List T) (j : Nat) (q : List Nat), q ∈ pathsK j ks ↔ ∃ i k p, ks[i]? = some k ∧ p ∈ pathsT k ∧ q = (j + i) :: p
  | [], j, q => by simp [pathsK]
  | a :: ks, j, q => by
    simp only [pathsK, List.mem_append, List.mem_map, mem_pathsK ks (j + 1) q]
    constructor
    · rintro (⟨p, hp, rfl⟩ | ⟨i, k, p, h1, h2, rfl⟩)
      · exact ⟨0, a, p, rfl, hp, rfl⟩
      · exact ⟨i + 1, k, p, by simpa using h1, h2, by congr 1; omega⟩
    · rintro ⟨i, k, p, h1, h2, rfl⟩
      cases i with
      | zero => simp at h1; subst h1; exact .inl ⟨p, h2, rfl⟩
      | succ i => exact .inr ⟨i, k, p, by simpa using h1, h2, by congr 1; omega⟩
theorem mem_paths {tg : Str} {ks : List T} {i : Nat} {p : List Nat} : i :: p ∈ pathsT (.node tg ks) ↔ ∃ k, ks[i]? = some k ∧ p ∈ pathsT k := by
  simp only [pathsT, List.mem_cons, reduceCtorEq, false_or, mem_pathsK ks 0, Nat.zero_add, List.cons.injEq]
  constructor
  · rintro ⟨i', k, p', h1, h2, rfl, rfl⟩
    exact ⟨k, h1, h2⟩
  · rintro ⟨k, h1, h2⟩
    exact ⟨i, k, p, h1, h2, rfl, rfl⟩
theorem nil_paths (t : T) : [] ∈ pathsT t := by cases t; simp [pathsT]
/-- a path of the tree leads along its places -/
theorem along_of : ∀ (p : List Nat) (t : T), p ∈ pathsT t → ∃ l, along (intsP p) t = some (l ++ [atT p t])
  | [], t, _ => ⟨[], rfl⟩
  | i :: p, .node tg ks, h => by
    obtain ⟨k, h1, h2⟩ := mem_paths.mp h
    obtain ⟨l, e⟩ := along_of p k h2
    have hi : i < ks.length := (List.getElem?_eq_some_iff.mp h1).1
    have c : (0 : Int) ≤ (i : Nat) ∧ ((i : Nat) : Int) < ks.length := by omega
    refine ⟨T.node tg ks :: l, ?_⟩
    simp only [intsP, List.map_cons, along, if_pos c, Int.toNat_natCast, h1, atT]
    rw [show along (List.map (fun i => D.int (i : Nat)) p) k = some (l ++ [atT p k]) from e]
    rfl
/-- nothing else does -/
theorem along_only : ∀ (xs : List D) (t : T) (l : List T), along xs t = some l → ∃ p, p ∈ pathsT t ∧ xs = intsP p
  | [], t, _, _ => ⟨[], nil_paths t, rfl⟩
  | .int i :: ps, .node tg ks, l, h => by
    simp only [along] at h
    split at h
    · rename_i c
      split at h
      · rename_i k hk
        obtain ⟨l', e, _⟩ := Option.map_eq_some_iff.mp h
        obtain ⟨p, h1, rfl⟩ := along_only ps k l' e
        refine ⟨i.toNat :: p, mem_paths.mpr ⟨k, hk, h1⟩, ?_⟩
        simp only [intsP, List.map_cons]
        congr 2
        omega
      · cases h
    · cases h
  | .non :: _, _, _, h => by simp [along] at h
  | .bl _ :: _, _, _, h => by simp [along] at h
  | .str _ :: _, _, _, h => by simp [along] at h
  | .tup _ :: _, _, _, h => by simp [along] at h
  | .lst _ :: _, _, _, h => by simp [along] at h
  | .dic _ _ :: _, _, _, h => by simp [along] at h
  | .dit _ _ :: _, _, _, h => by simp [along] at h
  | .ins _ _ _ :: _, _, _, h => by simp [along] at h
  | .exv _ _ _ :: _, _, _, h => by simp [along] at h
  | .opq :: _, _, _, h => by simp [along] at h
theorem at_last (xs : List D) (x : D) : atD [.lst (xs ++ [x]), .int (-1)] = some (x, 0) := by
  have e : atI (xs ++ [x]) (-1) = some x := by
    unfold atI ixN
    have h1 : ¬ (0 : Int) ≤ -1 := by decide
    rw [if_neg h1]
    have h2 : -((xs ++ [x]).length : Int) ≤ -1 := by rw [List.length_append]; simp; omega
    rw [if_pos h2]
    have : (-1 + (((xs ++ [x]).length : Nat) : Int)).toNat = xs.length := by rw [List.length_append, List.length_singleton]; omega
    rw [this]
    simp
  simp only [atD, ixD, e, Option.map_some]
theorem chain_ev {m n : ME} {ρ : Rho} {i : Nat} {j k : Int} {a b : Nat} (h1 : m ρ = .ok (.int 0, a) ρ) (h2 : ρ[i]? = some (some (.int j, 0))) (h3 : n ρ = .ok (.int k, b) ρ) : mChain fLe fLt (.ex m) (.nm i) (.ex n) ρ = .ok (.bl (decide (0 ≤ j ∧ j < k)), 0) ρ := by
  by_cases c : 0 ≤ j
  · have e : opN [.ex m, .nm i] (chainD fLe) ρ = .ok (.int j, 0) ρ := ev_xn (p := (.non, 0)) h1 h2 (Nat.zero_le _) (by simp [chainD, c])
    have e2 : opN [.ex n] (endD fLt (.int j)) ρ = .ok (.bl (decide (j < k)), 0) ρ := ev_x h3 (by simp [endD])
    simp only [mChain, flatK, e, bindO, e2]
    simp [c, flatD]
  · have e : opN [.ex m, .nm i] (chainD fLe) ρ = .ok (.bl false, 0) ρ := ev_xn (p := (.non, 0)) h1 h2 (Nat.zero_le _) (by simp [chainD, c])
    simp only [mChain, flatK, e, bindO, mC]
    simp [c, flatD]
end K02
end
section
set_option Elab.async false
set_option linter.all false
set_option maxRecDepth 100000
set_option maxHeartbeats 2000000
namespace K02
open PySem L2 DL
abbrev BAL : MS := sSeq (sAsg 4 (opN [.nm 2, .ex (opN [.ex (mC (.int 1))] negD)] atD))
  (sSeq (sIf (mOr (mNot (mB (mCall mf_is_integer [.nm 3]))) (mNot (mB (mChain fLe fLt (.ex (mC (.int 0))) (.nm 3) (.ex (opN [.ex (opN [.nm 4] lenD), .ex (mC (.int 1))] subD)))))) (sRet (mC .non)) (sSkip))
  (sDrop (mMut 2 isLst [.ex (opN [.nm 4, .ex (opN [.nm 3, .ex (mC (.int 1))] addD)] atD)] appD)))
theorem along_loop {X Y : Option Val} : ∀ (xs : List D) (t : T) (as : List T) (x3 x4 : Option Val), (∀ x ∈ xs, Ok x) → as.length + xs.length < 100000 → t.nd < 100000 →
    match along xs t with
    | some l => ∃ y3 y4, forD (.nm 3) BAL xs [X, Y, some (.lst ((as ++ [t]).map T.d), 1), x3, x4] = .nx [X, Y, some (.lst ((as ++ l).map T.d), 1), y3, y4]
    | none => ∃ y2 y3 y4, forD (.nm 3) BAL xs [X, Y, some (.lst ((as ++ [t]).map T.d), 1), x3, x4] = .rt (.non, 0) [X, Y, y2, y3, y4]
  | [], t, as, x3, x4, _, _, _ => ⟨x3, x4, rfl⟩
  | x :: xs, .node tg ks, as, x3, x4, hx, hl, hz => by
    simp only [List.length_cons] at hl
    simp only [T.nd] at hz
    have lk := T.len_nds ks
    have b1 : sAsg 4 (opN [.nm 2, .ex (opN [.ex (mC (.int 1))] negD)] atD) [X, Y, some (.lst ((as ++ [T.node tg ks]).map T.d), 1), some (x, 0), x4] = .nx [X, Y, some (.lst ((as ++ [T.node tg ks]).map T.d), 1), some (x, 0), some (T.d (.node tg ks), 0)] := by
      have e := at_last (as.map T.d) (T.d (.node tg ks))
      rw [show as.map T.d ++ [T.d (.node tg ks)] = (as ++ [T.node tg ks]).map T.d by simp] at e
      exact asg_ev (ev_nx (i := 2) rfl (ev_x (ev_C (x := .int 1)) (r := (.int (-1), 0)) rfl) rfl (Nat.le_refl _) e) (by simp)
    have b2 : mB (mCall mf_is_integer [.nm 3]) [X, Y, some (.lst ((as ++ [T.node tg ks]).map T.d), 1), some (x, 0), some (T.d (.node tg ks), 0)] = .ok (isI x) [X, Y, some (.lst ((as ++ [T.node tg ks]).map T.d), 1), some (x, 0), some (T.d (.node tg ks), 0)] := ev_b (call1_ev (i := 3) rfl (is_integer_ok (hx x List.mem_cons_self)))
    have stop : along (x :: xs) (.node tg ks) = none → mOr (mNot (mB (mCall mf_is_integer [.nm 3]))) (mNot (mB (mChain fLe fLt (.ex (mC (.int 0))) (.nm 3) (.ex (opN [.ex (opN [.nm 4] lenD), .ex (mC (.int 1))] subD))))) [X, Y, some (.lst ((as ++ [T.node tg ks]).map T.d), 1), some (x, 0), some (T.d (.node tg ks), 0)] = .ok true [X, Y, some (.lst ((as ++ [T.node tg ks]).map T.d), 1), some (x, 0), some (T.d (.node tg ks), 0)] → (match along (x :: xs) (.node tg ks) with
      | some l => ∃ y3 y4, forD (.nm 3) BAL (x :: xs) [X, Y, some (.lst ((as ++ [T.node tg ks]).map T.d), 1), x3, x4] = .nx [X, Y, some (.lst ((as ++ l).map T.d), 1), y3, y4]
      | none => ∃ y2 y3 y4, forD (.nm 3) BAL (x :: xs) [X, Y, some (.lst ((as ++ [T.node tg ks]).map T.d), 1), x3, x4] = .rt (.non, 0) [X, Y, y2, y3, y4]) := fun e c => by
      rw [e]
      exact ⟨_, _, _, forD_ret (ρ1 := [X, Y, some (.lst ((as ++ [T.node tg ks]).map T.d), 1), some (x, 0), x4]) rfl ((seq_nx b1).trans (seq_rt ((if_t c).trans rfl)))⟩
    have noI : isI x = false → along (x :: xs) (.node tg ks) = none → _ := fun e a => stop a (by rw [e] at b2; simp only [mOr, mNot, b2, bindO, Bool.not_false, if_true])
    have hxx := hx x List.mem_cons_self
    cases hxx with
    | int i =>
      have z1 : subD [.int ((D.str tg :: T.ds ks).length : Nat), .int 1] = some (.int (ks.length : Nat), 0) := by simp only [subD, List.length_cons, T.ds_map, List.length_map]; congr 3; omega
      have ln : opN [.nm 4] lenD [X, Y, some (.lst ((as ++ [T.node tg ks]).map T.d), 1), some (.int i, 0), some (T.d (.node tg ks), 0)] = .ok (.int ((D.str tg :: T.ds ks).length : Nat), 0) [X, Y, some (.lst ((as ++ [T.node tg ks]).map T.d), 1), some (.int i, 0), some (T.d (.node tg ks), 0)] := ev_n (i := 4) rfl (Nat.zero_le _) rfl
      have b3 := ev_b (chain_ev (i := 3) (j := i) (ρ := [X, Y, some (.lst ((as ++ [T.node tg ks]).map T.d), 1), some (.int i, 0), some (T.d (.node tg ks), 0)]) (ev_C (x := .int 0)) rfl (ev_xx ln (ev_C (x := .int 1)) z1))
      by_cases c : 0 ≤ i ∧ i < (ks.length : Nat)
      · rw [decide_eq_true c] at b3
        have hi : i.toNat < ks.length := by omega
        have cc : mOr (mNot (mB (mCall mf_is_integer [.nm 3]))) (mNot (mB (mChain fLe fLt (.ex (mC (.int 0))) (.nm 3) (.ex (opN [.ex (opN [.nm 4] lenD), .ex (mC (.int 1))] subD))))) [X, Y, some (.lst ((as ++ [T.node tg ks]).map T.d), 1), some (.int i, 0), some (T.d (.node tg ks), 0)] = .ok false [X, Y, some (.lst ((as ++ [T.node tg ks]).map T.d), 1), some (.int i, 0), some (T.d (.node tg ks), 0)] := by
          simp only [mOr, mNot, b2, isI, bindO, Bool.not_true, Bool.false_eq_true, if_false, b3]
        have ei : i = ((i.toNat : Nat) : Int) := by omega
        have z2 : addD [.int i, .int 1] = some (.int ((i.toNat + 1 : Nat) : Int), 0) := by simp only [addD]; congr 3; omega
        have b4 := drop_ev (app_ev (j := 2) (l := 1) (ρ := [X, Y, some (.lst ((as ++ [T.node tg ks]).map T.d), 1), some (.int i, 0), some (T.d (.node tg ks), 0)]) rfl (ev_nx (i := 4) rfl (ev_nx (i := 3) rfl (ev_C (x := .int 1)) rfl (Nat.zero_le _) z2) rfl (Nat.zero_le _) (at_kid hi)) rfl (by simp; omega))
        have step : forD (.nm 3) BAL (.int i :: xs) [X, Y, some (.lst ((as ++ [T.node tg ks]).map T.d), 1), x3, x4] = forD (.nm 3) BAL xs [X, Y, some (.lst (((as ++ [T.node tg ks]) ++ [ks[i.toNat]]).map T.d), 1), some (.int i, 0), some (T.d (.node tg ks), 0)] := by
          refine (forD_skip (ρ1 := [X, Y, some (.lst ((as ++ [T.node tg ks]).map T.d), 1), some (.int i, 0), x4]) rfl ((seq_nx b1).trans ((seq_nx (ifs_f cc)).trans b4))).trans ?_
          rw [List.map_append (l₁ := as ++ [T.node tg ks])]
          rfl
        have hk : ks[i.toNat].nd ≤ T.nds ks := by
          have := szs_at (xs := T.ds ks) (a := i.toNat) (by rw [T.ds_map, List.length_map]; exact hi)
          rw [szs_ds] at this
          have e : (T.ds ks)[i.toNat]'(by rw [T.ds_map, List.length_map]; exact hi) = (ks[i.toNat]).d := by simp [T.ds_map]
          rw [e, sz_d] at this
          omega
        have ih := along_loop (X := X) (Y := Y) xs ks[i.toNat] (as ++ [T.node tg ks]) (some (.int i, 0)) (some (T.d (.node tg ks), 0)) (fun y hy => hx y (List.mem_cons_of_mem _ hy)) (by simp; omega) (by omega)
        have ea : along (.int i :: xs) (.node tg ks) = (along xs ks[i.toNat]).map (T.node tg ks :: ·) := by
          simp only [along, if_pos c, List.getElem?_eq_getElem hi]
        rw [ea, step]
        cases q : along xs ks[i.toNat] with
        | none => rw [q] at ih; exact ih
        | some l =>
          rw [q] at ih
          obtain ⟨y3, y4, ih⟩ := ih
          refine ⟨y3, y4, ih.trans ?_⟩
          simp
      · rw [decide_eq_false c] at b3
        refine stop (by simp only [along, if_neg c]) ?_
        simp only [mOr, mNot, b2, isI, bindO, Bool.not_true, Bool.false_eq_true, if_false, b3, Bool.not_false]
    | non => exact noI rfl (by simp [along])
    | bl _ => exact noI rfl (by simp [along])
    | str _ => exact noI rfl (by simp [along])
    | emp => exact noI rfl (by simp [along])
    | tup _ => exact noI rfl (by simp [along])
    | lst _ => exact noI rfl (by simp [along])
/-- a path, or none -/
def alongX : D → T → Option (List T)
  | .tup xs, t => along xs t
  | _, _ => none
theorem along_ok {x : D} (hx : Ok x) (hs : sz x < 50000) (t : T) (hz : t.nd < 100000) : mf__parts_along [(t.d, 0), (x, 0)] = match alongX x t with
    | some l => .ok (.lst (l.map T.d), 1) [some (t.d, 0), some (x, 0)]
    | none => .ok (.non, 0) [some (t.d, 0), some (x, 0)] := by
  unfold mf__parts_along runD
  rw [show ([(t.d, 0), (x, 0)] : List Val).map some ++ List.replicate (5 - 2) none = [some (t.d, 0), some (x, 0), none, none, none] from rfl]
  have q : ∀ {b : Bool}, isiD ["tuple"] [x] = some (.bl b, 0) → mNot (mB (opN [.nm 1] (isiD ["tuple"]))) [some (t.d, 0), some (x, 0), none, none, none] = .ok (!b) [some (t.d, 0), some (x, 0), none, none, none] := fun h => by
    have := ev_b (ev_n (i := 1) (ρ := [some (t.d, 0), some (x, 0), none, none, none]) rfl (Nat.zero_le _) h)
    simp only [mNot, this, bindO]
  have no : isiD ["tuple"] [x] = some (.bl false, 0) → ms__parts_along [some (t.d, 0), some (x, 0), none, none, none] = .rt (.non, 0) [some (t.d, 0), some (x, 0), none, none, none] := fun h => by
    unfold ms__parts_along
    exact seq_rt ((if_t (q h)).trans rfl)
  cases hx with
  | tup h =>
    rename_i xs
    have hl := len_szs xs
    simp only [sz] at hs
    have h1 : [t.d].length ≤ sizeLine := ok_len (by simp)
    have b1 : sAsg 2 (opN [.ex (mN 0)] lstD) [some (t.d, 0), some (.tup xs, 0), none, none, none] = .nx [some (t.d, 0), some (.tup xs, 0), some (.lst ((([] : List T) ++ [t]).map T.d), 1), none, none] := asg_ev (ev_x (ev_N rfl) (by simp only [lstD, if_pos h1]; rfl)) (by simp)
    have EI : mIt (mN 1) [some (t.d, 0), some (.tup xs, 0), some (.lst ((([] : List T) ++ [t]).map T.d), 1), none, none] = .ok xs [some (t.d, 0), some (.tup xs, 0), some (.lst ((([] : List T) ++ [t]).map T.d), 1), none, none] := rfl
    have l := along_loop (X := some (t.d, 0)) (Y := some (.tup xs, 0)) xs t [] none none h (by simp; omega) hz
    simp only [alongX]
    cases e : along xs t with
    | some as =>
      rw [e] at l
      obtain ⟨y3, y4, l⟩ := l
      have EB : ms__parts_along [some (t.d, 0), some (.tup xs, 0), none, none, none] = .rt (.lst (as.map T.d), 1) [some (t.d, 0), some (.tup xs, 0), none, y3, y4] := by
        unfold ms__parts_along
        exact (seq_nx (ifs_f (q (b := true) rfl))).trans ((seq_nx b1).trans ((seq_nx ((for_ev EI).trans l)).trans rfl))
      rw [EB]
      rfl
    | none =>
      rw [e] at l
      obtain ⟨y2, y3, y4, l⟩ := l
      have EB : ms__parts_along [some (t.d, 0), some (.tup xs, 0), none, none, none] = .rt (.non, 0) [some (t.d, 0), some (.tup xs, 0), y2, y3, y4] := by
        unfold ms__parts_along
        exact (seq_nx (ifs_f (q (b := true) rfl))).trans ((seq_nx b1).trans (seq_rt ((for_ev EI).trans l)))
      rw [EB]
      rfl
  | non => rw [no rfl]; rfl
  | bl _ => rw [no rfl]; rfl
  | int _ => rw [no rfl]; rfl
  | str _ => rw [no rfl]; rfl
  | emp => rw [no rfl]; rfl
  | lst _ => rw [no rfl]; rfl
theorem call2n_ev {F : MF} {a b : D} {i j : Nat} {r : Val} {ρ : Rho} (hi : ρ[i]? = some (some (a, 0))) (hj : ρ[j]? = some (some (b, 0))) (e : F [(a, 0), (b, 0)] = .ok r [some (a, 0), some (b, 0)]) : mCall F [.nm i, .nm j] ρ = .ok r ρ := by
  simp only [mCall, evOs, evO, bindO, hi, hj, callF, takeOs, e, giveOs]
theorem part_at_no {x : D} (hx : Ok x) (hs : sz x < 50000) (t : T) (hz : t.nd < 100000) (e : alongX x t = none) : mf_part_at [(t.d, 0), (x, 0)] = .exc ⟨"NoPath", [], []⟩ [some (t.d, 0), some (x, 0)] := by
  have A := along_ok hx hs t hz
  rw [e] at A
  have b1 := asg_ev (i := 2) (call2n_ev (i := 0) (j := 1) (ρ := [some (t.d, 0), some (x, 0), none]) rfl rfl A) (by simp)
  have b2 : mB (opN [.nm 2, .ex (mC .non)] isA) [some (t.d, 0), some (x, 0), some (.non, 0)] = .ok true [some (t.d, 0), some (x, 0), some (.non, 0)] := ev_b (k := 0) (ev_nx (i := 2) rfl (ev_C (x := .non)) rfl (Nat.zero_le _) rfl)
  have EB : ms_part_at [some (t.d, 0), some (x, 0), none] = .exc ⟨"NoPath", [], []⟩ [some (t.d, 0), some (x, 0), some (.non, 0)] := by
    unfold ms_part_at
    refine (seq_nx b1).trans ?_
    show sSeq _ _ [some (t.d, 0), some (x, 0), some (.non, 0)] = _
    have c := (if_t (a := sRaise "NoPath") (b := sSkip) b2)
    simp only [sSeq, c, sRaise]
  unfold mf_part_at runD
  rw [show ([(t.d, 0), (x, 0)] : List Val).map some ++ List.replicate (3 - 2) none = [some (t.d, 0), some (x, 0), none] from rfl, EB]
  rfl
theorem part_at_ok {p : List Nat} (t : T) (hp : p ∈ pathsT t) (hs : p.length < 1000) (hz : t.nd < 100000) : mf_part_at [(t.d, 0), (pathD p, 0)] = .ok ((atT p t).d, 0) [some (t.d, 0), some (pathD p, 0)] := by
  obtain ⟨l, el⟩ := along_of p t hp
  have okx : Ok (pathD p) := .tup fun x hx => by obtain ⟨i, _, rfl⟩ := List.mem_map.mp hx; exact .int _
  have szp : sz (pathD p) < 50000 := by
    have : ∀ q : List Nat, szs (intsP q) = q.length := by
      intro q
      induction q with
      | nil => rfl
      | cons a q ih => simp only [intsP, List.map_cons, szs, sz, List.length_cons] at ih ⊢; omega
    have := this p
    unfold intsP at this
    simp only [pathD, sz]
    omega
  have A := along_ok okx szp t hz
  have ex : alongX (pathD p) t = some (l ++ [atT p t]) := el
  rw [ex] at A
  have b1 := asg_ev (i := 2) (call2n_ev (i := 0) (j := 1) (ρ := [some (t.d, 0), some (pathD p, 0), none]) rfl rfl A) (by simp)
  have b2 : mB (opN [.nm 2, .ex (mC .non)] isA) [some (t.d, 0), some (pathD p, 0), some (.lst ((l ++ [atT p t]).map T.d), 1)] = .ok false [some (t.d, 0), some (pathD p, 0), some (.lst ((l ++ [atT p t]).map T.d), 1)] := ev_b (k := 0) (ev_nx (i := 2) rfl (ev_C (x := .non)) rfl (Nat.le_refl _) rfl)
  have e := at_last (l.map T.d) (T.d (atT p t))
  rw [show l.map T.d ++ [T.d (atT p t)] = (l ++ [atT p t]).map T.d by simp] at e
  have EB : ms_part_at [some (t.d, 0), some (pathD p, 0), none] = .rt ((atT p t).d, 0) [some (t.d, 0), some (pathD p, 0), some (.lst ((l ++ [atT p t]).map T.d), 1)] := by
    unfold ms_part_at
    exact (seq_nx b1).trans ((seq_nx (ifs_f b2)).trans (ret_ev (ev_nx (i := 2) rfl (ev_x (ev_C (x := .int 1)) (r := (.int (-1), 0)) rfl) rfl (Nat.le_refl _) e)))
  unfold mf_part_at runD
  rw [show ([(t.d, 0), (pathD p, 0)] : List Val).map some ++ List.replicate (3 - 2) none = [some (t.d, 0), some (pathD p, 0), none] from rfl, EB]
  rfl
end K02
end
section
set_option Elab.async false
set_option linter.all false
set_option maxRecDepth 100000
set_option maxHeartbeats 2000000
namespace K02
open PySem L2 DL
theorem sz_path (p : List Nat) (h : p.length < 1000) : sz (pathD p) < 50000 := by
  have : ∀ q : List Nat, szs (intsP q) = q.length := by
    intro q
    induction q with
    | nil => rfl
    | cons a q ih => simp only [intsP, List.map_cons, szs, sz, List.length_cons] at ih ⊢; omega
  have := this p
  unfold intsP at this
  simp only [pathD, sz]
  omega
theorem ok_path (p : List Nat) : Ok (pathD p) := .tup fun x hx => by obtain ⟨i, _, rfl⟩ := List.mem_map.mp hx; exact .int _
theorem forD_app {t : Tg} {body : MS} (nb : ∀ ρ ρ', body ρ ≠ .bk ρ') : ∀ (a b : List D) (ρ ρ1 : Rho), forD t body a ρ = .nx ρ1 → forD t body (a ++ b) ρ = forD t body b ρ1
  | [], b, ρ, ρ1, h => by
    have : ρ = ρ1 := by simpa [forD] using h
    rw [this]
    rfl
  | d :: a, b, ρ, ρ1, h => by
    rw [List.cons_append, forD]
    rw [forD] at h
    cases e : asgT t d ρ with
    | none => rw [e] at h; cases h
    | some ρ2 =>
      rw [e] at h
      simp only at h ⊢
      cases e2 : body ρ2 with
      | nx ρ3 => rw [e2] at h; exact forD_app nb a b ρ3 ρ1 h
      | ct ρ3 => rw [e2] at h; exact forD_app nb a b ρ3 ρ1 h
      | bk ρ3 => exact (nb _ _ e2).elim
      | rt r ρ3 => rw [e2] at h; cases h
      | exc x ρ3 => rw [e2] at h; cases h
      | bad => rw [e2] at h; cases h
theorem asg_nobk {i : Nat} {m : ME} : ∀ ρ ρ', sAsg i m ρ ≠ .bk ρ' := fun ρ ρ' h => by
  unfold sAsg at h
  split at h
  · split at h <;> cases h
  · cases h
  · cases h
abbrev BPUT : MS := sAsg 4 (opN [.ex (opN [.ex (opN [.nm 6, .ex (mInt (opN [.nm 5, .ex (mC (.int 1))] addD))] (slD false true)), .ex (opN [.ex (mN 4)] tupD)] addD), .ex (opN [.nm 6, .ex (mInt (opN [.nm 5, .ex (mC (.int 2))] addD))] (slD true false))] addD)
theorem put_step {X0 X1 X2 X3 : Option Val} {tg : Str} {ks : List T} {c : T} {i : Nat} (hi : i < ks.length) (hl : ks.length < 100000) : BPUT [X0, X1, X2, X3, some (c.d, 0), some (.int (i : Nat), 0), some (T.d (.node tg ks), 0)] = .nx [X0, X1, X2, X3, some (T.d (.node tg (ks.set i c)), 0), some (.int (i : Nat), 0), some (T.d (.node tg ks), 0)] := by
  have dl : (T.ds ks).length = ks.length := by rw [T.ds_map, List.length_map]
  have z1 : addD [.int (i : Nat), .int 1] = some (.int ((i + 1 : Nat) : Int), 0) := by simp only [addD]; simp
  have z2 : addD [.int (i : Nat), .int 2] = some (.int ((i + 2 : Nat) : Int), 0) := by simp only [addD]; simp
  have s1 : slD false true [T.d (.node tg ks), .int ((i + 1 : Nat) : Int)] = some (.tup (.str tg :: (T.ds ks).take i), 0) := by
    have := cut_to (xs := D.str tg :: T.ds ks) (a := i + 1) (by simp; omega)
    simp only [slD, slV, T.d, this, List.take_succ_cons]
  have s2 : slD true false [T.d (.node tg ks), .int ((i + 2 : Nat) : Int)] = some (.tup ((T.ds ks).drop (i + 1)), 0) := by
    have := cut_from (xs := D.str tg :: T.ds ks) (a := i + 2) (by simp; omega)
    simp only [slD, slV, T.d, this, List.drop_succ_cons]
  have h1 : (D.str tg :: (T.ds ks).take i).length + [c.d].length ≤ sizeLine := ok_len (by simp; omega)
  have a1 : addD [.tup (.str tg :: (T.ds ks).take i), .tup [c.d]] = some (.tup (D.str tg :: (T.ds ks).take i ++ [c.d]), 0) := by simp only [addD, if_pos h1]
  have h2 : (D.str tg :: (T.ds ks).take i ++ [c.d]).length + ((T.ds ks).drop (i + 1)).length ≤ sizeLine := ok_len (by simp; omega)
  have fin : D.tup (D.str tg :: (T.ds ks).take i ++ [c.d] ++ (T.ds ks).drop (i + 1)) = T.d (.node tg (ks.set i c)) := by
    simp only [T.d, T.ds_map, List.map_set]
    rw [List.set_eq_take_append_cons_drop, if_pos (by rw [List.length_map]; exact hi)]
    simp
  have a2 : addD [.tup (D.str tg :: (T.ds ks).take i ++ [c.d]), .tup ((T.ds ks).drop (i + 1))] = some (T.d (.node tg (ks.set i c)), 0) := by simp only [addD, if_pos h2, fin]
  exact asg_ev (ev_xx (ev_xx (ev_nx (i := 6) rfl (ev_I (ev_nx (i := 5) rfl (ev_C (x := .int 1)) rfl (Nat.zero_le _) z1)) rfl (Nat.zero_le _) s1) (tup1_ev (ev_N (i := 4) rfl)) a1) (ev_nx (i := 6) rfl (ev_I (ev_nx (i := 5) rfl (ev_C (x := .int 2)) rfl (Nat.zero_le _) z2)) rfl (Nat.zero_le _) s2) a2) (by simp)
theorem put_loop {X0 X1 X2 X3 : Option Val} (u : T) : ∀ (p : List Nat) (t : T) (l : List T) (x5 x6 : Option Val), p ∈ pathsT t → t.nd < 100000 → along (intsP p) t = some l → ∃ y5 y6, forD (.tup [.nm 5, .nm 6]) BPUT ((zipD (intsP p) (l.map T.d)).reverse) [X0, X1, X2, X3, some (u.d, 0), x5, x6] = .nx [X0, X1, X2, X3, some ((withT p t u).d, 0), y5, y6]
  | [], t, l, x5, x6, _, _, h => ⟨x5, x6, rfl⟩
  | i :: p, .node tg ks, l, x5, x6, hp, hz, h => by
    obtain ⟨k, h1, h2⟩ := mem_paths.mp hp
    have hi : i < ks.length := (List.getElem?_eq_some_iff.mp h1).1
    have ek : ks[i] = k := (List.getElem?_eq_some_iff.mp h1).2
    have c : (0 : Int) ≤ (i : Nat) ∧ ((i : Nat) : Int) < ks.length := by omega
    simp only [T.nd] at hz
    have lk := T.len_nds ks
    simp only [intsP, List.map_cons, along, if_pos c, Int.toNat_natCast, h1] at h
    obtain ⟨l', e, rfl⟩ := Option.map_eq_some_iff.mp h
    have hk : k.nd ≤ T.nds ks := by
      have := szs_at (xs := T.ds ks) (a := i) (by rw [T.ds_map, List.length_map]; exact hi)
      rw [szs_ds] at this
      have e : (T.ds ks)[i]'(by rw [T.ds_map, List.length_map]; exact hi) = k.d := by simp [T.ds_map, ek]
      rw [e, sz_d] at this
      omega
    obtain ⟨y5, y6, ih⟩ := put_loop (X0 := X0) (X1 := X1) (X2 := X2) (X3 := X3) u p k l' x5 x6 h2 (by omega) e
    refine ⟨some (.int (i : Nat), 0), some (T.d (.node tg ks), 0), ?_⟩
    simp only [intsP, List.map_cons, zipD, List.reverse_cons]
    rw [forD_app asg_nobk _ _ _ _ ih]
    rw [forD_skip (ρ1 := [X0, X1, X2, X3, some ((withT p k u).d, 0), some (.int (i : Nat), 0), some (T.d (.node tg ks), 0)]) rfl (put_step hi (by omega))]
    simp only [forD, withT, h1]
theorem put_at_ok {p : List Nat} (t u : T) (hp : p ∈ pathsT t) (hs : p.length < 1000) (hz : t.nd < 100000) : mf_put_at [(t.d, 0), (pathD p, 0), (u.d, 0)] = .ok ((withT p t u).d, 0) [some (t.d, 0), some (pathD p, 0), some (u.d, 0)] := by
  obtain ⟨l, el⟩ := along_of p t hp
  have A := along_ok (ok_path p) (sz_path p hs) t hz
  have ex : alongX (pathD p) t = some (l ++ [atT p t]) := el
  rw [ex] at A
  have b1 := asg_ev (i := 3) (call2n_ev (i := 0) (j := 1) (ρ := [some (t.d, 0), some (pathD p, 0), some (u.d, 0), none, none, none, none]) rfl rfl A) (by simp)
  have b2 : mB (opN [.nm 3, .ex (mC .non)] isA) [some (t.d, 0), some (pathD p, 0), some (u.d, 0), some (.lst ((l ++ [atT p t]).map T.d), 1), none, none, none] = .ok false [some (t.d, 0), some (pathD p, 0), some (u.d, 0), some (.lst ((l ++ [atT p t]).map T.d), 1), none, none, none] := ev_b (k := 0) (ev_nx (i := 3) rfl (ev_C (x := .non)) rfl (Nat.le_refl _) rfl)
  have b3 : sAsg 4 (mN 2) [some (t.d, 0), some (pathD p, 0), some (u.d, 0), some (.lst ((l ++ [atT p t]).map T.d), 1), none, none, none] = .nx [some (t.d, 0), some (pathD p, 0), some (u.d, 0), some (.lst ((l ++ [atT p t]).map T.d), 1), some (u.d, 0), none, none] := asg_ev (ev_N rfl) (by simp)
  have lz : lzipD [pathD p, .lst ((l ++ [atT p t]).map T.d)] = some (.lst (zipD (intsP p) ((l ++ [atT p t]).map T.d)), 1) := by simp only [lzipD, pathD, seqD, intsP]
  have RL : mRevL (opN [.nm 1, .nm 3] lzipD) [some (t.d, 0), some (pathD p, 0), some (u.d, 0), some (.lst ((l ++ [atT p t]).map T.d), 1), some (u.d, 0), none, none] = .ok (zipD (intsP p) ((l ++ [atT p t]).map T.d)).reverse [some (t.d, 0), some (pathD p, 0), some (u.d, 0), some (.lst ((l ++ [atT p t]).map T.d), 1), some (u.d, 0), none, none] := by
    have := ev_nn (i := 1) (j := 3) (f := lzipD) (ρ := [some (t.d, 0), some (pathD p, 0), some (u.d, 0), some (.lst ((l ++ [atT p t]).map T.d), 1), some (u.d, 0), none, none]) rfl (Nat.zero_le _) rfl (Nat.le_refl _) lz
    simp only [mRevL, this, bindO]
  obtain ⟨y5, y6, lp⟩ := put_loop (X0 := some (t.d, 0)) (X1 := some (pathD p, 0)) (X2 := some (u.d, 0)) (X3 := some (.lst ((l ++ [atT p t]).map T.d), 1)) u p t _ none none hp hz el
  have EB : ms_put_at [some (t.d, 0), some (pathD p, 0), some (u.d, 0), none, none, none, none] = .rt ((withT p t u).d, 0) [some (t.d, 0), some (pathD p, 0), some (u.d, 0), some (.lst ((l ++ [atT p t]).map T.d), 1), none, y5, y6] := by
    unfold ms_put_at
    exact (seq_nx b1).trans ((seq_nx (ifs_f b2)).trans ((seq_nx b3).trans ((seq_nx ((for_ev RL).trans lp)).trans rfl)))
  unfold mf_put_at runD
  rw [show ([(t.d, 0), (pathD p, 0), (u.d, 0)] : List Val).map some ++ List.replicate (7 - 3) none = [some (t.d, 0), some (pathD p, 0), some (u.d, 0), none, none, none, none] from rfl, EB]
  rfl
theorem put_at_no {x y : D} (hx : Ok x) (hs : sz x < 50000) (t : T) (hz : t.nd < 100000) (e : alongX x t = none) : mf_put_at [(t.d, 0), (x, 0), (y, 0)] = .exc ⟨"NoPath", [], []⟩ [some (t.d, 0), some (x, 0), some (y, 0)] := by
  have A := along_ok hx hs t hz
  rw [e] at A
  have b1 := asg_ev (i := 3) (call2n_ev (i := 0) (j := 1) (ρ := [some (t.d, 0), some (x, 0), some (y, 0), none, none, none, none]) rfl rfl A) (by simp)
  have b2 : mB (opN [.nm 3, .ex (mC .non)] isA) [some (t.d, 0), some (x, 0), some (y, 0), some (.non, 0), none, none, none] = .ok true [some (t.d, 0), some (x, 0), some (y, 0), some (.non, 0), none, none, none] := ev_b (k := 0) (ev_nx (i := 3) rfl (ev_C (x := .non)) rfl (Nat.zero_le _) rfl)
  have EB : ms_put_at [some (t.d, 0), some (x, 0), some (y, 0), none, none, none, none] = .exc ⟨"NoPath", [], []⟩ [some (t.d, 0), some (x, 0), some (y, 0), some (.non, 0), none, none, none] := by
    unfold ms_put_at
    refine (seq_nx b1).trans ?_
    show sSeq _ _ [some (t.d, 0), some (x, 0), some (y, 0), some (.non, 0), none, none, none] = _
    have c := (if_t (a := sRaise "NoPath") (b := sSkip) b2)
    simp only [sSeq, c, sRaise]
  unfold mf_put_at runD
  rw [show ([(t.d, 0), (x, 0), (y, 0)] : List Val).map some ++ List.replicate (7 - 3) none = [some (t.d, 0), some (x, 0), some (y, 0), none, none, none, none] from rfl, EB]
  rfl
end K02
end
section
set_option Elab.async false
set_option linter.all false
set_option maxRecDepth 100000
set_option maxHeartbeats 2000000
namespace K02
open PySem L2 DL
theorem at_loop {X : Option Val} : ∀ (p : List Nat) (t : T) (x2 : Option Val), p ∈ pathsT t → ∃ y2, forD (.nm 2) (sAsg 0 (opN [.nm 0, .ex (opN [.nm 2, .ex (mC (.int 1))] addD)] atD)) (intsP p) [some (t.d, 0), X, x2] = .nx [some ((atT p t).d, 0), X, y2]
  | [], t, x2, _ => ⟨x2, rfl⟩
  | i :: p, .node tg ks, x2, hp => by
    obtain ⟨k, h1, h2⟩ := mem_paths.mp hp
    have hi : i < ks.length := (List.getElem?_eq_some_iff.mp h1).1
    have ek : ks[i] = k := (List.getElem?_eq_some_iff.mp h1).2
    have z1 : addD [.int (i : Nat), .int 1] = some (.int ((i + 1 : Nat) : Int), 0) := by simp only [addD]; simp
    have ak := at_kid (t := tg) hi
    rw [ek] at ak
    have st := asg_ev (i := 0) (ev_nx (i := 0) (ρ := [some (T.d (.node tg ks), 0), X, some (.int (i : Nat), 0)]) rfl (ev_nx (i := 2) rfl (ev_C (x := .int 1)) rfl (Nat.zero_le _) z1) rfl (Nat.zero_le _) ak) (by simp)
    obtain ⟨y2, ih⟩ := at_loop (X := X) p k (some (.int (i : Nat), 0)) h2
    refine ⟨y2, ?_⟩
    simp only [intsP, List.map_cons, atT, h1]
    exact (forD_skip (ρ1 := [some (T.d (.node tg ks), 0), X, some (.int (i : Nat), 0)]) rfl st).trans ih
theorem law_at_ok {p : List Nat} (t : T) (hp : p ∈ pathsT t) : mf__law_at [(t.d, 0), (pathD p, 0)] = .ok ((atT p t).d, 0) [none, some (pathD p, 0)] := by
  obtain ⟨y2, l⟩ := at_loop (X := some (pathD p, 0)) p t none hp
  have EI : mIt (mN 1) [some (t.d, 0), some (pathD p, 0), none] = .ok (intsP p) [some (t.d, 0), some (pathD p, 0), none] := rfl
  have EB : ms__law_at [some (t.d, 0), some (pathD p, 0), none] = .rt ((atT p t).d, 0) [some ((atT p t).d, 0), some (pathD p, 0), y2] := by
    unfold ms__law_at
    exact (seq_nx ((for_ev EI).trans l)).trans (ret_ev (ev_N rfl))
  unfold mf__law_at runD
  rw [show ([(t.d, 0), (pathD p, 0)] : List Val).map some ++ List.replicate (3 - 2) none = [some (t.d, 0), some (pathD p, 0), none] from rfl, EB]
  rfl
theorem pds_int : ∀ p : List Nat, pds (intsP p) = some (p.map fun i => PyData.int (i : Nat))
  | [] => by simp [pds]
  | n :: ns => by
    have := pds_int ns
    unfold intsP at this
    simp [pds, pd, this]
theorem pd_path (p : List Nat) : pd (pathD p) = some (.tuple (p.map fun i => PyData.int (i : Nat))) := by
  have := pds_int p
  unfold intsP at this
  simp only [pathD, pd, this]
theorem lay_path : ∀ p : List Nat, PyData.canLayAll0 (p.map fun i => PyData.int (i : Nat)) = true
  | [] => by simp [PyData.canLayAll0]
  | n :: ns => by simp [PyData.canLayAll0, PyData.canLay0, lay_path ns]
theorem dep_path : ∀ p : List Nat, PyData.depthAll (p.map fun i => PyData.int (i : Nat)) = 0
  | [] => by simp [PyData.depthAll]
  | n :: ns => by simp [PyData.depthAll, PyData.depth, dep_path ns]
theorem shaped_path (p : List Nat) : SeqAt.shaped (.tuple (p.map fun i => PyData.int (i : Nat))) = true := by
  simp [SeqAt.shaped, PyData.canLay0, lay_path, PyData.depth, dep_path]
theorem eq_nilp (p : List Nat) : eqG [pathD p, .tup []] = some (.bl p.isEmpty, 0) := by
  have e2 : pd (.tup []) = some (.tuple []) := by simp [pd, pds]
  have s2 : SeqAt.shaped (.tuple []) = true := by decide
  have e3 : eqX [pathD p, .tup []] = none := rfl
  simp only [eqG, eqA, orF, e3, eqD, eqB, pd_path, e2, shaped_path, s2, Bool.and_self, if_true]
  cases p <;> simp [PyData.eqv, PyData.eqvAll]
theorem call3x_ev {F : MF} {m n : ME} {a b c : D} {i k l : Nat} {r : Val} {ρ : Rho} (h1 : m ρ = .ok (a, k) ρ) (h2 : n ρ = .ok (b, l) ρ) (hi : ρ[i]? = some (some (c, 0))) (e : F [(a, 0), (b, 0), (c, 0)] = .ok r [some (a, 0), some (b, 0), some (c, 0)]) : mCall F [.ex m, .ex n, .nm i] ρ = .ok r ρ := by
  simp only [mCall, evOs, evO, bindO, h1, h2, hi, callF, takeOs, e, giveOs]
theorem law_with_ok : ∀ (n : Nat) (p : List Nat) (t u : T), p.length < n → p ∈ pathsT t → t.nd < 100000 → mf__law_with n [(t.d, 0), (pathD p, 0), (u.d, 0)] = .ok ((withT p t u).d, 0) [some (t.d, 0), some (pathD p, 0), some (u.d, 0)]
  | 0, _, _, _, h, _, _ => by omega
  | n + 1, p, t, u, hn, hp, hz => by
    show runD 3 4 [0, 1, 2] (ms__law_with (mf__law_with n)) _ = _
    unfold runD
    rw [show ([(t.d, 0), (pathD p, 0), (u.d, 0)] : List Val).map some ++ List.replicate (4 - 3) none = [some (t.d, 0), some (pathD p, 0), some (u.d, 0), none] from rfl]
    have c := ev_b (k := 0) (ev_nx (i := 1) (f := eqG) (ρ := [some (t.d, 0), some (pathD p, 0), some (u.d, 0), none]) (n := opN [] tupD) (b := .tup []) (l := 0) rfl rfl rfl (Nat.zero_le _) (eq_nilp p))
    cases p with
    | nil =>
      have EB : ms__law_with (mf__law_with n) [some (t.d, 0), some (pathD [], 0), some (u.d, 0), none] = .rt ((withT [] t u).d, 0) [some (t.d, 0), some (pathD [], 0), some (u.d, 0), none] := by
        unfold ms__law_with
        exact seq_rt ((if_t c).trans (ret_ev (ev_N rfl)))
      rw [EB]
      rfl
    | cons i p =>
      obtain ⟨tg, ks⟩ := t
      obtain ⟨k, h1, h2⟩ := mem_paths.mp hp
      have hi : i < ks.length := (List.getElem?_eq_some_iff.mp h1).1
      have ek : ks[i] = k := (List.getElem?_eq_some_iff.mp h1).2
      simp only [T.nd] at hz
      have lk := T.len_nds ks
      have hk : k.nd ≤ T.nds ks := by
        have := szs_at (xs := T.ds ks) (a := i) (by rw [T.ds_map, List.length_map]; exact hi)
        rw [szs_ds] at this
        have e : (T.ds ks)[i]'(by rw [T.ds_map, List.length_map]; exact hi) = k.d := by simp [T.ds_map, ek]
        rw [e, sz_d] at this
        omega
      have b1 : sAsg 3 (opN [.nm 0] listA) [some (T.d (.node tg ks), 0), some (pathD (i :: p), 0), some (u.d, 0), none] = .nx [some (T.d (.node tg ks), 0), some (pathD (i :: p), 0), some (u.d, 0), some (.lst (.str tg :: T.ds ks), 1)] := asg_ev (ev_n (i := 0) rfl (Nat.zero_le _) (list_seq (x := T.d (.node tg ks)) (xs := .str tg :: T.ds ks) rfl)) (by simp)
      have p0 : atD [pathD (i :: p), .int 0] = some (.int (i : Nat), 0) := at0
      have z1 : addD [.int (i : Nat), .int 1] = some (.int ((i + 1 : Nat) : Int), 0) := by simp only [addD]; simp
      have ak := at_kid (t := tg) hi
      rw [ek] at ak
      have IX : opN [.ex (opN [.nm 1, .ex (mC (.int 0))] atD), .ex (mC (.int 1))] addD [some (T.d (.node tg ks), 0), some (pathD (i :: p), 0), some (u.d, 0), some (.lst (.str tg :: T.ds ks), 1)] = .ok (.int ((i + 1 : Nat) : Int), 0) [some (T.d (.node tg ks), 0), some (pathD (i :: p), 0), some (u.d, 0), some (.lst (.str tg :: T.ds ks), 1)] := ev_xx (ev_nx (i := 1) rfl (ev_C (x := .int 0)) rfl (Nat.zero_le _) p0) (ev_C (x := .int 1)) z1
      have cp : slD true false [pathD (i :: p), .int 1] = some (pathD p, 0) := cut1 _ _
      have C := call3x_ev (F := mf__law_with n) (i := 2) (c := u.d) (ev_nx (i := 0) (f := atD) rfl IX rfl (Nat.zero_le _) ak) (ev_nx (i := 1) rfl (ev_I (ev_C (x := .int 1))) rfl (Nat.zero_le _) cp) rfl (law_with_ok n p k u (by simp at hn; omega) h2 (by omega))
      have S := setI_x (j := 3) C rfl IX rfl rfl (set_lst (xs := .str tg :: T.ds ks) (a := i + 1) (by simp [T.ds_map]; omega) _)
      have fin : D.tup ((D.str tg :: T.ds ks).set (i + 1) (withT p k u).d) = T.d (.node tg (ks.set i (withT p k u))) := by
        simp only [T.d, T.ds_map, List.map_set, List.set_cons_succ]
      have EB : ms__law_with (mf__law_with n) [some (T.d (.node tg ks), 0), some (pathD (i :: p), 0), some (u.d, 0), none] = .rt ((withT (i :: p) (.node tg ks) u).d, 0) [some (T.d (.node tg ks), 0), some (pathD (i :: p), 0), some (u.d, 0), some (.lst ((D.str tg :: T.ds ks).set (i + 1) (withT p k u).d), 1)] := by
        unfold ms__law_with
        refine (seq_nx (ifs_f c)).trans ((seq_nx b1).trans ((seq_nx S).trans (ret_ev (ev_n (i := 3) rfl (Nat.le_refl _) ?_))))
        simp only [tupleD, fin, withT, h1]
      rw [EB]
      rfl
/-! ### is it a path -/
abbrev tpP (p : List Nat) : PyData := .tuple (p.map fun i => PyData.int (i : Nat))
theorem eqvI : ∀ (p : List Nat) (is : List Int), PyData.eqvAll (p.map fun i => PyData.int (i : Nat)) (is.map PyData.int) = decide ((p.map fun i => ((i : Nat) : Int)) = is)
  | [], [] => by simp [PyData.eqvAll]
  | [], _ :: _ => by simp [PyData.eqvAll]
  | _ :: _, [] => by simp [PyData.eqvAll]
  | a :: p, b :: q => by
    simp only [List.map_cons, PyData.eqvAll, eqvI p q, PyData.eqv]
    by_cases h : ((a : Nat) : Int) = b <;> simp [h]
theorem lay_paths : ∀ qs : List (List Nat), PyData.canLayAll0 (qs.map tpP) = true
  | [] => by simp [PyData.canLayAll0]
  | q :: qs => by simp [PyData.canLayAll0, PyData.canLay0, lay_path q, lay_paths qs]
theorem dep_paths : ∀ qs : List (List Nat), PyData.depthAll (qs.map tpP) ≤ 1
  | [] => by simp [PyData.depthAll]
  | q :: qs => by
    have := dep_paths qs
    simp only [List.map_cons, PyData.depthAll, PyData.depth, dep_path q]
    omega
theorem pds_paths : ∀ qs : List (List Nat), pds (qs.map pathD) = some (qs.map tpP)
  | [] => by simp [pds]
  | q :: qs => by simp only [List.map_cons, pds, pd_path, pds_paths qs]
theorem pds_ints : ∀ is : List Int, pds (is.map D.int) = some (is.map PyData.int)
  | [] => by simp [pds]
  | n :: ns => by simp [pds, pd, pds_ints ns]
theorem lay_ints : ∀ ns : List Int, PyData.canLayAll0 (ns.map PyData.int) = true
  | [] => by simp [PyData.canLayAll0]
  | n :: ns => by simp [PyData.canLayAll0, PyData.canLay0, lay_ints ns]
theorem dep_ints : ∀ ns : List Int, PyData.depthAll (ns.map PyData.int) = 0
  | [] => by simp [PyData.depthAll]
  | n :: ns => by simp [PyData.depthAll, PyData.depth, dep_ints ns]
theorem in_paths (is : List Int) (qs : List (List Nat)) : inA [.tup (is.map D.int), .lst (qs.map pathD)] = some (.bl (qs.any fun q => decide ((q.map fun i => ((i : Nat) : Int)) = is)), 0) := by
  have e1 : pd (.tup (is.map D.int)) = some (.tuple (is.map PyData.int)) := by simp [pd, pds_ints]
  have s1 : SeqAt.shaped (.tuple (is.map PyData.int)) = true := by simp [SeqAt.shaped, PyData.canLay0, lay_ints, PyData.depth, dep_ints]
  have s2 : SeqAt.shaped (.list (qs.map tpP)) = true := by
    have := dep_paths qs
    simp [SeqAt.shaped, PyData.canLay0, lay_paths, PyData.depth]
    omega
  have n1 : inB (.tup (is.map D.int)) (.lst (qs.map pathD)) = none := by
    unfold inB
    simp [flatD]
  have p1 : inP (.tup (is.map D.int)) (.lst (qs.map pathD)) = some ((qs.map tpP).any fun z => PyData.eqv z (.tuple (is.map PyData.int))) := by
    simp only [inP, e1, pds_paths, s1, s2, Bool.and_self, if_true]
  have a1 : ((qs.map tpP).any fun z => PyData.eqv z (.tuple (is.map PyData.int))) = qs.any fun q => decide ((q.map fun i => ((i : Nat) : Int)) = is) := by
    rw [List.any_map]
    congr 1
    funext q
    simp only [Function.comp, tpP, PyData.eqv, eqvI]
  simp only [inA, orF, inD, n1, Option.map_none, inPD, p1, a1, Bool.false_eq_true, if_false]
theorem all_ints : ∀ xs : List D, xs.filter (fun d => !isI d) = [] → ∃ is : List Int, xs = is.map D.int
  | [], _ => ⟨[], rfl⟩
  | x :: xs, h => by
    cases hx : isI x with
    | false => rw [List.filter_cons_of_pos (by simp [hx])] at h; cases h
    | true =>
      rw [List.filter_cons_of_neg (by simp [hx])] at h
      obtain ⟨is, rfl⟩ := all_ints xs h
      cases x <;> simp [isI] at hx
      rename_i i
      exact ⟨i :: is, rfl⟩
theorem int_intsP (p : List Nat) : (intsP p).filter (fun d => !isI d) = [] := by
  rw [List.filter_eq_nil_iff]
  intro x hx
  obtain ⟨i, _, rfl⟩ := List.mem_map.mp hx
  simp [isI]
theorem is_path_ok {x : D} (hx : Ok x) (hs : sz x < 50000) (t : T) (hd : t.dp ≤ 64) (hz : t.nd < 9000) : mf__law_is_path [(t.d, 0), (x, 0)] = .ok (.bl (alongX x t).isSome, 0) [some (t.d, 0), some (x, 0)] := by
  unfold mf__law_is_path runD
  rw [show ([(t.d, 0), (x, 0)] : List Val).map some ++ List.replicate (3 - 2) none = [some (t.d, 0), some (x, 0), none] from rfl]
  have q : ∀ {b : Bool}, isiD ["tuple"] [x] = some (.bl b, 0) → mNot (mB (opN [.nm 1] (isiD ["tuple"]))) [some (t.d, 0), some (x, 0), none] = .ok (!b) [some (t.d, 0), some (x, 0), none] := fun h => by
    have := ev_b (ev_n (i := 1) (ρ := [some (t.d, 0), some (x, 0), none]) rfl (Nat.zero_le _) h)
    simp only [mNot, this, bindO]
  have no : isiD ["tuple"] [x] = some (.bl false, 0) → ms__law_is_path [some (t.d, 0), some (x, 0), none] = .rt (.bl false, 0) [some (t.d, 0), some (x, 0), none] := fun h => by
    unfold ms__law_is_path
    exact seq_rt ((if_t (q h)).trans rfl)
  cases hx with
  | tup h =>
    rename_i xs
    have hl := len_szs xs
    simp only [sz] at hs
    have F := comp_filter (t := .nm 2) (tt := mOr (mNot (mB (opN [.nm 2] (isiD ["int"])))) (mB (opN [.nm 2] (isiD ["bool"])))) (m := mN 2) (vs := [2]) [some (t.d, 0), some (.tup xs, 0), none] (fun d => !isI d) xs (fun d hd => by
      refine ⟨_, [some (t.d, 0), some (.tup xs, 0), some (d, 0)], rfl, ?_, rfl, 0, _, rfl, rfl⟩
      have g1 : ∀ {b : Bool}, isiD ["int"] [d] = some (.bl b, 0) → mB (opN [.nm 2] (isiD ["int"])) [some (t.d, 0), some (.tup xs, 0), some (d, 0)] = .ok b [some (t.d, 0), some (.tup xs, 0), some (d, 0)] := fun h => ev_b (ev_n rfl (Nat.zero_le _) h)
      have g2 : ∀ {b : Bool}, isiD ["bool"] [d] = some (.bl b, 0) → mB (opN [.nm 2] (isiD ["bool"])) [some (t.d, 0), some (.tup xs, 0), some (d, 0)] = .ok b [some (t.d, 0), some (.tup xs, 0), some (d, 0)] := fun h => ev_b (ev_n rfl (Nat.zero_le _) h)
      show mOr _ _ [some (t.d, 0), some (.tup xs, 0), some (d, 0)] = _
      cases h d hd with
      | int _ => simp only [mOr, mNot, g1 (b := true) rfl, g2 (b := false) rfl, bindO, Bool.not_true, Bool.false_eq_true, if_false, isI]
      | bl _ => simp only [mOr, mNot, g1 (b := true) rfl, g2 (b := true) rfl, bindO, Bool.not_true, Bool.false_eq_true, if_false, isI, Bool.not_false]
      | non => simp only [mOr, mNot, g1 (b := false) rfl, bindO, Bool.not_false, if_true, isI]
      | str _ => simp only [mOr, mNot, g1 (b := false) rfl, bindO, Bool.not_false, if_true, isI]
      | emp => simp only [mOr, mNot, g1 (b := false) rfl, bindO, Bool.not_false, if_true, isI]
      | tup _ => simp only [mOr, mNot, g1 (b := false) rfl, bindO, Bool.not_false, if_true, isI]
      | lst _ => simp only [mOr, mNot, g1 (b := false) rfl, bindO, Bool.not_false, if_true, isI]) [] (by simp; omega)
    rw [List.nil_append] at F
    have c := ev_b (k := 0) (ev_xx (lc_ev (mi := mIt (mN 1)) (ρ := [some (t.d, 0), some (.tup xs, 0), none]) rfl F) (n := opN [] lstD) (b := .lst []) (l := 1) rfl (ne_nil (xs.filter fun d => !isI d)))
    have fin : ∀ {b : Bool}, (alongX (.tup xs) t).isSome = b → ms__law_is_path [some (t.d, 0), some (.tup xs, 0), none] = .rt (.bl b, 0) [some (t.d, 0), some (.tup xs, 0), none] → (match ms__law_is_path [some (t.d, 0), some (.tup xs, 0), none] with | .nx ρ => .ok (.non, 0) (outP 2 [0, 1] ρ) | .rt r ρ => .ok r (outP 2 [0, 1] ρ) | .exc x ρ => .exc x (outP 2 [0, 1] ρ) | _ => .bad) = FOut.ok (.bl (alongX (.tup xs) t).isSome, 0) [some (t.d, 0), some (.tup xs, 0)] := fun {b} e h => by rw [h, e]; rfl
    cases he : (xs.filter fun d => !isI d).isEmpty with
    | false =>
      rw [he] at c
      refine fin (b := false) ?_ (by
        unfold ms__law_is_path
        exact (seq_nx (ifs_f (q (b := true) rfl))).trans (seq_rt ((if_t c).trans rfl)))
      cases ha : along xs t with
      | none => simp [alongX, ha]
      | some l =>
        obtain ⟨p, _, rfl⟩ := along_only xs t l ha
        rw [int_intsP] at he
        cases he
    | true =>
      rw [he] at c
      obtain ⟨is, rfl⟩ := all_ints xs (List.isEmpty_iff.mp he)
      have PA := law_paths_ok 64 t hd (by omega) hz
      have C := call1_ev (i := 0) (ρ := [some (t.d, 0), some (.tup (is.map D.int), 0), none]) rfl PA
      have IN := ev_nx (i := 1) (ρ := [some (t.d, 0), some (.tup (is.map D.int), 0), none]) rfl C rfl (Nat.zero_le _) (in_paths is (pathsT t))
      refine fin (b := (pathsT t).any fun q => decide ((q.map fun i => ((i : Nat) : Int)) = is)) ?_ (by
        unfold ms__law_is_path
        exact (seq_nx (ifs_f (q (b := true) rfl))).trans ((seq_nx (ifs_f c)).trans (ret_ev IN)))
      cases ha : along (is.map D.int) t with
      | none =>
        simp only [alongX, ha, Option.isSome_none]
        symm
        rw [List.any_eq_false]
        intro q hq
        simp only [decide_eq_true_eq]
        intro e
        obtain ⟨l, el⟩ := along_of q t hq
        rw [← e, List.map_map] at ha
        have : along (intsP q) t = none := ha
        rw [this] at el
        cases el
      | some l =>
        simp only [alongX, ha, Option.isSome_some]
        symm
        rw [List.any_eq_true]
        obtain ⟨p, hp, e⟩ := along_only _ t l ha
        refine ⟨p, hp, ?_⟩
        simp only [decide_eq_true_eq]
        have inj : ∀ {a b : List Int}, a.map D.int = b.map D.int → a = b := by
          intro a
          induction a with
          | nil => intro b h; cases b with
            | nil => rfl
            | cons _ _ => simp at h
          | cons a as ih2 => intro b h; cases b with
            | nil => simp at h
            | cons b bs =>
              simp only [List.map_cons, List.cons.injEq, D.int.injEq] at h
              rw [ih2 h.2, h.1]
        apply inj
        rw [List.map_map, e]
        rfl
  | non => rw [no rfl]; rfl
  | bl _ => rw [no rfl]; rfl
  | int _ => rw [no rfl]; rfl
  | str _ => rw [no rfl]; rfl
  | emp => rw [no rfl]; rfl
  | lst _ => rw [no rfl]; rfl
end K02
end
section
set_option Elab.async false
set_option linter.all false
set_option maxRecDepth 100000
set_option maxHeartbeats 2000000
namespace K02
open PySem L2 DL
/-! ### how trees and schemas are shown -/
theorem tag_txt : ∀ n < 10, PyData.strOk (tagOf n) = true ∧ (PySem.reprText (tagOf n)).length ≤ 10 := by decide +kernel
theorem key_txt : ∀ k ∈ KEYS, (PySem.reprText k).length ≤ 10 := by decide +kernel
mutual
def T.p : T → PyData
  | .node t ks => .tuple (.str t :: T.ps ks)
def T.ps : List T → List PyData
  | [] => []
  | k :: ks => k.p :: T.ps ks
end
def Tg1 (t : Str) : Prop := PyData.strOk t = true ∧ (PySem.reprText t).length ≤ 10
mutual
inductive Tok : T → Prop
  | mk {t : Str} {ks : List T} : Tg1 t → Toks ks → Tok (.node t ks)
inductive Toks : List T → Prop
  | nil : Toks []
  | cons {k : T} {ks : List T} : Tok k → Toks ks → Toks (k :: ks)
end
theorem Toks.get : ∀ {ks : List T} {i : Nat} {k : T}, Toks ks → ks[i]? = some k → Tok k
  | _, i, k, .nil, h => by simp at h
  | _, 0, k, .cons a _, h => by simp at h; exact h ▸ a
  | _, i + 1, k, .cons _ b, h => Toks.get (i := i) b (by simpa using h)
theorem Toks.set {u : T} (hu : Tok u) : ∀ {ks : List T} (i : Nat), Toks ks → Toks (ks.set i u)
  | _, i, .nil => by simp; exact .nil
  | _, 0, .cons a b => .cons hu b
  | _, i + 1, .cons a b => .cons a (Toks.set hu i b)
mutual
theorem wf_tok {S : Sch} (g : Good S) : ∀ {k : Str} {t : T}, Wf S k t → Tok t
  | _, _, .mk hv hm w => by
    obtain ⟨n, h1, h2⟩ := (g.vr _ (lookup_in S hv)).tag _ hm
    dsimp only at h2
    subst h2
    exact .mk (tag_txt n h1) (wfs_tok g w)
theorem wfs_tok {S : Sch} (g : Good S) : ∀ {cs : List Str} {ts : List T}, Wfs S cs ts → Toks ts
  | _, _, .nil => .nil
  | _, _, .cons w ws => .cons (wf_tok g w) (wfs_tok g ws)
end
theorem at_tok : ∀ (p : List Nat) (t : T), Tok t → Tok (atT p t)
  | [], t, h => h
  | i :: p, .node tg ks, h => by
    simp only [atT]
    cases h with
    | mk h1 h2 =>
      split
      · rename_i k hk
        exact at_tok p k (h2.get hk)
      · exact .mk h1 h2
theorem with_tok : ∀ (p : List Nat) (t u : T), Tok t → Tok u → Tok (withT p t u)
  | [], t, u, _, h => h
  | i :: p, .node tg ks, u, h, hu => by
    simp only [withT]
    cases h with
    | mk h1 h2 =>
      split
      · rename_i k hk
        exact .mk h1 (h2.set (with_tok p k u (h2.get hk) hu) i)
      · exact .mk h1 h2
mutual
theorem pd_T : ∀ t : T, pd t.d = some t.p
  | .node t ks => by simp only [T.d, pd, pds, pds_T ks, T.p]
theorem pds_T : ∀ ks : List T, pds (T.ds ks) = some (T.ps ks)
  | [] => by simp [T.ds, pds, T.ps]
  | k :: ks => by simp only [T.ds, pds, pd_T k, pds_T ks, T.ps]
end
mutual
theorem pr_T : ∀ t : T, pr t.d = some t.p
  | .node t ks => by simp only [T.d, pr, prs, prs_T ks, T.p]
theorem prs_T : ∀ ks : List T, prs (T.ds ks) = some (T.ps ks)
  | [] => by simp [T.ds, prs, T.ps]
  | k :: ks => by simp only [T.ds, prs, pr_T k, prs_T ks, T.ps]
end
mutual
theorem lay_T : ∀ {t : T}, Tok t → t.p.canLay0 = true
  | .node t ks, .mk h hs => by simp only [T.p, PyData.canLay0, PyData.canLayAll0, lay_Ts hs, h.1, Bool.and_self]
theorem lay_Ts : ∀ {ks : List T}, Toks ks → PyData.canLayAll0 (T.ps ks) = true
  | _, .nil => by simp [T.ps, PyData.canLayAll0]
  | _, .cons h hs => by simp only [T.ps, PyData.canLayAll0, lay_T h, lay_Ts hs, Bool.and_self]
end
mutual
theorem dep_T : ∀ t : T, t.p.depth = t.dp
  | .node t ks => by simp only [T.p, PyData.depth, PyData.depthAll, dep_Ts ks, T.dp]; omega
theorem dep_Ts : ∀ ks : List T, PyData.depthAll (T.ps ks) = T.dps ks
  | [] => by simp [T.ps, PyData.depthAll, T.dps]
  | k :: ks => by simp only [T.ps, PyData.depthAll, T.dps, dep_T k, dep_Ts ks]
end
mutual
theorem eqv_T : ∀ t : T, PyData.eqv t.p t.p = true
  | .node t ks => by simp [T.p, PyData.eqv, PyData.eqvAll, eqv_Ts ks]
theorem eqv_Ts : ∀ ks : List T, PyData.eqvAll (T.ps ks) (T.ps ks) = true
  | [] => by simp [T.ps, PyData.eqvAll]
  | k :: ks => by simp only [T.ps, PyData.eqvAll, eqv_T k, eqv_Ts ks, Bool.and_self]
end
theorem tuple_le (ts : List Str) : (tupleText ts).length + 2 ≤ piled ts + 5 := by
  have h2 : (("," : Str).length = 1) := by decide
  have e : (tupleText ts).length ≤ 1 + (Str.join ", " ts).length + 2 := by
    unfold tupleText
    rw [strLen_append, strLen_append]
    have h1 : (("(" : Str)).length = 1 := by decide
    have h3 : ((if ts.length == 1 then ",)" else ")" : String) : Str).length ≤ 2 := by split <;> decide
    omega
  by_cases h : ts = []
  · subst h
    have : (Str.join ", " ([] : List Str)).length = 0 := by decide
    simp only [piled_nil]
    omega
  · have := join_length_add ts h
    omega
theorem dict_le (ts : List Str) : (dictText ts).length ≤ piled ts + 2 := by
  have e : (dictText ts).length = 1 + (Str.join ", " ts).length + 1 := by
    unfold dictText
    rw [strLen_append, strLen_append]; rfl
  by_cases h : ts = []
  · subst h
    have : (Str.join ", " ([] : List Str)).length = 0 := by decide
    simp only [piled_nil]
    omega
  · have := join_length_add ts h
    omega
theorem from_le : ∀ (ts : List Str) (k : Nat) (acc : Str), (textFrom k acc ts).length ≤ acc.length + piled ts
  | [], k, acc => by simp [textFrom, piled]
  | t :: ts, k, acc => by
    have := from_le ts (k + 1) (acc ++ (if k > 0 then ", " else "" : String) ++ t)
    rw [strLen_append, strLen_append] at this
    have h : ((if k > 0 then ", " else "" : String) : Str).length ≤ 2 := by split <;> decide
    rw [textFrom, piled_cons]
    omega
theorem list_le (ts : List Str) : (listText ts).length ≤ piled ts + 2 := by
  have := from_le ts 0 "["
  unfold listText
  rw [strLen_append]
  have h1 : (("[" : Str)).length = 1 := by decide
  have h2 : (("]" : Str)).length = 1 := by decide
  omega
mutual
theorem show_T : ∀ {t : T}, Tok t → t.p.shown.length + 2 ≤ 17 * t.nd
  | .node t ks, .mk h hs => by
    have := show_Ts hs
    have e : (tupleText (PyData.shownAll (.str t :: T.ps ks))).length + 2 ≤ piled (PyData.shownAll (.str t :: T.ps ks)) + 5 := tuple_le _
    simp only [PyData.shownAll, piled_cons, PyData.shown] at e
    have h2 := h.2
    simp only [T.p, PyData.shown, PyData.shownAll, T.nd]
    omega
theorem show_Ts : ∀ {ks : List T}, Toks ks → piled (PyData.shownAll (T.ps ks)) ≤ 17 * T.nds ks
  | _, .nil => by simp [T.ps, PyData.shownAll, piled]
  | _, .cons h hs => by
    have a := show_T h
    have b := show_Ts hs
    simp only [T.ps, PyData.shownAll, piled_cons, T.nds]
    omega
end
mutual
theorem sh_T : ∀ t : T, t.p.showable = true
  | .node t ks => by simp only [T.p, PyData.showable, PyData.showableAll, sh_Ts ks, Bool.and_self]
theorem sh_Ts : ∀ ks : List T, PyData.showableAll (T.ps ks) = true
  | [] => by simp [T.ps, PyData.showableAll]
  | k :: ks => by simp only [T.ps, PyData.showableAll, sh_T k, sh_Ts ks, Bool.and_self]
end
theorem neG_T {t : T} (h : Tok t) (hd : t.dp ≤ 64) : neG [t.d, t.d] = some (.bl false, 0) := by
  have s : SeqAt.shaped t.p = true := by simp [SeqAt.shaped, lay_T h, dep_T, hd]
  have e : neX [t.d, t.d] = none := by obtain ⟨a, b⟩ := t; rfl
  simp only [neG, neA, orF, e, eqD, eqB, pd_T, s, Bool.and_self, if_true, eqv_T, Bool.not_true]
theorem eqv_paths : ∀ qs : List (List Nat), PyData.eqvAll (qs.map tpP) (qs.map tpP) = true
  | [] => by simp [PyData.eqvAll]
  | q :: qs => by
    have : PyData.eqvAll (q.map fun i => PyData.int (i : Nat)) (q.map fun i => PyData.int (i : Nat)) = true := by
      have := eqvI q (q.map fun i => ((i : Nat) : Int))
      rw [List.map_map] at this
      exact this.trans (decide_eq_true rfl)
    simp only [List.map_cons, PyData.eqvAll, PyData.eqv, this, eqv_paths qs, Bool.and_self]
theorem neG_paths (qs : List (List Nat)) : neG [.lst (qs.map pathD), .lst (qs.map pathD)] = some (.bl false, 0) := by
  have s : SeqAt.shaped (.list (qs.map tpP)) = true := by
    have := dep_paths qs
    simp [SeqAt.shaped, PyData.canLay0, lay_paths, PyData.depth]
    omega
  have e : neX [.lst (qs.map pathD), .lst (qs.map pathD)] = none := by simp [neX]
  have p : pd (.lst (qs.map pathD)) = some (.list (qs.map tpP)) := by simp only [pd, pds_paths]
  simp only [neG, neA, orF, e, eqD, eqB, p, s, Bool.and_self, if_true, PyData.eqv, eqv_paths, Bool.not_true]
end K02
end
section
set_option Elab.async false
set_option linter.all false
set_option maxRecDepth 100000
set_option maxHeartbeats 2000000
namespace K02
open PySem L2 DL
def varP (v : Vr) : PyData := .tuple [.str v.1, .tuple (v.2.map PyData.str)]
def kvP (k : Str × List Vr) : PyData × PyData := (.str k.1, .tuple (k.2.map varP))
theorem prs_str : ∀ cs : List Str, prs (cs.map D.str) = some (cs.map PyData.str)
  | [] => by simp [prs]
  | n :: ns => by simp [prs, pr, prs_str ns]
theorem prs_var : ∀ vs : List Vr, prs (vs.map varD) = some (vs.map varP)
  | [] => by simp [prs]
  | v :: vs => by simp [prs, pr, varD, prs_str, prs_var vs, varP]
theorem prs_kv : ∀ S : Sch, prs ((S.map kvD).map Prod.snd) = some ((S.map kvP).map Prod.snd)
  | [] => by simp [prs]
  | k :: S => by simp only [List.map_cons, prs, kvD, pr, prs_var, prs_kv S, kvP]
theorem pr_sch (S : Sch) : pr (schD S) = some (.dict (S.map kvP)) := by
  simp only [schD, D.dict, pr, prs_kv]
  congr 2
  induction S with
  | nil => rfl
  | cons k S ih => simp only [List.map_cons, List.zip_cons_cons, ih]; rfl
theorem sh_str : ∀ cs : List Str, PyData.showableAll (cs.map PyData.str) = true
  | [] => by simp [PyData.showableAll]
  | c :: cs => by simp [PyData.showableAll, PyData.showable, sh_str cs]
theorem sh_var : ∀ vs : List Vr, PyData.showableAll (vs.map varP) = true
  | [] => by simp [PyData.showableAll]
  | v :: vs => by simp [PyData.showableAll, PyData.showable, varP, sh_str, sh_var vs]
theorem sh_kv : ∀ S : Sch, PyData.showableKv (S.map kvP) = true
  | [] => by simp [PyData.showableKv]
  | k :: S => by simp [PyData.showableKv, PyData.showable, kvP, sh_var, sh_kv S]
theorem dp_var : ∀ vs : List Vr, PyData.depthAll (vs.map varP) ≤ 2
  | [] => by simp [PyData.depthAll]
  | v :: vs => by
    have := dp_var vs
    simp only [List.map_cons, PyData.depthAll, varP, PyData.depth, dep_str]
    omega
theorem dp_kv : ∀ S : Sch, PyData.depthKv (S.map kvP) ≤ 3
  | [] => by simp [PyData.depthKv]
  | k :: S => by
    have := dp_kv S
    have := dp_var k.2
    simp only [List.map_cons, PyData.depthKv, kvP, PyData.depth]
    omega
theorem ln_str : ∀ cs : List Str, (∀ c ∈ cs, c ∈ KEYS) → piled (PyData.shownAll (cs.map PyData.str)) ≤ 12 * cs.length
  | [], _ => by simp [PyData.shownAll, piled]
  | c :: cs, h => by
    have := ln_str cs fun c hc => h c (List.mem_cons_of_mem _ hc)
    have := key_txt c (h c List.mem_cons_self)
    simp only [List.map_cons, PyData.shownAll, piled_cons, PyData.shown, List.length_cons]
    omega
theorem ln_var {ks : List Str} (hk : ∀ k ∈ ks, k ∈ KEYS) : ∀ vs : List Vr, (∀ v ∈ vs, (∃ n : Nat, n < 10 ∧ v.1 = tagOf n) ∧ v.2.length ≤ 3 ∧ ∀ c ∈ v.2, c ∈ ks) → piled (PyData.shownAll (vs.map varP)) ≤ 100 * vs.length
  | [], _ => by simp [PyData.shownAll, piled]
  | v :: vs, h => by
    have := ln_var hk vs fun v hv => h v (List.mem_cons_of_mem _ hv)
    obtain ⟨⟨n, hn, e⟩, h3, h4⟩ := h v List.mem_cons_self
    have a := (tag_txt n hn).2
    rw [← e] at a
    have b := ln_str v.2 fun c hc => hk c (h4 c hc)
    have c := tuple_le (PyData.shownAll (v.2.map PyData.str))
    have d := tuple_le (PyData.shownAll [.str v.1, .tuple (v.2.map PyData.str)])
    simp only [PyData.shownAll, piled_cons, piled_nil, PyData.shown] at d
    simp only [List.map_cons, PyData.shownAll, piled_cons, varP, PyData.shown, List.length_cons]
    omega
theorem ln_kv {ks : List Str} (hk : ∀ k ∈ ks, k ∈ KEYS) : ∀ S : Sch, (∀ p ∈ S, p.1 ∈ KEYS ∧ GoodV ks p.2) → piled (PyData.shownKv (S.map kvP)) ≤ 400 * S.length
  | [], _ => by simp [PyData.shownKv, piled]
  | p :: S, h => by
    have := ln_kv hk S fun p hp => h p (List.mem_cons_of_mem _ hp)
    obtain ⟨h1, g⟩ := h p List.mem_cons_self
    have a := key_txt p.1 h1
    have b := ln_var hk p.2 fun v hv => ⟨g.tag v hv, g.ch v hv⟩
    have c := tuple_le (PyData.shownAll (p.2.map varP))
    have l := g.len
    have e : ((": " : Str)).length = 2 := by decide
    simp only [List.map_cons, PyData.shownKv, piled_cons, kvP, PyData.shown, List.length_cons]
    rw [strLen_append, strLen_append]
    omega
theorem repr_ok {S : Sch} (g : Good S) {t : T} (h : Tok t) (hd : t.dp ≤ 50) (hn : t.nd ≤ 1000) : ∃ z, reprD [.lst [schD S, t.d]] = some (.str z, 0) := by
  have p : pr (.lst [schD S, t.d]) = some (.list [.dict (S.map kvP), t.p]) := by simp only [pr, prs, pr_sch, pr_T]
  have s : (PyData.list [.dict (S.map kvP), t.p]).showable = true := by simp only [PyData.showable, PyData.showableAll, sh_kv, sh_T, Bool.and_self]
  have hk : ∀ k ∈ S.map Prod.fst, k ∈ KEYS := fun k hk => g.key hk
  have l : (PyData.list [.dict (S.map kvP), t.p]).shown.length ≤ sizeLine := by
    have a := ln_kv hk S fun p hp => ⟨hk _ (List.mem_map_of_mem hp), g.vr p hp⟩
    have b := dict_le (PyData.shownKv (S.map kvP))
    have c := show_T h
    have d := list_le (PyData.shownAll [.dict (S.map kvP), t.p])
    have e := g.len1
    simp only [PyData.shownAll, piled_cons, piled_nil, PyData.shown] at d
    simp only [PyData.shown, PyData.shownAll]
    rw [sizeLine_eq]
    omega
  have q : (PyData.list [.dict (S.map kvP), t.p]).depth ≤ 60 := by
    have := dp_kv S
    simp only [PyData.depth, PyData.depthAll, dep_T]
    omega
  exact ⟨_, by simp only [reprD, p]; rw [if_pos ⟨s, l, q⟩]⟩
/-! ### refused -/
theorem call2n_exc {F : MF} {a b : D} {i j : Nat} {x : Exn} {ρ : Rho} (hi : ρ[i]? = some (some (a, 0))) (hj : ρ[j]? = some (some (b, 0))) (e : F [(a, 0), (b, 0)] = .exc x [some (a, 0), some (b, 0)]) : mCall F [.nm i, .nm j] ρ = .exc x ρ := by
  simp only [mCall, evOs, evO, bindO, hi, hj, callF, takeOs, e, giveOs]
theorem callnnx_ev {F : MF} {m : ME} {a b c : D} {i j k : Nat} {r : Val} {ρ : Rho} (hi : ρ[i]? = some (some (a, 0))) (hj : ρ[j]? = some (some (b, 0))) (hm : m ρ = .ok (c, k) ρ) (e : F [(a, 0), (b, 0), (c, 0)] = .ok r [some (a, 0), some (b, 0), some (c, 0)]) : mCall F [.nm i, .nm j, .ex m] ρ = .ok r ρ := by
  simp only [mCall, evOs, evO, bindO, hi, hj, hm, callF, takeOs, e, giveOs]
theorem callnnx_exc {F : MF} {m : ME} {a b c : D} {i j k : Nat} {x : Exn} {ρ : Rho} (hi : ρ[i]? = some (some (a, 0))) (hj : ρ[j]? = some (some (b, 0))) (hm : m ρ = .ok (c, k) ρ) (e : F [(a, 0), (b, 0), (c, 0)] = .exc x [some (a, 0), some (b, 0), some (c, 0)]) : mCall F [.nm i, .nm j, .ex m] ρ = .exc x ρ := by
  simp only [mCall, evOs, evO, bindO, hi, hj, hm, callF, takeOs, e, giveOs]
theorem drop_exc {m : ME} {x : Exn} {ρ ρ1 : Rho} (h : m ρ = .exc x ρ1) : sDrop m ρ = .exc x ρ1 := by simp only [sDrop, h]
theorem refused_ok {x : D} (hx : Ok x) (hs : sz x < 50000) (t : T) (hd : t.dp ≤ 64) (hz : t.nd < 9000) (w : Nat) : mf__law_refused [(.int (w : Nat), 0), (t.d, 0), (x, 0)] = .ok (.bl (!(alongX x t).isSome), 0) [some (.int (w : Nat), 0), some (t.d, 0), some (x, 0)] := by
  unfold mf__law_refused runD
  rw [show ([(.int (w : Nat), 0), (t.d, 0), (x, 0)] : List Val).map some ++ List.replicate (5 - 3) none = [some (.int (w : Nat), 0), some (t.d, 0), some (x, 0), none, none] from rfl]
  have b1 : sAsg 3 (mC .non) [some (.int (w : Nat), 0), some (t.d, 0), some (x, 0), none, none] = .nx [some (.int (w : Nat), 0), some (t.d, 0), some (x, 0), some (.non, 0), none] := rfl
  have c := ev_b (k := 0) (ev_nx (i := 0) (f := eqG) (ρ := [some (.int (w : Nat), 0), some (t.d, 0), some (x, 0), some (.non, 0), none]) rfl (ev_C (x := .int 0)) rfl (Nat.zero_le _) (eq_int (w : Nat) 0))
  have T0 : opN [.ex (mC (.str "t0"))] tupD [some (.int (w : Nat), 0), some (t.d, 0), some (x, 0), some (.non, 0), none] = .ok (T.d (.node "t0" []), 0) [some (.int (w : Nat), 0), some (t.d, 0), some (x, 0), some (.non, 0), none] := tup1_ev ev_C
  cases ha : alongX x t with
  | some l =>
    obtain ⟨xs, rfl⟩ : ∃ xs, x = .tup xs := by
      cases hx <;> first | exact ⟨_, rfl⟩ | simp [alongX] at ha
    obtain ⟨p, hp, rfl⟩ := along_only xs t l ha
    have hpl := paths_dp t p hp
    have body : sIf (mB (opN [.nm 0, .ex (mC (.int 0))] eqG)) (sDrop (mCall mf_part_at [.nm 1, .nm 2])) (sDrop (mCall mf_put_at [.nm 1, .nm 2, .ex (opN [.ex (mC (.str "t0"))] tupD)])) [some (.int (w : Nat), 0), some (t.d, 0), some (pathD p, 0), some (.non, 0), none] = .nx [some (.int (w : Nat), 0), some (t.d, 0), some (pathD p, 0), some (.non, 0), none] := by
      cases hw : (((w : Nat) : Int) == 0) with
      | true =>
        rw [hw] at c
        exact (if_t c).trans (drop_ev (call2n_ev (i := 1) (j := 2) rfl rfl (part_at_ok t hp (by omega) (by omega))))
      | false =>
        rw [hw] at c
        exact (if_f c).trans (drop_ev (callnnx_ev (i := 1) (j := 2) rfl rfl T0 (put_at_ok t (.node "t0" []) hp (by omega) (by omega))))
    have EB : ms__law_refused [some (.int (w : Nat), 0), some (t.d, 0), some (pathD p, 0), none, none] = .rt (.bl false, 0) [some (.int (w : Nat), 0), some (t.d, 0), some (pathD p, 0), some (.non, 0), none] := by
      unfold ms__law_refused
      refine (seq_nx b1).trans ?_
      have tr : sTryAs 4 hs_NoPath (sIf (mB (opN [.nm 0, .ex (mC (.int 0))] eqG)) (sDrop (mCall mf_part_at [.nm 1, .nm 2])) (sDrop (mCall mf_put_at [.nm 1, .nm 2, .ex (opN [.ex (mC (.str "t0"))] tupD)]))) (sAsg 3 (mN 4)) [some (.int (w : Nat), 0), some (t.d, 0), some (pathD p, 0), some (.non, 0), none] = .nx [some (.int (w : Nat), 0), some (t.d, 0), some (pathD p, 0), some (.non, 0), none] := by
        simp only [sTryAs, body]
      exact (seq_nx tr).trans (ret_ev (ev_nx (i := 3) rfl (ev_C (x := .non)) rfl (Nat.zero_le _) rfl))
    rw [show D.tup (intsP p) = pathD p from rfl, EB]
    rfl
  | none =>
    have body : sIf (mB (opN [.nm 0, .ex (mC (.int 0))] eqG)) (sDrop (mCall mf_part_at [.nm 1, .nm 2])) (sDrop (mCall mf_put_at [.nm 1, .nm 2, .ex (opN [.ex (mC (.str "t0"))] tupD)])) [some (.int (w : Nat), 0), some (t.d, 0), some (x, 0), some (.non, 0), none] = .exc ⟨"NoPath", [], []⟩ [some (.int (w : Nat), 0), some (t.d, 0), some (x, 0), some (.non, 0), none] := by
      cases hw : (((w : Nat) : Int) == 0) with
      | true =>
        rw [hw] at c
        exact (if_t c).trans (drop_exc (call2n_exc (i := 1) (j := 2) rfl rfl (part_at_no hx hs t (by omega) ha)))
      | false =>
        rw [hw] at c
        exact (if_f c).trans (drop_exc (callnnx_exc (i := 1) (j := 2) rfl rfl T0 (put_at_no hx hs t (by omega) ha)))
    have EB : ms__law_refused [some (.int (w : Nat), 0), some (t.d, 0), some (x, 0), none, none] = .rt (.bl true, 0) [some (.int (w : Nat), 0), some (t.d, 0), some (x, 0), some (.opq, 0), none] := by
      unfold ms__law_refused
      refine (seq_nx b1).trans ?_
      have tr : sTryAs 4 hs_NoPath (sIf (mB (opN [.nm 0, .ex (mC (.int 0))] eqG)) (sDrop (mCall mf_part_at [.nm 1, .nm 2])) (sDrop (mCall mf_put_at [.nm 1, .nm 2, .ex (opN [.ex (mC (.str "t0"))] tupD)]))) (sAsg 3 (mN 4)) [some (.int (w : Nat), 0), some (t.d, 0), some (x, 0), some (.non, 0), none] = .nx [some (.int (w : Nat), 0), some (t.d, 0), some (x, 0), some (.opq, 0), none] := by
        simp only [sTryAs, body]
        rfl
      exact (seq_nx tr).trans (ret_ev (ev_nx (i := 3) rfl (ev_C (x := .non)) rfl (Nat.zero_le _) rfl))
    rw [EB]
    rfl
end K02
end
section
set_option Elab.async false
set_option linter.all false
set_option maxRecDepth 100000
set_option maxHeartbeats 2000000
namespace K02
open PySem L2 DL
section
variable {X0 X2 X3 X4 X5 X6 X7 X8 X9 X10 X11 X12 X13 X14 X15 : Option Val}
theorem pc1 {F : MF} {d d' : D} {r : Val} {ρ : Rho} (e : F [(d, 1)] = .ok r [some (d', 1)]) : mCall F [.nm 1] (X0 :: some (d, 1) :: ρ) = .ok r (X0 :: some (d', 1) :: ρ) := by
  simp only [mCall, evOs, evO, bindO, callF, takeOs, giveOs, List.getElem?_cons_succ, List.getElem?_cons_zero, List.set_cons_succ, List.set_cons_zero, e]
theorem pcx {F : MF} {m : ME} {d d' d1 y : D} {k : Nat} {r : Val} {ρ : Rho} (hm : m (X0 :: some (d, 1) :: ρ) = .ok (y, k) (X0 :: some (d1, 1) :: ρ)) (e : F [(d1, 1), (y, 0)] = .ok r [some (d', 1), some (y, 0)]) : mCall F [.nm 1, .ex m] (X0 :: some (d, 1) :: ρ) = .ok r (X0 :: some (d', 1) :: ρ) := by
  simp only [mCall, evOs, evO, bindO, hm, callF, takeOs, giveOs, List.getElem?_cons_succ, List.getElem?_cons_zero, List.set_cons_succ, List.set_cons_zero, e]
theorem pc4 {F : MF} {m : ME} {d d' y K C : D} {k : Nat} {r : Val} {ρ : Rho} (hm : m (X0 :: some (d, 1) :: X2 :: some (y, 1) :: some (K, 0) :: ρ) = .ok (C, k) (X0 :: some (d, 1) :: X2 :: some (y, 1) :: some (K, 0) :: ρ)) (e : F [(d, 1), (y, 1), (K, 0), (C, 0)] = .ok r [some (d', 1), some (y, 1), some (K, 0), some (C, 0)]) : mCall F [.nm 1, .nm 3, .nm 4, .ex m] (X0 :: some (d, 1) :: X2 :: some (y, 1) :: some (K, 0) :: ρ) = .ok r (X0 :: some (d', 1) :: X2 :: some (y, 1) :: some (K, 0) :: ρ) := by
  simp only [mCall, evOs, evO, bindO, hm, callF, takeOs, giveOs, List.getElem?_cons_succ, List.getElem?_cons_zero, List.set_cons_succ, List.set_cons_zero, e]
theorem par2_ev {m1 m2 : ME} {ρ ρ1 ρ2 : Rho} {r1 r2 : Val} {i j : Nat} (h1 : m1 ρ = .ok r1 ρ1) (h2 : m2 ρ1 = .ok r2 ρ2) (a : i < ρ2.length) (b : j < ρ2.length) : sPar [i, j] [m1, m2] ρ = .nx ((ρ2.set i (some r1)).set j (some r2)) := by
  simp only [sPar, evMs, h1, h2, bindO, List.all_cons, List.all_nil, decide_eq_true a, decide_eq_true b, Bool.and_self, if_true, setRs]
theorem keys_list (S : Sch) : listA [schD S] = some (.lst ((S.map Prod.fst).map D.str), 1) := by
  have : listD [schD S] = some (.lst ((S.map Prod.fst).map D.str), 1) := by
    simp only [schD, D.dict, listD, List.map_map]
    rfl
  simp only [listA, orF, this]
/-- the first part of a turn: schema, kind, two trees -/
theorem draw_ok {d : D} (hd : Pot d) : ∃ S k t u d', Good S ∧ k ∈ S.map Prod.fst ∧ Wf S k t ∧ t.dp ≤ 4 ∧ Wf S k u ∧ u.dp ≤ 3 ∧ Pot d' ∧ ∀ {R : MS}, (sSeq (sAsg 3 (mCall mf__law_full_schema [.nm 1]))
  (sSeq (sAsg 4 (mCall mf__law_pick [.nm 1, .ex (opN [.nm 3] listA)]))
  (sSeq (sPar [5, 6] [mCall (mf__law_some_tree 64) [.nm 1, .nm 3, .nm 4, .ex (mC (.int 4))], mCall (mf__law_some_tree 64) [.nm 1, .nm 3, .nm 4, .ex (mC (.int 3))]]) R))
    [X0, some (d, 1), X2, X3, X4, X5, X6, X7, X8, X9, X10, X11, X12, X13, X14, X15]) = R [X0, some (d', 1), X2, some (schD S, 1), some (.str k, 0), some (t.d, 0), some (u.d, 0), X7, X8, X9, X10, X11, X12, X13, X14, X15] := by
  obtain ⟨S, d1, g, hd1, e1⟩ := full_ok hd
  obtain ⟨q, d2, hd2, hq, e2⟩ := pick hd1 (items := (S.map Prod.fst).map D.str) (by simpa using g.len0) (by have := g.len1; simp; omega) 0 (.inl rfl)
  obtain ⟨k, hk, rfl⟩ := List.mem_map.mp hq
  obtain ⟨t, d3, w1, h1, hd3, e3⟩ := some_tree_ok g 1 (Nat.le_refl _) 64 4 (by decide) (by decide) hk hd2
  obtain ⟨u, d4, w2, h2, hd4, e4⟩ := some_tree_ok g 1 (Nat.le_refl _) 64 3 (by decide) (by decide) hk hd3
  refine ⟨S, k, t, u, d4, g, hk, w1, h1, w2, h2, hd4, fun {R} => ?_⟩
  refine (seq_nx (asg_ev (pc1 e1) (by simp))).trans ?_
  refine (seq_nx (asg_ev (pcx (X0 := X0) (d := d1) (d1 := d1) (k := 1) (ρ := [X2, some (schD S, 1), X4, X5, X6, X7, X8, X9, X10, X11, X12, X13, X14, X15]) (ev_n (i := 3) rfl (Nat.le_refl _) (keys_list S)) e2) (by simp))).trans ?_
  exact (seq_nx (par2_ev (pc4 (X0 := X0) (X2 := X2) (d := d2) (y := schD S) (K := .str k) (ρ := [X5, X6, X7, X8, X9, X10, X11, X12, X13, X14, X15]) rfl e3) (pc4 (X0 := X0) (X2 := X2) (d := d3) (y := schD S) (K := .str k) (ρ := [X5, X6, X7, X8, X9, X10, X11, X12, X13, X14, X15]) rfl e4) (by simp) (by simp))).trans rfl
/-- things -/
structure Fit (j : Nat) (x : D) : Prop where
  ok : Ok x
  sz : sz x + 4 ≤ 516 * 2 ^ j
  hi : hi x ≤ 4 + 2 * j
theorem Fit.up {j : Nat} {x : D} (h : Fit j x) : Fit (j + 1) x := ⟨h.ok, by have := h.sz; rw [Nat.pow_succ]; omega, by have := h.hi; omega⟩
def th0 (tg : Str) (ks : List T) : List D := [T.d (.node tg ks), .non, .tup [], .tup [.str "t0"], .tup [.str tg], .lst (.str tg :: T.ds ks), .str "t0"]
theorem th0_fit {tg : Str} {ks : List T} (h1 : T.nd (.node tg ks) ≤ 256) (h2 : T.dp (.node tg ks) ≤ 4) : ∀ x ∈ th0 tg ks, Fit 0 x := by
  have e1 := sz_d (.node tg ks)
  have e2 := hi_d (.node tg ks)
  intro x hx
  simp only [th0, List.mem_cons, List.not_mem_nil, or_false] at hx
  have okn : Ok (T.d (.node tg ks)) := ok_d _
  rcases hx with rfl | rfl | rfl | rfl | rfl | rfl | rfl
  · exact ⟨okn, by omega, by omega⟩
  · exact ⟨.non, by decide, by decide⟩
  · exact ⟨.tup (fun _ h => nomatch h), by decide, by decide⟩
  · exact ⟨.tup (by simp; exact .str _), by decide, by decide⟩
  · exact ⟨.tup (by simp; exact .str _), by simp [sz, szs], by simp [hi, his]⟩
  · refine ⟨.lst (ok_part okn rfl), ?_, ?_⟩
    · simp only [T.d, sz] at e1
      simp only [sz]
      omega
    · simp only [T.d, hi] at e2
      simp only [hi]
      omega
  · exact ⟨.str _, by decide, by decide⟩
abbrev THE : ME := opN [.ex (mN 5), .ex (mC .non), .ex (opN [] tupD), .ex (opN [.ex (mC (.str "t0"))] tupD), .ex (opN [.nm 5, .ex (mInt (mC (.int 1)))] (slD false true)), .ex (opN [.nm 5] listA), .ex (mC (.str "t0"))] lstD
theorem th_ev {tg : Str} {ks : List T} {ρ : Rho} (h : ρ[5]? = some (some (T.d (.node tg ks), 0))) : THE ρ = .ok (.lst (th0 tg ks), 1) ρ := by
  have a1 : mN 5 ρ = .ok (T.d (.node tg ks), 0) ρ := ev_N h
  have a3 : opN [] tupD ρ = .ok (.tup [], 0) ρ := rfl
  have a4 : opN [.ex (mC (.str "t0"))] tupD ρ = .ok (.tup [.str "t0"], 0) ρ := tup1_ev ev_C
  have s1 : slD false true [T.d (.node tg ks), .int 1] = some (.tup [.str tg], 0) := by
    have := cut_to (xs := D.str tg :: T.ds ks) (a := 1) (by simp)
    simp only [slD, slV, T.d]
    rw [show ((1 : Int)) = ((1 : Nat) : Int) from rfl, this]
    rfl
  have a5 : opN [.nm 5, .ex (mInt (mC (.int 1)))] (slD false true) ρ = .ok (.tup [.str tg], 0) ρ := ev_nx h (ev_I ev_C) h (Nat.zero_le _) s1
  have a6 : opN [.nm 5] listA ρ = .ok (.lst (.str tg :: T.ds ks), 1) ρ := ev_n h (Nat.zero_le _) (list_seq rfl)
  have hz : (th0 tg ks).length ≤ sizeLine := ok_len (by simp [th0])
  show opN [.ex (mN 5), .ex (mC .non), .ex (opN [] tupD), .ex (opN [.ex (mC (.str "t0"))] tupD), .ex (opN [.nm 5, .ex (mInt (mC (.int 1)))] (slD false true)), .ex (opN [.nm 5] listA), .ex (mC (.str "t0"))] lstD ρ = _
  generalize opN [.nm 5] listA = M6 at a6 ⊢
  generalize opN [.nm 5, .ex (mInt (mC (.int 1)))] (slD false true) = M5 at a5 ⊢
  generalize opN [.ex (mC (.str "t0"))] tupD = M4 at a4 ⊢
  generalize opN [] tupD = M3 at a3 ⊢
  simp only [opN, evOs, evO, bindO, a1, a3, a4, a5, a6, mC, lookOs, lookO, fin, lstD]
  exact (by rw [show [T.d (.node tg ks), D.non, .tup [], .tup [.str "t0"], .tup [.str tg], .lst (.str tg :: T.ds ks), .str "t0"] = th0 tg ks from rfl, if_pos hz])
/-- the things bent -/
theorem bend_ok {t : T} (ht : t.nd ≤ 256) (htd : t.dp ≤ 4) {xs : List D} (hx : ∀ x ∈ xs, Fit 0 x) (h7 : xs.length = 7) {d : D} (hd : Pot d) : ∃ d' ys Y10, Pot d' ∧ (∀ x ∈ ys, Fit 6 x) ∧ ys.length = 13 ∧
    forD (.nm 10) (sDrop (mMut 7 isLst [.ex (mCall (mf__law_bent 64) [.nm 1, .ex (mCall mf__law_pick [.nm 1, .ex (opN [.ex (mN 5), .ex (opN [.nm 7, .ex (opN [.ex (mC (.int 1))] negD)] atD)] lstD)])])] appD)) (rngD 0 6)
      [X0, some (d, 1), X2, X3, X4, some (t.d, 0), X6, some (.lst xs, 1), X8, X9, X10, X11, X12, X13, X14, X15] = .nx [X0, some (d', 1), X2, X3, X4, some (t.d, 0), X6, some (.lst ys, 1), X8, X9, Y10, X11, X12, X13, X14, X15] := by
  have ft : ∀ j, Fit j t.d := fun j => ⟨ok_d t, by
    have := sz_d t
    have : 1 ≤ 2 ^ j := Nat.one_le_two_pow
    have : 516 * 1 ≤ 516 * 2 ^ j := Nat.mul_le_mul_left _ this
    omega, by rw [hi_d]; omega⟩
  let I : Nat → Rho → Prop := fun j ρ => ∃ d ys Y10, Pot d ∧ (∀ x ∈ ys, Fit j x) ∧ ys.length = 7 + j ∧ ρ = [X0, some (d, 1), X2, X3, X4, some (t.d, 0), X6, some (.lst ys, 1), X8, X9, Y10, X11, X12, X13, X14, X15]
  obtain ⟨ρ', e, d', ys, Y10, hd', hy, hl, rfl⟩ := forD_at (t := .nm 10) (body := sDrop (mMut 7 isLst [.ex (mCall (mf__law_bent 64) [.nm 1, .ex (mCall mf__law_pick [.nm 1, .ex (opN [.ex (mN 5), .ex (opN [.nm 7, .ex (opN [.ex (mC (.int 1))] negD)] atD)] lstD)])])] appD)) I (rngD 0 6) (fun j q hq ρ ⟨d, ys, Y10, hd, hy, hl, e⟩ => by
    subst e
    have hj : j < 6 := by
      have := (List.getElem?_eq_some_iff.mp hq).1
      simpa [rngD] using this
    rcases List.eq_nil_or_concat ys with rfl | ⟨ys', y, rfl⟩
    · simp at hl; omega
    · rw [List.concat_eq_append] at *
      have L2 : opN [.ex (mN 5), .ex (opN [.nm 7, .ex (opN [.ex (mC (.int 1))] negD)] atD)] lstD [X0, some (d, 1), X2, X3, X4, some (t.d, 0), X6, some (.lst (ys' ++ [y]), 1), X8, X9, some (q, 0), X11, X12, X13, X14, X15] = .ok (.lst [t.d, y], 1) [X0, some (d, 1), X2, X3, X4, some (t.d, 0), X6, some (.lst (ys' ++ [y]), 1), X8, X9, some (q, 0), X11, X12, X13, X14, X15] := by
        have hz : [t.d, y].length ≤ sizeLine := two_le
        exact ev_xx (ev_N rfl) (ev_nx (i := 7) rfl (ev_x (ev_C (x := .int 1)) (r := (.int (-1), 0)) rfl) rfl (Nat.le_refl _) (at_last ys' y)) (by simp only [lstD, if_pos hz])
      obtain ⟨z, d1, hd1, hz, e1⟩ := pick hd (items := [t.d, y]) (by simp) (by simp) 0 (.inl rfl)
      have fz : Fit j z := by
        simp only [List.mem_cons, List.not_mem_nil, or_false] at hz
        rcases hz with rfl | rfl
        · exact ft j
        · exact hy _ (by simp)
      have pj : 516 * 2 ^ j ≤ 516 * 2 ^ 6 := Nat.mul_le_mul_left _ (Nat.pow_le_pow_right (by decide) (by omega))
      have s1 := fz.sz
      have s2 := fz.hi
      obtain ⟨r, d2, r1, r2, r3, hd2, e2⟩ := bent_ok 64 z fz.ok (by omega) (by omega) d1 hd1
      have P1 := pcx (X0 := X0) (d := d) (d1 := d) (k := 1) (ρ := [X2, X3, X4, some (t.d, 0), X6, some (.lst (ys' ++ [y]), 1), X8, X9, some (q, 0), X11, X12, X13, X14, X15]) L2 e1
      have P2 := pcx (X0 := X0) (d := d) (d1 := d1) (k := 0) (ρ := [X2, X3, X4, some (t.d, 0), X6, some (.lst (ys' ++ [y]), 1), X8, X9, some (q, 0), X11, X12, X13, X14, X15]) P1 e2
      have A := drop_ev (app_ev (j := 7) (l := 1) rfl P2 rfl (by omega))
      refine ⟨_, _, rfl, A, d2, ys' ++ [y] ++ [r], some (q, 0), hd2, fun x hx => ?_, by rw [List.length_append, hl]; rfl, rfl⟩
      rcases List.mem_append.mp hx with h | h
      · exact (hy x h).up
      · cases List.mem_singleton.mp h
        exact ⟨r1, by rw [Nat.pow_succ]; omega, by omega⟩) [X0, some (d, 1), X2, X3, X4, some (t.d, 0), X6, some (.lst xs, 1), X8, X9, X10, X11, X12, X13, X14, X15] ⟨d, xs, X10, hd, hx, by omega, rfl⟩
  exact ⟨d', ys, Y10, hd', hy, by simpa [rngD] using hl, e⟩
end
end K02
end
section
set_option Elab.async false
set_option linter.all false
set_option maxRecDepth 100000
set_option maxHeartbeats 2000000
namespace K02
open PySem L2 DL
section
variable {X0 X1 X2 X3 X4 X5 X6 X7 X8 X9 X10 X11 X12 X13 X14 X15 : Option Val}
theorem rp_bl (b : Bool) : ∃ z, reprD [.bl b] = some (.str z, 0) := by
  refine ⟨(PyData.bool b).shown, ?_⟩
  have h : (PyData.bool b).showable = true ∧ (PyData.bool b).shown.length ≤ sizeLine ∧ (PyData.bool b).depth ≤ 60 := by
    refine ⟨by simp [PyData.showable], ?_, by simp [PyData.depth]⟩
    have : (PyData.bool b).shown.length ≤ 5 := by cases b <;> decide +kernel
    exact Nat.le_trans this (ok_len (by decide))
  simp only [reprD, pr, if_pos h]
theorem ne_str (z : Str) : neG [.str z, .str z] = some (.bl false, 0) := by simp [orF, neX]
theorem call3s_ev {F : MF} {a b c : D} {i j l : Nat} {r : Val} {ρ : Rho} (hi : ρ[i]? = some (some (a, 0))) (hj : ρ[j]? = some (some (b, 0))) (hl : ρ[l]? = some (some (c, 0))) (e : F [(a, 0), (b, 0), (c, 0)] = .ok r [some (a, 0), some (b, 0), some (c, 0)]) : mCall F [.nm i, .nm j, .nm l] ρ = .ok r ρ := call3_ev hi hj hl e
abbrev BONE : MS := sIf (mB (opN [.ex (opN [.ex (mCall mf_is_tree [.nm 3, .nm 12, .nm 11])] reprD), .ex (opN [.ex (mCall (mf__law_is_tree 64) [.nm 3, .nm 12, .nm 11])] reprD)] neG)) (sRet (mC (.bl false))) (sSkip)
theorem things_ok {S : Sch} (g : Good S) {ys : List D} (hy : ∀ x ∈ ys, Fit 6 x) : ∃ Y11 Y12, sFor (.nm 11) (mIt (mN 7)) (sForK (.nm 12) .keys 3 BONE) [X0, X1, X2, some (schD S, 0), X4, X5, X6, some (.lst ys, 1), X8, X9, X10, X11, X12, X13, X14, X15] = .nx [X0, X1, X2, some (schD S, 0), X4, X5, X6, some (.lst ys, 0), X8, X9, X10, Y11, Y12, X13, X14, X15] := by
  let I : Nat → Rho → Prop := fun _ ρ => ∃ Y11 Y12, ρ = [X0, X1, X2, some (schD S, 0), X4, X5, X6, some (.lst ys, 0), X8, X9, X10, Y11, Y12, X13, X14, X15]
  obtain ⟨ρ', e, Y11, Y12, rfl⟩ := forD_at (t := .nm 11) (body := sForK (.nm 12) .keys 3 BONE) I ys (fun j x hx ρ ⟨Y11, Y12, e⟩ => by
    subst e
    have f := hy x (List.mem_of_getElem? hx)
    have s1 := f.sz
    have s2 := f.hi
    let J : Nat → Rho → Prop := fun _ ρ => ∃ Y12, ρ = [X0, X1, X2, some (schD S, 0), X4, X5, X6, some (.lst ys, 0), X8, X9, X10, some (x, 0), Y12, X13, X14, X15]
    obtain ⟨ρ2, e2, Y12', rfl⟩ := forD_at (t := .nm 12) (body := BONE) J ((S.map Prod.fst).map D.str) (fun j q hq ρ ⟨Y12, e⟩ => by
      subst e
      obtain ⟨k, hk, rfl⟩ := List.mem_map.mp (List.mem_of_getElem? hq)
      have a := is_tree_ok g hk f.ok (by omega)
      have b := law_is_tree_ok g 64 x f.ok (by omega) (by omega) hk
      obtain ⟨z, ez⟩ := rp_bl (isT S x k)
      refine ⟨_, _, rfl, ifs_f (ev_b (k := 0) (ev_xx (ev_x (call3s_ev (i := 3) (j := 12) (l := 11) rfl rfl rfl a) ez) (ev_x (call3s_ev (i := 3) (j := 12) (l := 11) rfl rfl rfl b) ez) (ne_str z))), _, rfl⟩) [X0, X1, X2, some (schD S, 0), X4, X5, X6, some (.lst ys, 0), X8, X9, X10, some (x, 0), Y12, X13, X14, X15] ⟨Y12, rfl⟩
    refine ⟨[X0, X1, X2, some (schD S, 0), X4, X5, X6, some (.lst ys, 0), X8, X9, X10, some (x, 0), Y12, X13, X14, X15], _, rfl, ?_, some (x, 0), Y12', rfl⟩
    have EK : mKd .keys 3 [X0, X1, X2, some (schD S, 0), X4, X5, X6, some (.lst ys, 0), X8, X9, X10, some (x, 0), Y12, X13, X14, X15] = .ok ((S.map Prod.fst).map D.str) [X0, X1, X2, some (schD S, 0), X4, X5, X6, some (.lst ys, 0), X8, X9, X10, some (x, 0), Y12, X13, X14, X15] := by
      have : (Kd.keys.ds ((S.map kvD).map Prod.fst) ((S.map kvD).map Prod.snd)) = (S.map Prod.fst).map D.str := by
        simp only [Kd.ds, List.map_map]
        rfl
      show Out.ok (Kd.keys.ds ((S.map kvD).map Prod.fst) ((S.map kvD).map Prod.snd)) _ = _
      rw [this]
      rfl
    have := (for_ev (tg := .nm 12) (a := BONE) EK).trans e2
    simp only [sForK, this]) [X0, X1, X2, some (schD S, 0), X4, X5, X6, some (.lst ys, 0), X8, X9, X10, X11, X12, X13, X14, X15] ⟨X11, X12, rfl⟩
  exact ⟨Y11, Y12, (for_ev (ρ1 := [X0, X1, X2, some (schD S, 0), X4, X5, X6, some (.lst ys, 0), X8, X9, X10, X11, X12, X13, X14, X15]) rfl).trans e⟩
theorem sizes_ok {t : T} (ht : t.nd ≤ 256) (htd : t.dp ≤ 4) : sIf (mOr (mB (opN [.ex (mCall mf_size_of [.nm 5]), .ex (mCall (mf__law_size 64) [.nm 5])] neG)) (mB (opN [.ex (mCall mf_paths [.nm 5]), .nm 8] neG))) (sRet (mC (.bl false))) (sSkip) [X0, X1, X2, X3, X4, some (t.d, 0), X6, X7, some (.lst ((pathsT t).map pathD), 1), X9, X10, X11, X12, X13, X14, X15] = .nx [X0, X1, X2, X3, X4, some (t.d, 0), X6, X7, some (.lst ((pathsT t).map pathD), 1), X9, X10, X11, X12, X13, X14, X15] := by
  have a := call1_ev (i := 5) (ρ := [X0, X1, X2, X3, X4, some (t.d, 0), X6, X7, some (.lst ((pathsT t).map pathD), 1), X9, X10, X11, X12, X13, X14, X15]) rfl (size_of_ok t (by omega))
  have b := call1_ev (i := 5) (ρ := [X0, X1, X2, X3, X4, some (t.d, 0), X6, X7, some (.lst ((pathsT t).map pathD), 1), X9, X10, X11, X12, X13, X14, X15]) rfl (law_size_ok 64 t (by omega) (by omega))
  have c := call1_ev (i := 5) (ρ := [X0, X1, X2, X3, X4, some (t.d, 0), X6, X7, some (.lst ((pathsT t).map pathD), 1), X9, X10, X11, X12, X13, X14, X15]) rfl (paths_ok t (by omega) (by omega))
  have n1 : neG [.int (t.nd : Nat), .int (t.nd : Nat)] = some (.bl false, 0) := by rw [ne_int]; simp
  have m1 := ev_b (k := 0) (ev_xx a b n1)
  have m2 := ev_b (k := 0) (ev_xn (p := (.non, 0)) c (j := 8) rfl (Nat.le_refl _) (neG_paths (pathsT t)))
  exact ifs_f (by simp only [mOr, m1, bindO, Bool.false_eq_true, if_false, m2])
theorem at_dp : ∀ (p : List Nat) (t : T), p ∈ pathsT t → (atT p t).dp ≤ t.dp
  | [], t, _ => Nat.le_refl _
  | i :: p, .node tg ks, h => by
    obtain ⟨k, h1, h2⟩ := mem_paths.mp h
    have := at_dp p k h2
    have hk : k.dp ≤ T.dps ks := by
      have := his_le.mp (Nat.le_refl (his (T.ds ks))) k.d (by rw [T.ds_map]; exact List.mem_map_of_mem (List.mem_of_getElem? h1))
      rwa [hi_d, his_ds] at this
    simp only [atT, h1, T.dp]
    omega
theorem dps_le {n : Nat} {ks : List T} : T.dps ks ≤ n ↔ ∀ k ∈ ks, k.dp ≤ n := by
  induction ks with
  | nil => simp [T.dps]
  | cons k ks ih => simp only [T.dps, Nat.max_le, ih, List.mem_cons, forall_eq_or_imp]
theorem with_dp : ∀ (p : List Nat) (t u : T), p ∈ pathsT t → (withT p t u).dp ≤ t.dp + u.dp
  | [], t, u, _ => by simp only [withT]; omega
  | i :: p, .node tg ks, u, h => by
    obtain ⟨k, h1, h2⟩ := mem_paths.mp h
    have ih := with_dp p k u h2
    have hk : k.dp ≤ T.dps ks := dps_le.mp (Nat.le_refl _) k (List.mem_of_getElem? h1)
    simp only [withT, h1, T.dp]
    have : T.dps (ks.set i (withT p k u)) ≤ T.dps ks + u.dp := dps_le.mpr fun z hz => by
      rcases List.mem_or_eq_of_mem_set hz with h | h
      · have := dps_le.mp (Nat.le_refl (T.dps ks)) z h
        omega
      · rw [h]; omega
    omega
theorem callxn_ev {F : MF} {m : ME} {a b : D} {k j : Nat} {r : Val} {p : Option Val} {ρ : Rho} (hm : m ρ = .ok (a, k) ρ) (hj : ρ[j]? = some (some (b, 0))) (e : F [(a, 0), (b, 0)] = .ok r [p, some (b, 0)]) : mCall F [.ex m, .nm j] ρ = .ok r ρ := by
  simp only [mCall, evOs, evO, bindO, hm, hj, callF, takeOs, e, giveOs]
theorem ats_ok {t u : T} (kt : Tok t) (ku : Tok u) (ht : t.nd ≤ 256) (htd : t.dp ≤ 4) (hud : u.dp ≤ 3) : ∃ Y13, sFor (.nm 13) (mIt (opN [.ex (opN [.nm 8, .ex (mInt (mC (.int 6)))] (slD false true)), .ex (opN [.nm 8, .ex (mInt (opN [.ex (mC (.int 4))] negD))] (slD true false))] addD)) (sIf (mOr (mB (opN [.ex (mCall mf_part_at [.nm 5, .nm 13]), .ex (mCall mf__law_at [.ex (mN 5), .nm 13])] neG)) (mB (opN [.ex (mCall mf_put_at [.nm 5, .nm 13, .nm 6]), .ex (mCall (mf__law_with 64) [.nm 5, .nm 13, .nm 6])] neG))) (sRet (mC (.bl false))) (sSkip))
    [X0, X1, X2, X3, X4, some (t.d, 0), some (u.d, 0), X7, some (.lst ((pathsT t).map pathD), 1), X9, X10, X11, X12, X13, X14, X15] = .nx [X0, X1, X2, X3, X4, some (t.d, 0), some (u.d, 0), X7, some (.lst ((pathsT t).map pathD), 1), X9, X10, X11, X12, Y13, X14, X15] := by
  have pl := paths_len t
  have cutm : ∀ (lo hi : Option Int) q, q ∈ cutG ((pathsT t).map pathD) lo hi → q ∈ (pathsT t).map pathD := fun lo hi q h => List.mem_of_mem_drop (List.mem_of_mem_take h)
  have cutl : ∀ (lo hi : Option Int), (cutG ((pathsT t).map pathD) lo hi).length ≤ 256 := fun lo hi => by
    unfold cutG
    simp only [List.length_take, List.length_drop, List.length_map]
    omega
  have hz : (cutG ((pathsT t).map pathD) none (some 6)).length + (cutG ((pathsT t).map pathD) (some (-4)) none).length ≤ sizeLine := ok_len (by have := cutl none (some 6); have := cutl (some (-4)) none; omega)
  have EI : mIt (opN [.ex (opN [.nm 8, .ex (mInt (mC (.int 6)))] (slD false true)), .ex (opN [.nm 8, .ex (mInt (opN [.ex (mC (.int 4))] negD))] (slD true false))] addD) [X0, X1, X2, X3, X4, some (t.d, 0), some (u.d, 0), X7, some (.lst ((pathsT t).map pathD), 1), X9, X10, X11, X12, X13, X14, X15] = .ok (cutG ((pathsT t).map pathD) none (some 6) ++ cutG ((pathsT t).map pathD) (some (-4)) none) [X0, X1, X2, X3, X4, some (t.d, 0), some (u.d, 0), X7, some (.lst ((pathsT t).map pathD), 1), X9, X10, X11, X12, X13, X14, X15] := by
    have a1 : addD [.lst (cutG ((pathsT t).map pathD) none (some 6)), .lst (cutG ((pathsT t).map pathD) (some (-4)) none)] = some (.lst (cutG ((pathsT t).map pathD) none (some 6) ++ cutG ((pathsT t).map pathD) (some (-4)) none), 1) := by simp only [addD, if_pos hz]
    exact it_ev (ev_xx (ev_nx (i := 8) rfl (ev_I (ev_C (x := .int 6))) rfl (Nat.le_refl _) rfl) (ev_nx (i := 8) rfl (ev_I (ev_x (ev_C (x := .int 4)) (r := (.int (-4), 0)) rfl)) rfl (Nat.le_refl _) rfl) a1) rfl
  let I : Nat → Rho → Prop := fun _ ρ => ∃ Y13, ρ = [X0, X1, X2, X3, X4, some (t.d, 0), some (u.d, 0), X7, some (.lst ((pathsT t).map pathD), 1), X9, X10, X11, X12, Y13, X14, X15]
  obtain ⟨ρ', e, Y13, rfl⟩ := forD_at (t := .nm 13) (body := sIf (mOr (mB (opN [.ex (mCall mf_part_at [.nm 5, .nm 13]), .ex (mCall mf__law_at [.ex (mN 5), .nm 13])] neG)) (mB (opN [.ex (mCall mf_put_at [.nm 5, .nm 13, .nm 6]), .ex (mCall (mf__law_with 64) [.nm 5, .nm 13, .nm 6])] neG))) (sRet (mC (.bl false))) (sSkip)) I (cutG ((pathsT t).map pathD) none (some 6) ++ cutG ((pathsT t).map pathD) (some (-4)) none) (fun j q hq ρ ⟨Y13, e⟩ => by
    subst e
    have hm : q ∈ (pathsT t).map pathD := by
      rcases List.mem_append.mp (List.mem_of_getElem? hq) with h | h
      · exact cutm _ _ q h
      · exact cutm _ _ q h
    obtain ⟨p, hp, rfl⟩ := List.mem_map.mp hm
    have hpl := paths_dp t p hp
    have a := call2n_ev (i := 5) (j := 13) (ρ := [X0, X1, X2, X3, X4, some (t.d, 0), some (u.d, 0), X7, some (.lst ((pathsT t).map pathD), 1), X9, X10, X11, X12, some (pathD p, 0), X14, X15]) rfl rfl (part_at_ok t hp (by omega) (by omega))
    have b := callxn_ev (m := mN 5) (j := 13) (ρ := [X0, X1, X2, X3, X4, some (t.d, 0), some (u.d, 0), X7, some (.lst ((pathsT t).map pathD), 1), X9, X10, X11, X12, some (pathD p, 0), X14, X15]) (ev_N rfl) rfl (law_at_ok t hp)
    have c := call3_ev (i := 5) (j := 13) (l := 6) (ρ := [X0, X1, X2, X3, X4, some (t.d, 0), some (u.d, 0), X7, some (.lst ((pathsT t).map pathD), 1), X9, X10, X11, X12, some (pathD p, 0), X14, X15]) rfl rfl rfl (put_at_ok t u hp (by omega) (by omega))
    have w := call3_ev (i := 5) (j := 13) (l := 6) (ρ := [X0, X1, X2, X3, X4, some (t.d, 0), some (u.d, 0), X7, some (.lst ((pathsT t).map pathD), 1), X9, X10, X11, X12, some (pathD p, 0), X14, X15]) rfl rfl rfl (law_with_ok 64 p t u (by omega) hp (by omega))
    have m1 := ev_b (k := 0) (ev_xx a b (neG_T (at_tok p t kt) (by have := at_dp p t hp; omega)))
    have m2 := ev_b (k := 0) (ev_xx c w (neG_T (with_tok p t u kt ku) (by have := with_dp p t u hp; omega)))
    exact ⟨_, _, rfl, ifs_f (by
      show mOr _ _ [X0, X1, X2, X3, X4, some (t.d, 0), some (u.d, 0), X7, some (.lst ((pathsT t).map pathD), 1), X9, X10, X11, X12, some (pathD p, 0), X14, X15] = _
      simp only [mOr, m1, bindO, Bool.false_eq_true, if_false]
      exact m2), some (pathD p, 0), rfl⟩) [X0, X1, X2, X3, X4, some (t.d, 0), some (u.d, 0), X7, some (.lst ((pathsT t).map pathD), 1), X9, X10, X11, X12, X13, X14, X15] ⟨X13, rfl⟩
  exact ⟨Y13, (for_ev EI).trans e⟩
end
end K02
end
section
set_option Elab.async false
set_option linter.all false
set_option maxRecDepth 100000
set_option maxHeartbeats 2000000
namespace K02
open PySem L2 DL
section
variable {X0 X1 X2 X3 X4 X5 X6 X7 X8 X9 X10 X11 X12 X13 X14 X15 : Option Val}
def od2 : List D := [.non, .lst [], .str "", .int 0, .tup [.bl true], .tup [.int 0, .bl true], .tup [.int 9], .tup [.int (0 - 1)], .tup [.str "0"], .tup (List.replicate (9 : Int).toNat [D.int 0]).flatten, .tup [.non], .tup [.tup [.int 0]], .lst [.int 0]]
abbrev OD2 : ME := opN [.ex (mC .non), .ex (opN [] lstD), .ex (mC (.str "")), .ex (mC (.int 0)), .ex (opN [.ex (mC (.bl true))] tupD), .ex (opN [.ex (mC (.int 0)), .ex (mC (.bl true))] tupD), .ex (opN [.ex (mC (.int 9))] tupD), .ex (opN [.ex (opN [.ex (mC (.int 0)), .ex (mC (.int 1))] subD)] tupD), .ex (opN [.ex (mC (.str "0"))] tupD), .ex (opN [.ex (opN [.ex (mC (.int 0))] tupD), .ex (mC (.int 9))] mulA), .ex (opN [.ex (mC .non)] tupD), .ex (opN [.ex (opN [.ex (mC (.int 0))] tupD)] tupD), .ex (opN [.ex (mC (.int 0))] lstD)] lstD
theorem od2_ev (ρ : Rho) : OD2 ρ = .ok (.lst od2, 1) ρ := by
  have hm : mulA [.tup [.int 0], .int 9] = some (.tup (List.replicate (9 : Int).toNat [D.int 0]).flatten, 0) := by
    have h : -(2 ^ 63) ≤ (9 : Int) ∧ (9 : Int) ≤ 1000 ∧ [D.int 0].length ≤ 1000 := by decide
    have h0 : mulD [.tup [.int 0], .int 9] = none := rfl
    simp only [mulA, orF, h0, repD, if_pos h]
  have a2 : opN [] lstD ρ = .ok (.lst [], 1) ρ := rfl
  have a5 : opN [.ex (mC (.bl true))] tupD ρ = .ok (.tup [.bl true], 0) ρ := tup1_ev ev_C
  have a6 : opN [.ex (mC (.int 0)), .ex (mC (.bl true))] tupD ρ = .ok (.tup [.int 0, .bl true], 0) ρ := tup2_ev ev_C ev_C
  have a7 : opN [.ex (mC (.int 9))] tupD ρ = .ok (.tup [.int 9], 0) ρ := tup1_ev ev_C
  have a8 : opN [.ex (opN [.ex (mC (.int 0)), .ex (mC (.int 1))] subD)] tupD ρ = .ok (.tup [.int (0 - 1)], 0) ρ := tup1_ev (ev_xx ev_C ev_C rfl)
  have a9 : opN [.ex (mC (.str "0"))] tupD ρ = .ok (.tup [.str "0"], 0) ρ := tup1_ev ev_C
  have a0 : opN [.ex (mC (.int 0))] tupD ρ = .ok (.tup [.int 0], 0) ρ := tup1_ev ev_C
  have a10 := ev_xx (f := mulA) a0 (ev_C (x := .int 9)) hm
  have a11 : opN [.ex (mC .non)] tupD ρ = .ok (.tup [.non], 0) ρ := tup1_ev ev_C
  have a12 := tup1_ev a0
  have a13 : opN [.ex (mC (.int 0))] lstD ρ = .ok (.lst [.int 0], 1) ρ := ev_x ev_C (by have h1 : [D.int 0].length ≤ sizeLine := ok_len (by simp); simp only [lstD, if_pos h1])
  have hz : od2.length ≤ sizeLine := ok_len (by simp [od2])
  unfold OD2
  generalize opN [.ex (mC (.int 0))] lstD = M13 at a13 ⊢
  generalize opN [.ex (opN [.ex (mC (.int 0))] tupD)] tupD = M12 at a12 ⊢
  generalize opN [.ex (mC .non)] tupD = M11 at a11 ⊢
  generalize opN [.ex (opN [.ex (mC (.int 0))] tupD), .ex (mC (.int 9))] mulA = M10 at a10 ⊢
  generalize opN [.ex (mC (.str "0"))] tupD = M9 at a9 ⊢
  generalize opN [.ex (opN [.ex (mC (.int 0)), .ex (mC (.int 1))] subD)] tupD = M8 at a8 ⊢
  generalize opN [.ex (mC (.int 9))] tupD = M7 at a7 ⊢
  generalize opN [.ex (mC (.int 0)), .ex (mC (.bl true))] tupD = M6 at a6 ⊢
  generalize opN [.ex (mC (.bl true))] tupD = M5 at a5 ⊢
  generalize opN [] lstD = M2 at a2 ⊢
  simp only [opN, evOs, evO, bindO, a2, a5, a6, a7, a8, a9, a10, a11, a12, a13, mC, lookOs, lookO, fin, lstD]
  rw [show [D.non, .lst [], .str "", .int 0, .tup [.bl true], .tup [.int 0, .bl true], .tup [.int 9], .tup [.int (0 - 1)], .tup [.str "0"], .tup (List.replicate (9 : Int).toNat [D.int 0]).flatten, .tup [.non], .tup [.tup [.int 0]], .lst [.int 0]] = od2 from rfl, if_pos hz]
theorem rep9 : (List.replicate (9 : Int).toNat [D.int 0]).flatten = List.replicate 9 (D.int 0) := rfl
theorem od2_ok : ∀ x ∈ od2, Ok x ∧ sz x < 50000 := by
  intro x hx
  simp only [od2, rep9, List.mem_cons, List.not_mem_nil, or_false] at hx
  rcases hx with rfl | rfl | rfl | rfl | rfl | rfl | rfl | rfl | rfl | rfl | rfl | rfl | rfl
  · exact ⟨.non, by decide⟩
  · exact ⟨.lst (fun _ h => nomatch h), by decide⟩
  · exact ⟨.str _, by decide⟩
  · exact ⟨.int _, by decide⟩
  · exact ⟨.tup (by simp; exact .bl _), by decide⟩
  · exact ⟨.tup (by simp; exact ⟨.int _, .bl _⟩), by decide⟩
  · exact ⟨.tup (by simp; exact .int _), by decide⟩
  · exact ⟨.tup (by simp; exact .int _), by decide⟩
  · exact ⟨.tup (by simp; exact .str _), by decide⟩
  · exact ⟨.tup (fun y hy => by rw [List.eq_of_mem_replicate hy]; exact .int _), by decide⟩
  · exact ⟨.tup (by simp; exact .non), by decide⟩
  · exact ⟨.tup (by simp; exact .tup (by simp; exact .int _)), by decide⟩
  · exact ⟨.lst (by simp; exact .int _), by decide⟩
theorem szs_path : ∀ p : List Nat, szs (intsP p) = p.length
  | [] => rfl
  | a :: p => by
    have := szs_path p
    simp only [intsP, List.map_cons, szs, sz, List.length_cons] at this ⊢
    omega
theorem his_path : ∀ p : List Nat, his (intsP p) = 0
  | [] => rfl
  | a :: p => by
    have := his_path p
    simp only [intsP, List.map_cons, his, hi] at this ⊢
    omega
theorem pc8 {F : MF} {d d' : D} {ds : D} {r : Val} {ρ : Rho} (e : F [(d, 1), (ds, 1)] = .ok r [some (d', 1), some (ds, 1)]) : mCall F [.nm 1, .nm 8] (X0 :: some (d, 1) :: X2 :: X3 :: X4 :: X5 :: X6 :: X7 :: some (ds, 1) :: ρ) = .ok r (X0 :: some (d', 1) :: X2 :: X3 :: X4 :: X5 :: X6 :: X7 :: some (ds, 1) :: ρ) := by
  simp only [mCall, evOs, evO, bindO, callF, takeOs, giveOs, List.getElem?_cons_succ, List.getElem?_cons_zero, List.set_cons_succ, List.set_cons_zero, e]
/-- the paths bent -/
theorem bentp_ok {t : T} (ht : t.nd ≤ 256) (htd : t.dp ≤ 4) {d : D} (hd : Pot d) : ∃ d' xs, Pot d' ∧ xs.length = 8 ∧ (∀ x ∈ xs, Ok x ∧ sz x < 50000) ∧ mLc (mRange rangeD1 [.ex (mC (.int 8))]) (.nm 10) (tY) (mCall (mf__law_bent 64) [.nm 1, .ex (mCall mf__law_pick [.nm 1, .nm 8])]) [10] [X0, some (d, 1), X2, X3, X4, X5, X6, X7, some (.lst ((pathsT t).map pathD), 1), X9, X10, X11, X12, X13, X14, X15] = .ok (.lst xs, 1) [X0, some (d', 1), X2, X3, X4, X5, X6, X7, some (.lst ((pathsT t).map pathD), 1), X9, none, X11, X12, X13, X14, X15] := by
  have pl := paths_len t
  have p1 := t.nd_pos
  let I : Rho → Prop := fun ρ => ∃ d, Pot d ∧ ρ = [X0, some (d, 1), X2, X3, X4, X5, X6, X7, some (.lst ((pathsT t).map pathD), 1), X9, none, X11, X12, X13, X14, X15]
  obtain ⟨xs, ρ', ec, ⟨d', hd', rfl⟩, hp⟩ := comp_rel (t := .nm 10) (m := mCall (mf__law_bent 64) [.nm 1, .ex (mCall mf__law_pick [.nm 1, .nm 8])]) (vs := [10]) (R := fun _ x => Ok x ∧ sz x < 50000) I (rngD 0 8) (fun q hq ρ ⟨d, hd, e⟩ => by
    subst e
    obtain ⟨y, d1, hd1, hy, e1⟩ := pick hd (items := (pathsT t).map pathD) (by simp; omega) (by simp; omega) 1 (.inr rfl)
    obtain ⟨p, hp, rfl⟩ := List.mem_map.mp hy
    have hpl := paths_dp t p hp
    have s1 : sz (pathD p) = p.length + 1 := by
      have := szs_path p
      simp only [pathD, sz]
      unfold intsP at this
      omega
    have s2 : hi (pathD p) = 1 := by
      have := his_path p
      simp only [pathD, hi]
      unfold intsP at this
      omega
    obtain ⟨r, d2, r1, r2, r3, hd2, e2⟩ := bent_ok 64 (pathD p) (ok_path p) (by omega) (by omega) d1 hd1
    have P1 := pc8 (X0 := X0) (X2 := X2) (X3 := X3) (X4 := X4) (X5 := X5) (X6 := X6) (X7 := X7) (ρ := [X9, some (q, 0), X11, X12, X13, X14, X15]) e1
    have P2 := pcx (X0 := X0) (d := d) (d1 := d1) (k := 0) (ρ := [X2, X3, X4, X5, X6, X7, some (.lst ((pathsT t).map pathD), 1), X9, some (q, 0), X11, X12, X13, X14, X15]) P1 e2
    exact ⟨_, _, _, rfl, P2, ⟨r1, by dsimp only; omega⟩, d2, hd2, rfl⟩) [] [X0, some (d, 1), X2, X3, X4, X5, X6, X7, some (.lst ((pathsT t).map pathD), 1), X9, none, X11, X12, X13, X14, X15] ⟨d, hd, rfl⟩ (by simp [rngD])
  rw [List.nil_append] at ec
  have R8 : mRange rangeD1 [.ex (mC (.int 8))] [X0, some (d, 1), X2, X3, X4, X5, X6, X7, some (.lst ((pathsT t).map pathD), 1), X9, X10, X11, X12, X13, X14, X15] = .ok (rngD 0 8) [X0, some (d, 1), X2, X3, X4, X5, X6, X7, some (.lst ((pathsT t).map pathD), 1), X9, X10, X11, X12, X13, X14, X15] := range_x (ev_C (x := .int 8)) (range_nat (k := 8) (by decide))
  refine ⟨d', xs, hd', by have := hp.length; simpa [rngD] using this.symm, ?_, lc_ev R8 ec⟩
  intro x hx
  clear ec R8
  generalize rngD 0 8 = ds at hp
  clear I
  induction hp with
  | nil => cases hx
  | cons r _ ih =>
    rcases List.mem_cons.mp hx with rfl | h
    · exact r
    · exact ih h
abbrev BREF : MS := sIf (mB (opN [.ex (mLc (mRange rangeD1 [.ex (mC (.int 2))]) (.nm 15) (mB (opN [.ex (mCall mf__law_refused [.nm 15, .nm 5, .nm 13]), .ex (mCall mf__law_is_path [.nm 5, .nm 13])] eqG)) (mN 15) [15]), .ex (opN [] lstD)] neG)) (sRet (mC (.bl false))) (sSkip)
theorem eq_bl (a : Bool) : eqG [.bl (!a), .bl a] = some (.bl false, 0) := by cases a <;> rfl
theorem ref_ok {t : T} (ht : t.nd ≤ 256) (htd : t.dp ≤ 4) {x : D} (hx : Ok x) (hs : sz x < 50000) : BREF [X0, X1, X2, X3, X4, some (t.d, 0), X6, X7, X8, X9, X10, X11, X12, some (x, 0), X14, X15] = .nx [X0, X1, X2, X3, X4, some (t.d, 0), X6, X7, X8, X9, X10, X11, X12, some (x, 0), X14, none] := by
  have F := comp_filter (t := .nm 15) (tt := mB (opN [.ex (mCall mf__law_refused [.nm 15, .nm 5, .nm 13]), .ex (mCall mf__law_is_path [.nm 5, .nm 13])] eqG)) (m := mN 15) (vs := [15]) [X0, X1, X2, X3, X4, some (t.d, 0), X6, X7, X8, X9, X10, X11, X12, some (x, 0), X14, none] (fun _ => false) (rngD 0 2) (fun q hq => by
    simp only [rngD, List.mem_map, List.mem_range] at hq
    obtain ⟨w, hw, rfl⟩ := hq
    have e0 : (0 + (w : Int)) = ((w : Nat) : Int) := by omega
    rw [e0]
    have a := call3_ev (i := 15) (j := 5) (l := 13) (ρ := [X0, X1, X2, X3, X4, some (t.d, 0), X6, X7, X8, X9, X10, X11, X12, some (x, 0), X14, some (.int (w : Nat), 0)]) rfl rfl rfl (refused_ok hx hs t (by omega) (by omega) w)
    have b := call2n_ev (i := 5) (j := 13) (ρ := [X0, X1, X2, X3, X4, some (t.d, 0), X6, X7, X8, X9, X10, X11, X12, some (x, 0), X14, some (.int (w : Nat), 0)]) rfl rfl (is_path_ok hx hs t (by omega) (by omega))
    exact ⟨_, _, rfl, ev_b (k := 0) (ev_xx a b (eq_bl _)), rfl, 0, _, rfl, rfl⟩) [] (by simp [rngD])
  have ff : (rngD 0 2).filter (fun _ => false) = [] := by simp
  rw [ff, List.nil_append] at F
  have R2 : mRange rangeD1 [.ex (mC (.int 2))] [X0, X1, X2, X3, X4, some (t.d, 0), X6, X7, X8, X9, X10, X11, X12, some (x, 0), X14, X15] = .ok (rngD 0 2) [X0, X1, X2, X3, X4, some (t.d, 0), X6, X7, X8, X9, X10, X11, X12, some (x, 0), X14, X15] := range_x (ev_C (x := .int 2)) (range_nat (k := 2) (by decide))
  exact ifs_f (ev_b (k := 0) (ev_xx (lc_ev R2 F) (n := opN [] lstD) (b := .lst []) (l := 1) rfl (ne_nil [])))
theorem refs_ok {t : T} (ht : t.nd ≤ 256) (htd : t.dp ≤ 4) {d : D} (hd : Pot d) : ∃ d' Y10 Y13 Y15, Pot d' ∧ sFor (.nm 13) (mIt (opN [.nm 14, .ex (mLc (mRange rangeD1 [.ex (mC (.int 8))]) (.nm 10) (tY) (mCall (mf__law_bent 64) [.nm 1, .ex (mCall mf__law_pick [.nm 1, .nm 8])]) [10])] addD)) BREF
    [X0, some (d, 1), X2, X3, X4, some (t.d, 0), X6, X7, some (.lst ((pathsT t).map pathD), 1), X9, X10, X11, X12, X13, some (.lst od2, 1), X15] = .nx [X0, some (d', 1), X2, X3, X4, some (t.d, 0), X6, X7, some (.lst ((pathsT t).map pathD), 1), X9, Y10, X11, X12, Y13, some (.lst od2, 1), Y15] := by
  obtain ⟨d', xs, hd', h8, hx, eb⟩ := bentp_ok (X0 := X0) (X2 := X2) (X3 := X3) (X4 := X4) (X5 := some (t.d, 0)) (X6 := X6) (X7 := X7) (X9 := X9) (X10 := X10) (X11 := X11) (X12 := X12) (X13 := X13) (X14 := some (.lst od2, 1)) (X15 := X15) ht htd hd
  have hz : od2.length + xs.length ≤ sizeLine := ok_len (by rw [h8]; simp [od2])
  have EI : mIt (opN [.nm 14, .ex (mLc (mRange rangeD1 [.ex (mC (.int 8))]) (.nm 10) (tY) (mCall (mf__law_bent 64) [.nm 1, .ex (mCall mf__law_pick [.nm 1, .nm 8])]) [10])] addD) [X0, some (d, 1), X2, X3, X4, some (t.d, 0), X6, X7, some (.lst ((pathsT t).map pathD), 1), X9, X10, X11, X12, X13, some (.lst od2, 1), X15] = .ok (od2 ++ xs) [X0, some (d', 1), X2, X3, X4, some (t.d, 0), X6, X7, some (.lst ((pathsT t).map pathD), 1), X9, none, X11, X12, X13, some (.lst od2, 1), X15] := by
    have ad : addD [.lst od2, .lst xs] = some (.lst (od2 ++ xs), 1) := by simp only [addD, if_pos hz]
    exact it_ev (ev_nx (i := 14) rfl eb rfl (Nat.le_refl _) ad) rfl
  let I : Nat → Rho → Prop := fun _ ρ => ∃ Y13 Y15, ρ = [X0, some (d', 1), X2, X3, X4, some (t.d, 0), X6, X7, some (.lst ((pathsT t).map pathD), 1), X9, none, X11, X12, Y13, some (.lst od2, 1), Y15]
  obtain ⟨ρ', e, Y13, Y15, rfl⟩ := forD_at (t := .nm 13) (body := BREF) I (od2 ++ xs) (fun j q hq ρ ⟨Y13, Y15, e⟩ => by
    subst e
    have hm : Ok q ∧ sz q < 50000 := by
      rcases List.mem_append.mp (List.mem_of_getElem? hq) with h | h
      · exact od2_ok q h
      · exact hx q h
    exact ⟨_, _, rfl, ref_ok ht htd hm.1 hm.2, _, none, rfl⟩) [X0, some (d', 1), X2, X3, X4, some (t.d, 0), X6, X7, some (.lst ((pathsT t).map pathD), 1), X9, none, X11, X12, X13, some (.lst od2, 1), X15] ⟨X13, X15, rfl⟩
  exact ⟨d', none, Y13, Y15, hd', (for_ev EI).trans e⟩
end
end K02
end
section
set_option Elab.async false
set_option linter.all false
set_option maxRecDepth 100000
set_option maxHeartbeats 4000000
namespace K02
open PySem L2 DL
abbrev BLAW : MS := sSeq (sAsg 3 (mCall mf__law_full_schema [.nm 1]))
  (sSeq (sAsg 4 (mCall mf__law_pick [.nm 1, .ex (opN [.nm 3] listA)]))
  (sSeq (sPar [5, 6] [mCall (mf__law_some_tree 64) [.nm 1, .nm 3, .nm 4, .ex (mC (.int 4))], mCall (mf__law_some_tree 64) [.nm 1, .nm 3, .nm 4, .ex (mC (.int 3))]])
  (sSeq (sPar [7, 8] [THE, mCall (mf__law_paths 64) [.nm 5]])
  (sSeq (sAsg 9 (opN [.ex (opN [.ex (mN 3), .ex (mN 5)] lstD)] reprD))
  (sSeq (sFor (.nm 10) (mRange rangeD1 [.ex (mC (.int 6))]) (sDrop (mMut 7 isLst [.ex (mCall (mf__law_bent 64) [.nm 1, .ex (mCall mf__law_pick [.nm 1, .ex (opN [.ex (mN 5), .ex (opN [.nm 7, .ex (opN [.ex (mC (.int 1))] negD)] atD)] lstD)])])] appD)))
  (sSeq (sFor (.nm 11) (mIt (mN 7)) (sForK (.nm 12) .keys 3 BONE))
  (sSeq (sIf (mOr (mB (opN [.ex (mCall mf_size_of [.nm 5]), .ex (mCall (mf__law_size 64) [.nm 5])] neG)) (mB (opN [.ex (mCall mf_paths [.nm 5]), .nm 8] neG))) (sRet (mC (.bl false))) (sSkip))
  (sSeq (sFor (.nm 13) (mIt (opN [.ex (opN [.nm 8, .ex (mInt (mC (.int 6)))] (slD false true)), .ex (opN [.nm 8, .ex (mInt (opN [.ex (mC (.int 4))] negD))] (slD true false))] addD)) (sIf (mOr (mB (opN [.ex (mCall mf_part_at [.nm 5, .nm 13]), .ex (mCall mf__law_at [.ex (mN 5), .nm 13])] neG)) (mB (opN [.ex (mCall mf_put_at [.nm 5, .nm 13, .nm 6]), .ex (mCall (mf__law_with 64) [.nm 5, .nm 13, .nm 6])] neG))) (sRet (mC (.bl false))) (sSkip)))
  (sSeq (sAsg 14 OD2)
  (sSeq (sFor (.nm 13) (mIt (opN [.nm 14, .ex (mLc (mRange rangeD1 [.ex (mC (.int 8))]) (.nm 10) (tY) (mCall (mf__law_bent 64) [.nm 1, .ex (mCall mf__law_pick [.nm 1, .nm 8])]) [10])] addD)) BREF)
  (sIf (mB (opN [.ex (opN [.ex (opN [.ex (mN 3), .ex (mN 5)] lstD)] reprD), .nm 9] neG)) (sRet (mC (.bl false))) (sSkip))))))))))))
section
variable {X0 X2 X3 X4 X5 X6 X7 X8 X9 X10 X11 X12 X13 X14 X15 : Option Val}
theorem turn_law {d : D} (hd : Pot d) : ∃ d' Y2 Y3 Y4 Y5 Y6 Y7 Y8 Y9 Y10 Y11 Y12 Y13 Y14 Y15, Pot d' ∧ BLAW [X0, some (d, 1), X2, X3, X4, X5, X6, X7, X8, X9, X10, X11, X12, X13, X14, X15] = .nx [X0, some (d', 1), Y2, Y3, Y4, Y5, Y6, Y7, Y8, Y9, Y10, Y11, Y12, Y13, Y14, Y15] := by
  obtain ⟨S, k, t, u, d1, g, hk, wt, htd, wu, hud, hd1, ed⟩ := draw_ok (X0 := X0) (X2 := X2) (X3 := X3) (X4 := X4) (X5 := X5) (X6 := X6) (X7 := X7) (X8 := X8) (X9 := X9) (X10 := X10) (X11 := X11) (X12 := X12) (X13 := X13) (X14 := X14) (X15 := X15) hd
  have ht : t.nd ≤ 256 := wf_nd g 4 wt htd
  have kt := wf_tok g wt
  have ku := wf_tok g wu
  obtain ⟨tg, ks⟩ := t
  obtain ⟨z, ez⟩ := repr_ok g kt (by omega) (by omega)
  obtain ⟨d2, ys, Y10, hd2, hy, h13, ef⟩ := bend_ok (X0 := X0) (X2 := X2) (X3 := some (schD S, 0)) (X4 := some (.str k, 0)) (X6 := some (u.d, 0)) (X8 := some (.lst ((pathsT (.node tg ks)).map pathD), 1)) (X9 := some (.str z, 0)) (X10 := X10) (X11 := X11) (X12 := X12) (X13 := X13) (X14 := X14) (X15 := X15) ht htd (th0_fit ht htd) (by simp [th0]) hd1
  obtain ⟨Y11, Y12, eg⟩ := things_ok (X0 := X0) (X1 := some (d2, 1)) (X2 := X2) (X4 := some (.str k, 0)) (X5 := some (T.d (.node tg ks), 0)) (X6 := some (u.d, 0)) (X8 := some (.lst ((pathsT (.node tg ks)).map pathD), 1)) (X9 := some (.str z, 0)) (X10 := Y10) (X11 := X11) (X12 := X12) (X13 := X13) (X14 := X14) (X15 := X15) g hy
  have eh := sizes_ok (X0 := X0) (X1 := some (d2, 1)) (X2 := X2) (X3 := some (schD S, 0)) (X4 := some (.str k, 0)) (X6 := some (u.d, 0)) (X7 := some (.lst ys, 0)) (X9 := some (.str z, 0)) (X10 := Y10) (X11 := Y11) (X12 := Y12) (X13 := X13) (X14 := X14) (X15 := X15) ht htd
  obtain ⟨Y13, ei⟩ := ats_ok (X0 := X0) (X1 := some (d2, 1)) (X2 := X2) (X3 := some (schD S, 0)) (X4 := some (.str k, 0)) (X7 := some (.lst ys, 0)) (X9 := some (.str z, 0)) (X10 := Y10) (X11 := Y11) (X12 := Y12) (X13 := X13) (X14 := X14) (X15 := X15) kt ku ht htd hud
  obtain ⟨d3, Z10, Z13, Z15, hd3, ek⟩ := refs_ok (X0 := X0) (X2 := X2) (X3 := some (schD S, 0)) (X4 := some (.str k, 0)) (X6 := some (u.d, 0)) (X7 := some (.lst ys, 0)) (X9 := some (.str z, 0)) (X10 := Y10) (X11 := Y11) (X12 := Y12) (X13 := Y13) (X15 := X15) ht htd hd2
  refine ⟨d3, X2, some (schD S, 0), some (.str k, 0), some (T.d (.node tg ks), 0), some (u.d, 0), some (.lst ys, 0), some (.lst ((pathsT (.node tg ks)).map pathD), 1), some (.str z, 0), Z10, Y11, Y12, Z13, some (.lst od2, 1), Z15, hd3, ?_⟩
  refine ed.trans ?_
  have E7 := par2_ev (i := 7) (j := 8) (th_ev (tg := tg) (ks := ks) (ρ := [X0, some (d1, 1), X2, some (schD S, 1), some (.str k, 0), some (T.d (.node tg ks), 0), some (u.d, 0), X7, X8, X9, X10, X11, X12, X13, X14, X15]) rfl) (call1_ev (i := 5) (ρ := [X0, some (d1, 1), X2, some (schD S, 1), some (.str k, 0), some (T.d (.node tg ks), 0), some (u.d, 0), X7, X8, X9, X10, X11, X12, X13, X14, X15]) rfl (law_paths_ok 64 (.node tg ks) (by omega) (by omega) (by omega))) (by simp) (by simp)
  refine (seq_nx E7).trans ?_
  have two : ∀ {l : Nat}, l ≤ 1 → ∀ {A D7 D8 D9 D10 D11 D12 D13 D14 D15 : Option Val} {da : D}, opN [.ex (opN [.ex (mN 3), .ex (mN 5)] lstD)] reprD [A, some (da, 1), X2, some (schD S, l), some (.str k, 0), some (T.d (.node tg ks), 0), some (u.d, 0), D7, D8, D9, D10, D11, D12, D13, D14, D15] = .ok (.str z, 0) [A, some (da, 1), X2, some (schD S, 0), some (.str k, 0), some (T.d (.node tg ks), 0), some (u.d, 0), D7, D8, D9, D10, D11, D12, D13, D14, D15] := fun {l} hl {A D7 D8 D9 D10 D11 D12 D13 D14 D15 da} => by
    have hz : [schD S, T.d (.node tg ks)].length ≤ sizeLine := two_le
    have m3 : mN 3 [A, some (da, 1), X2, some (schD S, l), some (.str k, 0), some (T.d (.node tg ks), 0), some (u.d, 0), D7, D8, D9, D10, D11, D12, D13, D14, D15] = .ok (schD S, 0) [A, some (da, 1), X2, some (schD S, 0), some (.str k, 0), some (T.d (.node tg ks), 0), some (u.d, 0), D7, D8, D9, D10, D11, D12, D13, D14, D15] := by
      rcases Nat.le_one_iff_eq_zero_or_eq_one.mp hl with rfl | rfl
      · exact ev_N rfl
      · rfl
    have ll : lstD [schD S, T.d (.node tg ks)] = some (.lst [schD S, T.d (.node tg ks)], 1) := by simp only [lstD, if_pos hz]
    exact ev_x (ev_xx m3 (ev_N (i := 5) rfl) ll) ez
  refine (seq_nx (asg_ev (two (l := 1) (Nat.le_refl _)) (by simp))).trans ?_
  have R6 : mRange rangeD1 [.ex (mC (.int 6))] [X0, some (d1, 1), X2, some (schD S, 0), some (.str k, 0), some (T.d (.node tg ks), 0), some (u.d, 0), some (.lst (th0 tg ks), 1), some (.lst ((pathsT (.node tg ks)).map pathD), 1), some (.str z, 0), X10, X11, X12, X13, X14, X15] = .ok (rngD 0 6) [X0, some (d1, 1), X2, some (schD S, 0), some (.str k, 0), some (T.d (.node tg ks), 0), some (u.d, 0), some (.lst (th0 tg ks), 1), some (.lst ((pathsT (.node tg ks)).map pathD), 1), some (.str z, 0), X10, X11, X12, X13, X14, X15] := range_x (ev_C (x := .int 6)) (range_nat (k := 6) (by decide))
  refine (seq_nx ((for_ev R6).trans ef)).trans ?_
  refine (seq_nx eg).trans ?_
  refine (seq_nx eh).trans ?_
  refine (seq_nx ei).trans ?_
  refine (seq_nx (asg_ev (i := 14) (od2_ev _) (by simp))).trans ?_
  refine (seq_nx ek).trans ?_
  exact ifs_f (ev_b (k := 0) (ev_xn (p := (.non, 0)) (two (l := 0) (Nat.zero_le _)) (j := 9) rfl (Nat.zero_le _) (ne_str z)))
end
theorem law_ok (ns : List Int) : ∃ ρ, mf_law [(.lst (ns.map D.int), 0)] = .ok (.bl true, 0) ρ := by
  obtain ⟨ms, ep⟩ := pot_ok ns
  generalize ns.map D.int = sc at ep ⊢
  let I : Rho → Prop := fun ρ => ∃ d Y2 Y3 Y4 Y5 Y6 Y7 Y8 Y9 Y10 Y11 Y12 Y13 Y14 Y15, Pot d ∧ ρ = [some (.lst sc, 0), some (d, 1), Y2, Y3, Y4, Y5, Y6, Y7, Y8, Y9, Y10, Y11, Y12, Y13, Y14, Y15]
  obtain ⟨ρ', e, d, Y2, Y3, Y4, Y5, Y6, Y7, Y8, Y9, Y10, Y11, Y12, Y13, Y14, Y15, hd, rfl⟩ := forD_inv (t := .nm 2) (body := BLAW) I (rngD 0 7) (fun q hq ρ ⟨d, Y2, Y3, Y4, Y5, Y6, Y7, Y8, Y9, Y10, Y11, Y12, Y13, Y14, Y15, hd, e⟩ => by
    subst e
    obtain ⟨d', Z2, Z3, Z4, Z5, Z6, Z7, Z8, Z9, Z10, Z11, Z12, Z13, Z14, Z15, hd', et⟩ := turn_law (X0 := some (.lst sc, 0)) (X2 := some (q, 0)) (X3 := Y3) (X4 := Y4) (X5 := Y5) (X6 := Y6) (X7 := Y7) (X8 := Y8) (X9 := Y9) (X10 := Y10) (X11 := Y11) (X12 := Y12) (X13 := Y13) (X14 := Y14) (X15 := Y15) hd
    exact ⟨_, _, rfl, et, d', Z2, Z3, Z4, Z5, Z6, Z7, Z8, Z9, Z10, Z11, Z12, Z13, Z14, Z15, hd', rfl⟩) [some (.lst sc, 0), some (potD (ms.map D.int) 0 0 0, 1), none, none, none, none, none, none, none, none, none, none, none, none, none, none] ⟨_, none, none, none, none, none, none, none, none, none, none, none, none, none, none, ⟨ms, 0, 0, 0, rfl⟩, rfl⟩
  have E1 := asg_ev (i := 1) (call1_ev (i := 0) (ρ := [some (.lst sc, 0), none, none, none, none, none, none, none, none, none, none, none, none, none, none, none]) rfl ep) (by simp)
  have R7 : mRange rangeD1 [.ex (mC (.int 7))] [some (.lst sc, 0), some (potD (ms.map D.int) 0 0 0, 1), none, none, none, none, none, none, none, none, none, none, none, none, none, none] = .ok (rngD 0 7) [some (.lst sc, 0), some (potD (ms.map D.int) 0 0 0, 1), none, none, none, none, none, none, none, none, none, none, none, none, none, none] := range_x (ev_C (x := .int 7)) (range_nat (k := 7) (by decide))
  refine ⟨[some (.lst sc, 0)], ?_⟩
  have EB : ms_law [some (.lst sc, 0), none, none, none, none, none, none, none, none, none, none, none, none, none, none, none] = .rt (.bl true, 0) [some (.lst sc, 0), some (d, 1), Y2, Y3, Y4, Y5, Y6, Y7, Y8, Y9, Y10, Y11, Y12, Y13, Y14, Y15] := by
    unfold ms_law
    exact (seq_nx E1).trans ((seq_nx ((for_ev R7).trans e)).trans rfl)
  unfold mf_law runD
  rw [show ([(.lst sc, 0)] : List Val).map some ++ List.replicate (16 - 1) none = [some (.lst sc, 0), none, none, none, none, none, none, none, none, none, none, none, none, none, none, none] from rfl, EB]
  rfl
end K02
end
section
set_option Elab.async false
set_option linter.all false
set_option maxRecDepth 100000
set_option maxHeartbeats 0
namespace K02
open PySem PySem.Spec PyProof.Rows L2 DL He HX
abbrev PW : Program := PySem.Challenge.pw_treelaws_k02_trees_and_paths
def fa : List Fa := [.glo "NoPath", .exc "NoPath", .exm "NoPath" "NoPath" true, .glo "is_integer", .glo "_children_at", .glo "is_tree", .glo "parts_of", .glo "size_of", .glo "paths", .glo "_parts_along", .glo "part_at", .glo "put_at", .glo "_law_kneaded", .glo "_law_pot_of", .glo "_law_below", .glo "_law_pick", .glo "_law_same", .glo "_law_full_schema", .glo "_law_some_tree", .glo "_law_bent", .glo "_law_is_tree", .glo "_law_size", .glo "_law_paths", .glo "_law_at", .glo "_law_with", .glo "_law_is_path", .glo "_law_refused", .glo "law", .free "abs", .free "bool", .free "dict", .free "enumerate", .free "int", .free "isinstance", .free "len", .free "list", .free "range", .free "repr", .free "reversed", .free "str", .free "sum", .free "tuple", .free "zip"]
def d_is_integer : DefD := ⟨("is_integer", none), "is_integer", "is_integer", defArgs (top 4), defBody (top 4), defScope (top 4), [], []⟩
def d__children_at : DefD := ⟨("_children_at", none), "_children_at", "_children_at", defArgs (top 7), defBody (top 7), defScope (top 7), [], []⟩
def d_is_tree : DefD := ⟨("is_tree", none), "is_tree", "is_tree", defArgs (top 6), defBody (top 6), defScope (top 6), [], []⟩
def d_parts_of : DefD := ⟨("parts_of", none), "parts_of", "parts_of", defArgs (top 9), defBody (top 9), defScope (top 9), [], []⟩
def d_size_of : DefD := ⟨("size_of", none), "size_of", "size_of", defArgs (top 8), defBody (top 8), defScope (top 8), [], []⟩
def d_paths : DefD := ⟨("paths", none), "paths", "paths", defArgs (top 10), defBody (top 10), defScope (top 10), [], []⟩
def d__parts_along : DefD := ⟨("_parts_along", none), "_parts_along", "_parts_along", defArgs (top 13), defBody (top 13), defScope (top 13), [], []⟩
def d_part_at : DefD := ⟨("part_at", none), "part_at", "part_at", defArgs (top 11), defBody (top 11), defScope (top 11), [], []⟩
def d_put_at : DefD := ⟨("put_at", none), "put_at", "put_at", defArgs (top 12), defBody (top 12), defScope (top 12), [], []⟩
def d__law_kneaded : DefD := ⟨("_law_kneaded", none), "_law_kneaded", "_law_kneaded", defArgs (top 15), defBody (top 15), defScope (top 15), [], []⟩
def d__law_pot_of : DefD := ⟨("_law_pot_of", none), "_law_pot_of", "_law_pot_of", defArgs (top 16), defBody (top 16), defScope (top 16), [], []⟩
def d__law_below : DefD := ⟨("_law_below", none), "_law_below", "_law_below", defArgs (top 17), defBody (top 17), defScope (top 17), [], []⟩
def d__law_pick : DefD := ⟨("_law_pick", none), "_law_pick", "_law_pick", defArgs (top 18), defBody (top 18), defScope (top 18), [], []⟩
def d__law_same : DefD := ⟨("_law_same", none), "_law_same", "_law_same", defArgs (top 19), defBody (top 19), defScope (top 19), [], []⟩
def d__law_full_schema : DefD := ⟨("_law_full_schema", none), "_law_full_schema", "_law_full_schema", defArgs (top 20), defBody (top 20), defScope (top 20), [], []⟩
def d__law_some_tree : DefD := ⟨("_law_some_tree", none), "_law_some_tree", "_law_some_tree", defArgs (top 21), defBody (top 21), defScope (top 21), [], []⟩
def d__law_bent : DefD := ⟨("_law_bent", none), "_law_bent", "_law_bent", defArgs (top 22), defBody (top 22), defScope (top 22), [], []⟩
def d__law_is_tree : DefD := ⟨("_law_is_tree", none), "_law_is_tree", "_law_is_tree", defArgs (top 23), defBody (top 23), defScope (top 23), [], []⟩
def d__law_size : DefD := ⟨("_law_size", none), "_law_size", "_law_size", defArgs (top 24), defBody (top 24), defScope (top 24), [], []⟩
def d__law_paths : DefD := ⟨("_law_paths", none), "_law_paths", "_law_paths", defArgs (top 25), defBody (top 25), defScope (top 25), [], []⟩
def d__law_at : DefD := ⟨("_law_at", none), "_law_at", "_law_at", defArgs (top 26), defBody (top 26), defScope (top 26), [], []⟩
def d__law_with : DefD := ⟨("_law_with", none), "_law_with", "_law_with", defArgs (top 27), defBody (top 27), defScope (top 27), [], []⟩
def d__law_is_path : DefD := ⟨("_law_is_path", none), "_law_is_path", "_law_is_path", defArgs (top 28), defBody (top 28), defScope (top 28), [], []⟩
def d__law_refused : DefD := ⟨("_law_refused", none), "_law_refused", "_law_refused", defArgs (top 29), defBody (top 29), defScope (top 29), [], []⟩
def d_law : DefD := ⟨("law", none), "law", "law", defArgs (top 30), defBody (top 30), defScope (top 30), [], []⟩
def fn : List DefD := [d_is_integer, d__children_at, d_is_tree, d_parts_of, d_size_of, d_paths, d__parts_along, d_part_at, d_put_at, d__law_kneaded, d__law_pot_of, d__law_below, d__law_pick, d__law_same, d__law_full_schema, d__law_some_tree, d__law_bent, d__law_is_tree, d__law_size, d__law_paths, d__law_at, d__law_with, d__law_is_path, d__law_refused, d_law]
def zs : List ZD := []
def ck (K : PySem.W.Frag) : Bool := true
abbrev Says (K : PySem.W.Frag) : Prop := SaysZ PW fa fn zs ck K
section
variable {K : PySem.W.Frag} {h : Heap} {mg : Str → Option Value}
noncomputable def bg (X : K.In h) (G : h.Ns mainGlobals mg) (c : Says K) : Bg K mg :=
  { a_is_integer := fAd K d_is_integer.at_
    d_is_integer := (c.def_ 0 (d := d_is_integer) rfl).choose
    f_is_integer := fun_of (c.def_ 0 (d := d_is_integer) rfl).choose_spec
    g_is_integer := glo_ok X G (c.fact 3 (f := .glo "is_integer") rfl)
    n_is_integer := FunD.bindsN (ps := ["thing"]) (c.def_ 0 (d := d_is_integer) rfl).choose_spec fun _ _ _ _ _ _ us hl => match us, hl with | [_], _ => rfl
    a__children_at := fAd K d__children_at.at_
    d__children_at := (c.def_ 1 (d := d__children_at) rfl).choose
    f__children_at := fun_of (c.def_ 1 (d := d__children_at) rfl).choose_spec
    g__children_at := glo_ok X G (c.fact 4 (f := .glo "_children_at") rfl)
    n__children_at := FunD.bindsN (ps := ["variants", "thing"]) (c.def_ 1 (d := d__children_at) rfl).choose_spec fun _ _ _ _ _ _ us hl => match us, hl with | [_, _], _ => rfl
    a_is_tree := fAd K d_is_tree.at_
    d_is_tree := (c.def_ 2 (d := d_is_tree) rfl).choose
    f_is_tree := fun_of (c.def_ 2 (d := d_is_tree) rfl).choose_spec
    g_is_tree := glo_ok X G (c.fact 5 (f := .glo "is_tree") rfl)
    n_is_tree := FunD.bindsN (ps := ["schema", "kind", "thing"]) (c.def_ 2 (d := d_is_tree) rfl).choose_spec fun _ _ _ _ _ _ us hl => match us, hl with | [_, _, _], _ => rfl
    a_parts_of := fAd K d_parts_of.at_
    d_parts_of := (c.def_ 3 (d := d_parts_of) rfl).choose
    f_parts_of := fun_of (c.def_ 3 (d := d_parts_of) rfl).choose_spec
    g_parts_of := glo_ok X G (c.fact 6 (f := .glo "parts_of") rfl)
    n_parts_of := FunD.bindsN (ps := ["tree"]) (c.def_ 3 (d := d_parts_of) rfl).choose_spec fun _ _ _ _ _ _ us hl => match us, hl with | [_], _ => rfl
    a_size_of := fAd K d_size_of.at_
    d_size_of := (c.def_ 4 (d := d_size_of) rfl).choose
    f_size_of := fun_of (c.def_ 4 (d := d_size_of) rfl).choose_spec
    g_size_of := glo_ok X G (c.fact 7 (f := .glo "size_of") rfl)
    n_size_of := FunD.bindsN (ps := ["tree"]) (c.def_ 4 (d := d_size_of) rfl).choose_spec fun _ _ _ _ _ _ us hl => match us, hl with | [_], _ => rfl
    a_paths := fAd K d_paths.at_
    d_paths := (c.def_ 5 (d := d_paths) rfl).choose
    f_paths := fun_of (c.def_ 5 (d := d_paths) rfl).choose_spec
    g_paths := glo_ok X G (c.fact 8 (f := .glo "paths") rfl)
    n_paths := FunD.bindsN (ps := ["tree"]) (c.def_ 5 (d := d_paths) rfl).choose_spec fun _ _ _ _ _ _ us hl => match us, hl with | [_], _ => rfl
    a__parts_along := fAd K d__parts_along.at_
    d__parts_along := (c.def_ 6 (d := d__parts_along) rfl).choose
    f__parts_along := fun_of (c.def_ 6 (d := d__parts_along) rfl).choose_spec
    g__parts_along := glo_ok X G (c.fact 9 (f := .glo "_parts_along") rfl)
    n__parts_along := FunD.bindsN (ps := ["tree", "thing"]) (c.def_ 6 (d := d__parts_along) rfl).choose_spec fun _ _ _ _ _ _ us hl => match us, hl with | [_, _], _ => rfl
    a_part_at := fAd K d_part_at.at_
    d_part_at := (c.def_ 7 (d := d_part_at) rfl).choose
    f_part_at := fun_of (c.def_ 7 (d := d_part_at) rfl).choose_spec
    g_part_at := glo_ok X G (c.fact 10 (f := .glo "part_at") rfl)
    n_part_at := FunD.bindsN (ps := ["tree", "path"]) (c.def_ 7 (d := d_part_at) rfl).choose_spec fun _ _ _ _ _ _ us hl => match us, hl with | [_, _], _ => rfl
    a_put_at := fAd K d_put_at.at_
    d_put_at := (c.def_ 8 (d := d_put_at) rfl).choose
    f_put_at := fun_of (c.def_ 8 (d := d_put_at) rfl).choose_spec
    g_put_at := glo_ok X G (c.fact 11 (f := .glo "put_at") rfl)
    n_put_at := FunD.bindsN (ps := ["tree", "path", "part"]) (c.def_ 8 (d := d_put_at) rfl).choose_spec fun _ _ _ _ _ _ us hl => match us, hl with | [_, _, _], _ => rfl
    a__law_kneaded := fAd K d__law_kneaded.at_
    d__law_kneaded := (c.def_ 9 (d := d__law_kneaded) rfl).choose
    f__law_kneaded := fun_of (c.def_ 9 (d := d__law_kneaded) rfl).choose_spec
    g__law_kneaded := glo_ok X G (c.fact 12 (f := .glo "_law_kneaded") rfl)
    n__law_kneaded := FunD.bindsN (ps := ["seed", "lap"]) (c.def_ 9 (d := d__law_kneaded) rfl).choose_spec fun _ _ _ _ _ _ us hl => match us, hl with | [_, _], _ => rfl
    a__law_pot_of := fAd K d__law_pot_of.at_
    d__law_pot_of := (c.def_ 10 (d := d__law_pot_of) rfl).choose
    f__law_pot_of := fun_of (c.def_ 10 (d := d__law_pot_of) rfl).choose_spec
    g__law_pot_of := glo_ok X G (c.fact 13 (f := .glo "_law_pot_of") rfl)
    n__law_pot_of := FunD.bindsN (ps := ["script"]) (c.def_ 10 (d := d__law_pot_of) rfl).choose_spec fun _ _ _ _ _ _ us hl => match us, hl with | [_], _ => rfl
    a__law_below := fAd K d__law_below.at_
    d__law_below := (c.def_ 11 (d := d__law_below) rfl).choose
    f__law_below := fun_of (c.def_ 11 (d := d__law_below) rfl).choose_spec
    g__law_below := glo_ok X G (c.fact 14 (f := .glo "_law_below") rfl)
    n__law_below := FunD.bindsN (ps := ["pot", "bound"]) (c.def_ 11 (d := d__law_below) rfl).choose_spec fun _ _ _ _ _ _ us hl => match us, hl with | [_, _], _ => rfl
    a__law_pick := fAd K d__law_pick.at_
    d__law_pick := (c.def_ 12 (d := d__law_pick) rfl).choose
    f__law_pick := fun_of (c.def_ 12 (d := d__law_pick) rfl).choose_spec
    g__law_pick := glo_ok X G (c.fact 15 (f := .glo "_law_pick") rfl)
    n__law_pick := FunD.bindsN (ps := ["pot", "items"]) (c.def_ 12 (d := d__law_pick) rfl).choose_spec fun _ _ _ _ _ _ us hl => match us, hl with | [_, _], _ => rfl
    a__law_same := fAd K d__law_same.at_
    d__law_same := (c.def_ 13 (d := d__law_same) rfl).choose
    f__law_same := fun_of (c.def_ 13 (d := d__law_same) rfl).choose_spec
    g__law_same := glo_ok X G (c.fact 16 (f := .glo "_law_same") rfl)
    n__law_same := FunD.bindsN (ps := ["one", "other"]) (c.def_ 13 (d := d__law_same) rfl).choose_spec fun _ _ _ _ _ _ us hl => match us, hl with | [_, _], _ => rfl
    a__law_full_schema := fAd K d__law_full_schema.at_
    d__law_full_schema := (c.def_ 14 (d := d__law_full_schema) rfl).choose
    f__law_full_schema := fun_of (c.def_ 14 (d := d__law_full_schema) rfl).choose_spec
    g__law_full_schema := glo_ok X G (c.fact 17 (f := .glo "_law_full_schema") rfl)
    n__law_full_schema := FunD.bindsN (ps := ["pot"]) (c.def_ 14 (d := d__law_full_schema) rfl).choose_spec fun _ _ _ _ _ _ us hl => match us, hl with | [_], _ => rfl
    a__law_some_tree := fAd K d__law_some_tree.at_
    d__law_some_tree := (c.def_ 15 (d := d__law_some_tree) rfl).choose
    f__law_some_tree := fun_of (c.def_ 15 (d := d__law_some_tree) rfl).choose_spec
    g__law_some_tree := glo_ok X G (c.fact 18 (f := .glo "_law_some_tree") rfl)
    n__law_some_tree := FunD.bindsN (ps := ["pot", "schema", "kind", "deep"]) (c.def_ 15 (d := d__law_some_tree) rfl).choose_spec fun _ _ _ _ _ _ us hl => match us, hl with | [_, _, _, _], _ => rfl
    a__law_bent := fAd K d__law_bent.at_
    d__law_bent := (c.def_ 16 (d := d__law_bent) rfl).choose
    f__law_bent := fun_of (c.def_ 16 (d := d__law_bent) rfl).choose_spec
    g__law_bent := glo_ok X G (c.fact 19 (f := .glo "_law_bent") rfl)
    n__law_bent := FunD.bindsN (ps := ["pot", "thing"]) (c.def_ 16 (d := d__law_bent) rfl).choose_spec fun _ _ _ _ _ _ us hl => match us, hl with | [_, _], _ => rfl
    a__law_is_tree := fAd K d__law_is_tree.at_
    d__law_is_tree := (c.def_ 17 (d := d__law_is_tree) rfl).choose
    f__law_is_tree := fun_of (c.def_ 17 (d := d__law_is_tree) rfl).choose_spec
    g__law_is_tree := glo_ok X G (c.fact 20 (f := .glo "_law_is_tree") rfl)
    n__law_is_tree := FunD.bindsN (ps := ["schema", "kind", "thing"]) (c.def_ 17 (d := d__law_is_tree) rfl).choose_spec fun _ _ _ _ _ _ us hl => match us, hl with | [_, _, _], _ => rfl
    a__law_size := fAd K d__law_size.at_
    d__law_size := (c.def_ 18 (d := d__law_size) rfl).choose
    f__law_size := fun_of (c.def_ 18 (d := d__law_size) rfl).choose_spec
    g__law_size := glo_ok X G (c.fact 21 (f := .glo "_law_size") rfl)
    n__law_size := FunD.bindsN (ps := ["tree"]) (c.def_ 18 (d := d__law_size) rfl).choose_spec fun _ _ _ _ _ _ us hl => match us, hl with | [_], _ => rfl
    a__law_paths := fAd K d__law_paths.at_
    d__law_paths := (c.def_ 19 (d := d__law_paths) rfl).choose
    f__law_paths := fun_of (c.def_ 19 (d := d__law_paths) rfl).choose_spec
    g__law_paths := glo_ok X G (c.fact 22 (f := .glo "_law_paths") rfl)
    n__law_paths := FunD.bindsN (ps := ["tree"]) (c.def_ 19 (d := d__law_paths) rfl).choose_spec fun _ _ _ _ _ _ us hl => match us, hl with | [_], _ => rfl
    a__law_at := fAd K d__law_at.at_
    d__law_at := (c.def_ 20 (d := d__law_at) rfl).choose
    f__law_at := fun_of (c.def_ 20 (d := d__law_at) rfl).choose_spec
    g__law_at := glo_ok X G (c.fact 23 (f := .glo "_law_at") rfl)
    n__law_at := FunD.bindsN (ps := ["tree", "path"]) (c.def_ 20 (d := d__law_at) rfl).choose_spec fun _ _ _ _ _ _ us hl => match us, hl with | [_, _], _ => rfl
    a__law_with := fAd K d__law_with.at_
    d__law_with := (c.def_ 21 (d := d__law_with) rfl).choose
    f__law_with := fun_of (c.def_ 21 (d := d__law_with) rfl).choose_spec
    g__law_with := glo_ok X G (c.fact 24 (f := .glo "_law_with") rfl)
    n__law_with := FunD.bindsN (ps := ["tree", "path", "part"]) (c.def_ 21 (d := d__law_with) rfl).choose_spec fun _ _ _ _ _ _ us hl => match us, hl with | [_, _, _], _ => rfl
    a__law_is_path := fAd K d__law_is_path.at_
    d__law_is_path := (c.def_ 22 (d := d__law_is_path) rfl).choose
    f__law_is_path := fun_of (c.def_ 22 (d := d__law_is_path) rfl).choose_spec
    g__law_is_path := glo_ok X G (c.fact 25 (f := .glo "_law_is_path") rfl)
    n__law_is_path := FunD.bindsN (ps := ["tree", "thing"]) (c.def_ 22 (d := d__law_is_path) rfl).choose_spec fun _ _ _ _ _ _ us hl => match us, hl with | [_, _], _ => rfl
    a__law_refused := fAd K d__law_refused.at_
    d__law_refused := (c.def_ 23 (d := d__law_refused) rfl).choose
    f__law_refused := fun_of (c.def_ 23 (d := d__law_refused) rfl).choose_spec
    g__law_refused := glo_ok X G (c.fact 26 (f := .glo "_law_refused") rfl)
    n__law_refused := FunD.bindsN (ps := ["way", "tree", "path"]) (c.def_ 23 (d := d__law_refused) rfl).choose_spec fun _ _ _ _ _ _ us hl => match us, hl with | [_, _, _], _ => rfl
    a_law := fAd K d_law.at_
    d_law := (c.def_ 24 (d := d_law) rfl).choose
    f_law := fun_of (c.def_ 24 (d := d_law) rfl).choose_spec
    g_law := glo_ok X G (c.fact 27 (f := .glo "law") rfl)
    n_law := FunD.bindsN (ps := ["script"]) (c.def_ 24 (d := d_law) rfl).choose_spec fun _ _ _ _ _ _ us hl => match us, hl with | [_], _ => rfl
    a_NoPath := ga K "NoPath"
    g_NoPath := glo_ok X G (c.fact 0 (f := .glo "NoPath") rfl)
    x_NoPath := (exc_ok (x := "NoPath") (c.fact 1 (f := .exc "NoPath") rfl)).1
    k_NoPath := (exc_ok (x := "NoPath") (c.fact 1 (f := .exc "NoPath") rfl)).2.1
    u_NoPath := (exc_ok (x := "NoPath") (c.fact 1 (f := .exc "NoPath") rfl)).2.2.1
    v_NoPath := (exc_ok (x := "NoPath") (c.fact 1 (f := .exc "NoPath") rfl)).2.2.2
    h_NoPath := fun x b hb A hA => by
      unfold hs_NoPath at hb
      split at hb
      · rename_i hx
        cases hb
        subst hx
        have e := (glo_ok X G (c.fact 0 (f := .glo "NoPath") rfl)).symm.trans hA
        cases e
        exact exm_ok (c.fact 2 (f := .exm "NoPath" "NoPath" true) rfl)
      · cases hb
    b_abs := free_ok X G (c.fact 28 (f := .free "abs") rfl)
    b_bool := free_ok X G (c.fact 29 (f := .free "bool") rfl)
    b_dict := free_ok X G (c.fact 30 (f := .free "dict") rfl)
    b_enumerate := free_ok X G (c.fact 31 (f := .free "enumerate") rfl)
    b_int := free_ok X G (c.fact 32 (f := .free "int") rfl)
    b_isinstance := free_ok X G (c.fact 33 (f := .free "isinstance") rfl)
    b_len := free_ok X G (c.fact 34 (f := .free "len") rfl)
    b_list := free_ok X G (c.fact 35 (f := .free "list") rfl)
    b_range := free_ok X G (c.fact 36 (f := .free "range") rfl)
    b_repr := free_ok X G (c.fact 37 (f := .free "repr") rfl)
    b_reversed := free_ok X G (c.fact 38 (f := .free "reversed") rfl)
    b_str := free_ok X G (c.fact 39 (f := .free "str") rfl)
    b_sum := free_ok X G (c.fact 40 (f := .free "sum") rfl)
    b_tuple := free_ok X G (c.fact 41 (f := .free "tuple") rfl)
    b_zip := free_ok X G (c.fact 42 (f := .free "zip") rfl) }
theorem facts {w : World} {f : Addr} (X : K.In h) (G : h.Ns mainGlobals mg) (hfa : mg ("law" : Str) = some (.ref f)) (c : Says K) :
    ∃ fd : FuncData, (∀ (s : Shared) (v : Value), BindsTo s fd ⟨[v], []⟩ [("script", v)]) ∧ ∀ base : Heap, K.In base → base.Ns mainGlobals mg → FnG PW w K mg base 69 f fd ["script"] (SpD ⟨K, mg⟩ 1 mf_law) := by
  have F := (c.def_ 24 (d := d_law) rfl).choose_spec
  have e := hfa.symm.trans (bg X G c).g_law
  cases e
  have b := FunD.bindsA (ps := ["script"]) F fun _ _ _ _ _ _ us hl => match us, hl with | [_], _ => rfl
  exact ⟨_, fun s v => b s [v] rfl, fun base _ _ => ok_law (bg X G c)⟩
end
abbrev R : PySem.W.OpenRow := PySem.W.OpenLaw.row PySem.Challenge.rw_treelaws_k02_trees_and_paths
abbrev hk : PySem.W.Hook := hookZ PW 6 fa fn zs ck
def ob (s : PySem.W.SharedT) : AlZ := obsZG PW 6 fa fn zs ck (HandSHeadRun.getT s)
theorem ob_eq (s : PySem.W.SharedT) : ob s = hk.obs s.abs := obsZG_eq (HandSHeadRun.getT_eq s)
end K02
end
section
set_option Elab.async false
set_option linter.all false
set_option maxRecDepth 100000
set_option maxHeartbeats 0
namespace K02
open PySem PySem.Spec PyProof.Rows L2 DL He HX
theorem run (w : World) : HandSHeadRun.RunEq R (PySem.W.view R.prog [30]) hk ob 12000 ["TreeError", "NoPath", "is_integer", "_children_at", "is_tree", "parts_of", "size_of", "paths", "_parts_along", "part_at", "put_at", "_law_kneaded", "_law_pot_of", "_law_below", "_law_pick", "_law_same", "_law_full_schema", "_law_some_tree", "_law_bent", "_law_is_tree", "_law_size", "_law_paths", "_law_at", "_law_with", "_law_is_path", "_law_refused"] w := by
  intro os
  kernel_rfl
end K02
end
section
set_option Elab.async false
set_option linter.all false
set_option maxRecDepth 100000
set_option maxHeartbeats 0
namespace K02
open PySem PySem.Spec PyProof.Rows L2 DL He HX
/-- the law's promise, by what its mirror tells -/
theorem law_call {K : PySem.W.Frag} (mg : Str → Option Value) {H : Hp} {a : Addr} {ns : List Int} (on : Only H) (hS : Rd H a (.lst (ns.map V.int))) : SpD ⟨K, mg⟩ 1 mf_law [.ref a] H (fun v _ => v = .bl true) fun _ _ _ => False := by
  obtain ⟨ρ, e⟩ := law_ok ns
  have fr : ∀ (Kn : Hp), Rd Kn a (.lst (ns.map V.int)) → Fr ⟨K, mg⟩ Kn (.lst (ns.map D.int)) (.ref a) := fun Kn r => .lst r (Frs.of_get (by simp) fun i d q => by
    rw [List.getElem?_map] at q
    cases z : ns[i]? with
    | none => rw [z] at q; cases q
    | some n =>
      rw [z] at q
      cases q
      exact ⟨.int n, by rw [List.getElem?_map, z]; rfl, .int n⟩)
  let Kn : Hp := fun b => if b = a then some (.lst (ns.map V.int)) else none
  have k1 : Kn a = some (.lst (ns.map V.int)) := if_pos rfl
  have le : Le Kn H := ⟨fun b u r => by
    by_cases hb : b = a
    · subst hb
      rcases r with r | ⟨o, r⟩
      · rw [k1] at r; cases r; exact hS
      · rw [k1] at r; cases r
    · have n : Kn b = none := if_neg hb
      rcases r with r | ⟨o, r⟩ <;> (rw [n] at r; cases r), fun b vs r => by
    by_cases hb : b = a
    · subst hb
      rw [k1] at r; cases r
    · have n : Kn b = none := if_neg hb
      rw [n] at r; cases r⟩
  have pl : Plain Kn := fun b o u z => by
    by_cases hb : b = a
    · subst hb
      rw [k1] at z; cases z
    · have n : Kn b = none := if_neg hb
      rw [n] at z; cases z
  refine ⟨rfl, Kn, [(.lst (ns.map D.int), 0)], _, (SI.nil (G := ⟨K, mg⟩) le pl).cons (k := 0) (L := No) ⟨fr Kn (.inl k1), fun _ z => z⟩ (fun _ z => z.elim) (fun _ z => z.elim), ?_⟩
  rw [e]
  exact fun Kn' H' Lf' v M S w s k t => by
    have w : Ow ⟨K, mg⟩ Kn' H' 0 (.bl true) v M := w
    have := w.1
    cases this
    rfl
end K02
end
set_option Elab.async false
set_option linter.all false
set_option maxRecDepth 100000
set_option maxHeartbeats 0
open PySem PySem.W PySem.Calls PyProof.Rows
theorem PySem.Challenge.cw_treelaws_k02_trees_and_paths_holds : PySem.Challenge.rw_treelaws_k02_trees_and_paths.Holds := by
  w_on; o_law
  refine HandSHeadRun.head_any (r := K02.R) (q := view K02.R.prog [30]) (H := K02.hk) (ob := K02.ob) (M := 12000) (loose := ["TreeError", "NoPath", "is_integer", "_children_at", "is_tree", "parts_of", "size_of", "paths", "_parts_along", "part_at", "put_at", "_law_kneaded", "_law_pot_of", "_law_below", "_law_pick", "_law_same", "_law_full_schema", "_law_some_tree", "_law_bent", "_law_is_tree", "_law_size", "_law_paths", "_law_at", "_law_with", "_law_is_path", "_law_refused"]) (d := HandSHeadRun.topDef K02.R.prog 30) (kwd := []) K02.ob_eq
    (by kernel_rfl) (fun s => by kernel_rfl) K02.run (by kernel_rfl) (by kernel_rfl) (by kernel_rfl) (by rfl) (by first | assumption | decide +kernel) (by decide +kernel) ⟨rfl, rfl, rfl, rfl, rfl, by decide +kernel⟩ ?hw ?hc
  case hw => w_witness2
  case hc =>
    refine DL.walk_ofG (l := PySem.Challenge.rw_treelaws_k02_trees_and_paths) (n := 63) (k := 69) (x := "script") rfl (by decide) (by kernel_rfl) ⟨rfl, by decide, by decide⟩ ?F
    intro w mg fa h Y G hmg0
    obtain ⟨K, KX, c⟩ := Y
    have hmg : mg ("law" : PySem.Str) = some (.ref fa) := by
      have e : (HandSHeadRun.topDef K02.R.prog 30).name = ("law" : PySem.Str) := by kernel_rfl
      rw [← e]
      exact hmg0
    obtain ⟨fd, hb, hF⟩ := K02.facts (w := w) KX G hmg c
    exact ⟨K, fd, DL.SpD ⟨K, mg⟩ 1 K02.mf_law, KX, hb, HX.noLst_ok c.all.1, fun H a ns _ on hS => K02.law_call mg on hS, hF⟩
