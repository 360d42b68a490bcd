import PyProof.Rows.All
import Wide.All
import OpenK.AllK
import Wide.FinOn
import PySem.Challenge.RW_talkedalike_k01_errors_made
import HandS.ForMost
import HandS.ForExc
import HandS.ExcInit
import HandS.EndBits
import HandS.TupAny
import HandS.Wide
import PyProof.ReprReads
import HandS.Style
import KE.KExcIs
import HandS.Defaults
import HandS.ExcIs
import HandS.ExcOwn
import HandS.ExcValue
import HandS.IsInst
import HandS.ExcField
import HandS.Words
import HandS.Ends
import OpenK.XHead
set_option Elab.async false
set_option linter.all false
set_option maxRecDepth 100000
set_option maxHeartbeats 4000000
/-! Fn: Python's own data as a Lean type; environments; what a state says of them; expressions and statements as functions of an environment. -/
namespace Fn
open PySem PySem.Spec PyProof.Rows L2

/-- data -/
inductive D where
  | non | bl (b : Bool) | int (i : Int) | str (x : Str)
  | lst (xs : List D) | tup (xs : List D)
  | dk (ks : List Key) (vs : List D)
  | exc (c : Str) (ns : List Str) (vs : List D)
  | ro (xs : List D)
/-- what a variable holds: data; data that was its own list once; a list, a dict of its own -/
inductive O where
  | dat (d : D) | fz (d : D) | lst (xs : List D) | dk (ks : List Key) (vs : List D)
abbrev En := List (Option O)
def O.own : O → Bool
  | .lst _ => true | .dk _ _ => true | _ => false
def O.d : O → D
  | .dat d => d | .fz d => d | .lst xs => .lst xs | .dk ks vs => .dk ks vs

abbrev Ex (H H' : Hp) : Prop := ∀ a o, H a = some o → H' a = some o
theorem Ex.refl (H : Hp) : Ex H H := fun _ _ h => h
theorem Ex.trans {H H1 H2 : Hp} (a : Ex H H1) (b : Ex H1 H2) : Ex H H2 := fun x o h => b x o (a x o h)
theorem ex_rd {H H' : Hp} {a : Addr} {u : HO} (e : Ex H H') (h : Rd H a u) : Rd H' a u := by
  rcases h with h | ⟨o, h⟩
  · exact .inl (e a _ h)
  · exact .inr ⟨o, e a _ h⟩
theorem ex_l {K : PySem.W.Frag} {H H' : Hp} {a : Addr} {xs : List V} (e : Ex H H') (h : SqL K H a xs) : SqL K H' a xs := by
  rcases h with h | h
  · exact .inl (ex_rd e h)
  · exact .inr h
theorem ex_t {K : PySem.W.Frag} {H H' : Hp} {a : Addr} {xs : List V} (e : Ex H H') (h : SqT K H a xs) : SqT K H' a xs := by
  rcases h with h | h
  · exact .inl (ex_rd e h)
  · exact .inr h

/-- what is told of the program's classes: where each stands -/
structure Cs where
  K : PySem.W.Frag
  cls : Str → Option Addr

mutual
/-- v is d, over the heap G -/
def Rep (T : Cs) (G : Hp) : D → V → Prop
  | .non, v => v = .non
  | .bl b, v => v = .bl b
  | .int i, v => v = .int i
  | .str x, v => v = .str x
  | .lst ds, v => ∃ a xs, v = .ref a ∧ G a = some (.lst xs) ∧ RepL T G ds xs
  | .ro ds, v => ∃ a xs, v = .ref a ∧ SqL T.K G a xs ∧ RepL T G ds xs
  | .tup ds, v => ∃ a xs, v = .ref a ∧ SqT T.K G a xs ∧ RepL T G ds xs
  | .dk ks ds, v => ∃ a kvs, v = .ref a ∧ Rd G a (.dK kvs) ∧ kvs.map (·.1) = ks ∧ RepL T G ds (kvs.map (·.2))
  | .exc c ns ds, v => ∃ a C, v = .ref a ∧ T.cls c = some C ∧
      ((ns = [] ∧ ds = [] ∧ G a = some (exo a C none)) ∨ ∃ dx fs, G a = some (exo a C (some dx)) ∧ G dx = some (exd dx fs) ∧ fs.map (·.1) = ns ∧ RepL T G ds (fs.map (·.2)))
def RepL (T : Cs) (G : Hp) : List D → List V → Prop
  | [], vs => vs = []
  | d :: ds, vs => ∃ v r, vs = v :: r ∧ Rep T G d v ∧ RepL T G ds r
end

mutual
theorem Rep.mono {T : Cs} {G G' : Hp} (e : Ex G G') : ∀ (d : D) (v : V), Rep T G d v → Rep T G' d v
  | .non, v, h => h
  | .bl b, v, h => h
  | .int i, v, h => h
  | .str x, v, h => h
  | .lst ds, v, h => by
    obtain ⟨a, xs, h1, h2, h3⟩ := h
    exact ⟨a, xs, h1, e _ _ h2, RepL.mono e ds xs h3⟩
  | .ro ds, v, h => by
    obtain ⟨a, xs, h1, h2, h3⟩ := h
    exact ⟨a, xs, h1, ex_l e h2, RepL.mono e ds xs h3⟩
  | .tup ds, v, h => by
    obtain ⟨a, xs, h1, h2, h3⟩ := h
    exact ⟨a, xs, h1, ex_t e h2, RepL.mono e ds xs h3⟩
  | .dk ks ds, v, h => by
    obtain ⟨a, kvs, h1, h2, h3, h4⟩ := h
    exact ⟨a, kvs, h1, ex_rd e h2, h3, RepL.mono e ds _ h4⟩
  | .exc c ns ds, v, h => by
    obtain ⟨a, C, h1, h2, h3⟩ := h
    refine ⟨a, C, h1, h2, ?_⟩
    rcases h3 with ⟨h3, h4, h5⟩ | ⟨dx, fs, h3, h4, h5, h6⟩
    · exact .inl ⟨h3, h4, e _ _ h5⟩
    · exact .inr ⟨dx, fs, e _ _ h3, e _ _ h4, h5, RepL.mono e ds _ h6⟩
theorem RepL.mono {T : Cs} {G G' : Hp} (e : Ex G G') : ∀ (ds : List D) (vs : List V), RepL T G ds vs → RepL T G' ds vs
  | [], vs, h => h
  | d :: ds, vs, h => by
    obtain ⟨v, r, h1, h2, h3⟩ := h
    exact ⟨v, r, h1, Rep.mono e d v h2, RepL.mono e ds r h3⟩
end
section
variable {T : Cs} {G : Hp}
theorem RepL.length : ∀ {ds : List D} {vs : List V}, RepL T G ds vs → vs.length = ds.length
  | [], vs, h => by
    obtain rfl : vs = [] := h
    rfl
  | d :: ds, vs, h => by
    obtain ⟨v, r, rfl, _, h3⟩ := h
    rw [List.length_cons, List.length_cons, RepL.length h3]
theorem RepL.nil : RepL T G [] [] := rfl
theorem RepL.cons {d : D} {ds : List D} {v : V} {r : List V} (h : Rep T G d v) (h' : RepL T G ds r) : RepL T G (d :: ds) (v :: r) := ⟨v, r, rfl, h, h'⟩
theorem RepL.append : ∀ {ds es : List D} {vs ws : List V}, RepL T G ds vs → RepL T G es ws → RepL T G (ds ++ es) (vs ++ ws)
  | [], es, vs, ws, h, h' => by
    obtain rfl : vs = [] := h
    exact h'
  | d :: ds, es, vs, ws, h, h' => by
    obtain ⟨v, r, rfl, h2, h3⟩ := h
    exact ⟨v, r ++ ws, rfl, h2, RepL.append h3 h'⟩
theorem RepL.get : ∀ {ds : List D} {vs : List V} {i : Nat} {d : D}, RepL T G ds vs → ds[i]? = some d → ∃ v, vs[i]? = some v ∧ Rep T G d v
  | [], _, _, _, _, e => by simp at e
  | d :: ds, vs, 0, d', h, e => by
    obtain ⟨v, r, rfl, h2, h3⟩ := h
    simp at e
    subst e
    exact ⟨v, rfl, h2⟩
  | d :: ds, vs, i + 1, d', h, e => by
    obtain ⟨v, r, rfl, h2, h3⟩ := h
    obtain ⟨w, h4, h5⟩ := RepL.get (i := i) h3 (by simpa using e)
    exact ⟨w, by simpa using h4, h5⟩
theorem RepL.get' : ∀ {ds : List D} {vs : List V} {i : Nat} {v : V}, RepL T G ds vs → vs[i]? = some v → ∃ d, ds[i]? = some d ∧ Rep T G d v
  | [], vs, _, _, h, e => by
    obtain rfl : vs = [] := h
    simp at e
  | d :: ds, vs, 0, v', h, e => by
    obtain ⟨v, r, rfl, h2, h3⟩ := h
    simp at e
    subst e
    exact ⟨d, rfl, h2⟩
  | d :: ds, vs, i + 1, v', h, e => by
    obtain ⟨v, r, rfl, h2, h3⟩ := h
    obtain ⟨w, h4, h5⟩ := RepL.get' (i := i) h3 (by simpa using e)
    exact ⟨w, by simpa using h4, h5⟩
theorem RepL.take : ∀ {ds : List D} {vs : List V} (n : Nat), RepL T G ds vs → RepL T G (ds.take n) (vs.take n)
  | _, _, 0, _ => by
    rw [List.take_zero, List.take_zero]
    rfl
  | [], vs, n + 1, h => by
    obtain rfl : vs = [] := h
    rfl
  | d :: ds, vs, n + 1, h => by
    obtain ⟨v, r, rfl, h2, h3⟩ := h
    exact ⟨v, r.take n, rfl, h2, RepL.take n h3⟩
theorem RepL.drop : ∀ {ds : List D} {vs : List V} (n : Nat), RepL T G ds vs → RepL T G (ds.drop n) (vs.drop n)
  | _, _, 0, h => h
  | [], vs, n + 1, h => by
    obtain rfl : vs = [] := h
    rfl
  | d :: ds, vs, n + 1, h => by
    obtain ⟨v, r, rfl, h2, h3⟩ := h
    exact RepL.drop n h3
end

/-- what a variable's object is, over G (what is frozen) and H -/
def RepO (T : Cs) (G H : Hp) : O → V → Prop
  | .dat d, v => Rep T G d v
  | .fz d, v => Rep T G d v
  | .lst ds, v => ∃ a xs, v = .ref a ∧ H a = some (.lst xs) ∧ G a = none ∧ RepL T G ds xs
  | .dk ks ds, v => ∃ a kvs, v = .ref a ∧ H a = some (.dK kvs) ∧ G a = none ∧ kvs.map (·.1) = ks ∧ RepL T G ds (kvs.map (·.2))
theorem RepO.there {T : Cs} {G H : Hp} {o : O} {v : V} (h : RepO T G H o v) (p : o.own = true) : ∃ a u, v = .ref a ∧ H a = some u ∧ G a = none := by
  cases o with
  | lst ds =>
    obtain ⟨a, xs, h1, h2, h3, _⟩ := h
    exact ⟨a, _, h1, h2, h3⟩
  | dk ks ds =>
    obtain ⟨a, xs, h1, h2, h3, _⟩ := h
    exact ⟨a, _, h1, h2, h3⟩
  | dat d => cases p
  | fz d => cases p
/-- a is a variable's own object -/
def Owns (σ : L2.St) (ρ : En) (a : Addr) : Prop := ∃ (i : Nat) (o : O), ρ[i]? = some (some o) ∧ o.own = true ∧ σ[i]? = some (some (.ref a))

structure Ok (T : Cs) (G H : Hp) (σ : L2.St) (ρ : En) : Prop where
  sub : Ex G H
  len : ρ.length = σ.length
  rep : ∀ (i : Nat) (o : O), ρ[i]? = some (some o) → ∃ v, σ[i]? = some (some v) ∧ RepO T G H o v
  dis : ∀ (i j : Nat) (o o' : O) (a : Addr), ρ[i]? = some (some o) → ρ[j]? = some (some o') → o.own = true → o'.own = true → σ[i]? = some (some (.ref a)) → σ[j]? = some (some (.ref a)) → i = j
/-- from (G, H), with the own objects S, to (G', H'), with S' -/
structure Nx (G H : Hp) (S : Addr → Prop) (G' H' : Hp) (S' : Addr → Prop) : Prop where
  g : Ex G G'
  new : ∀ a, G a = none → G' a ≠ none → H a = none ∨ S a
  keep : ∀ a o, H a = some o → ¬ S a → H' a = some o
  there : ∀ a, H' a = none → H a = none
  own : ∀ a, S' a → S a ∨ H a = none
theorem Nx.refl (G H : Hp) (S : Addr → Prop) : Nx G H S G H S := ⟨Ex.refl _, fun _ h h' => absurd h h', fun _ _ h _ => h, fun _ h => h, fun _ h => .inl h⟩
theorem Nx.trans {G H G1 H1 G2 H2 : Hp} {S S1 S2 : Addr → Prop} (a : Nx G H S G1 H1 S1) (b : Nx G1 H1 S1 G2 H2 S2) : Nx G H S G2 H2 S2 where
  g := Ex.trans a.g b.g
  new := fun x h h' => by
    by_cases q : G1 x = none
    · rcases b.new x q h' with z | z
      · exact .inl (a.there x z)
      · exact (a.own x z).symm
    · exact a.new x h q
  keep := fun x o h n => b.keep x o (a.keep x o h n) fun z => by
    rcases a.own x z with y | y
    · exact n y
    · rw [h] at y
      cases y
  there := fun x h => a.there x (b.there x h)
  own := fun x h => by
    rcases b.own x h with z | z
    · exact a.own x z
    · exact .inr (a.there x z)
/-- a thing of its own that no variable holds -/
def Fresh (H : Hp) (S : Addr → Prop) (o : O) (v : V) : Prop := o.own = true → ∀ a, v = .ref a → H a = none ∧ ¬ S a
section
variable {T : Cs} {G H G1 H1 : Hp} {S S1 : Addr → Prop} {o : O} {v : V}
/-- what is held by no variable stays -/
theorem RepO.keep (n : Nx G H S G1 H1 S1) (h : RepO T G H o v) (f : o.own = true → ∀ a, v = .ref a → ¬ S a) : RepO T G1 H1 o v := by
  cases o with
  | dat d => exact Rep.mono n.g d v h
  | fz d => exact Rep.mono n.g d v h
  | lst ds =>
    obtain ⟨a, xs, h1, h2, h3, h4⟩ := h
    have na := f rfl a h1
    refine ⟨a, xs, h1, n.keep a _ h2 na, ?_, RepL.mono n.g _ _ h4⟩
    by_cases q : G1 a = none
    · exact q
    · rcases n.new a h3 q with z | z
      · rw [h2] at z
        cases z
      · exact absurd z na
  | dk ks ds =>
    obtain ⟨a, xs, h1, h2, h3, h4, h5⟩ := h
    have na := f rfl a h1
    refine ⟨a, xs, h1, n.keep a _ h2 na, ?_, h4, RepL.mono n.g _ _ h5⟩
    by_cases q : G1 a = none
    · exact q
    · rcases n.new a h3 q with z | z
      · rw [h2] at z
        cases z
      · exact absurd z na
theorem Fresh.keep {H0 : Hp} {S0 : Addr → Prop} (n : Nx G H S G1 H1 S1) (h : RepO T G H o v) (f : Fresh H0 S o v) : Fresh H0 S1 o v := fun p a e => by
  obtain ⟨f1, f2⟩ := f p a e
  refine ⟨f1, fun z => ?_⟩
  rcases n.own a z with y | y
  · exact f2 y
  · obtain ⟨b, u, e1, e2, _⟩ := h.there p
    rw [e1] at e
    cases e
    rw [e2] at y
    cases y
theorem Fresh.back {H0 : Hp} (n : ∀ a, H a = none → H0 a = none) (f : Fresh H S o v) : Fresh H0 S o v := fun p a e => ⟨n a (f p a e).1, (f p a e).2⟩
theorem Fresh.dat {d : D} : Fresh H S (.dat d) v := fun p => by cases p
/-- the heap G with what H has at a -/
def frz (G H : Hp) (a : Addr) : Hp := fun b => if b = a then H a else G b
theorem frz_same {a : Addr} : frz G H a a = H a := if_pos rfl
theorem frz_ne {a b : Addr} (h : b ≠ a) : frz G H a b = G b := if_neg h
theorem frz_ex {a : Addr} (h : G a = none) : Ex G (frz G H a) := fun b o e => by
  rw [frz_ne (ne_of_none e h)]
  exact e
theorem frz_sub {a : Addr} (h : Ex G H) : Ex (frz G H a) H := fun b o e => by
  by_cases q : b = a
  · subst q
    rw [frz_same] at e
    exact e
  · rw [frz_ne q] at e
    exact h b o e
/-- another's own object is not touched by a freezing -/
theorem RepO.frz {a : Addr} (ga : G a = none) (h : RepO T G H o v) (f : o.own = true → v ≠ .ref a) : RepO T (frz G H a) H o v := by
  have e := frz_ex (G := G) (H := H) ga
  cases o with
  | dat d => exact Rep.mono e d v h
  | fz d => exact Rep.mono e d v h
  | lst ds =>
    obtain ⟨b, xs, h1, h2, h3, h4⟩ := h
    refine ⟨b, xs, h1, h2, ?_, RepL.mono e _ _ h4⟩
    rw [frz_ne (fun z => f rfl (by rw [h1, z]))]
    exact h3
  | dk ks ds =>
    obtain ⟨b, xs, h1, h2, h3, h4, h5⟩ := h
    refine ⟨b, xs, h1, h2, ?_, h4, RepL.mono e _ _ h5⟩
    rw [frz_ne (fun z => f rfl (by rw [h1, z]))]
    exact h3
/-- an own object, frozen, is data -/
theorem RepO.froze {a : Addr} (h : RepO T G H o v) (p : o.own = true) (e : v = .ref a) : Rep T (Fn.frz G H a) o.d v := by
  cases o with
  | dat d => cases p
  | fz d => cases p
  | lst ds =>
    obtain ⟨b, xs, h1, h2, h3, h4⟩ := h
    have eb : a = b := by
      rw [h1] at e
      cases e
      rfl
    subst eb
    exact ⟨a, xs, h1, by rw [frz_same]; exact h2, RepL.mono (frz_ex h3) _ _ h4⟩
  | dk ks ds =>
    obtain ⟨b, xs, h1, h2, h3, h4, h5⟩ := h
    have eb : a = b := by
      rw [h1] at e
      cases e
      rfl
    subst eb
    exact ⟨a, xs, h1, .inl (by rw [frz_same]; exact h2), h4, RepL.mono (frz_ex h3) _ _ h5⟩
end

/-- a fresh own object, held by no variable, becomes data -/
theorem freeze_tmp {T : Cs} {G H : Hp} {σ : L2.St} {ρ : En} {o : O} {v : V} (k : Ok T G H σ ρ) (h : RepO T G H o v) (f : o.own = true → ∀ a, v = .ref a → ¬ Owns σ ρ a) :
    ∃ G', (Ex G G' ∧ ∀ a, G a = none → G' a ≠ none → o.own = true ∧ v = .ref a) ∧ Ok T G' H σ ρ ∧ Rep T G' o.d v := by
  by_cases p : o.own = true
  · obtain ⟨a, u, e1, e2, e3⟩ := h.there p
    have na := f p a e1
    refine ⟨frz G H a, ⟨frz_ex e3, fun b hb hb' => ⟨p, ?_⟩⟩, ⟨frz_sub k.sub, k.len, fun i o' hi => ?_, k.dis⟩, h.froze p e1⟩
    · by_cases q : b = a
      · rw [q]
        exact e1
      · rw [frz_ne q] at hb'
        exact absurd hb hb'
    · obtain ⟨w, h1, h2⟩ := k.rep i o' hi
      exact ⟨w, h1, h2.frz e3 fun p' z => na ⟨i, o', hi, p', by rw [h1, z]⟩⟩
  · have p' : o.own = false := by simpa using p
    refine ⟨G, ⟨Ex.refl _, fun a h h' => absurd h h'⟩, k, ?_⟩
    cases o with
    | dat d => exact h
    | fz d => exact h
    | lst _ => cases p'
    | dk _ _ => cases p'

/-! ### outcomes -/
inductive Res (α : Type) where
  | ok (a : α) | er (c : Str) (ns : List Str) (vs : List D)
abbrev M (α : Type) := En → Option (Res α × En)
def M.ret {α : Type} (a : α) : M α := fun ρ => some (.ok a, ρ)
def M.stuck {α : Type} : M α := fun _ => none
def M.bind {α β : Type} (m : M α) (f : α → M β) : M β := fun ρ => match m ρ with
  | some (.ok a, ρ') => f a ρ'
  | some (.er c ns vs, ρ') => some (.er c ns vs, ρ')
  | none => none
def M.map {α β : Type} (f : α → β) (m : M α) : M β := M.bind m fun a => M.ret (f a)
def M.lift {α : Type} (o : Option α) : M α := match o with
  | some a => M.ret a
  | none => M.stuck
end Fn

set_option maxRecDepth 100000
set_option maxHeartbeats 4000000
namespace Fn
open PySem PySem.Spec PyProof.Rows L2

/-- how a result lies: over the heap ahead H0, the variables behind, G and H behind -/
abbrev RelT (α β : Type) := Cs → Hp → L2.St → En → Hp → Hp → α → β → Prop
abbrev Wi (β : Type) := β → Hp → Prop
/-- an operand: data, or a variable read where the operation is done -/
inductive Rf where
  | d (d : D) | s (i : Nat)
def rD : RelT D V := fun T _ _ _ G _ d v => Rep T G d v
def rO : RelT O V := fun T H0 σ ρ G H o v => RepO T G H o v ∧ Fresh H0 (Owns σ ρ) o v
def rR : RelT Rf V := fun T _ σ ρ G _ r v => match r with
  | .d d => Rep T G d v
  | .s i => σ[i]? = some (some v)
def Back {α β : Type} (R : RelT α β) : Prop := ∀ T H0 H1 σ ρ G H a v, (∀ x, H1 x = none → H0 x = none) → R T H1 σ ρ G H a v → R T H0 σ ρ G H a v
theorem rD_back : Back rD := fun _ _ _ _ _ _ _ _ _ _ h => h
theorem rO_back : Back rO := fun _ _ _ _ _ _ _ _ _ n h => ⟨h.1, h.2.back n⟩
theorem rR_back : Back rR := fun _ _ _ _ _ _ _ r _ _ h => h

/-- of which kind a variable's content is -/
def kd : Option (Option O) → Nat
  | none => 0
  | some none => 1
  | some (some (.dat _)) => 2
  | some (some _) => 3
/-- .. with the variables' kinds -/
structure Nk (G H : Hp) (σ : L2.St) (ρ : En) (G' H' : Hp) (ρ' : En) : Prop extends Nx G H (Owns σ ρ) G' H' (Owns σ ρ') where
  kp : ∀ i : Nat, kd ρ'[i]? = kd ρ[i]?
theorem Nk.refl (G H : Hp) (σ : L2.St) (ρ : En) : Nk G H σ ρ G H ρ := { Nx.refl G H _ with kp := fun _ => rfl }
theorem Nk.trans {G H G1 H1 G2 H2 : Hp} {σ : L2.St} {ρ ρ1 ρ2 : En} (a : Nk G H σ ρ G1 H1 ρ1) (b : Nk G1 H1 σ ρ1 G2 H2 ρ2) : Nk G H σ ρ G2 H2 ρ2 :=
  { a.toNx.trans b.toNx with kp := fun i => (b.kp i).trans (a.kp i) }
/-- an exception that leaves -/
def ErW (T : Cs) (W : WX) (G H : Hp) (σ : L2.St) (ρ ρ' : En) (c : Str) (ns : List Str) (vs : List D) : Prop :=
  ∀ G' H' C, T.cls c = some C → Nk G H σ ρ G' H' ρ' → Ok T G' H' σ ρ' →
    ((ns = [] → vs = [] → W (.ref C) none σ H') ∧ ∀ d fs, H' d = some (.xd fs) → fs.map (·.1) = ns → RepL T G' vs (fs.map (·.2)) → W (.ref C) (some d) σ H')
def Out {α β : Type} (R : RelT α β) (T : Cs) (W : WX) (G H : Hp) (σ : L2.St) (ρ : En) (r : Res α) (ρ' : En) (Q : Wi β) : Prop :=
  match r with
  | .ok a => ∀ v G' H', Nk G H σ ρ G' H' ρ' → Ok T G' H' σ ρ' → R T H σ ρ' G' H' a v → Q v H'
  | .er c ns vs => ErW T W G H σ ρ ρ' c ns vs
def At {α β : Type} (R : RelT α β) (T : Cs) (W : WX) (m : M α) (G : Hp) (ρ : En) : L2.St → Hp → Wi β → Prop := fun σ H Q => ∃ r ρ', m ρ = some (r, ρ') ∧ Out R T W G H σ ρ r ρ' Q
def tX {α β : Type} (R : RelT α β) (T : Cs) (W : WX) (m : M α) : L2.St → Hp → Wi β → Prop := fun σ H Q => ∃ G ρ, Ok T G H σ ρ ∧ At R T W m G ρ σ H Q

section
variable {α β γ δ : Type} {Ra : RelT α γ} {Rb : RelT β δ} {T : Cs} {W : WX} {G H G1 H1 : Hp} {σ : L2.St} {ρ ρ1 ρ' : En} {Q : Wi δ} {Q' Qa : Wi γ} {m : M α} {f : α → M β} {r : Res α} {a : α} {v : γ}
theorem ErW.shift {c : Str} {ns : List Str} {vs : List D} (n : Nk G H σ ρ G1 H1 ρ1) (h : ErW T W G H σ ρ ρ' c ns vs) : ErW T W G1 H1 σ ρ1 ρ' c ns vs :=
  fun G' H' C hc n' k => h G' H' C hc (n.trans n') k
theorem Out.shift (hb : Back Ra) (n : Nk G H σ ρ G1 H1 ρ1) (h : Out Ra T W G H σ ρ r ρ' Qa) : Out Ra T W G1 H1 σ ρ1 r ρ' Qa := by
  cases r with
  | ok a => exact fun v G' H' n' k q => h v G' H' (n.trans n') k (hb _ _ _ _ _ _ _ _ _ n.there q)
  | er c ns vs => exact ErW.shift n h
theorem At.bind (hb : Back Rb) (h : At Rb T W (M.bind m f) G ρ σ H Q)
    (k : ∀ a ρ1 v G1 H1, Nk G H σ ρ G1 H1 ρ1 → Ok T G1 H1 σ ρ1 → Ra T H σ ρ1 G1 H1 a v → At Rb T W (f a) G1 ρ1 σ H1 Q → Q' v H1) : At Ra T W m G ρ σ H Q' := by
  obtain ⟨r, ρ', e, o⟩ := h
  unfold M.bind at e
  cases q : m ρ with
  | none =>
    rw [q] at e
    cases e
  | some p =>
    obtain ⟨r1, ρ1⟩ := p
    rw [q] at e
    cases r1 with
    | ok a => exact ⟨_, ρ1, q, fun v G1 H1 n ok1 ra => k a ρ1 v G1 H1 n ok1 ra ⟨r, ρ', e, o.shift hb n⟩⟩
    | er c ns vs =>
      cases e
      exact ⟨_, _, q, o⟩
theorem At.ret (h : At Ra T W (M.ret a) G ρ σ H Qa) (k : Ok T G H σ ρ) (hv : Ra T H σ ρ G H a v) : Qa v H := by
  obtain ⟨r, ρ', e, o⟩ := h
  cases e
  exact o v G H (Nk.refl ..) k hv
/-- the end of an operation that changes the heap -/
theorem At.done {G' H' : Hp} (h : At Ra T W (M.ret a) G ρ σ H Qa) (n : Nk G H σ ρ G' H' ρ) (k : Ok T G' H' σ ρ) (hv : Ra T H σ ρ G' H' a v) : Qa v H' := by
  obtain ⟨r, ρ', e, o⟩ := h
  cases e
  exact o v G' H' n k hv
theorem At.lift {o : Option α} (h : At Ra T W (M.lift o) G ρ σ H Qa) : ∃ a, o = some a ∧ At Ra T W (M.ret a) G ρ σ H Qa := by
  cases o with
  | none =>
    obtain ⟨r, ρ', e, _⟩ := h
    cases e
  | some a => exact ⟨a, rfl, h⟩
/-- a new object, both in G and in H -/
theorem new_nx {p : Addr} {o : HO} (hp : H p = none) (k : Ok T G H σ ρ) : Nk G H σ ρ (upd G p o) (upd H p o) ρ ∧ Ok T (upd G p o) (upd H p o) σ ρ := by
  have gp : G p = none := by
    cases q : G p with
    | none => rfl
    | some u => rw [k.sub p u q] at hp; cases hp
  have ex : ∀ {F : Hp}, F p = none → Ex F (upd F p o) := fun {F} hf b u e => by
    rw [upd_ne (ne_of_none e hf)]
    exact e
  refine ⟨⟨⟨ex gp, fun b h1 h2 => ?_, fun b u h1 _ => ex hp b u h1, fun b h1 => ?_, fun _ h => .inl h⟩, fun _ => rfl⟩, ⟨fun b u e => ?_, k.len, fun i o' hi => ?_, k.dis⟩⟩
  · by_cases q : b = p
    · rw [q]
      exact .inl hp
    · rw [upd_ne q] at h2
      exact absurd h1 h2
  · by_cases q : b = p
    · rw [q]
      exact hp
    · rw [upd_ne q] at h1
      exact h1
  · by_cases q : b = p
    · subst q
      rw [upd_same] at e ⊢
      exact e
    · rw [upd_ne q] at e ⊢
      exact k.sub b u e
  · obtain ⟨w, h1, h2⟩ := k.rep i o' hi
    refine ⟨w, h1, ?_⟩
    have n : Nx G H (fun _ => False) (upd G p o) (upd H p o) (fun _ => False) := ⟨ex gp, fun b h1 h2 => by
      by_cases q : b = p
      · rw [q]
        exact .inl hp
      · rw [upd_ne q] at h2
        exact absurd h1 h2, fun b u h1 _ => ex hp b u h1, fun b h1 => by
      by_cases q : b = p
      · rw [q]
        exact hp
      · rw [upd_ne q] at h1
        exact h1, fun _ h => h.elim⟩
    exact h2.keep n fun _ _ _ z => z
/-- a new object in H alone: nobody's as yet -/
theorem new_own {p : Addr} {o : HO} (hp : H p = none) (k : Ok T G H σ ρ) : Nk G H σ ρ G (upd H p o) ρ ∧ Ok T G (upd H p o) σ ρ ∧ G p = none ∧ ¬ Owns σ ρ p := by
  have gp : G p = none := by
    cases q : G p with
    | none => rfl
    | some u => rw [k.sub p u q] at hp; cases hp
  have ex : Ex H (upd H p o) := fun b u e => by
    rw [upd_ne (ne_of_none e hp)]
    exact e
  have n : ∀ S, Nx G H S G (upd H p o) S := fun S => ⟨Ex.refl _, fun b h1 h2 => absurd h1 h2, fun b u h1 _ => ex b u h1, fun b h1 => by
    by_cases q : b = p
    · rw [q]
      exact hp
    · rw [upd_ne q] at h1
      exact h1, fun _ h => .inl h⟩
  refine ⟨⟨n _, fun _ => rfl⟩, ⟨fun b u e => ex b u (k.sub b u e), k.len, fun i o' hi => ?_, k.dis⟩, gp, ?_⟩
  · obtain ⟨w, h1, h2⟩ := k.rep i o' hi
    exact ⟨w, h1, h2.keep (n fun _ => False) fun _ _ _ z => z⟩
  · rintro ⟨i, o', h1, h2, h3⟩
    obtain ⟨w, h4, h5⟩ := k.rep i o' h1
    obtain ⟨b, u, e1, e2, _⟩ := h5.there h2
    rw [h3] at h4
    cases h4
    cases e1
    rw [e2] at hp
    cases hp
end

theorem _root_.L2.PE.imp {X : Cx} {e : Expr} {t t' : TE} (h : PE X e t) (i : ∀ σ H Q, t' σ H Q → t σ H Q) : PE X e t' := ⟨fun pins s σ H Q I hw => h.run pins s σ H Q I (i σ H Q hw)⟩
theorem _root_.L2.PT.imp {X : Cx} {e : Expr} {t t' : TT} (h : PT X e t) (i : ∀ σ H Q, t' σ H Q → t σ H Q) : PT X e t' := ⟨fun pins s σ H Q I hw => h.run pins s σ H Q I (i σ H Q hw)⟩
theorem _root_.L2.PA.imp {X : Cx} {es : List Expr} {t t' : TA} (h : PA X es t) (i : ∀ σ H Q, t' σ H Q → t σ H Q) : PA X es t' := ⟨fun pos pins s σ H Q I hw => h.run pos pins s σ H Q I (i σ H Q hw)⟩

/-! ### the judgements -/
section
variable (cl : Str → Option Addr) (X : Cx) (W : WX)
abbrev EX {α : Type} (R : RelT α V) (e : Expr) (m : M α) : Prop := PE X e (tX R ⟨X.K, cl⟩ W m)
abbrev ED (e : Expr) (m : M D) : Prop := EX cl X W rD e m
abbrev EO (e : Expr) (m : M O) : Prop := EX cl X W rO e m
abbrev ER (e : Expr) (m : M Rf) : Prop := EX cl X W rR e m
end

section
variable {cl : Str → Option Addr} {X : Cx} {W : WX} {e : Expr}
/-- what a rule gives is what is asked -/
theorem EX.by {α : Type} {R : RelT α V} {m : M α} {t : TE} (h : PE X e t) (i : ∀ G ρ σ H Q, Ok ⟨X.K, cl⟩ G H σ ρ → At R ⟨X.K, cl⟩ W m G ρ σ H Q → t σ H Q) : EX cl X W R e m :=
  h.imp fun σ H Q ⟨G, ρ, k, a⟩ => i G ρ σ H Q k a
theorem at_tX {α β : Type} {R : RelT α β} {T : Cs} {m : M α} {G : Hp} {ρ : En} {σ : L2.St} {H : Hp} {Q : Wi β} (k : Ok T G H σ ρ) (a : At R T W m G ρ σ H Q) : tX R T W m σ H Q := ⟨G, ρ, k, a⟩
/-- a thing of its own, taken as data -/
def M.fr (m : M O) : M D := M.bind m fun o => M.ret o.d
theorem ED.fr {m : M O} (h : EO cl X W e m) : ED cl X W e m.fr := by
  refine EX.by h fun G ρ σ H Q k ⟨r, ρ', e, o⟩ => at_tX k ?_
  unfold M.fr M.bind at e
  cases q : m ρ with
  | none =>
    rw [q] at e
    cases e
  | some p =>
    obtain ⟨r1, ρ1⟩ := p
    rw [q] at e
    cases r1 with
    | er c ns vs =>
      cases e
      exact ⟨_, _, q, o⟩
    | ok a =>
      cases e
      refine ⟨_, _, q, fun v G1 H1 n k1 ro => ?_⟩
      obtain ⟨G2, ⟨x1, x2⟩, k2, r2⟩ := freeze_tmp k1 ro.1 fun p b eb => (ro.2 p b eb).2
      refine o v G2 H1 ⟨⟨Ex.trans n.g x1, fun b h1 h2 => ?_, n.keep, n.there, n.own⟩, n.kp⟩ k2 r2
      by_cases z : G1 b = none
      · obtain ⟨p, eb⟩ := x2 b z h2
        exact .inl (ro.2 p b eb).1
      · exact n.new b h1 z
theorem EO.of (m : M D) (h : ED cl X W e m) : EO cl X W e (M.map O.dat m) := EX.by h fun G ρ σ H Q k a => at_tX k (At.bind (Ra := rD) rO_back a fun d ρ1 v G1 H1 n k1 rd a1 => a1.ret k1 ⟨rd, Fresh.dat⟩)
theorem ER.of (m : M D) (h : ED cl X W e m) : ER cl X W e (M.map Rf.d m) := EX.by h fun G ρ σ H Q k a => at_tX k (At.bind (Ra := rD) rR_back a fun d ρ1 v G1 H1 n k1 rd a1 => a1.ret k1 rd)
end
end Fn

set_option maxRecDepth 100000
set_option maxHeartbeats 4000000
namespace Fn
open PySem PySem.Spec PyProof.Rows L2

/-! ### names -/
/-- the variable's value goes on: its own object is shared from now on -/
def eVar (i : Nat) : M D := fun ρ => match ρ[i]? with
  | some (some o) => if o.own = true then some (.ok o.d, ρ.set i (some (.fz o.d))) else some (.ok o.d, ρ)
  | _ => none
/-- the variable as an operand -/
def rVar (i : Nat) : M Rf := fun ρ => match ρ[i]? with
  | some (some _) => some (.ok (.s i), ρ)
  | _ => none
def getS (i : Nat) : M D := fun ρ => match ρ[i]? with
  | some (some o) => some (.ok o.d, ρ)
  | _ => none
def Rf.get : Rf → M D
  | .d x => M.ret x
  | .s i => getS i
/-- data that is read, be it a variable's own -/
def RepT (T : Cs) (G H : Hp) (d : D) (v : V) : Prop := Rep T G d v ∨ ∃ o : O, o.own = true ∧ o.d = d ∧ RepO T G H o v

section
variable {cl : Str → Option Addr} {X : Cx} {W : WX} {T : Cs} {G H : Hp} {σ : L2.St} {ρ : En} {pos : Pos}
theorem Ok.at_ {i : Nat} {o : O} {v : V} (k : Ok T G H σ ρ) (h : ρ[i]? = some (some o)) (hv : σ[i]? = some (some v)) : RepO T G H o v := by
  obtain ⟨w, h1, h2⟩ := k.rep i o h
  rw [hv] at h1
  cases h1
  exact h2
theorem owns_set {i : Nat} {o : O} {a : Addr} (hn : o.own = false) (h : Owns σ (ρ.set i (some o)) a) : Owns σ ρ a := by
  obtain ⟨j, o', h1, h2, h3⟩ := h
  by_cases e : i = j
  · subst e
    by_cases hl : i < ρ.length
    · rw [List.getElem?_set_self hl] at h1
      cases h1
      rw [hn] at h2
      cases h2
    · rw [List.getElem?_eq_none (by rw [List.length_set]; omega)] at h1
      cases h1
  · rw [List.getElem?_set_ne e] at h1
    exact ⟨j, o', h1, h2, h3⟩
/-- an own variable is frozen -/
theorem Ok.frz {i : Nat} {o : O} {a : Addr} (k : Ok T G H σ ρ) (h : ρ[i]? = some (some o)) (p : o.own = true) (hv : σ[i]? = some (some (.ref a))) :
    Nk G H σ ρ (Fn.frz G H a) H (ρ.set i (some (.fz o.d))) ∧ Ok T (Fn.frz G H a) H σ (ρ.set i (some (.fz o.d))) ∧ Rep T (Fn.frz G H a) o.d (.ref a) := by
  have r := k.at_ h hv
  obtain ⟨b, u, e1, e2, e3⟩ := r.there p
  cases e1
  have hi : i < ρ.length := (List.getElem?_eq_some_iff.mp h).1
  have fr := r.froze p rfl
  refine ⟨⟨⟨frz_ex e3, fun b h1 h2 => ?_, fun _ _ h _ => h, fun _ h => h, fun b hb => .inl (owns_set rfl hb)⟩, fun j => ?_⟩, ⟨frz_sub k.sub, by rw [List.length_set]; exact k.len, fun j o' hj => ?_, fun j j' o1 o2 b h1 h2 p1 p2 => ?_⟩, fr⟩
  · by_cases q : b = a
    · subst q
      exact .inr ⟨i, o, h, p, hv⟩
    · rw [frz_ne q] at h2
      exact absurd h1 h2
  · by_cases e : i = j
    · subst e
      rw [List.getElem?_set_self hi, h]
      cases o with
      | dat _ => cases p
      | fz _ => cases p
      | lst _ => rfl
      | dk _ _ => rfl
    · rw [List.getElem?_set_ne e]
  · by_cases e : i = j
    · subst e
      rw [List.getElem?_set_self hi] at hj
      cases hj
      exact ⟨_, hv, fr⟩
    · rw [List.getElem?_set_ne e] at hj
      obtain ⟨w, h1, h2⟩ := k.rep j o' hj
      exact ⟨w, h1, h2.frz e3 fun p' z => e (k.dis i j o o' a h hj p p' hv (by rw [h1, z]))⟩
  · have ne : ∀ {j : Nat} {o1 : O}, (ρ.set i (some (.fz o.d)))[j]? = some (some o1) → o1.own = true → ρ[j]? = some (some o1) := fun {j o1} h1 p1 => by
      by_cases e : i = j
      · subst e
        rw [List.getElem?_set_self hi] at h1
        cases h1
        cases p1
      · rw [List.getElem?_set_ne e] at h1
        exact h1
    exact k.dis j j' o1 o2 b (ne h1 p1) (ne h2 p2) p1 p2
theorem ed_var {i : Nat} {x : Str} (hN : X.N[i]? = some x) (hv : Vis X.env.scope x) (hd : (x == ("__debug__" : Str)) = false := by decide) (hcd : (x == ("__classdict__" : Str)) = false := by decide) : ED cl X W (.Name x pos) (eVar i) :=
  EX.by (pe_var hN hv hd hcd) fun G ρ σ H Q k ⟨r, ρ', e, o⟩ => by
    unfold eVar at e
    cases q : ρ[i]? with
    | none =>
      rw [q] at e
      cases e
    | some z =>
      cases z with
      | none =>
        rw [q] at e
        cases e
      | some u =>
        rw [q] at e
        obtain ⟨v, h1, h2⟩ := k.rep i u q
        refine ⟨v, h1, ?_⟩
        by_cases p : u.own = true
        · have e' : (if u.own = true then some (Res.ok u.d, ρ.set i (some (.fz u.d))) else some (.ok u.d, ρ)) = some (r, ρ') := e
          rw [if_pos p] at e'
          cases e'
          obtain ⟨a, _, ea, _, _⟩ := h2.there p
          subst ea
          obtain ⟨n, k', fr⟩ := k.frz q p h1
          exact o _ _ _ n k' fr
        · have e' : (if u.own = true then some (Res.ok u.d, ρ.set i (some (.fz u.d))) else some (.ok u.d, ρ)) = some (r, ρ') := e
          rw [if_neg p] at e'
          cases e'
          refine o _ _ _ (Nk.refl ..) k ?_
          cases u with
          | dat d => exact h2
          | fz d => exact h2
          | lst _ => exact absurd rfl p
          | dk _ _ => exact absurd rfl p
theorem er_var {i : Nat} {x : Str} (hN : X.N[i]? = some x) (hv : Vis X.env.scope x) (hd : (x == ("__debug__" : Str)) = false := by decide) (hcd : (x == ("__classdict__" : Str)) = false := by decide) : ER cl X W (.Name x pos) (rVar i) :=
  EX.by (pe_var hN hv hd hcd) fun G ρ σ H Q k ⟨r, ρ', e, o⟩ => by
    unfold rVar at e
    cases q : ρ[i]? with
    | none =>
      rw [q] at e
      cases e
    | some z =>
      cases z with
      | none =>
        rw [q] at e
        cases e
      | some u =>
        rw [q] at e
        cases e
        obtain ⟨v, h1, h2⟩ := k.rep i u q
        exact ⟨v, h1, o _ _ _ (Nk.refl ..) k h1⟩
/-- an operand at the operation -/
theorem At.get {β δ : Type} {Rb : RelT β δ} {f : D → M β} {r : Rf} {v : V} {Q : Wi δ} {H0 : Hp} (h : At Rb T W (M.bind r.get f) G ρ σ H Q) (k : Ok T G H σ ρ) (hr : rR T H0 σ ρ G H r v) :
    ∃ d, RepT T G H d v ∧ At Rb T W (f d) G ρ σ H Q := by
  obtain ⟨r', ρ', e, o⟩ := h
  cases r with
  | d x => exact ⟨x, .inl hr, r', ρ', e, o⟩
  | s i =>
    unfold M.bind Rf.get getS at e
    cases q : ρ[i]? with
    | none =>
      simp only [q] at e
      cases e
    | some z =>
      cases z with
      | none =>
        simp only [q] at e
        cases e
      | some u =>
        simp only [q] at e
        refine ⟨u.d, ?_, r', ρ', e, o⟩
        have q2 := k.at_ q hr
        cases u with
        | dat d => exact .inl q2
        | fz d => exact .inl q2
        | lst xs => exact .inr ⟨.lst xs, rfl, rfl, q2⟩
        | dk ks vs => exact .inr ⟨.dk ks vs, rfl, rfl, q2⟩
/-- an operand while others are worked out -/
theorem rR_keep {r : Rf} {v : V} {G1 H1 H0 : Hp} {ρ1 : En} (n : Nk G H σ ρ G1 H1 ρ1) (hr : rR T H0 σ ρ G H r v) : rR T H0 σ ρ1 G1 H1 r v := by
  cases r with
  | d x => exact Rep.mono n.g x v hr
  | s i => exact hr

/-! ### operators -/
def eBin (f : D → D → Option O) (a b : M Rf) : M O := M.bind a fun x => M.bind b fun y => M.bind x.get fun d1 => M.bind y.get fun d2 => M.lift (f d1 d2)
theorem eo_bin {op : Operator} {r : R2} {f : D → D → Option O} {a b : Expr} {ma mb : M Rf} (ho : OpR X (binaryOp op) r)
    (hf : ∀ G H σ ρ d1 d2 o v1 v2 Q, Ok ⟨X.K, cl⟩ G H σ ρ → f d1 d2 = some o → RepT ⟨X.K, cl⟩ G H d1 v1 → RepT ⟨X.K, cl⟩ G H d2 v2 → At rO ⟨X.K, cl⟩ W (M.ret o) G ρ σ H Q → r v1 v2 H Q)
    (ha : ER cl X W a ma) (hb : ER cl X W b mb) : EO cl X W (.BinOp a op b pos) (eBin f ma mb) :=
  EX.by (pe_op ho ha hb) fun G ρ σ H Q k h => at_tX k (At.bind (Ra := rR) rO_back h fun x ρ1 v1 G1 H1 n1 k1 r1 h1 => at_tX k1 (At.bind (Ra := rR) rO_back h1 fun y ρ2 v2 G2 H2 n2 k2 r2 h2 => by
    obtain ⟨d1, q1, h3⟩ := At.get h2 k2 (rR_keep n2 r1)
    obtain ⟨d2, q2, h4⟩ := At.get h3 k2 r2
    obtain ⟨o, e, h5⟩ := h4.lift
    exact hf _ _ _ _ _ _ _ _ _ _ k2 e q1 q2 h5))
/-- the same, as data: no new thing of its own -/
def eBinD (f : D → D → Option D) (a b : M Rf) : M D := M.bind a fun x => M.bind b fun y => M.bind x.get fun d1 => M.bind y.get fun d2 => M.lift (f d1 d2)
theorem ed_bin {op : Operator} {r : R2} {f : D → D → Option D} {a b : Expr} {ma mb : M Rf} (ho : OpR X (binaryOp op) r)
    (hf : ∀ G H σ ρ d1 d2 o v1 v2 Q, Ok ⟨X.K, cl⟩ G H σ ρ → f d1 d2 = some o → RepT ⟨X.K, cl⟩ G H d1 v1 → RepT ⟨X.K, cl⟩ G H d2 v2 → At rD ⟨X.K, cl⟩ W (M.ret o) G ρ σ H Q → r v1 v2 H Q)
    (ha : ER cl X W a ma) (hb : ER cl X W b mb) : ED cl X W (.BinOp a op b pos) (eBinD f ma mb) :=
  EX.by (pe_op ho ha hb) fun G ρ σ H Q k h => at_tX k (At.bind (Ra := rR) rD_back h fun x ρ1 v1 G1 H1 n1 k1 r1 h1 => at_tX k1 (At.bind (Ra := rR) rD_back h1 fun y ρ2 v2 G2 H2 n2 k2 r2 h2 => by
    obtain ⟨d1, q1, h3⟩ := At.get h2 k2 (rR_keep n2 r1)
    obtain ⟨d2, q2, h4⟩ := At.get h3 k2 r2
    obtain ⟨o, e, h5⟩ := h4.lift
    exact hf _ _ _ _ _ _ _ _ _ _ k2 e q1 q2 h5))
/-- a comparison -/
theorem ed_cmp {op : CmpOp} {r : R2} {f : D → D → Option D} {a b : Expr} {ma mb : M Rf} (ho : OpR X (compareOp op) r)
    (hf : ∀ G H σ ρ d1 d2 o v1 v2 Q, Ok ⟨X.K, cl⟩ G H σ ρ → f d1 d2 = some o → RepT ⟨X.K, cl⟩ G H d1 v1 → RepT ⟨X.K, cl⟩ G H d2 v2 → At rD ⟨X.K, cl⟩ W (M.ret o) G ρ σ H Q → r v1 v2 H Q)
    (hm : behindInMarks op b = false) (ha : ER cl X W a ma) (hb : ER cl X W b mb) : ED cl X W (.Compare a [op] [b] pos) (eBinD f ma mb) :=
  EX.by (pe_cmpR ho ha hb hm) fun G ρ σ H Q k h => at_tX k (At.bind (Ra := rR) rD_back h fun x ρ1 v1 G1 H1 n1 k1 r1 h1 => at_tX k1 (At.bind (Ra := rR) rD_back h1 fun y ρ2 v2 G2 H2 n2 k2 r2 h2 => by
    obtain ⟨d1, q1, h3⟩ := At.get h2 k2 (rR_keep n2 r1)
    obtain ⟨d2, q2, h4⟩ := At.get h3 k2 r2
    obtain ⟨o, e, h5⟩ := h4.lift
    exact hf _ _ _ _ _ _ _ _ _ _ k2 e q1 q2 h5))
end
end Fn

set_option maxRecDepth 100000
set_option maxHeartbeats 4000000
namespace Fn
open PySem PySem.Spec PyProof.Rows L2

/-! ### what a datum read tells -/
section
variable {T : Cs} {G H H0 : Hp} {σ : L2.St} {ρ : En} {v : V}
theorem RepT.flat {d : D} {u : V} (h : RepT T G H d v) (hd : ∀ w, Rep T G d w → w = u) (hn : ∀ o : O, o.own = true → o.d ≠ d) : v = u := by
  rcases h with h | ⟨o, p, e, _⟩
  · exact hd v h
  · exact absurd e (hn o p)
theorem own_d {o : O} (p : o.own = true) : (∃ xs, o.d = .lst xs) ∨ ∃ ks vs, o.d = .dk ks vs := by
  cases o with
  | lst xs => exact .inl ⟨xs, rfl⟩
  | dk ks vs => exact .inr ⟨ks, vs, rfl⟩
  | dat _ => cases p
  | fz _ => cases p
theorem RepT.int {i : Int} (h : RepT T G H (.int i) v) : v = .int i := h.flat (fun _ q => q) fun o p e => by
  rcases own_d p with ⟨xs, q⟩ | ⟨ks, vs, q⟩ <;> (rw [q] at e; cases e)
theorem RepT.str {x : Str} (h : RepT T G H (.str x) v) : v = .str x := h.flat (fun _ q => q) fun o p e => by
  rcases own_d p with ⟨xs, q⟩ | ⟨ks, vs, q⟩ <;> (rw [q] at e; cases e)
theorem RepT.bl {b : Bool} (h : RepT T G H (.bl b) v) : v = .bl b := h.flat (fun _ q => q) fun o p e => by
  rcases own_d p with ⟨xs, q⟩ | ⟨ks, vs, q⟩ <;> (rw [q] at e; cases e)
theorem RepT.non (h : RepT T G H .non v) : v = .non := h.flat (fun _ q => q) fun o p e => by
  rcases own_d p with ⟨xs, q⟩ | ⟨ks, vs, q⟩ <;> (rw [q] at e; cases e)
theorem RepT.lst {ds : List D} (h : RepT T G H (.lst ds) v) (k : Ok T G H σ ρ) : ∃ a xs, v = .ref a ∧ H a = some (.lst xs) ∧ RepL T G ds xs := by
  rcases h with h | ⟨o, p, e, q⟩
  · obtain ⟨a, xs, h1, h2, h3⟩ := h
    exact ⟨a, xs, h1, k.sub _ _ h2, h3⟩
  · cases o with
    | lst xs =>
      cases e
      obtain ⟨a, ys, h1, h2, h3, h4⟩ := q
      exact ⟨a, ys, h1, h2, h4⟩
    | dk ks vs => cases e
    | dat _ => cases p
    | fz _ => cases p
theorem RepT.ro {ds : List D} (h : RepT T G H (.ro ds) v) (k : Ok T G H σ ρ) : ∃ a xs, v = .ref a ∧ SqL T.K H a xs ∧ RepL T G ds xs := by
  rcases h with h | ⟨o, p, e, q⟩
  · obtain ⟨a, xs, h1, h2, h3⟩ := h
    exact ⟨a, xs, h1, ex_l k.sub h2, h3⟩
  · rcases own_d p with ⟨xs, q⟩ | ⟨ks, vs, q⟩ <;> (rw [q] at e; cases e)
theorem RepT.tup {ds : List D} (h : RepT T G H (.tup ds) v) (k : Ok T G H σ ρ) : ∃ a xs, v = .ref a ∧ SqT T.K H a xs ∧ RepL T G ds xs ∧ Rep T G (.tup ds) v := by
  rcases h with h | ⟨o, p, e, q⟩
  · obtain ⟨a, xs, h1, h2, h3⟩ := id h
    exact ⟨a, xs, h1, ex_t k.sub h2, h3, h⟩
  · rcases own_d p with ⟨xs, q⟩ | ⟨ks, vs, q⟩ <;> (rw [q] at e; cases e)
theorem RepT.dk {ks : List Key} {ds : List D} (h : RepT T G H (.dk ks ds) v) (k : Ok T G H σ ρ) : ∃ a kvs, v = .ref a ∧ Rd H a (.dK kvs) ∧ kvs.map (·.1) = ks ∧ RepL T G ds (kvs.map (·.2)) := by
  rcases h with h | ⟨o, p, e, q⟩
  · obtain ⟨a, kvs, h1, h2, h3, h4⟩ := h
    exact ⟨a, kvs, h1, ex_rd k.sub h2, h3, h4⟩
  · cases o with
    | dk ks vs =>
      cases e
      obtain ⟨a, kvs, h1, h2, h3, h4, h5⟩ := q
      exact ⟨a, kvs, h1, .inl h2, h4, h5⟩
    | lst _ => cases e
    | dat _ => cases p
    | fz _ => cases p
end

def lim : Nat := 1000000
theorem lim_le {n : Nat} (h : n ≤ lim) : n ≤ sizeLine := by
  have : lim = 1000000 := rfl
  rw [sizeLine_eq]
  omega
theorem lim_lt {n : Nat} (h : n < lim) : n < sizeLine := by
  have : lim = 1000000 := rfl
  rw [sizeLine_eq]
  omega

/-! ### + -/
def fAdd : D → D → Option O
  | .int i, .int j => some (.dat (.int (i + j)))
  | .str x, .str y => if x.length + y.length ≤ lim then some (.dat (.str (x ++ y))) else none
  | .lst xs, .lst ys => if xs.length + ys.length ≤ lim then some (.lst (xs ++ ys)) else none
  | .tup xs, .tup ys => if xs.length + ys.length ≤ lim then some (.dat (.tup (xs ++ ys))) else none
  | _, _ => none
def rAddA (K : PySem.W.Frag) : R2 := fun x y H Q => (rI0 (fun i j => .int (i + j)) x y H Q ∨ (∃ i j, x = .str i ∧ y = .str j ∧ i.length + j.length ≤ sizeLine ∧ Q (.str (i ++ j)) H)) ∨ rCat x y H Q ∨ rCatA K x y H Q
theorem op_addA {X : Cx} : OpR X (binaryOp .Add) (rAddA X.K) := OpR.or (OpR.or op_add op_add_str) (OpR.or op_cat op_catA)
section
variable {cl : Str → Option Addr} {X : Cx} {W : WX} {pos : Pos} {a b : Expr} {ma mb : M Rf} {G H : Hp} {σ : L2.St} {ρ : En} {T : Cs} {Q : VK}
/-- a plain value comes out -/
theorem At.flat {d : D} {v : V} (h : At rO T W (M.ret (.dat d)) G ρ σ H Q) (k : Ok T G H σ ρ) (hv : Rep T G d v) : Q v H := h.ret k ⟨hv, Fresh.dat⟩
theorem At.newL {ds : List D} {xs : List V} (h : At rO T W (M.ret (.lst ds)) G ρ σ H Q) (k : Ok T G H σ ρ) (hv : RepL T G ds xs) : ∀ p, H p = none → Q (.ref p) (upd H p (.lst xs)) := fun p hp => by
  obtain ⟨n, k', gp, np⟩ := new_own (o := .lst xs) hp k
  exact h.done n k' ⟨⟨p, xs, rfl, upd_same, gp, hv⟩, fun _ a e => by
    cases e
    exact ⟨hp, np⟩⟩
theorem At.newT {ds : List D} {xs : List V} (h : At rO T W (M.ret (.dat (.tup ds))) G ρ σ H Q) (k : Ok T G H σ ρ) (hv : RepL T G ds xs) : ∀ p, H p = none → Q (.ref p) (upd H p (.tup xs)) := fun p hp => by
  obtain ⟨n, k'⟩ := new_nx (o := .tup xs) hp k
  exact h.done n k' ⟨⟨p, xs, rfl, SqT.of upd_same, RepL.mono n.g _ _ hv⟩, Fresh.dat⟩
theorem eo_add (ha : ER cl X W a ma) (hb : ER cl X W b mb) : EO cl X W (.BinOp a .Add b pos) (eBin fAdd ma mb) := eo_bin op_addA (fun G H σ ρ d1 d2 o v1 v2 Q k e q1 q2 h => by
  unfold fAdd at e
  split at e
  · cases e
    obtain rfl := q1.int
    obtain rfl := q2.int
    exact .inl (.inl ⟨_, _, rfl, rfl, h.flat k rfl⟩)
  · split at e
    · cases e
      obtain rfl := q1.str
      obtain rfl := q2.str
      exact .inl (.inr ⟨_, _, rfl, rfl, lim_le (by assumption), h.flat k rfl⟩)
    · cases e
  · split at e
    · rename_i hl
      cases e
      obtain ⟨p, xs, rfl, h1, r1⟩ := q1.lst k
      obtain ⟨q, ys, rfl, h2, r2⟩ := q2.lst k
      exact .inr (.inl ⟨p, q, xs, ys, rfl, rfl, h1, h2, lim_le (by rw [r1.length, r2.length]; exact hl), h.newL k (r1.append r2)⟩)
    · cases e
  · split at e
    · rename_i hl
      cases e
      obtain ⟨p, xs, rfl, h1, r1, g1⟩ := q1.tup k
      obtain ⟨q, ys, rfl, h2, r2, g2⟩ := q2.tup k
      refine .inr (.inr ⟨p, q, xs, ys, rfl, rfl, h1, h2, lim_le (by rw [r1.length, r2.length]; exact hl), fun ex => ?_, fun _ ey => ?_, fun _ _ => h.newT k (r1.append r2)⟩)
      · have z : xs.length = 0 := by rw [ex]; rfl
        rw [r1.length] at z
        rw [List.length_eq_zero_iff.mp z] at h
        exact h.flat k g2
      · have z : ys.length = 0 := by rw [ey]; rfl
        rw [r2.length] at z
        rw [List.length_eq_zero_iff.mp z, List.append_nil] at h
        exact h.flat k g1
    · cases e
  · cases e) ha hb
end
end Fn

set_option maxRecDepth 100000
set_option maxHeartbeats 4000000
namespace Fn
open PySem PySem.Spec PyProof.Rows L2

def rB : RelT Bool Bool := fun _ _ _ _ _ _ a b => a = b
theorem rB_back : Back rB := fun _ _ _ _ _ _ _ _ _ _ h => h
/-- operands, one after another -/
def RL (T : Cs) (H0 : Hp) (σ : L2.St) (ρ : En) (G H : Hp) : List Rf → List V → Prop
  | [], vs => vs = []
  | r :: rs, vs => ∃ v w, vs = v :: w ∧ rR T H0 σ ρ G H r v ∧ RL T H0 σ ρ G H rs w
def rA : RelT (List Rf) (List V) := RL
theorem RL_any {T : Cs} {H0 H0' : Hp} {σ : L2.St} {ρ ρ' : En} {G G' H H' : Hp} (e : Ex G G') : ∀ (rs : List Rf) (vs : List V), RL T H0 σ ρ G H rs vs → RL T H0' σ ρ' G' H' rs vs
  | [], vs, h => h
  | r :: rs, vs, h => by
    obtain ⟨v, w, h1, h2, h3⟩ := h
    refine ⟨v, w, h1, ?_, RL_any e rs w h3⟩
    cases r with
    | d x => exact Rep.mono e x v h2
    | s i => exact h2
theorem rA_back : Back rA := fun _ _ _ _ _ _ _ rs vs _ h => RL_any (Ex.refl _) rs vs h
def rLs : RelT (List D) (List V) := fun T _ _ _ G _ ds vs => RepL T G ds vs
theorem rLs_back : Back rLs := fun _ _ _ _ _ _ _ _ _ _ h => h

section
variable (cl : Str → Option Addr) (X : Cx) (W : WX)
abbrev ET (e : Expr) (m : M Bool) : Prop := PT X e (tX rB ⟨X.K, cl⟩ W m)
abbrev EW (e : Expr) (m : M Bool) : Prop := PW X e (tX rB ⟨X.K, cl⟩ W m)
abbrev EA (es : List Expr) (m : M (List Rf)) : Prop := PA X es (tX rA ⟨X.K, cl⟩ W m)
abbrev EL (es : List Expr) (m : M (List D)) : Prop := PA X es (tX rLs ⟨X.K, cl⟩ W m)
end
theorem _root_.L2.PW.imp {X : Cx} {e : Expr} {t t' : TT} (h : PW X e t) (i : ∀ σ H Q, t' σ H Q → t σ H Q) : PW X e t' := ⟨fun wh pins s σ H Q I hw => h.run wh pins s σ H Q I (i σ H Q hw)⟩

section
variable {cl : Str → Option Addr} {X : Cx} {W : WX} {pos : Pos} {a b e : Expr} {es : List Expr} {ma mb : M Bool} {G H : Hp} {σ : L2.St} {ρ : En} {T : Cs} {Q : VK}
theorem ET.by {m : M Bool} {t : TT} (h : PT X e t) (i : ∀ G ρ σ H Q, Ok ⟨X.K, cl⟩ G H σ ρ → At rB ⟨X.K, cl⟩ W m G ρ σ H Q → t σ H Q) : ET cl X W e m := h.imp fun σ H Q ⟨G, ρ, k, a⟩ => i G ρ σ H Q k a
theorem EW.by {m : M Bool} {t : TT} (h : PW X e t) (i : ∀ G ρ σ H Q, Ok ⟨X.K, cl⟩ G H σ ρ → At rB ⟨X.K, cl⟩ W m G ρ σ H Q → t σ H Q) : EW cl X W e m := h.imp fun σ H Q ⟨G, ρ, k, a⟩ => i G ρ σ H Q k a
theorem EA.by {m : M (List Rf)} {t : TA} (h : PA X es t) (i : ∀ G ρ σ H Q, Ok ⟨X.K, cl⟩ G H σ ρ → At rA ⟨X.K, cl⟩ W m G ρ σ H Q → t σ H Q) : EA cl X W es m := h.imp fun σ H Q ⟨G, ρ, k, a⟩ => i G ρ σ H Q k a
theorem EL.by {m : M (List D)} {t : TA} (h : PA X es t) (i : ∀ G ρ σ H Q, Ok ⟨X.K, cl⟩ G H σ ρ → At rLs ⟨X.K, cl⟩ W m G ρ σ H Q → t σ H Q) : EL cl X W es m := h.imp fun σ H Q ⟨G, ρ, k, a⟩ => i G ρ σ H Q k a

/-! ### constants -/
def eC (d : D) : M D := M.ret d
theorem ed_int {i : Int} {j} : ED cl X W (.Constant (.int i) j pos) (eC (.int i)) := EX.by pe_int fun G ρ σ H Q k h => h.ret k rfl
theorem ed_bl {i : Bool} {j} : ED cl X W (.Constant (.bool i) j pos) (eC (.bl i)) := EX.by pe_bl fun G ρ σ H Q k h => h.ret k rfl
theorem ed_non {j} : ED cl X W (.Constant .none j pos) (eC .non) := EX.by pe_non fun G ρ σ H Q k h => h.ret k rfl
theorem ed_str {i : Str} {j} : ED cl X W (.Constant (.str i) j pos) (eC (.str i)) := EX.by pe_str fun G ρ σ H Q k h => h.ret k rfl

/-! ### arguments, displays -/
def aNil : M (List Rf) := M.ret []
def aCons (m : M Rf) (r : M (List Rf)) : M (List Rf) := M.bind m fun x => M.bind r fun xs => M.ret (x :: xs)
theorem ea_nil : EA cl X W [] aNil := EA.by pa_nil fun G ρ σ H Q k h => h.ret k rfl
theorem ea_cons {m : M Rf} {r : M (List Rf)} (he : ER cl X W e m) (hr : EA cl X W es r) (hs : starEach (e :: es) X.env = (false, eval e X.env) :: starEach es X.env := by rfl) : EA cl X W (e :: es) (aCons m r) :=
  EA.by (pa_cons he hr hs) fun G ρ σ H Q k h => at_tX k (At.bind (Ra := rR) rA_back h fun x ρ1 v1 G1 H1 n1 k1 r1 h1 => at_tX k1 (At.bind (Ra := rA) rA_back h1 fun xs ρ2 vs G2 H2 n2 k2 r2 h2 =>
    h2.ret k2 ⟨v1, vs, rfl, rR_keep n2 r1, RL_any (Ex.refl _) xs vs r2⟩))
def lNil : M (List D) := M.ret []
def lCons (m : M D) (r : M (List D)) : M (List D) := M.bind m fun x => M.bind r fun xs => M.ret (x :: xs)
theorem el_nil : EL cl X W [] lNil := EL.by pa_nil fun G ρ σ H Q k h => h.ret k rfl
theorem el_cons {m : M D} {r : M (List D)} (he : ED cl X W e m) (hr : EL cl X W es r) (hs : starEach (e :: es) X.env = (false, eval e X.env) :: starEach es X.env := by rfl) : EL cl X W (e :: es) (lCons m r) :=
  EL.by (pa_cons he hr hs) fun G ρ σ H Q k h => at_tX k (At.bind (Ra := rD) rLs_back h fun x ρ1 v1 G1 H1 n1 k1 r1 h1 => at_tX k1 (At.bind (Ra := rLs) rLs_back h1 fun xs ρ2 vs G2 H2 n2 k2 r2 h2 =>
    h2.ret k2 ⟨v1, vs, rfl, Rep.mono n2.g x v1 r1, r2⟩))
def M.chk (p : Bool) : M Unit := if p = true then M.ret () else M.stuck
theorem At.chk {α δ : Type} {R : RelT α δ} {p : Bool} {f : Unit → M α} {Q : Wi δ} (h : At R T W (M.bind (M.chk p) f) G ρ σ H Q) : p = true ∧ At R T W (f ()) G ρ σ H Q := by
  cases p with
  | true => exact ⟨rfl, h⟩
  | false =>
    obtain ⟨r, ρ', e, _⟩ := h
    cases e
def eLst (m : M (List D)) : M O := M.bind m fun ds => M.bind (M.chk (decide (ds.length ≤ lim))) fun _ => M.ret (.lst ds)
def eTup (m : M (List D)) : M D := M.bind m fun ds => M.bind (M.chk (decide (ds.length ≤ lim))) fun _ => M.ret (.tup ds)
theorem eo_lst {m : M (List D)} (h : EL cl X W es m) : EO cl X W (.List es pos) (eLst m) := EX.by (pe_lst h) fun G ρ σ H Q k a => at_tX k (At.bind (Ra := rLs) rO_back a fun ds ρ1 vs G1 H1 n1 k1 r1 a1 => by
  obtain ⟨p, a2⟩ := a1.chk
  exact ⟨lim_le (by rw [r1.length]; exact of_decide_eq_true p), a2.newL k1 r1⟩)
theorem ed_tup {m : M (List D)} {x1} (h : EL cl X W es m) : ED cl X W (.Tuple es x1 pos) (eTup m) := EX.by (pe_tup h) fun G ρ σ H Q k a => at_tX k (At.bind (Ra := rLs) rD_back a fun ds ρ1 vs G1 H1 n1 k1 r1 a1 => by
  obtain ⟨p, a2⟩ := a1.chk
  refine ⟨lim_le (by rw [r1.length]; exact of_decide_eq_true p), fun q hq => ?_⟩
  obtain ⟨n, k'⟩ := new_nx (o := .tup vs) hq k1
  exact a2.done n k' ⟨q, vs, rfl, SqT.of upd_same, RepL.mono n.g _ _ r1⟩)

/-! ### tests -/
def eT (m : M D) : M Bool := M.bind m fun d => match d with | .bl b => M.ret b | _ => M.stuck
/-- an expression that is a bool, as a test -/
theorem et_val {m : M D} (h : ED cl X W e m) (he : ∀ whole, isTrue e X.env whole = (do let v ← whole; standAt e.pos; holding [v] (truthy v)) := by intro _; rfl) : ET cl X W e (eT m) :=
  ET.by (pt_val h he) fun G ρ σ H Q k a => at_tX k (At.bind (Ra := rD) rB_back a fun d ρ1 v G1 H1 n1 k1 r1 a1 => by
    cases d with
    | bl b =>
      obtain rfl : v = .bl b := r1
      exact ⟨b, rfl, a1.ret k1 rfl⟩
    | _ =>
      obtain ⟨r, ρ', e, _⟩ := a1
      cases e)
theorem et_cmp {op : CmpOp} {r : R2} {f : D → D → Option D} {xa xb : M Rf} (ho : OpR X (compareOp op) r)
    (hf : ∀ G H σ ρ d1 d2 o v1 v2 Q, Ok ⟨X.K, cl⟩ G H σ ρ → f d1 d2 = some o → RepT ⟨X.K, cl⟩ G H d1 v1 → RepT ⟨X.K, cl⟩ G H d2 v2 → At rD ⟨X.K, cl⟩ W (M.ret o) G ρ σ H Q → r v1 v2 H Q)
    (hm : behindInMarks op b = false) (ha : ER cl X W a xa) (hb : ER cl X W b xb) : ET cl X W (.Compare a [op] [b] pos) (eT (eBinD f xa xb)) :=
  ET.by (pt_cmpR ho ha hb hm) fun G ρ σ H Q k h => by
    -- the comparison's value, then its truth
    have key : At rD ⟨X.K, cl⟩ W (eBinD f xa xb) G ρ σ H fun x H' => ∃ c, x = .bl c ∧ Q c H' := At.bind (Ra := rD) rB_back h fun d ρ1 v G1 H1 n1 k1 r1 a1 => by
      cases d with
      | bl b =>
        obtain rfl : v = .bl b := r1
        exact ⟨b, rfl, a1.ret k1 rfl⟩
      | _ =>
        obtain ⟨r, ρ', e, _⟩ := a1
        cases e
    exact at_tX k (At.bind (Ra := rR) rD_back key fun x ρ1 v1 G1 H1 n1 k1 r1 h1 => at_tX k1 (At.bind (Ra := rR) rD_back h1 fun y ρ2 v2 G2 H2 n2 k2 r2 h2 => by
      obtain ⟨d1, q1, h3⟩ := At.get h2 k2 (rR_keep n2 r1)
      obtain ⟨d2, q2, h4⟩ := At.get h3 k2 r2
      obtain ⟨o, e, h5⟩ := h4.lift
      exact hf _ _ _ _ _ _ _ _ _ _ k2 e q1 q2 h5))
def mAnd (a b : M Bool) : M Bool := M.bind a fun c => if c = true then b else M.ret false
def mOr (a b : M Bool) : M Bool := M.bind a fun c => if c = true then M.ret true else b
def mNot (a : M Bool) : M Bool := M.bind a fun c => M.ret (!c)
theorem ew_and1 (h : ET cl X W a ma) : EW cl X W (.BoolOp .And [a] pos) ma := pw_and1 h
theorem ew_or1 (h : ET cl X W a ma) : EW cl X W (.BoolOp .Or [a] pos) ma := pw_or1 h
theorem ew_and {rest : List Expr} (h : ET cl X W a ma) (h' : EW cl X W (.BoolOp .And (b :: rest) pos) mb) : EW cl X W (.BoolOp .And (a :: b :: rest) pos) (mAnd ma mb) :=
  EW.by (pw_and h h') fun G ρ σ H Q k x => at_tX k (At.bind (Ra := rB) rB_back x fun c ρ1 c' G1 H1 n1 k1 r1 a1 => by
    obtain rfl : c = c' := r1
    cases c with
    | true => exact at_tX k1 a1
    | false => exact a1.ret k1 rfl)
theorem ew_or {rest : List Expr} (h : ET cl X W a ma) (h' : EW cl X W (.BoolOp .Or (b :: rest) pos) mb) : EW cl X W (.BoolOp .Or (a :: b :: rest) pos) (mOr ma mb) :=
  EW.by (pw_or h h') fun G ρ σ H Q k x => at_tX k (At.bind (Ra := rB) rB_back x fun c ρ1 c' G1 H1 n1 k1 r1 a1 => by
    obtain rfl : c = c' := r1
    cases c with
    | true => exact a1.ret k1 rfl
    | false => exact at_tX k1 a1)
theorem et_w (h : EW cl X W e ma) : ET cl X W e ma := h.pt
theorem et_not (h : ET cl X W a ma) : ET cl X W (.UnaryOp .Not a pos) (mNot ma) := ET.by (pt_not h) fun G ρ σ H Q k x => at_tX k (At.bind (Ra := rB) rB_back x fun c ρ1 c' G1 H1 n1 k1 r1 a1 => by
  obtain rfl : c = c' := r1
  exact a1.ret k1 rfl)
/-- and, or, not of bools as values -/
def vAnd (a b : M D) : M D := M.bind a fun d => match d with | .bl true => b | .bl false => M.ret (.bl false) | _ => M.stuck
def vOr (a b : M D) : M D := M.bind a fun d => match d with | .bl true => M.ret (.bl true) | .bl false => b | _ => M.stuck
def vNot (a : M D) : M D := M.bind a fun d => match d with | .bl b => M.ret (.bl (!b)) | _ => M.stuck
theorem ed_one {op} {m : M D} (h : ED cl X W a m) : ED cl X W (.BoolOp op [a] pos) m := pe_one h
theorem ed_and {rest : List Expr} {m m' : M D} (h : ED cl X W a m) (h' : ED cl X W (.BoolOp .And (b :: rest) pos) m') : ED cl X W (.BoolOp .And (a :: b :: rest) pos) (vAnd m m') :=
  EX.by (pe_and h h') fun G ρ σ H Q k x => at_tX k (At.bind (Ra := rD) rD_back x fun d ρ1 v G1 H1 n1 k1 r1 a1 => by
    cases d with
    | bl c =>
      obtain rfl : v = .bl c := r1
      refine ⟨c, rfl, ?_⟩
      cases c with
      | true => exact at_tX k1 a1
      | false => exact a1.ret k1 rfl
    | _ =>
      obtain ⟨r, ρ', e, _⟩ := a1
      cases e)
theorem ed_or {rest : List Expr} {m m' : M D} (h : ED cl X W a m) (h' : ED cl X W (.BoolOp .Or (b :: rest) pos) m') : ED cl X W (.BoolOp .Or (a :: b :: rest) pos) (vOr m m') :=
  EX.by (pe_or h h') fun G ρ σ H Q k x => at_tX k (At.bind (Ra := rD) rD_back x fun d ρ1 v G1 H1 n1 k1 r1 a1 => by
    cases d with
    | bl c =>
      obtain rfl : v = .bl c := r1
      refine ⟨c, rfl, ?_⟩
      cases c with
      | true => exact a1.ret k1 rfl
      | false => exact at_tX k1 a1
    | _ =>
      obtain ⟨r, ρ', e, _⟩ := a1
      cases e)
theorem ed_not {m : M D} (h : ED cl X W a m) : ED cl X W (.UnaryOp .Not a pos) (vNot m) := EX.by (pe_not h) fun G ρ σ H Q k x => at_tX k (At.bind (Ra := rD) rD_back x fun d ρ1 v G1 H1 n1 k1 r1 a1 => by
  cases d with
  | bl c =>
    obtain rfl : v = .bl c := r1
    exact ⟨c, rfl, a1.ret k1 rfl⟩
  | _ =>
    obtain ⟨r, ρ', e, _⟩ := a1
    cases e)
/-- a if t else b -/
def eIf {α : Type} (t : M Bool) (x y : M α) : M α := M.bind t fun c => if c = true then x else y
theorem ex_if {α : Type} {R : RelT α V} (hb : Back R) {c : Expr} {x y : M α} (hc : ET cl X W c ma) (ha : EX cl X W R a x) (hb' : EX cl X W R b y) : EX cl X W R (.IfExp c a b pos) (eIf ma x y) :=
  EX.by (pe_ifExp hc ha hb') fun G ρ σ H Q k z => at_tX k (At.bind (Ra := rB) hb z fun c ρ1 c' G1 H1 n1 k1 r1 a1 => by
    obtain rfl : c = c' := r1
    cases c with
    | true => exact at_tX k1 a1
    | false => exact at_tX k1 a1)
end
end Fn

set_option maxRecDepth 100000
set_option maxHeartbeats 4000000
namespace Fn
open PySem PySem.Spec PyProof.Rows L2

/-! ### whole numbers -/
def bits (i : Int) : Nat := Builtin.Int.intBits i
def fSub : D → D → Option D
  | .int i, .int j => some (.int (i - j))
  | _, _ => none
def fMod : D → D → Option D
  | .int i, .int j => if 0 < j then some (.int (i % j)) else none
  | _, _ => none
def fDiv : D → D → Option D
  | .int i, .int j => if 0 < j ∧ bits j ≤ 9000 then some (.int (i / j)) else none
  | _, _ => none
def fPow : D → D → Option D
  | .int i, .int j => if 0 ≤ j ∧ (bits i : Int) * j ≤ 100000000 then some (.int (i ^ j.toNat)) else none
  | _, _ => none
/-- ints; a list so many times -/
def fMul : D → D → Option O
  | .int i, .int j => if bits i + bits j ≤ 100000000 then some (.dat (.int (i * j))) else none
  | .lst xs, .int k => if xs.length * k.toNat ≤ lim ∧ -1000000 ≤ k ∧ k ≤ 1000000 then some (.lst (List.replicate k.toNat xs).flatten) else none
  | _, _ => none
def CPowB (i j : Int) : Prop := 0 ≤ j ∧ (bits i : Int) * j ≤ 100000000
theorem op_powB {X : Cx} : OpR X (binaryOp .Pow) (rI CPowB fun i j => .int (i ^ j.toNat)) := opI fun _ _ _ _ _ _ _ hc q => pow_int hc.1 (Int.le_trans hc.2 (by decide)) q
def CMulB (i j : Int) : Prop := bits i + bits j ≤ 100000000
theorem CMulB.fits {i j : Int} (h : CMulB i j) : IntMulOk i j := by
  have h' : Builtin.Int.intBits i + Builtin.Int.intBits j ≤ 100000000 := h
  have e : bitsLine = 134217728 := by decide
  intro z
  have z2 := (Bool.and_eq_true_iff.mp z).2
  unfold Builtin.Int.intTooBig at z2
  have z3 := of_decide_eq_true z2
  rw [e] at z3
  omega
theorem op_mulB {X : Cx} : OpR X (binaryOp .Mult) (rI CMulB fun i j => .int (i * j)) := opI fun _ _ _ _ _ _ _ hc q => mul_int q hc.fits

section
variable {cl : Str → Option Addr} {X : Cx} {W : WX} {pos : Pos} {a b : Expr} {ma mb : M Rf} {G H : Hp} {σ : L2.St} {ρ : En} {T : Cs} {Q : VK}
theorem ed_sub (ha : ER cl X W a ma) (hb : ER cl X W b mb) : ED cl X W (.BinOp a .Sub b pos) (eBinD fSub ma mb) := ed_bin op_sub (fun G H σ ρ d1 d2 o v1 v2 Q k e q1 q2 h => by
  unfold fSub at e
  split at e
  · cases e
    obtain rfl := q1.int
    obtain rfl := q2.int
    exact ⟨_, _, rfl, rfl, h.ret k rfl⟩
  · cases e) ha hb
theorem ed_mod (ha : ER cl X W a ma) (hb : ER cl X W b mb) : ED cl X W (.BinOp a .Mod b pos) (eBinD fMod ma mb) := ed_bin op_mod (fun G H σ ρ d1 d2 o v1 v2 Q k e q1 q2 h => by
  unfold fMod at e
  split at e
  · split at e
    · rename_i hp
      cases e
      obtain rfl := q1.int
      obtain rfl := q2.int
      exact ⟨_, _, rfl, rfl, hp, h.ret k rfl⟩
    · cases e
  · cases e) ha hb
theorem bits_log {j : Int} {n : Nat} (h : bits j ≤ n) (h0 : 0 < n) : j.natAbs.log2 < n := by
  unfold bits Builtin.Int.intBits at h
  by_cases z : (j == 0) = true
  · have z' : j = 0 := by simpa using z
    subst z'
    exact (by show Nat.log2 0 < n; rw [show Nat.log2 0 = 0 from by decide]; exact h0)
  · rw [if_neg z] at h
    omega
theorem ed_div (ha : ER cl X W a ma) (hb : ER cl X W b mb) : ED cl X W (.BinOp a .FloorDiv b pos) (eBinD fDiv ma mb) := ed_bin op_fdivW (fun G H σ ρ d1 d2 o v1 v2 Q k e q1 q2 h => by
  unfold fDiv at e
  split at e
  · split at e
    · rename_i hp
      cases e
      obtain rfl := q1.int
      obtain rfl := q2.int
      exact ⟨_, _, rfl, rfl, ⟨hp.1, bits_log hp.2 (by decide)⟩, h.ret k rfl⟩
    · cases e
  · cases e) ha hb
theorem ed_pow (ha : ER cl X W a ma) (hb : ER cl X W b mb) : ED cl X W (.BinOp a .Pow b pos) (eBinD fPow ma mb) := ed_bin op_powB (fun G H σ ρ d1 d2 o v1 v2 Q k e q1 q2 h => by
  unfold fPow at e
  split at e
  · split at e
    · rename_i hp
      cases e
      obtain rfl := q1.int
      obtain rfl := q2.int
      exact ⟨_, _, rfl, rfl, hp, h.ret k rfl⟩
    · cases e
  · cases e) ha hb
theorem RepL.rep {ds : List D} {xs : List V} (h : RepL T G ds xs) : ∀ n : Nat, RepL T G (List.replicate n ds).flatten (List.replicate n xs).flatten
  | 0 => rfl
  | n + 1 => by
    rw [List.replicate_succ, List.replicate_succ, List.flatten_cons, List.flatten_cons]
    exact h.append (RepL.rep h n)
theorem eo_mul (ha : ER cl X W a ma) (hb : ER cl X W b mb) : EO cl X W (.BinOp a .Mult b pos) (eBin fMul ma mb) := eo_bin (OpR.or op_mulB op_rep) (fun G H σ ρ d1 d2 o v1 v2 Q k e q1 q2 h => by
  unfold fMul at e
  split at e
  · split at e
    · rename_i hp
      cases e
      obtain rfl := q1.int
      obtain rfl := q2.int
      exact .inl ⟨_, _, rfl, rfl, hp, h.flat k rfl⟩
    · cases e
  · split at e
    · rename_i hp
      cases e
      obtain ⟨p, xs, rfl, h1, r1⟩ := q1.lst k
      obtain rfl := q2.int
      obtain ⟨hl, h2, h3⟩ := hp
      refine .inr ⟨p, _, xs, rfl, rfl, h1, by omega, by omega, lim_le (by rw [r1.length]; exact hl), h.newL k (r1.rep _)⟩
    · cases e
  · cases e) ha hb
/-- less, at most, .. of ints and of texts -/
def fLt : D → D → Option D
  | .int i, .int j => some (.bl (decide (i < j)))
  | .str x, .str y => some (.bl (decide (x.cps.toList < y.cps.toList)))
  | _, _ => none
def fLe : D → D → Option D
  | .int i, .int j => some (.bl (decide (i ≤ j)))
  | .str x, .str y => some (.bl (!decide (y.cps.toList < x.cps.toList)))
  | _, _ => none
def fGt : D → D → Option D
  | .int i, .int j => some (.bl (decide (j < i)))
  | .str x, .str y => some (.bl (decide (y.cps.toList < x.cps.toList)))
  | _, _ => none
def fGe : D → D → Option D
  | .int i, .int j => some (.bl (decide (j ≤ i)))
  | .str x, .str y => some (.bl (!decide (x.cps.toList < y.cps.toList)))
  | _, _ => none
abbrev HopD (cl : Str → Option Addr) (X : Cx) (W : WX) (f : D → D → Option D) (r : R2) : Prop :=
  ∀ (G H : Hp) (σ : L2.St) (ρ : En) (d1 d2 o : D) (v1 v2 : V) (Q : VK), Ok ⟨X.K, cl⟩ G H σ ρ → f d1 d2 = some o → RepT ⟨X.K, cl⟩ G H d1 v1 → RepT ⟨X.K, cl⟩ G H d2 v2 → At rD ⟨X.K, cl⟩ W (M.ret o) G ρ σ H Q → r v1 v2 H Q
def opLt {X : Cx} := OpR.or (X := X) op_lt op_lt_str
def opLe {X : Cx} := OpR.or (X := X) op_le op_le_str
def opGt {X : Cx} := OpR.or (X := X) op_gt op_gt_str
def opGe {X : Cx} := OpR.or (X := X) op_ge op_ge_str
theorem hop_lt : HopD cl X W fLt (fun x y H Q => rI0 (fun i j => .bl (decide (i < j))) x y H Q ∨ ∃ i j, x = .str i ∧ y = .str j ∧ Q (.bl (decide (i.cps.toList < j.cps.toList))) H) := fun G H σ ρ d1 d2 o v1 v2 Q k e q1 q2 h => by
  unfold fLt at e
  split at e
  · cases e
    obtain rfl := q1.int
    obtain rfl := q2.int
    exact .inl ⟨_, _, rfl, rfl, h.ret k rfl⟩
  · cases e
    obtain rfl := q1.str
    obtain rfl := q2.str
    exact .inr ⟨_, _, rfl, rfl, h.ret k rfl⟩
  · cases e
theorem hop_le : HopD cl X W fLe (fun x y H Q => rI0 (fun i j => .bl (decide (i ≤ j))) x y H Q ∨ ∃ i j, x = .str i ∧ y = .str j ∧ Q (.bl (!decide (j.cps.toList < i.cps.toList))) H) := fun G H σ ρ d1 d2 o v1 v2 Q k e q1 q2 h => by
  unfold fLe at e
  split at e
  · cases e
    obtain rfl := q1.int
    obtain rfl := q2.int
    exact .inl ⟨_, _, rfl, rfl, h.ret k rfl⟩
  · cases e
    obtain rfl := q1.str
    obtain rfl := q2.str
    exact .inr ⟨_, _, rfl, rfl, h.ret k rfl⟩
  · cases e
theorem hop_gt : HopD cl X W fGt (fun x y H Q => rI0 (fun i j => .bl (decide (j < i))) x y H Q ∨ ∃ i j, x = .str i ∧ y = .str j ∧ Q (.bl (decide (j.cps.toList < i.cps.toList))) H) := fun G H σ ρ d1 d2 o v1 v2 Q k e q1 q2 h => by
  unfold fGt at e
  split at e
  · cases e
    obtain rfl := q1.int
    obtain rfl := q2.int
    exact .inl ⟨_, _, rfl, rfl, h.ret k rfl⟩
  · cases e
    obtain rfl := q1.str
    obtain rfl := q2.str
    exact .inr ⟨_, _, rfl, rfl, h.ret k rfl⟩
  · cases e
theorem hop_ge : HopD cl X W fGe (fun x y H Q => rI0 (fun i j => .bl (decide (j ≤ i))) x y H Q ∨ ∃ i j, x = .str i ∧ y = .str j ∧ Q (.bl (!decide (i.cps.toList < j.cps.toList))) H) := fun G H σ ρ d1 d2 o v1 v2 Q k e q1 q2 h => by
  unfold fGe at e
  split at e
  · cases e
    obtain rfl := q1.int
    obtain rfl := q2.int
    exact .inl ⟨_, _, rfl, rfl, h.ret k rfl⟩
  · cases e
    obtain rfl := q1.str
    obtain rfl := q2.str
    exact .inr ⟨_, _, rfl, rfl, h.ret k rfl⟩
  · cases e

/-! ### == of data -/
mutual
def toPy : D → Option PyData
  | .non => some .none
  | .bl b => some (.bool b)
  | .int i => some (.int i)
  | .str x => some (.str x)
  | .lst ds => (toPyL ds).map .list
  | .ro ds => (toPyL ds).map .list
  | .tup ds => (toPyL ds).map .tuple
  | .dk ks ds => (toPyL ds).map fun ps => .dict ((ks.map fun k => match k with | .inl i => PyData.int i | .inr x => PyData.str x).zip ps)
  | .exc _ _ _ => none
def toPyL : List D → Option (List PyData)
  | [] => some []
  | d :: ds => (toPy d).bind fun p => (toPyL ds).map fun ps => p :: ps
end
theorem RepT.inH {d : D} {v : V} (k : Ok T G H σ ρ) (h : RepT T G H d v) : Rep T H d v := by
  rcases h with h | ⟨o, p, e, q⟩
  · exact Rep.mono k.sub d v h
  · cases o with
    | lst xs =>
      cases e
      obtain ⟨a, ys, h1, h2, h3, h4⟩ := q
      exact ⟨a, ys, h1, h2, RepL.mono k.sub _ _ h4⟩
    | dk ks vs =>
      cases e
      obtain ⟨a, kvs, h1, h2, h3, h4, h5⟩ := q
      exact ⟨a, kvs, h1, .inl h2, h4, RepL.mono k.sub _ _ h5⟩
    | dat _ => cases p
    | fz _ => cases p
end
end Fn

set_option maxRecDepth 100000
set_option maxHeartbeats 4000000
namespace Fn
open PySem PySem.Spec PyProof.Rows L2

def keyPy : Key → PyData
  | .inl i => .int i
  | .inr x => .str x
theorem pairs_keys {P : Program} {w : World} {h : Heap} {es : List DictEntry} {vs : List (Key × Value)} (r : Pairs (mixKind P w) es vs) : ReadsAll h (es.map (·.key)) (vs.map fun p => keyPy p.1) [] ∧ es.map (·.val) = vs.map (·.2) := by
  induction r with
  | nil => exact ⟨.nil, rfl⟩
  | @cons e kv es kvs h1 h2 _ ih =>
    obtain ⟨i1, i2⟩ := ih
    refine ⟨?_, by rw [List.map_cons, List.map_cons, h2, i2]⟩
    rw [List.map_cons, List.map_cons]
    have rk : Reads h e.key (keyPy kv.1) [] := by
      rcases keyIs_shape (k := kv.1) (v := e.key) h1 with ⟨i, t, e1, e2⟩ | ⟨x, t, e1, e2⟩
      · rw [e1, e2]
        exact .int i t
      · rw [e1, e2]
        exact .str x t
    exact .cons (as := []) (bs := []) rk i1
theorem toPyL_length : ∀ {ds : List D} {ps : List PyData}, toPyL ds = some ps → ps.length = ds.length
  | [], ps, e => by
    cases e
    rfl
  | d :: ds, ps, e => by
    have e' : ((toPy d).bind fun p => (toPyL ds).map fun ps => p :: ps) = some ps := e
    cases h1 : toPy d with
    | none =>
      rw [h1] at e'
      cases e'
    | some p =>
      cases h2 : toPyL ds with
      | none =>
        rw [h1, h2] at e'
        cases e'
      | some qs =>
        rw [h1, h2] at e'
        cases e'
        rw [List.length_cons, List.length_cons, toPyL_length h2]
theorem map_zip_fst {α β : Type} : ∀ {xs : List α} {ys : List β}, ys.length = xs.length → (xs.zip ys).map (·.1) = xs ∧ (xs.zip ys).map (·.2) = ys
  | [], [], _ => ⟨rfl, rfl⟩
  | x :: xs, y :: ys, h => by
    obtain ⟨i1, i2⟩ := map_zip_fst (xs := xs) (ys := ys) (by simpa using h)
    rw [List.zip_cons_cons, List.map_cons, List.map_cons, i1, i2]
    exact ⟨rfl, rfl⟩
/-- no list stands where sys.modules stands -/
def NoSys (K : PySem.W.Frag) (H : Hp) : Prop := ∀ xs, ¬ SqL K H sysModules xs
section
variable {cls : Str → Option Addr} {X : Cx} {pins : List (Addr × Obj)} {σ : L2.St} {H : Hp} {s : Shared}
theorem vals_snd : ∀ {kvs : List (Key × V)} {vs : List (Key × Value)}, KV kvs vs → Vals (kvs.map (·.2)) (vs.map (·.2)) ∧ kvs.map (·.1) = vs.map (·.1)
  | _, _, .nil => ⟨.nil, rfl⟩
  | _, _, .cons r t => by
    obtain ⟨i1, i2⟩ := vals_snd t
    rw [List.map_cons, List.map_cons, List.map_cons, List.map_cons, i2, r.1]
    exact ⟨.cons r.2 i1, rfl⟩
mutual
theorem Rep.reads (I : Inv X pins σ H s) (hS : NoSys X.K H) : ∀ (d : D) (v : V) (u : Value) (p : PyData), Rep ⟨X.K, cls⟩ H d v → toPy d = some p → RelV v u → ∃ as, Reads s.heap u p as ∧ sysModules ∉ as
  | .non, v, u, p, h, e, r => by
    cases e
    obtain rfl : v = .non := h
    cases r
    exact ⟨[], .none, List.not_mem_nil⟩
  | .bl b, v, u, p, h, e, r => by
    cases e
    obtain rfl : v = .bl b := h
    cases r
    exact ⟨[], .bool b, List.not_mem_nil⟩
  | .int i, v, u, p, h, e, r => by
    cases e
    obtain rfl : v = .int i := h
    obtain ⟨t, rfl⟩ := r
    exact ⟨[], .int i t, List.not_mem_nil⟩
  | .str x, v, u, p, h, e, r => by
    cases e
    obtain rfl : v = .str x := h
    obtain ⟨t, rfl⟩ := r
    exact ⟨[], .str x t, List.not_mem_nil⟩
  | .lst ds, v, u, p, h, e, r => by
    obtain ⟨a, xs, rfl, h1, h2⟩ := h
    cases r
    obtain ⟨ps, e1, rfl⟩ := Option.map_eq_some_iff.mp (show (toPyL ds).map PyData.list = some p from e)
    obtain ⟨its, rv, ⟨o, n, ho, hc, _, hd⟩, _⟩ := I.list (SqL.of h1)
    obtain ⟨as, r1, r2⟩ := RepL.reads I hS ds xs its ps h2 e1 rv
    refine ⟨a :: as, .list ho hc hd r1, fun z => ?_⟩
    rcases List.mem_cons.mp z with z | z
    · subst z
      exact hS xs (SqL.of h1)
    · exact r2 z
  | .ro ds, v, u, p, h, e, r => by
    obtain ⟨a, xs, rfl, h1, h2⟩ := h
    cases r
    obtain ⟨ps, e1, rfl⟩ := Option.map_eq_some_iff.mp (show (toPyL ds).map PyData.list = some p from e)
    obtain ⟨its, rv, ⟨o, n, ho, hc, _, hd⟩, _⟩ := I.list h1
    obtain ⟨as, r1, r2⟩ := RepL.reads I hS ds xs its ps h2 e1 rv
    refine ⟨a :: as, .list ho hc hd r1, fun z => ?_⟩
    rcases List.mem_cons.mp z with z | z
    · subst z
      exact hS xs h1
    · exact r2 z
  | .tup ds, v, u, p, h, e, r => by
    obtain ⟨a, xs, rfl, h1, h2⟩ := h
    cases r
    obtain ⟨ps, e1, rfl⟩ := Option.map_eq_some_iff.mp (show (toPyL ds).map PyData.tuple = some p from e)
    obtain ⟨its, rv, ⟨o, ho, hc, n, hd⟩, _⟩ := I.tuple h1
    obtain ⟨as, r1, r2⟩ := RepL.reads I hS ds xs its ps h2 e1 rv
    exact ⟨as, .tuple ho hc hd r1, r2⟩
  | .dk ks ds, v, u, p, h, e, r => by
    obtain ⟨a, kvs, rfl, h1, h2, h3⟩ := h
    cases r
    obtain ⟨ps, e1, e2⟩ := Option.map_eq_some_iff.mp (show (toPyL ds).map (fun ps => PyData.dict ((ks.map fun k => match k with | .inl i => PyData.int i | .inr x => PyData.str x).zip ps)) = some p from e)
    obtain ⟨_, hs, vs, rv, o, es, ep, ho, hx, hd, _, hp, _⟩ := dk_rd I.hok h1
    obtain ⟨r1, r2⟩ := vals_snd rv
    obtain ⟨as, r3, r4⟩ := RepL.reads I hS ds _ _ ps h3 e1 r1
    obtain ⟨k1, k2⟩ := pairs_keys (h := s.heap) hp
    have hl : ps.length = (ks.map fun k => match k with | .inl i => PyData.int i | .inr x => PyData.str x).length := by
      rw [List.length_map, toPyL_length e1, ← h2, List.length_map, ← h3.length, List.length_map]
    obtain ⟨z1, z2⟩ := map_zip_fst hl
    have ek : (ks.map fun k => match k with | .inl i => PyData.int i | .inr x => PyData.str x) = vs.map fun p => keyPy p.1 := by
      rw [← h2, r2, List.map_map]
      refine List.map_congr_left fun q _ => ?_
      cases q with
      | mk k w => cases k <;> rfl
    subst e2
    refine ⟨a :: [] ++ as, .dict ho hx.1 hd ?_ ?_, fun z => ?_⟩
    · rw [z1, ek]
      exact k1
    · rw [z2, k2]
      exact r3
    · rcases List.mem_append.mp z with z | z
      · have z' : sysModules = a := by simpa using z
        rw [← z'] at hs
        simp at hs
      · exact r4 z
  | .exc _ _ _, v, u, p, h, e, r => by cases e
theorem RepL.reads (I : Inv X pins σ H s) (hS : NoSys X.K H) : ∀ (ds : List D) (vs : List V) (us : List Value) (ps : List PyData), RepL ⟨X.K, cls⟩ H ds vs → toPyL ds = some ps → Vals vs us → ∃ as, ReadsAll s.heap us ps as ∧ sysModules ∉ as
  | [], vs, us, ps, h, e, r => by
    cases e
    obtain rfl : vs = [] := h
    cases r
    exact ⟨[], .nil, List.not_mem_nil⟩
  | d :: ds, vs, us, ps, h, e, r => by
    obtain ⟨v, w, rfl, h2, h3⟩ := h
    have e' : ((toPy d).bind fun p => (toPyL ds).map fun ps => p :: ps) = some ps := e
    cases r with
    | cons r1 r2 =>
      cases q1 : toPy d with
      | none =>
        rw [q1] at e'
        cases e'
      | some p =>
        cases q2 : toPyL ds with
        | none =>
          rw [q1, q2] at e'
          cases e'
        | some qs =>
          rw [q1, q2] at e'
          cases e'
          obtain ⟨as, a1, a2⟩ := Rep.reads I hS d v _ p h2 q1 r1
          obtain ⟨bs, b1, b2⟩ := RepL.reads I hS ds w _ qs h3 q2 r2
          exact ⟨as ++ bs, .cons a1 b1, fun z => (List.mem_append.mp z).elim a2 b2⟩
end
/-- what the written part tells of sys.modules -/
def SysK (K : PySem.W.Frag) : Prop := ∃ o, K.lookup sysModules = some o ∧ o.cls ≠ .type "list"
theorem noSys (I : Inv X pins σ H s) (hk : SysK X.K) : NoSys X.K H := fun xs h => by
  obtain ⟨o, e, c⟩ := hk
  have z := (I.bs _ _ (I.mod.kin _ _ e)).2
  rcases h with (h | ⟨_, h⟩) | ⟨o', its, n, h1, h2, _⟩
  · rw [z] at h
    cases h
  · rw [z] at h
    cases h
  · rw [e] at h1
    cases h1
    exact c h2
end

/-! ### == and != -/
def dEq (a b : D) : Option Bool := match toPy a, toPy b with
  | some p, some q => if SeqAt.shaped p = true ∧ SeqAt.shaped q = true then some (PyData.eqv p q) else none
  | _, _ => none
def fEq (a b : D) : Option D := (dEq a b).map D.bl
def fNe (a b : D) : Option D := (dEq a b).map fun c => D.bl (!c)
def rEqT (T : Cs) (f : Bool → Bool) : R2 := fun x y H Q => ∃ d e c, Rep T H d x ∧ Rep T H e y ∧ dEq d e = some c ∧ Q (.bl (f c)) H
theorem dEq_some {a b : D} {c : Bool} (h : dEq a b = some c) : ∃ p q, toPy a = some p ∧ toPy b = some q ∧ SeqAt.shaped p = true ∧ SeqAt.shaped q = true ∧ c = PyData.eqv p q := by
  unfold dEq at h
  split at h
  · rename_i p q h1 h2
    split at h
    · rename_i hs
      cases h
      exact ⟨p, q, h1, h2, hs.1, hs.2, rfl⟩
    · cases h
  · cases h
section
variable {cl : Str → Option Addr} {X : Cx} {W : WX}
theorem op_eqT (hk : SysK X.K) (hu : X.A.units + 64 < cLine) : OpR X (compareOp .Eq) (rEqT ⟨X.K, cl⟩ id) := by
  intro pins s σ H x y v u Q I rx ry h
  obtain ⟨d, e, c, hd, he, hc, q⟩ := h
  obtain ⟨p, r, e1, e2, s1, s2, rfl⟩ := dEq_some hc
  obtain ⟨as, r1, _⟩ := Rep.reads I (noSys I hk) d x v p hd e1 rx
  obtain ⟨bs, r2, _⟩ := Rep.reads I (noSys I hk) e y u r he e2 ry
  exact SeqAt.compareEq_shaped r1 r2 s1 s2 hu ⟨.bl (PyData.eqv p r), H, I, rfl, q⟩
theorem op_neT (hk : SysK X.K) (hu : X.A.units + 64 < cLine) : OpR X (compareOp .NotEq) (rEqT ⟨X.K, cl⟩ (!·)) := by
  intro pins s σ H x y v u Q I rx ry h
  obtain ⟨d, e, c, hd, he, hc, q⟩ := h
  obtain ⟨p, r, e1, e2, s1, s2, rfl⟩ := dEq_some hc
  obtain ⟨as, r1, _⟩ := Rep.reads I (noSys I hk) d x v p hd e1 rx
  obtain ⟨bs, r2, _⟩ := Rep.reads I (noSys I hk) e y u r he e2 ry
  exact SeqAt.compareNe_shaped r1 r2 s1 s2 hu ⟨.bl (!PyData.eqv p r), H, I, rfl, q⟩
theorem hop_eq : HopD cl X W fEq (rEqT ⟨X.K, cl⟩ id) := fun G H σ ρ d1 d2 o v1 v2 Q k e q1 q2 h => by
  obtain ⟨c, e1, rfl⟩ := Option.map_eq_some_iff.mp (show (dEq d1 d2).map D.bl = some o from e)
  exact ⟨d1, d2, c, q1.inH k, q2.inH k, e1, h.ret k rfl⟩
theorem hop_ne : HopD cl X W fNe (rEqT ⟨X.K, cl⟩ (!·)) := fun G H σ ρ d1 d2 o v1 v2 Q k e q1 q2 h => by
  obtain ⟨c, e1, rfl⟩ := Option.map_eq_some_iff.mp (show (dEq d1 d2).map (fun c => D.bl (!c)) = some o from e)
  exact ⟨d1, d2, c, q1.inH k, q2.inH k, e1, h.ret k rfl⟩
end
end Fn

set_option maxRecDepth 100000
set_option maxHeartbeats 4000000
namespace Fn
open PySem PySem.Spec PyProof.Rows L2

/-! ### what a def promises, where nothing is being shown -/
structure FnS (P : Program) (w : World) (K : PySem.W.Frag) (mg : Str → Option Value) (base : Heap) (CX : CXT) (k : Nat) (f : Addr) (fd : FuncData) (ps : List Str) (sp : Sp) : Prop where
  len : ∀ vs H Q E, sp vs H Q E → vs.length = ps.length
  go : ∀ (A : Around) (outer : List Env) (s : Shared) (H : Hp) (args : Args) (us : List Value) (vs : List V) (Q : VK) (E : XK), A.guards = some [] → Room k A → Env0 P w K mg base A outer s H →
    BindsTo s fd args (ps.zip us) → Vals vs us → sp vs H Q E → codeAny (model P w) A (.call (.ref f) args) (CR CX outer P w H s Q E) s
section
variable {P : Program} {w : World} {K : PySem.W.Frag} {mg : Str → Option Value} {base : Heap} {CX : CXT}
theorem FnS.mono {j k : Nat} {f : Addr} {fd : FuncData} {ps : List Str} {sp : Sp} (F : FnS P w K mg base CX j f fd ps sp) (h : j ≤ k) : FnS P w K mg base CX k f fd ps sp where
  len := F.len
  go := fun A outer s H args us vs Q E hg hr => F.go A outer s H args us vs Q E hg (hr.mono h)
theorem FnS.imp {k : Nat} {f : Addr} {fd : FuncData} {ps : List Str} {sp sp' : Sp} (F : FnS P w K mg base CX k f fd ps sp) (h : ∀ vs H Q E, sp' vs H Q E → sp vs H Q E) : FnS P w K mg base CX k f fd ps sp' where
  len := fun vs H Q E q => F.len vs H Q E (h _ _ _ _ q)
  go := fun A outer s H args us vs Q E hg hr he hb hv hs => F.go A outer s H args us vs Q E hg hr he hb hv (h _ _ _ _ hs)
/-- a def by its body, nothing being shown -/
theorem fnS_of {k : Nat} {f : Addr} {x qual : Str} {st : Stmt} {fd : FuncData} {N ps : List Str} {sp : Sp} (F : Fun K x qual st f fd) (S : FnScope N ps (defScope st))
    (len : ∀ vs H Q E, sp vs H Q E → vs.length = ps.length)
    (body : ∀ (cdv : Value) (A : Around) (outer : List Env) (s : Shared) (H : Hp) (vs : List V) (Q : VK) (E : XK), A.guards = some [] → Room k (A.deeper (envOfC qual (defScope st) s.heap.objs.size f cdv)) → sp vs H Q E →
      ∃ t, PSs (cxOf CX P w K mg base N qual (defScope st) f cdv A outer s H E) (defBody st) t ∧ t { nx := fun _ H' => Q .non H', rt := Q } (start N vs) H) :
    FnS P w K mg base CX (k + 1) f fd ps sp := by
  obtain ⟨oc, od, kV, doc, pm, an, cdv, ct, osl, e, lk, hcd⟩ := F.ex
  subst e
  constructor
  · exact len
  intro A outer s H args us vs Q E hgd hr e0 hb r hsp
  have inH : K.In s.heap := e0.mod.kin.keeps fun b o z => (e0.bs b o z).1
  have noL : s.heap.NoLimit := e0.mod.nolimit.keeps fun b o z => (e0.bs b o z).1
  have kinds : ∀ y ∈ ps.zip us, (defScope st).names.lookup y.1 = some .local ∨ ((defScope st).names.lookup y.1 = some .cell ∧ ((cellsFrom (s.heap.objs.size + 1) (defScope st).names []).lookup y.1).isSome = true) := by
    rintro ⟨n, v⟩ hy
    rcases S.par n (List.of_mem_zip hy).1 with q | q
    · exact Or.inl q
    · exact Or.inr (And.intro q (PySem.W.cellsFrom_some _ _ _ (Or.inl q)))
  apply codeAny_call_function hr.depth (inH _ _ lk) rfl S.co S.gen rfl (PySem.W.codeRec_of inH hcd)
  apply hb
  apply wpAny_newFunctionEnv_cells S.kind kinds
  intro env he s1 x
  subst he
  constructor
  · exact noL.keeps x.toInCall.keep
  apply codeAny_func
  obtain ⟨t, ht, hq⟩ := body cdv A outer s H vs Q E hgd (hr.deeper _) hsp
  have I := inv_start (CX := CX) (E := E) S hr.hd e0 (len _ _ _ _ hsp) r x
  refine wpAny_mono (ht.run [] s1 (start N vs) H _ I hq) ?_ (fun _ _ z => z)
  intro fl s' hs
  cases fl with
  | ret u =>
    obtain ⟨v, σ', H', J, rv, q⟩ := hs
    exact ⟨v, H', J.os, J.bare, J.base, J.hok, rv, q⟩
  | next =>
    obtain ⟨σ', H', J, q⟩ := hs
    exact ⟨V.non, H', J.os, J.bare, J.base, J.hok, rfl, q⟩
  | brk =>
    obtain ⟨_, _, _, q⟩ := hs
    cases q
  | cont =>
    obtain ⟨_, _, _, q⟩ := hs
    cases q
end
section
variable {X : Cx} {CX : CXT} {k : Nat} {f C : Addr} {fd : FuncData} {ps : List Str} {sp : Sp} {dvs : List V} {ds : List Value} {E : XK} {x m : Str} {p pos apos : Pos} {e o : Expr} {es : List Expr} {ta : TE} {t : TA}
theorem runS {pins : List (Addr × Obj)} {σ : L2.St} {H : Hp} {s : Shared} {Q : VK} {us : List Value} {vs : List V} (F : FnS X.prog X.w X.K X.mg X.base CX k f fd ps sp) (hg : X.A.guards = some []) (hr : Room k X.A) (hb : Binds X.K fd ps ds) (hd : Vals dvs ds) (hx : Passes CX X E)
    (I : Inv X pins σ H s) (r : Vals vs us) (h : sp (vs ++ dvs) H Q E) : wpAny (model X.prog X.w) X.A (call (.ref f) us) (EP X pins σ Q) X.xe s := by
  have r2 := r.append hd
  have hl : (us ++ ds).length = ps.length := r2.length.symm.trans (F.len _ _ _ _ h)
  apply wpAny_call
  refine codeAny_mono (F.go X.A X.stack s H ⟨us, []⟩ (us ++ ds) (vs ++ dvs) Q E hg hr I.env0 (hb s us I.kIn hl) r2 h) ?_
  intro r s' hq
  match r, hq with
  | .error e, hq => exact hx pins σ H s e s' I hq
  | .ok (.ret u), hq => exact I.after hq
/-- a call of a def -/
theorem pe_callS1 (F : FnS X.prog X.w X.K X.mg X.base CX k f fd ps sp) (hgd : X.A.guards = some []) (hr : Room k X.A) (hg : Gl X x) (hm : X.mg x = some (.ref f)) (hk : PySem.W.keepIn X.K (.ref f) = true) (hb : Binds X.K fd ps ds) (hd : Vals dvs ds) (hx : Passes CX X E)
    (ha : PA X (e :: es) t) (hdb : (x == ("__debug__" : Str)) = false := by decide) (he : starEach (e :: es) X.env = (false, eval e X.env) :: starEach es X.env := by rfl) (hpl : (backTo pos (starEach es X.env)).any (·.1) = false := by rfl) :
    PE X (.Call (.Name x p) (e :: es) [] pos) (tCall sp dvs E t) := by
  constructor
  intro pins s σ H Q I h
  apply wpAny_Call_Name_kw
  apply ld_glob I hg hm _ hdb
  refine PySem.W.callWith_K (h₀ := X.base) I.ok.mod.kin hk (thn (ha.run pos pins s σ H _ I h) ?_) he hpl
  rintro us s1 ⟨vs, H1, I1, r, q⟩
  exact And.intro I1.kIn (runS F hgd hr hb hd hx I1 r q)
theorem pe_callS0 (F : FnS X.prog X.w X.K X.mg X.base CX k f fd ps sp) (hgd : X.A.guards = some []) (hr : Room k X.A) (hg : Gl X x) (hm : X.mg x = some (.ref f)) (hk : PySem.W.keepIn X.K (.ref f) = true) (hb : Binds X.K fd ps ds) (hd : Vals dvs ds) (hx : Passes CX X E)
    (hdb : (x == ("__debug__" : Str)) = false := by decide) : PE X (.Call (.Name x p) [] [] pos) (tCall sp dvs E tNil) := by
  constructor
  intro pins s σ H Q I h
  apply wpAny_Call_Name_kw
  apply ld_glob I hg hm _ hdb
  exact PySem.W.callWith_K0 I.kIn hk (runS (us := []) F hgd hr hb hd hx I .nil h)
end

/-! ### repr -/
def dRepr (d : D) : Option Str := match toPy d with
  | some p => if p.showable = true ∧ p.shown.length ≤ lim ∧ p.depth ≤ 60 then some p.shown else none
  | none => none
theorem dRepr_some {d : D} {x : Str} (h : dRepr d = some x) : ∃ p, toPy d = some p ∧ p.showable = true ∧ p.shown.length ≤ lim ∧ p.depth ≤ 60 ∧ x = p.shown := by
  unfold dRepr at h
  split at h
  · rename_i p e
    split at h
    · rename_i hs
      cases h
      exact ⟨p, e, hs.1, hs.2.1, hs.2.2, rfl⟩
    · cases h
  · cases h
section
variable {cl : Str → Option Addr} {X : Cx} {W : WX}
theorem call_reprT (hk : SysK X.K) (hg : X.A.guards = some []) (hu : X.A.units + 64 < cLine) : CallR X (.builtin "repr") (fun xs H Q => ∃ x d t, xs = [x] ∧ Rep ⟨X.K, cl⟩ H d x ∧ dRepr d = some t ∧ Q (.str t) H) := by
  intro pins s σ H xs us Q I r h
  obtain ⟨x, d, t, rfl, hd, ht, q⟩ := h
  obtain ⟨u, rfl, rx⟩ := vals1 r
  obtain ⟨p, e1, s1, s2, s3, rfl⟩ := dRepr_some ht
  obtain ⟨as, rd, na⟩ := Rep.reads I (noSys I hk) d x u p hd e1 rx
  have fin : ∀ h' v tk, (∀ b o, s.heap.get? b = some o → h'.get? b = some o) → EP X pins σ Q (.str p.shown v) { s with heap := h', toks := tk } := fun h' v tk k => ⟨.str p.shown, H, I.kept k, ⟨_, rfl⟩, q⟩
  have go : ∀ a, u = .ref a → wpAny (model X.prog X.w) X.A (call (.builtin "repr") [u]) (EP X pins σ Q) X.xe s := fun a ea => by
    subst ea
    exact repr_of_reads' rd s1 (fun _ => na) hg (by omega) (fun _ _ z => z) fin (lim_le s2)
  cases x with
  | ref a => exact go a rx
  | non =>
    cases rx
    cases rd
    exact P.repr_of_none (fin s.heap _ _ fun _ _ z => z)
  | bl b =>
    cases rx
    cases rd
    exact P.repr_of_bool (fin s.heap _ _ fun _ _ z => z)
  | int i =>
    obtain ⟨t, rfl⟩ := rx
    cases rd
    exact P.repr_of_int (of_decide_eq_true (by simpa only [PyData.showable] using s1)) (fin s.heap _ _ fun _ _ z => z)
  | str y =>
    obtain ⟨t, rfl⟩ := rx
    cases rd
    exact P.repr_of_str (fin s.heap _ _ fun _ _ z => z) (lim_le (by simpa only [PyData.shown] using s2))
  | byt b =>
    obtain ⟨t, rfl⟩ := rx
    cases rd
  | flt b =>
    obtain ⟨t, rfl⟩ := rx
    cases rd
  | ty n =>
    cases rx
    cases rd
end
end Fn

set_option maxRecDepth 100000
set_option maxHeartbeats 4000000
namespace Fn
open PySem PySem.Spec PyProof.Rows L2

/-! ### built-in functions -/
def getL : List Rf → M (List D)
  | [] => M.ret []
  | r :: rs => M.bind r.get fun d => M.bind (getL rs) fun ds => M.ret (d :: ds)
def RepTL (T : Cs) (G H : Hp) : List D → List V → Prop
  | [], vs => vs = []
  | d :: ds, vs => ∃ v w, vs = v :: w ∧ RepT T G H d v ∧ RepTL T G H ds w
section
variable {cl : Str → Option Addr} {X : Cx} {W : WX} {T : Cs} {G H : Hp} {σ : L2.St} {ρ : En} {pos p : Pos} {e : Expr} {es : List Expr}
theorem At.bind_assoc {α β γ δ : Type} {R : RelT γ δ} {m : M α} {f : α → M β} {g : β → M γ} {Q : Wi δ} (h : At R T W (M.bind (M.bind m f) g) G ρ σ H Q) : At R T W (M.bind m fun a => M.bind (f a) g) G ρ σ H Q := by
  obtain ⟨r, ρ', e, o⟩ := h
  refine ⟨r, ρ', ?_, o⟩
  unfold M.bind at e ⊢
  cases q : m ρ with
  | none =>
    simp only [q] at e
    cases e
  | some x =>
    obtain ⟨r1, ρ1⟩ := x
    simp only [q] at e
    cases r1 with
    | ok a => exact e
    | er c ns vs => exact e
theorem At.getL {β δ : Type} {Rb : RelT β δ} {Q : Wi δ} {H0 : Hp} : ∀ {rs : List Rf} {vs : List V} {f : List D → M β}, At Rb T W (M.bind (Fn.getL rs) f) G ρ σ H Q → Ok T G H σ ρ → RL T H0 σ ρ G H rs vs →
    ∃ ds, RepTL T G H ds vs ∧ At Rb T W (f ds) G ρ σ H Q
  | [], vs, f, h, k, hr => ⟨[], hr, h⟩
  | r :: rs, vs, f, h, k, hr => by
    obtain ⟨v, w, rfl, h1, h2⟩ := hr
    obtain ⟨d, q1, a1⟩ := At.get (At.bind_assoc h) k h1
    obtain ⟨ds, q2, a2⟩ := At.getL (f := fun ds => M.bind (M.ret (d :: ds)) f) (At.bind_assoc a1) k h2
    exact ⟨d :: ds, ⟨v, w, rfl, q1, q2⟩, a2⟩
def eFun (f : List D → Option D) (as : M (List Rf)) : M D := M.bind as fun rs => M.bind (getL rs) fun ds => M.lift (f ds)
def eFunO (f : List D → Option O) (as : M (List Rf)) : M O := M.bind as fun rs => M.bind (getL rs) fun ds => M.lift (f ds)
abbrev HopF {α : Type} (R : RelT α V) (cl : Str → Option Addr) (X : Cx) (W : WX) (f : List D → Option α) (r : List V → Hp → VK → Prop) : Prop :=
  ∀ (G H : Hp) (σ : L2.St) (ρ : En) (ds : List D) (o : α) (vs : List V) (Q : VK), Ok ⟨X.K, cl⟩ G H σ ρ → f ds = some o → RepTL ⟨X.K, cl⟩ G H ds vs → At R ⟨X.K, cl⟩ W (M.ret o) G ρ σ H Q → r vs H Q
theorem ex_fun {α : Type} {R : RelT α V} (hb : Back R) {f : List D → Option α} {as : M (List Rf)} {r : List V → Hp → VK → Prop} {c : Expr} {t : TA} (hf : HopF R cl X W f r) (hc : PE X c (tCB r (tX rA ⟨X.K, cl⟩ W as))) :
    EX cl X W R c (M.bind as fun rs => M.bind (getL rs) fun ds => M.lift (f ds)) := EX.by hc fun G ρ σ H Q k a => at_tX k (At.bind (Ra := rA) hb a fun rs ρ1 vs G1 H1 n1 k1 r1 a1 => by
  obtain ⟨ds, q1, a2⟩ := At.getL a1 k1 r1
  obtain ⟨o, e, a3⟩ := a2.lift
  exact hf _ _ _ _ _ _ _ _ k1 e q1 a3)
/-- a built-in function's call; a built-in class's -/
theorem ed_blt {id : String} {x : Str} {f : List D → Option D} {as : M (List Rf)} {r : List V → Hp → VK → Prop} (hc : CallR X (.builtin id) r) (hf : HopF rD cl X W f r) (hg : Gl X x) (hm : X.mg x = none) (hv : bootBuiltins x = some (.builtin id)) (ha : EA cl X W (e :: es) as)
    (hn : x ≠ "__name__" := by decide) (hdb : (x == ("__debug__" : Str)) = false := by decide) (he : starEach (e :: es) X.env = (false, eval e X.env) :: starEach es X.env := by rfl) (hpl : (backTo pos (starEach es X.env)).any (·.1) = false := by rfl) :
    ED cl X W (.Call (.Name x p) (e :: es) [] pos) (eFun f as) := ex_fun (t := tNil) rD_back hf (pe_callB hc hg hm hv ha hn hdb he hpl)
theorem eo_blt {id : String} {x : Str} {f : List D → Option O} {as : M (List Rf)} {r : List V → Hp → VK → Prop} (hc : CallR X (.builtin id) r) (hf : HopF rO cl X W f r) (hg : Gl X x) (hm : X.mg x = none) (hv : bootBuiltins x = some (.builtin id)) (ha : EA cl X W (e :: es) as)
    (hn : x ≠ "__name__" := by decide) (hdb : (x == ("__debug__" : Str)) = false := by decide) (he : starEach (e :: es) X.env = (false, eval e X.env) :: starEach es X.env := by rfl) (hpl : (backTo pos (starEach es X.env)).any (·.1) = false := by rfl) :
    EO cl X W (.Call (.Name x p) (e :: es) [] pos) (eFunO f as) := ex_fun (t := tNil) rO_back hf (pe_callB hc hg hm hv ha hn hdb he hpl)
theorem ed_ty {T : String} {x : Str} {f : List D → Option D} {as : M (List Rf)} {r : List V → Hp → VK → Prop} (hc : CallR X (.type T) r) (hf : HopF rD cl X W f r) (hg : Gl X x) (hm : X.mg x = none) (hv : bootBuiltins x = some (.type T)) (ha : EA cl X W (e :: es) as)
    (hn : x ≠ "__name__" := by decide) (hdb : (x == ("__debug__" : Str)) = false := by decide) (he : starEach (e :: es) X.env = (false, eval e X.env) :: starEach es X.env := by rfl) (hpl : (backTo pos (starEach es X.env)).any (·.1) = false := by rfl) :
    ED cl X W (.Call (.Name x p) (e :: es) [] pos) (eFun f as) := ex_fun (t := tNil) rD_back hf (pe_callTy hc hg hm hv ha hn hdb he hpl)
theorem eo_ty {T : String} {x : Str} {f : List D → Option O} {as : M (List Rf)} {r : List V → Hp → VK → Prop} (hc : CallR X (.type T) r) (hf : HopF rO cl X W f r) (hg : Gl X x) (hm : X.mg x = none) (hv : bootBuiltins x = some (.type T)) (ha : EA cl X W (e :: es) as)
    (hn : x ≠ "__name__" := by decide) (hdb : (x == ("__debug__" : Str)) = false := by decide) (he : starEach (e :: es) X.env = (false, eval e X.env) :: starEach es X.env := by rfl) (hpl : (backTo pos (starEach es X.env)).any (·.1) = false := by rfl) :
    EO cl X W (.Call (.Name x p) (e :: es) [] pos) (eFunO f as) := ex_fun (t := tNil) rO_back hf (pe_callTy hc hg hm hv ha hn hdb he hpl)

def fInt : List D → Option D
  | [.int i] => some (.int i)
  | [.bl b] => some (.int (if b then 1 else 0))
  | _ => none
theorem RepTL.one {d : D} {vs : List V} (h : RepTL T G H [d] vs) : ∃ v, vs = [v] ∧ RepT T G H d v := by
  obtain ⟨v, w, rfl, h1, h2⟩ := h
  obtain rfl : w = [] := h2
  exact ⟨v, rfl, h1⟩
theorem RepTL.two {d e : D} {vs : List V} (h : RepTL T G H [d, e] vs) : ∃ v w, vs = [v, w] ∧ RepT T G H d v ∧ RepT T G H e w := by
  obtain ⟨v, r, rfl, h1, h2⟩ := h
  obtain ⟨w, rfl, h3⟩ := RepTL.one h2
  exact ⟨v, w, rfl, h1, h3⟩
theorem hop_int : HopF rD cl X W fInt (fun xs H Q => (∃ i, xs = [.int i] ∧ Q (.int i) H) ∨ ∃ k, xs = [.bl k] ∧ Q (.int (if k then 1 else 0)) H) := fun G H σ ρ ds o vs Q k e q h => by
  unfold fInt at e
  split at e
  · cases e
    obtain ⟨v, rfl, r⟩ := q.one
    obtain rfl := r.int
    exact .inl ⟨_, rfl, h.ret k rfl⟩
  · cases e
    obtain ⟨v, rfl, r⟩ := q.one
    obtain rfl := r.bl
    exact .inr ⟨_, rfl, h.ret k rfl⟩
  · cases e
def fRepr : List D → Option D
  | [d] => (dRepr d).map .str
  | _ => none
theorem hop_repr : HopF rD cl X W fRepr (fun xs H Q => ∃ x d t, xs = [x] ∧ Rep ⟨X.K, cl⟩ H d x ∧ dRepr d = some t ∧ Q (.str t) H) := fun G H σ ρ ds o vs Q k e q h => by
  unfold fRepr at e
  split at e
  · rename_i d
    obtain ⟨t, e1, rfl⟩ := Option.map_eq_some_iff.mp e
    obtain ⟨v, rfl, r⟩ := q.one
    exact ⟨v, d, t, rfl, r.inH k, e1, h.ret k rfl⟩
  · cases e
/-- len of texts, lists, tuples, dicts -/
def fLen : List D → Option D
  | [.str x] => if x.length ≤ lim then some (.int x.length) else none
  | [.lst xs] => some (.int xs.length)
  | [.ro xs] => some (.int xs.length)
  | [.tup xs] => some (.int xs.length)
  | _ => none
theorem hop_len : HopF rD cl X W fLen (fun xs H Q => ∃ x n, xs = [x] ∧ LenV X.K x H n ∧ Q (.int n) H) := fun G H σ ρ ds o vs Q k e q h => by
  unfold fLen at e
  split at e
  · split at e
    · rename_i hl
      cases e
      obtain ⟨v, rfl, r⟩ := q.one
      obtain rfl := r.str
      exact ⟨_, _, rfl, ⟨lim_le hl, rfl⟩, h.ret k rfl⟩
    · cases e
  · cases e
    obtain ⟨v, rfl, r⟩ := q.one
    obtain ⟨a, xs, rfl, h1, h2⟩ := r.lst k
    exact ⟨_, _, rfl, .inl ⟨xs, SqL.of h1, rfl⟩, h.ret k (by rw [h2.length]; rfl)⟩
  · cases e
    obtain ⟨v, rfl, r⟩ := q.one
    obtain ⟨a, xs, rfl, h1, h2⟩ := r.ro k
    exact ⟨_, _, rfl, .inl ⟨xs, h1, rfl⟩, h.ret k (by rw [h2.length]; rfl)⟩
  · cases e
    obtain ⟨v, rfl, r⟩ := q.one
    obtain ⟨a, xs, rfl, h1, h2, _⟩ := r.tup k
    exact ⟨_, _, rfl, .inr ⟨xs, h1, rfl⟩, h.ret k (by rw [h2.length]; rfl)⟩
  · cases e
def fMax2 : List D → Option D
  | [.int i, .int j] => some (.int (if j > i then j else i))
  | _ => none
def fMin2 : List D → Option D
  | [.int i, .int j] => some (.int (if j < i then j else i))
  | _ => none
theorem hop_max2 : HopF rD cl X W fMax2 (fun xs H Q => ∃ i j, xs = [.int i, .int j] ∧ Q (.int (if j > i then j else i)) H) := fun G H σ ρ ds o vs Q k e q h => by
  unfold fMax2 at e
  split at e
  · cases e
    obtain ⟨v, w, rfl, r1, r2⟩ := q.two
    obtain rfl := r1.int
    obtain rfl := r2.int
    exact ⟨_, _, rfl, h.ret k rfl⟩
  · cases e
theorem hop_min2 : HopF rD cl X W fMin2 (fun xs H Q => ∃ i j, xs = [.int i, .int j] ∧ Q (.int (if j < i then j else i)) H) := fun G H σ ρ ds o vs Q k e q h => by
  unfold fMin2 at e
  split at e
  · cases e
    obtain ⟨v, w, rfl, r1, r2⟩ := q.two
    obtain rfl := r1.int
    obtain rfl := r2.int
    exact ⟨_, _, rfl, h.ret k rfl⟩
  · cases e
end

/-! ### own defs -/
/-- a def, by what it makes of its arguments: what comes out, and what the arguments' own objects are behind -/
abbrev Fx := List O → Option (Res O × List O)
/-- what an exception of a callee tells -/
def WE (E : XK) : WX := fun c d _ H => E c d H
def spF (T : Cs) (n : Nat) (F : Fx) : Sp := fun vs H Q E => vs.length = n ∧ ∃ G os r os', Ok T G H (vs.map some) (os.map some) ∧ F os = some (r, os') ∧ os'.length = os.length ∧ Out rO T (WE E) G H (vs.map some) (os.map some) r (os'.map some) Q
/-- the operands as arguments -/
def argO (ρ : En) : Rf → Option O
  | .d d => some (.dat d)
  | .s i => (ρ[i]?).bind id
def argOs (ρ : En) : List Rf → Option (List O)
  | [] => some []
  | r :: rs => (argO ρ r).bind fun o => (argOs ρ rs).map fun os => o :: os
/-- the variables whose own objects are handed in -/
def lent (ρ : En) : List Rf → List Nat
  | [] => []
  | .d _ :: rs => lent ρ rs
  | .s i :: rs => if ((ρ[i]?).bind id).any O.own = true then i :: lent ρ rs else lent ρ rs
/-- .. as they come back -/
def back (ρ : En) : List Rf → List O → En
  | .s i :: rs, o :: os => if ((ρ[i]?).bind id).any O.own = true then (back ρ rs os).set i (some o) else back ρ rs os
  | _ :: rs, _ :: os => back ρ rs os
  | _, _ => ρ
def O.sh : O → Bool
  | .dat _ => false | _ => true
/-- what came back is shared or own -/
def backOk (ρ : En) : List Rf → List O → Bool
  | .s i :: rs, o :: os => (!((ρ[i]?).bind id).any O.own || o.sh) && backOk ρ rs os
  | _ :: rs, _ :: os => backOk ρ rs os
  | _, _ => true
def callF (F : Fx) (rs : List Rf) : M O := fun ρ => match argOs ρ rs with
  | some os => if (lent ρ rs).Nodup then
      match F os with
      | some (r, os') => if backOk ρ rs os' = true ∧ os'.length = os.length then some (r, back ρ rs os') else none
      | none => none
    else none
  | none => none
end Fn

set_option maxRecDepth 100000
set_option maxHeartbeats 4000000
namespace Fn
open PySem PySem.Spec PyProof.Rows L2

def ownAt (ρ : En) (i : Nat) : Bool := ((ρ[i]?).bind id).any O.own
theorem ownAt_iff {ρ : En} {i : Nat} : ownAt ρ i = true ↔ ∃ o, ρ[i]? = some (some o) ∧ o.own = true := by
  unfold ownAt
  constructor
  · intro h
    cases e : ρ[i]? with
    | none =>
      rw [e] at h
      cases h
    | some x =>
      cases x with
      | none =>
        rw [e] at h
        cases h
      | some o =>
        rw [e] at h
        exact ⟨o, rfl, h⟩
  · rintro ⟨o, e, p⟩
    rw [e]
    exact p
theorem argOs_get {ρ : En} : ∀ {rs : List Rf} {os : List O}, argOs ρ rs = some os → os.length = rs.length ∧ ∀ (j : Nat) (r : Rf), rs[j]? = some r → ∃ o, os[j]? = some o ∧ argO ρ r = some o
  | [], os, h => by
    cases h
    exact ⟨rfl, fun j r e => by simp at e⟩
  | r :: rs, os, h => by
    have h' : ((argO ρ r).bind fun o => (argOs ρ rs).map fun os => o :: os) = some os := h
    cases e1 : argO ρ r with
    | none =>
      rw [e1] at h'
      cases h'
    | some o =>
      cases e2 : argOs ρ rs with
      | none =>
        rw [e1, e2] at h'
        cases h'
      | some os2 =>
        rw [e1, e2] at h'
        cases h'
        obtain ⟨l, g⟩ := argOs_get e2
        refine ⟨by rw [List.length_cons, List.length_cons, l], fun j r' e => ?_⟩
        cases j with
        | zero =>
          have e' : r = r' := by simpa using e
          subst e'
          exact ⟨o, rfl, e1⟩
        | succ j =>
          obtain ⟨o', g1, g2⟩ := g j r' (by simpa using e)
          exact ⟨o', by simpa using g1, g2⟩
theorem RL_get {T : Cs} {H0 : Hp} {σ : L2.St} {ρ : En} {G H : Hp} : ∀ {rs : List Rf} {vs : List V}, RL T H0 σ ρ G H rs vs → vs.length = rs.length ∧ ∀ (j : Nat) (r : Rf), rs[j]? = some r → ∃ v, vs[j]? = some v ∧ rR T H0 σ ρ G H r v
  | [], vs, h => by
    obtain rfl : vs = [] := h
    exact ⟨rfl, fun j r e => by simp at e⟩
  | r :: rs, vs, h => by
    obtain ⟨v, w, rfl, h1, h2⟩ := h
    obtain ⟨l, g⟩ := RL_get h2
    refine ⟨by rw [List.length_cons, List.length_cons, l], fun j r' e => ?_⟩
    cases j with
    | zero =>
      have e' : r = r' := by simpa using e
      subst e'
      exact ⟨v, rfl, h1⟩
    | succ j =>
      obtain ⟨v', g1, g2⟩ := g j r' (by simpa using e)
      exact ⟨v', by simpa using g1, g2⟩
theorem mem_lent {ρ : En} {i : Nat} : ∀ {rs : List Rf} {j : Nat}, rs[j]? = some (.s i) → ownAt ρ i = true → i ∈ lent ρ rs
  | [], j, e, _ => by simp at e
  | r :: rs, 0, e, p => by
    have e' : r = .s i := by simpa using e
    subst e'
    show i ∈ (if ownAt ρ i = true then i :: lent ρ rs else lent ρ rs)
    rw [if_pos p]
    exact List.mem_cons_self
  | r :: rs, j + 1, e, p => by
    have m : i ∈ lent ρ rs := mem_lent (j := j) (by simpa using e) p
    cases r with
    | d x => exact m
    | s i' =>
      show i ∈ (if ownAt ρ i' = true then i' :: lent ρ rs else lent ρ rs)
      split
      · exact List.mem_cons_of_mem _ m
      · exact m
theorem lent_nodup {ρ : En} {i : Nat} : ∀ {rs : List Rf} {j j' : Nat}, (lent ρ rs).Nodup → rs[j]? = some (.s i) → rs[j']? = some (.s i) → ownAt ρ i = true → j = j'
  | [], j, j', _, e, _, _ => by simp at e
  | r :: rs, j, j', n, e, e', p => by
    have nr : (lent ρ rs).Nodup := by
      cases r with
      | d x => exact n
      | s i' =>
        have n' : (if ownAt ρ i' = true then i' :: lent ρ rs else lent ρ rs).Nodup := n
        split at n'
        · exact (List.nodup_cons.mp n').2
        · exact n'
    have hd : ∀ (j : Nat), r = Rf.s i → rs[j]? = some (Rf.s i) → False := fun j er ej => by
      subst er
      have n' : (if ownAt ρ i = true then i :: lent ρ rs else lent ρ rs).Nodup := n
      rw [if_pos p] at n'
      exact (List.nodup_cons.mp n').1 (mem_lent ej p)
    cases j with
    | zero =>
      cases j' with
      | zero => rfl
      | succ j' => exact (hd j' (by simpa using e) (by simpa using e')).elim
    | succ j =>
      cases j' with
      | zero => exact (hd j (by simpa using e') (by simpa using e)).elim
      | succ j' => rw [lent_nodup (j := j) (j' := j') nr (by simpa using e) (by simpa using e') p]
theorem back_length {ρ : En} : ∀ (rs : List Rf) (os : List O), (back ρ rs os).length = ρ.length
  | [], os => by
    cases os <;> rfl
  | .d x :: rs, [] => rfl
  | .d x :: rs, o :: os => back_length rs os
  | .s i :: rs, [] => rfl
  | .s i :: rs, o :: os => by
    show (if ownAt ρ i = true then (back ρ rs os).set i (some o) else back ρ rs os).length = _
    split
    · rw [List.length_set, back_length rs os]
    · exact back_length rs os
theorem back_get {ρ : En} {i : Nat} : ∀ (rs : List Rf) (os : List O), os.length = rs.length →
    (∃ (j : Nat) (o : O), rs[j]? = some (.s i) ∧ ownAt ρ i = true ∧ os[j]? = some o ∧ (back ρ rs os)[i]? = some (some o)) ∨ ((back ρ rs os)[i]? = ρ[i]? ∧ ∀ j : Nat, rs[j]? = some (.s i) → ownAt ρ i = false)
  | [], os, _ => by
    refine .inr ⟨?_, fun j e => by simp at e⟩
    cases os <;> rfl
  | .d x :: rs, [], h => by simp at h
  | .s k :: rs, [], h => by simp at h
  | .d x :: rs, o :: os, h => by
    rcases back_get rs os (by simpa using h) with ⟨j, o', h1, h2, h3, h4⟩ | ⟨h1, h2⟩
    · exact .inl ⟨j + 1, o', by simpa using h1, h2, by simpa using h3, h4⟩
    · refine .inr ⟨h1, fun j e => ?_⟩
      cases j with
      | zero => simp at e
      | succ j => exact h2 j (by simpa using e)
  | .s k :: rs, o :: os, h => by
    have e0 : back ρ (.s k :: rs) (o :: os) = (if ownAt ρ k = true then (back ρ rs os).set k (some o) else back ρ rs os) := rfl
    by_cases p : ownAt ρ k = true
    · rw [e0, if_pos p]
      by_cases hk : k = i
      · subst hk
        obtain ⟨u, hu, _⟩ := ownAt_iff.mp p
        have hl : k < (back ρ rs os).length := by
          rw [back_length]
          exact (List.getElem?_eq_some_iff.mp hu).1
        exact .inl ⟨0, o, rfl, p, rfl, List.getElem?_set_self hl⟩
      · rw [List.getElem?_set_ne hk]
        rcases back_get (i := i) rs os (by simpa using h) with ⟨j, o', h1, h2, h3, h4⟩ | ⟨h1, h2⟩
        · exact .inl ⟨j + 1, o', by simpa using h1, h2, by simpa using h3, h4⟩
        · refine .inr ⟨h1, fun j e => ?_⟩
          cases j with
          | zero =>
            have e' : k = i := by simpa using e
            exact absurd e' hk
          | succ j => exact h2 j (by simpa using e)
    · rw [e0, if_neg p]
      rcases back_get (i := i) rs os (by simpa using h) with ⟨j, o', h1, h2, h3, h4⟩ | ⟨h1, h2⟩
      · exact .inl ⟨j + 1, o', by simpa using h1, h2, by simpa using h3, h4⟩
      · refine .inr ⟨h1, fun j e => ?_⟩
        cases j with
        | zero =>
          have e' : k = i := by simpa using e
          subst e'
          simpa using p
        | succ j => exact h2 j (by simpa using e)
theorem backOk_get {ρ : En} {i : Nat} : ∀ {rs : List Rf} {os : List O} {j : Nat} {o : O}, backOk ρ rs os = true → rs[j]? = some (.s i) → os[j]? = some o → ownAt ρ i = true → o.sh = true
  | [], os, j, o, _, e, _, _ => by simp at e
  | r :: rs, [], j, o, _, _, e, _ => by simp at e
  | r :: rs, u :: os, 0, o, h, e, e', p => by
    have er : r = .s i := by simpa using e
    have eu : u = o := by simpa using e'
    subst er
    subst eu
    have h' : ((!ownAt ρ i || u.sh) && backOk ρ rs os) = true := h
    rw [p] at h'
    exact (Bool.and_eq_true_iff.mp h').1
  | r :: rs, u :: os, j + 1, o, h, e, e', p => by
    refine backOk_get (rs := rs) (os := os) (j := j) ?_ (by simpa using e) (by simpa using e') p
    cases r with
    | d x => exact h
    | s k => exact (Bool.and_eq_true_iff.mp (show ((!ownAt ρ k || u.sh) && backOk ρ rs os) = true from h)).2
theorem kd_sh {o : O} : kd (some (some o)) = if o.sh = true then 3 else 2 := by
  cases o <;> rfl
theorem own_sh {o : O} (h : o.own = true) : o.sh = true := by
  cases o with
  | dat _ => cases h
  | fz _ => rfl
  | lst _ => rfl
  | dk _ _ => rfl

section
variable {T : Cs} {W : WX} {G H : Hp} {σ : L2.St} {ρ : En} {Q : VK} {F : Fx} {rs : List Rf} {vs : List V}
theorem call_sp (k : Ok T G H σ ρ) (hr : RL T H σ ρ G H rs vs) (a : At rO T W (callF F rs) G ρ σ H Q) : spF T rs.length F vs H Q (fun c d H' => W c d σ H') := by
  obtain ⟨r, ρ', e, o⟩ := a
  unfold callF at e
  split at e
  case h_2 => cases e
  rename_i os hos
  split at e
  case isFalse => cases e
  rename_i nd
  split at e
  case h_2 => cases e
  rename_i r1 os' hF
  split at e
  case isFalse => cases e
  rename_i hb
  cases e
  obtain ⟨l1, g1⟩ := argOs_get hos
  obtain ⟨l2, g2⟩ := RL_get hr
  -- what stands at the j-th place
  have at_ : ∀ (j : Nat) (o : O), os[j]? = some o → ∃ v, vs[j]? = some v ∧ RepO T G H o v ∧ (o.own = true → ∃ i : Nat, rs[j]? = some (Rf.s i) ∧ ρ[i]? = some (some o) ∧ σ[i]? = some (some v)) := fun j o ho => by
    have hj : j < rs.length := by rw [← l1]; exact (List.getElem?_eq_some_iff.mp ho).1
    obtain ⟨o', h1, h2⟩ := g1 j rs[j] (by simp [hj])
    rw [ho] at h1
    cases h1
    obtain ⟨v, h3, h4⟩ := g2 j rs[j] (by simp [hj])
    refine ⟨v, h3, ?_⟩
    generalize hx : rs[j] = x at h2 h4
    cases x with
    | d x =>
      cases h2
      exact ⟨h4, fun p => by cases p⟩
    | s i =>
      have h2' : (ρ[i]?).bind id = some o := h2
      have e : ρ[i]? = some (some o) := by
        cases q : ρ[i]? with
        | none =>
          rw [q] at h2'
          cases h2'
        | some z =>
          rw [q] at h2'
          have z' : z = some o := h2'
          rw [z']
      exact ⟨k.at_ e h4, fun _ => ⟨i, by rw [← hx]; simp [hj], e, h4⟩⟩
  have get1 : ∀ {os : List O} {j : Nat} {o : O}, (os.map some)[j]? = some (some o) → os[j]? = some o := fun {os j o} h => by
    rw [List.getElem?_map] at h
    cases q : os[j]? with
    | none =>
      rw [q] at h
      cases h
    | some z =>
      rw [q] at h
      cases h
      rfl
  have getv : ∀ {j : Nat} {v : V}, (vs.map some)[j]? = some (some v) → vs[j]? = some v := fun {j v} h => by
    rw [List.getElem?_map] at h
    cases q : vs[j]? with
    | none =>
      rw [q] at h
      cases h
    | some z =>
      rw [q] at h
      cases h
      rfl
  have putv : ∀ {j : Nat} {v : V}, vs[j]? = some v → (vs.map some)[j]? = some (some v) := fun {j v} h => by
    rw [List.getElem?_map, h]
    rfl
  have puto : ∀ {os : List O} {j : Nat} {o : O}, os[j]? = some o → (os.map some)[j]? = some (some o) := fun {os j o} h => by
    rw [List.getElem?_map, h]
    rfl
  -- what the callee owns the caller owns
  have ownsIn : ∀ a, Owns (vs.map some) (os.map some) a → ∃ i j : Nat, rs[j]? = some (Rf.s i) ∧ ownAt ρ i = true ∧ σ[i]? = some (some (.ref a)) := fun a ⟨j, o, h1, h2, h3⟩ => by
    obtain ⟨v, h4, _, h5⟩ := at_ j o (get1 h1)
    obtain ⟨i, h6, h7, h8⟩ := h5 h2
    rw [getv h3] at h4
    cases h4
    exact ⟨i, j, h6, ownAt_iff.mpr ⟨o, h7, h2⟩, h8⟩
  have ownsUp : ∀ a, Owns (vs.map some) (os.map some) a → Owns σ ρ a := fun a h => by
    obtain ⟨i, j, h1, h2, h3⟩ := ownsIn a h
    obtain ⟨o, h4, h5⟩ := ownAt_iff.mp h2
    exact ⟨i, o, h4, h5, h3⟩
  have ok0 : Ok T G H (vs.map some) (os.map some) := by
    refine ⟨k.sub, by rw [List.length_map, List.length_map, l1, l2], fun j o h => ?_, fun j j' o o' a h1 h2 p1 p2 s1 s2 => ?_⟩
    · obtain ⟨v, h1, h2, _⟩ := at_ j o (get1 h)
      exact ⟨v, putv h1, h2⟩
    · obtain ⟨v, e1, _, f1⟩ := at_ j o (get1 h1)
      obtain ⟨v', e2, _, f2⟩ := at_ j' o' (get1 h2)
      rw [getv s1] at e1
      rw [getv s2] at e2
      cases e1
      cases e2
      obtain ⟨i, r1, r2, r3⟩ := f1 p1
      obtain ⟨i', r1', r2', r3'⟩ := f2 p2
      have ei := k.dis i i' o o' a r2 r2' p1 p2 r3 r3'
      subst ei
      exact lent_nodup nd r1 r1' (ownAt_iff.mpr ⟨o, r2, p1⟩)
  obtain ⟨hb, hlen'⟩ := hb
  have hlen : os'.length = rs.length := hlen'.trans l1
  have bget := fun i => back_get (ρ := ρ) (i := i) rs os' hlen
  -- a variable that owns behind owned ahead
  have ownsBack : ∀ (i : Nat) (o : O), (back ρ rs os')[i]? = some (some o) → o.own = true → ownAt ρ i = true := fun i o h p => by
    rcases bget i with ⟨j, o', h1, h2, h3, h4⟩ | ⟨h1, h2⟩
    · exact h2
    · rw [h1] at h
      exact ownAt_iff.mpr ⟨o, h, p⟩
  have ownsSub : ∀ a, Owns σ (back ρ rs os') a → Owns σ ρ a := fun a ⟨i, o, h1, h2, h3⟩ => by
    obtain ⟨o', h4, h5⟩ := ownAt_iff.mp (ownsBack i o h1 h2)
    exact ⟨i, o', h4, h5, h3⟩
  have hdead : ∀ a, Owns σ ρ a → H a ≠ none := fun a ⟨i, o, h1, h2, h3⟩ z => by
    obtain ⟨b, u, e1, e2, _⟩ := (k.at_ h1 h3).there h2
    cases e1
    rw [e2] at z
    cases z
  -- from the callee's end to the caller's
  have up : ∀ {G' H' : Hp}, Nk G H (vs.map some) (os.map some) G' H' (os'.map some) → Ok T G' H' (vs.map some) (os'.map some) → Nk G H σ ρ G' H' (back ρ rs os') ∧ Ok T G' H' σ (back ρ rs os') := fun {G' H'} n k' => by
    refine ⟨⟨⟨n.g, fun a h1 h2 => (n.new a h1 h2).imp id (ownsUp a), fun a u h1 h2 => n.keep a u h1 fun z => h2 (ownsUp a z), n.there, fun a h => .inl (ownsSub a h)⟩, fun i => ?_⟩, ⟨k'.sub, ?_, fun i o h => ?_, fun i i' o o' a h1 h2 p1 p2 s1 s2 => ?_⟩⟩
    · rcases bget i with ⟨j, o', h1, h2, h3, h4⟩ | ⟨h1, _⟩
      · obtain ⟨o, h5, h6⟩ := ownAt_iff.mp h2
        rw [h4, h5, kd_sh, kd_sh, own_sh h6, backOk_get hb h1 h3 h2]
      · rw [h1]
    · rw [back_length]
      exact k.len
    · rcases bget i with ⟨j, o', h1, h2, h3, h4⟩ | ⟨h1, h2⟩
      · rw [h4] at h
        cases h
        obtain ⟨v, h7, h8⟩ := k'.rep j o (puto h3)
        obtain ⟨v', h9, h10⟩ := g2 j (Rf.s i) h1
        rw [getv h7] at h9
        cases h9
        exact ⟨_, h10, h8⟩
      · rw [h1] at h
        obtain ⟨v, h3, h4⟩ := k.rep i o h
        refine ⟨v, h3, h4.keep n.toNx fun p a ea z => ?_⟩
        subst ea
        obtain ⟨i', j, q1, q2, q3⟩ := ownsIn a z
        obtain ⟨o', q4, q5⟩ := ownAt_iff.mp q2
        have ei := k.dis i i' o o' a h q4 p q5 h3 q3
        subst ei
        rw [h2 j q1] at q2
        cases q2
    · obtain ⟨u, e1, e2⟩ := ownAt_iff.mp (ownsBack i o h1 p1)
      obtain ⟨u', e3, e4⟩ := ownAt_iff.mp (ownsBack i' o' h2 p2)
      exact k.dis i i' u u' a e1 e3 e2 e4 s1 s2
  refine ⟨l2, G, os, r, os', ok0, hF, hlen', ?_⟩
  cases r with
  | ok x =>
    refine fun v G' H' n k' ro => ?_
    obtain ⟨n2, k2⟩ := up n k'
    refine o v G' H' n2 k2 ⟨ro.1, fun p a ea => ?_⟩
    obtain ⟨f1, _⟩ := ro.2 p a ea
    exact ⟨f1, fun z => hdead a (ownsSub a z) f1⟩
  | er c ns ds =>
    refine fun G' H' C hc n k' => ?_
    obtain ⟨n2, k2⟩ := up n k'
    exact o G' H' C hc n2 k2
end
end Fn

set_option maxRecDepth 100000
set_option maxHeartbeats 4000000
namespace Fn
open PySem PySem.Spec PyProof.Rows L2

/-! ### own defs called -/
def eCall (F : Fx) (as : M (List Rf)) : M O := M.bind as (callF F)
/-- an exception of a callee comes to what the caller wishes, at the caller's variables -/
def WThru (X : Cx) (CX : CXT) (W : WX) : Prop := ∀ σ pins H s e s', Inv X pins σ H s → CX X.stack H s (fun c d H' => W c d σ H') e s' → X.xe e s'
section
variable {cl : Str → Option Addr} {X : Cx} {W : WX} {CX : CXT} {k n : Nat} {f : Addr} {fd : FuncData} {ps : List Str} {F : Fx} {x : Str} {p pos : Pos} {e : Expr} {es : List Expr} {as : M (List Rf)} {sp : Sp} {t : TA}
theorem pe_callW (F : FnS X.prog X.w X.K X.mg X.base CX k f fd ps sp) (hx : WThru X CX W) (hgd : X.A.guards = some []) (hr : Room k X.A) (hg : Gl X x) (hm : X.mg x = some (.ref f)) (hk : PySem.W.keepIn X.K (.ref f) = true) (hb : Binds X.K fd ps [])
    (ha : PA X (e :: es) t) (hdb : (x == ("__debug__" : Str)) = false := by decide) (he : starEach (e :: es) X.env = (false, eval e X.env) :: starEach es X.env := by rfl) (hpl : (backTo pos (starEach es X.env)).any (·.1) = false := by rfl) :
    PE X (.Call (.Name x p) (e :: es) [] pos) (fun σ H Q => t σ H fun vs H1 => sp vs H1 Q (fun c d H' => W c d σ H')) := by
  constructor
  intro pins s σ H Q I h
  apply wpAny_Call_Name_kw
  apply ld_glob I hg hm _ hdb
  refine PySem.W.callWith_K (h₀ := X.base) I.ok.mod.kin hk (thn (ha.run pos pins s σ H _ I h) ?_) he hpl
  rintro us s1 ⟨vs, H1, I1, r, q⟩
  refine And.intro I1.kIn ?_
  have hl : (us ++ []).length = ps.length := by
    rw [List.append_nil, ← r.length]
    exact F.len _ _ _ _ q
  apply wpAny_call
  have hb1 := hb s1 us I1.kIn hl
  rw [List.append_nil] at hb1
  refine codeAny_mono (F.go X.A X.stack s1 H1 ⟨us, []⟩ us vs Q _ hgd hr I1.env0 hb1 r q) ?_
  intro r s' hq
  match r, hq with
  | .error e, hq => exact hx σ pins H1 s1 e s' I1 hq
  | .ok (.ret u), hq => exact I1.after hq
/-- a call of an own def -/
theorem eo_call {as : M (List Rf)} {F : Fx} (G : FnS X.prog X.w X.K X.mg X.base CX k f fd ps (spF ⟨X.K, cl⟩ n F)) (hx : WThru X CX W) (hgd : X.A.guards = some []) (hr : Room k X.A) (hg : Gl X x) (hm : X.mg x = some (.ref f)) (hk : PySem.W.keepIn X.K (.ref f) = true) (hb : Binds X.K fd ps [])
    (ha : EA cl X W (e :: es) as) (hn : ∀ ρ rs ρ', as ρ = some (.ok rs, ρ') → rs.length = n) (hdb : (x == ("__debug__" : Str)) = false := by decide) (he : starEach (e :: es) X.env = (false, eval e X.env) :: starEach es X.env := by rfl) (hpl : (backTo pos (starEach es X.env)).any (·.1) = false := by rfl) :
    EO cl X W (.Call (.Name x p) (e :: es) [] pos) (eCall F as) := EX.by (pe_callW G hx hgd hr hg hm hk hb ha hdb he hpl) fun G ρ σ H Q k h => by
  obtain ⟨r, ρ', e1, o⟩ := h
  refine at_tX k ?_
  unfold eCall M.bind at e1
  cases q : as ρ with
  | none =>
    rw [q] at e1
    cases e1
  | some z =>
    obtain ⟨r1, ρ1⟩ := z
    rw [q] at e1
    cases r1 with
    | er c ns vs =>
      cases e1
      exact ⟨_, _, q, o⟩
    | ok rs =>
      refine ⟨_, _, q, fun vs G1 H1 n1 k1 rl => ?_⟩
      have a2 : At rO ⟨X.K, cl⟩ W (callF F rs) G1 ρ1 σ H1 Q := ⟨r, ρ', e1, o.shift rO_back n1⟩
      have z := call_sp k1 (RL_any (Ex.refl _) rs vs rl) a2
      rw [hn ρ rs ρ1 q] at z
      exact z
end

/-! ### statements -/
inductive Fl where
  | nx | rt (o : O) | er (c : Str) (ns : List Str) (vs : List D) | bk | ct
abbrev S := En → Option (Fl × En)
/-- from state to state; the first np variables that are shared or own stay what they are -/
structure Ns (np : Nat) (G H : Hp) (σ : L2.St) (ρ : En) (G' H' : Hp) (σ' : L2.St) (ρ' : En) : Prop extends Nx G H (Owns σ ρ) G' H' (Owns σ' ρ') where
  lk : ∀ i : Nat, i < np → kd ρ[i]? = 3 → σ'[i]? = σ[i]? ∧ kd ρ'[i]? = 3
theorem Ns.refl (np : Nat) (G H : Hp) (σ : L2.St) (ρ : En) : Ns np G H σ ρ G H σ ρ := { Nx.refl G H _ with lk := fun _ _ h => ⟨rfl, h⟩ }
theorem Ns.trans {np : Nat} {G H G1 H1 G2 H2 : Hp} {σ σ1 σ2 : L2.St} {ρ ρ1 ρ2 : En} (a : Ns np G H σ ρ G1 H1 σ1 ρ1) (b : Ns np G1 H1 σ1 ρ1 G2 H2 σ2 ρ2) : Ns np G H σ ρ G2 H2 σ2 ρ2 := by
  refine ⟨a.toNx.trans b.toNx, fun i hi h => ?_⟩
  obtain ⟨e1, h1⟩ := a.lk i hi h
  obtain ⟨e2, h2⟩ := b.lk i hi h1
  exact ⟨e2.trans e1, h2⟩
theorem Nk.ns {np : Nat} {G H G' H' : Hp} {σ : L2.St} {ρ ρ' : En} (n : Nk G H σ ρ G' H' ρ') : Ns np G H σ ρ G' H' σ ρ' := { n.toNx with lk := fun i _ h => ⟨rfl, (n.kp i).trans h⟩ }
def OutS (T : Cs) (W : WX) (np : Nat) (G H : Hp) (σ : L2.St) (ρ : En) (fl : Fl) (ρ' : En) (D : Ends) : Prop :=
  match fl with
  | .nx => ∀ G' H' σ', Ns np G H σ ρ G' H' σ' ρ' → Ok T G' H' σ' ρ' → D.nx σ' H'
  | .bk => ∀ G' H' σ', Ns np G H σ ρ G' H' σ' ρ' → Ok T G' H' σ' ρ' → D.bk σ' H'
  | .ct => ∀ G' H' σ', Ns np G H σ ρ G' H' σ' ρ' → Ok T G' H' σ' ρ' → D.ct σ' H'
  | .rt o => ∀ v G' H' σ', Ns np G H σ ρ G' H' σ' ρ' → Ok T G' H' σ' ρ' → rO T H σ' ρ' G' H' o v → D.rt v H'
  | .er c ns vs => ∀ G' H' σ' C, T.cls c = some C → Ns np G H σ ρ G' H' σ' ρ' → Ok T G' H' σ' ρ' →
      ((ns = [] → vs = [] → W (.ref C) none σ' H') ∧ ∀ d fs, H' d = some (.xd fs) → fs.map (·.1) = ns → RepL T G' vs (fs.map (·.2)) → W (.ref C) (some d) σ' H')
def AtS (T : Cs) (W : WX) (np : Nat) (f : S) (G : Hp) (ρ : En) : TS := fun D σ H => ∃ fl ρ', f ρ = some (fl, ρ') ∧ OutS T W np G H σ ρ fl ρ' D
def tS (T : Cs) (W : WX) (np : Nat) (f : S) : TS := fun D σ H => ∃ G ρ, Ok T G H σ ρ ∧ AtS T W np f G ρ D σ H
section
variable {T : Cs} {W : WX} {np : Nat} {G H G1 H1 : Hp} {σ σ1 : L2.St} {ρ ρ1 ρ' : En} {fl : Fl} {D : Ends}
theorem OutS.shift (n : Ns np G H σ ρ G1 H1 σ1 ρ1) (h : OutS T W np G H σ ρ fl ρ' D) : OutS T W np G1 H1 σ1 ρ1 fl ρ' D := by
  cases fl with
  | nx => exact fun G' H' σ' n' k => h G' H' σ' (n.trans n') k
  | bk => exact fun G' H' σ' n' k => h G' H' σ' (n.trans n') k
  | ct => exact fun G' H' σ' n' k => h G' H' σ' (n.trans n') k
  | rt o => exact fun v G' H' σ' n' k r => h v G' H' σ' (n.trans n') k ⟨r.1, r.2.back n.there⟩
  | er c ns vs => exact fun G' H' σ' C hc n' k => h G' H' σ' C hc (n.trans n') k
end
/-- a value, then a statement's end -/
def M.then_ {α : Type} (m : M α) (g : α → S) : S := fun ρ => match m ρ with
  | some (.ok a, ρ1) => g a ρ1
  | some (.er c ns vs, ρ1) => some (.er c ns vs, ρ1)
  | none => none
def sSeq (f g : S) : S := fun ρ => match f ρ with
  | some (.nx, ρ1) => g ρ1
  | r => r
def sPass : S := fun ρ => some (.nx, ρ)
def sRet (m : M O) : S := m.then_ fun o ρ => some (.rt o, ρ)
def sDrop (m : M D) : S := m.then_ fun _ ρ => some (.nx, ρ)
def sIf (c : M Bool) (f g : S) : S := c.then_ fun b => if b = true then f else g
def sSet (np i : Nat) (m : M O) : S := m.then_ fun o ρ => if i < ρ.length ∧ ¬ (i < np ∧ kd ρ[i]? = 3) then some (.nx, ρ.set i (some o)) else none
section
variable (cl : Str → Option Addr) (X : Cx) (W : WX) (np : Nat)
abbrev ES (st : Stmt) (f : S) : Prop := PS X st (tS ⟨X.K, cl⟩ W np f)
abbrev ESs (sts : List Stmt) (f : S) : Prop := PSs X sts (tS ⟨X.K, cl⟩ W np f)
end
theorem _root_.L2.PS.imp {X : Cx} {e : Stmt} {t t' : TS} (h : PS X e t) (i : ∀ D σ H, t' D σ H → t D σ H) : PS X e t' := ⟨fun pins s σ H D I hw => h.run pins s σ H D I (i D σ H hw)⟩
theorem _root_.L2.PSs.imp {X : Cx} {e : List Stmt} {t t' : TS} (h : PSs X e t) (i : ∀ D σ H, t' D σ H → t D σ H) : PSs X e t' := ⟨fun pins s σ H D I hw => h.run pins s σ H D I (i D σ H hw)⟩
section
variable {cl : Str → Option Addr} {X : Cx} {W : WX} {np : Nat} {st : Stmt} {rest sa sb : List Stmt} {f g : S} {pos : Pos} {e c : Expr} {mo : M O} {md : M D} {mb : M Bool}
theorem ES.by {t : TS} (h : PS X st t) (i : ∀ G ρ D σ H, Ok ⟨X.K, cl⟩ G H σ ρ → AtS ⟨X.K, cl⟩ W np f G ρ D σ H → t D σ H) : ES cl X W np st f := h.imp fun D σ H ⟨G, ρ, k, a⟩ => i G ρ D σ H k a
theorem ESs.by {sts : List Stmt} {t : TS} (h : PSs X sts t) (i : ∀ G ρ D σ H, Ok ⟨X.K, cl⟩ G H σ ρ → AtS ⟨X.K, cl⟩ W np f G ρ D σ H → t D σ H) : ESs cl X W np sts f := h.imp fun D σ H ⟨G, ρ, k, a⟩ => i G ρ D σ H k a
theorem atS {T : Cs} {G H : Hp} {σ : L2.St} {ρ : En} {D : Ends} (k : Ok T G H σ ρ) (a : AtS T W np f G ρ D σ H) : tS T W np f D σ H := ⟨G, ρ, k, a⟩
/-- a value ahead of a statement's end -/
theorem AtS.then0 {α β : Type} {R : RelT α β} {T : Cs} {m : M α} {g : α → S} {G H : Hp} {σ : L2.St} {ρ : En} {D : Ends} {Q : Wi β} (h : AtS T W np (m.then_ g) G ρ D σ H)
    (k : ∀ a ρ1 v G1 H1, Nk G H σ ρ G1 H1 ρ1 → Ok T G1 H1 σ ρ1 → R T H σ ρ1 G1 H1 a v → (∃ fl ρ', g a ρ1 = some (fl, ρ') ∧ OutS T W np G H σ ρ fl ρ' D) → Q v H1) : At R T W m G ρ σ H Q := by
  obtain ⟨fl, ρ', e, o⟩ := h
  unfold M.then_ at e
  cases q : m ρ with
  | none =>
    rw [q] at e
    cases e
  | some z =>
    obtain ⟨r, ρ1⟩ := z
    rw [q] at e
    cases r with
    | ok a => exact ⟨_, _, q, fun v G1 H1 n k1 r => k a ρ1 v G1 H1 n k1 r ⟨fl, ρ', e, o⟩⟩
    | er c ns vs =>
      cases e
      exact ⟨_, _, q, fun G' H' C hc n k1 => o G' H' σ C hc n.ns k1⟩
theorem AtS.then_ {α β : Type} {R : RelT α β} {T : Cs} {m : M α} {g : α → S} {G H : Hp} {σ : L2.St} {ρ : En} {D : Ends} {Q : Wi β} (h : AtS T W np (m.then_ g) G ρ D σ H)
    (k : ∀ a ρ1 v G1 H1, Nk G H σ ρ G1 H1 ρ1 → Ok T G1 H1 σ ρ1 → R T H σ ρ1 G1 H1 a v → AtS T W np (g a) G1 ρ1 D σ H1 → Q v H1) : At R T W m G ρ σ H Q :=
  h.then0 fun a ρ1 v G1 H1 n k1 r ⟨fl, ρ', e, o⟩ => k a ρ1 v G1 H1 n k1 r ⟨fl, ρ', e, o.shift n.ns⟩
theorem AtS.seq {T : Cs} {G H : Hp} {σ : L2.St} {ρ : En} {D : Ends} (h : AtS T W np (sSeq f g) G ρ D σ H) : AtS T W np f G ρ { D with nx := tS T W np g D } σ H := by
  obtain ⟨fl, ρ', e, o⟩ := h
  unfold sSeq at e
  cases q : f ρ with
  | none =>
    rw [q] at e
    cases e
  | some z =>
    obtain ⟨fl1, ρ1⟩ := z
    rw [q] at e
    cases fl1 with
    | nx => exact ⟨_, _, q, fun G1 H1 σ1 n1 k1 => ⟨G1, ρ1, k1, fl, ρ', e, o.shift n1⟩⟩
    | rt x =>
      cases e
      exact ⟨_, _, q, o⟩
    | er c ns vs =>
      cases e
      exact ⟨_, _, q, o⟩
    | bk =>
      cases e
      exact ⟨_, _, q, o⟩
    | ct =>
      cases e
      exact ⟨_, _, q, o⟩
theorem ess_cons (h : ES cl X W np st f) (h' : ESs cl X W np rest g) : ESs cl X W np (st :: rest) (sSeq f g) := ESs.by (pss_cons h h') fun G ρ D σ H k a => atS k a.seq
theorem ess_one (h : ES cl X W np st f) : ESs cl X W np [st] f := pss_one h
theorem ess_nil : ESs cl X W np [] sPass := ESs.by pss_nil fun G ρ D σ H k ⟨fl, ρ', e, o⟩ => by
  cases e
  exact o G H σ (Ns.refl ..) k
theorem es_pass : ES cl X W np (.Pass pos) sPass := ES.by ps_pass fun G ρ D σ H k ⟨fl, ρ', e, o⟩ => by
  cases e
  exact o G H σ (Ns.refl ..) k
theorem es_doc {x j p'} : ES cl X W np (.Expr (.Constant (.str x) j p') pos) sPass := ES.by ps_doc fun G ρ D σ H k ⟨fl, ρ', e, o⟩ => by
  cases e
  exact o G H σ (Ns.refl ..) k
theorem es_ret (h : EO cl X W e mo) : ES cl X W np (.Return (some e) pos) (sRet mo) := ES.by (ps_ret h) fun G ρ D σ H k a => at_tX k (a.then0 (R := rO) fun x ρ1 v G1 H1 n1 k1 r1 ⟨fl, ρ', e, o⟩ => by
  cases e
  exact o v G1 H1 σ n1.ns k1 r1)
def sRetN : S := fun ρ => some (.rt (.dat .non), ρ)
theorem es_retN : ES cl X W np (.Return none pos) sRetN := ES.by ps_retN fun G ρ D σ H k ⟨fl, ρ', e, o⟩ => by
  cases e
  exact o .non G H σ (Ns.refl ..) k ⟨rfl, Fresh.dat⟩
theorem es_drop (h : ED cl X W e md) (hs : swapsWith e none pos.line X.env = pure false := by rfl) : ES cl X W np (.Expr e pos) (sDrop md) := ES.by (ps_expr h hs) fun G ρ D σ H k a => at_tX k (a.then0 (R := rD) fun x ρ1 v G1 H1 n1 k1 r1 ⟨fl, ρ', e, o⟩ => by
  cases e
  exact o G1 H1 σ n1.ns k1)
theorem es_if (hc : ET cl X W c mb) (ha : ESs cl X W np sa f) (hb : ESs cl X W np sb g) : ES cl X W np (.If c sa sb pos) (sIf mb f g) := ES.by (ps_if hc ha hb) fun G ρ D σ H k a => at_tX k (a.then_ (R := rB) fun x ρ1 v G1 H1 n1 k1 r1 a1 => by
  obtain rfl : x = v := r1
  cases x with
  | true => exact atS k1 a1
  | false => exact atS k1 a1)
theorem Owns_set {σ : L2.St} {ρ : En} {i : Nat} {v : V} {o : O} {a : Addr} (h : Owns (σ.set i (some v)) (ρ.set i (some o)) a) : (o.own = true ∧ v = .ref a) ∨ ∃ (j : Nat) (o' : O), j ≠ i ∧ ρ[j]? = some (some o') ∧ o'.own = true ∧ σ[j]? = some (some (.ref a)) := by
  obtain ⟨j, o', h1, h2, h3⟩ := h
  by_cases e : i = j
  · subst e
    by_cases hl : i < ρ.length
    · rw [List.getElem?_set_self hl] at h1
      cases h1
      by_cases hl2 : i < σ.length
      · rw [List.getElem?_set_self hl2] at h3
        cases h3
        exact .inl ⟨h2, rfl⟩
      · rw [List.getElem?_eq_none (by rw [List.length_set]; omega)] at h3
        cases h3
    · rw [List.getElem?_eq_none (by rw [List.length_set]; omega)] at h1
      cases h1
  · rw [List.getElem?_set_ne e] at h1 h3
    exact .inr ⟨j, o', fun z => e z.symm, h1, h2, h3⟩
/-- a variable is stored -/
theorem set_ok {T : Cs} {G H G1 H1 : Hp} {σ : L2.St} {ρ ρ1 : En} {i : Nat} {o : O} {v : V} (n1 : Nk G H σ ρ G1 H1 ρ1) (k1 : Ok T G1 H1 σ ρ1) (r1 : rO T H σ ρ1 G1 H1 o v) (hi : i < ρ1.length) (hp : ¬ (i < np ∧ kd ρ1[i]? = 3)) :
    Ns np G H σ ρ G1 H1 (σ.set i (some v)) (ρ1.set i (some o)) ∧ Ok T G1 H1 (σ.set i (some v)) (ρ1.set i (some o)) := by
  have hs : i < σ.length := by rw [← k1.len]; exact hi
  refine ⟨⟨⟨n1.g, n1.new, n1.keep, n1.there, fun a h => ?_⟩, fun j hj hk => ?_⟩, ⟨k1.sub, by rw [List.length_set, List.length_set]; exact k1.len, fun j o' h => ?_, fun j j' o1 o2 a h1 h2 p1 p2 s1 s2 => ?_⟩⟩
  · rcases Owns_set h with ⟨p, e⟩ | ⟨j, o', _, h1, h2, h3⟩
    · exact .inr (r1.2 p a e).1
    · exact n1.own a ⟨j, o', h1, h2, h3⟩
  · have e : i ≠ j := fun z => by
      subst z
      exact hp ⟨hj, (n1.kp i).trans hk⟩
    rw [List.getElem?_set_ne e, List.getElem?_set_ne e]
    exact ⟨rfl, (n1.kp j).trans hk⟩
  · by_cases e : i = j
    · subst e
      rw [List.getElem?_set_self hi] at h
      cases h
      exact ⟨v, List.getElem?_set_self hs, r1.1⟩
    · rw [List.getElem?_set_ne e] at h ⊢
      exact k1.rep j o' h
  · have go : ∀ {j : Nat} {o1 : O}, (ρ1.set i (some o))[j]? = some (some o1) → o1.own = true → (σ.set i (some v))[j]? = some (some (.ref a)) → (j = i ∧ ¬ Owns σ ρ1 a) ∨ (ρ1[j]? = some (some o1) ∧ σ[j]? = some (some (.ref a))) := fun {j o1} h1 p1 s1 => by
      by_cases e : i = j
      · subst e
        rw [List.getElem?_set_self hi] at h1
        rw [List.getElem?_set_self hs] at s1
        cases h1
        cases s1
        exact .inl ⟨rfl, (r1.2 p1 a rfl).2⟩
      · rw [List.getElem?_set_ne e] at h1 s1
        exact .inr ⟨h1, s1⟩
    rcases go h1 p1 s1 with ⟨e1, n⟩ | ⟨e1, e2⟩
    · rcases go h2 p2 s2 with ⟨e3, _⟩ | ⟨e3, e4⟩
      · rw [e1, e3]
      · exact absurd ⟨j', o2, e3, p2, e4⟩ n
    · rcases go h2 p2 s2 with ⟨e3, n⟩ | ⟨e3, e4⟩
      · exact absurd ⟨j, o1, e1, p1, e2⟩ n
      · exact k1.dis j j' o1 o2 a e1 e3 p1 p2 e2 e4
theorem es_set {i : Nat} {x : Str} {pos' : Pos} (hN : X.N.Nodup) (hi : X.N[i]? = some x) (hx : Loc X.env.scope x) (h : EO cl X W e mo) (hs : swapsWith e (some (.Name x pos')) pos.line X.env = pure false := by rfl)
    (hf : X.fn x = true ∨ X.env.scope.names.lookup x = some .local := by first | exact .inl rfl | exact .inr rfl | assumption) : ES cl X W np (.Assign [.Name x pos'] e pos) (sSet np i mo) :=
  ES.by (ps_set hN hi hx h hs hf) fun G ρ D σ H k a => at_tX k (a.then0 (R := rO) fun x ρ1 v G1 H1 n1 k1 r1 ⟨fl, ρ', e, o⟩ => by
    split at e
    · rename_i hp
      cases e
      obtain ⟨n2, k2⟩ := set_ok (np := np) n1 k1 r1 hp.1 hp.2
      exact o G1 H1 _ n2 k2
    · cases e)
end
end Fn

set_option maxRecDepth 100000
set_option maxHeartbeats 4000000
namespace Fn
open PySem PySem.Spec PyProof.Rows L2

/-! ### items -/
def fIx : D → D → Option D
  | .lst xs, .int i => atI xs i
  | .ro xs, .int i => atI xs i
  | .tup xs, .int i => atI xs i
  | .str z, .int i => if z.length ≤ lim then (atI z.cps.toList i).map fun c => .str ⟨#[c]⟩ else none
  | _, _ => none
theorem atI_rep {T : Cs} {G : Hp} {ds : List D} {vs : List V} {i : Int} {d : D} (h : RepL T G ds vs) (e : atI ds i = some d) : ∃ v, atI vs i = some v ∧ Rep T G d v := by
  unfold atI at e ⊢
  rw [h.length]
  cases q : ixN ds.length i with
  | none =>
    rw [q] at e
    cases e
  | some j =>
    rw [q] at e
    obtain ⟨v, h1, h2⟩ := h.get (show ds[j]? = some d from e)
    exact ⟨v, h1, h2⟩
/-- the value of a key -/
def dLook : List Key → List D → Key → Option D
  | k' :: ks, d :: ds, k => if k' = k then some d else dLook ks ds k
  | _, _, _ => none
def dPut : List Key → List D → Key → D → List D
  | k' :: ks, d :: ds, k, x => if k' = k then x :: ds else d :: dPut ks ds k x
  | _, ds, _, _ => ds
def asKey : D → Option Key
  | .int i => some (.inl i)
  | .str x => some (.inr x)
  | _ => none
theorem asKey_rep {T : Cs} {G H : Hp} {d : D} {k : Key} {v : V} (h : asKey d = some k) (r : RepT T G H d v) : v = kV k := by
  cases d with
  | int i =>
    cases h
    exact r.int
  | str x =>
    cases h
    exact r.str
  | _ => cases h
def fDGet : D → D → Option D
  | .dk ks ds, k => (asKey k).bind fun k => dLook ks ds k
  | _, _ => none
theorem dLook_rep {T : Cs} {G : Hp} {k : Key} {d : D} : ∀ {kvs : List (Key × V)} {ds : List D}, RepL T G ds (kvs.map (·.2)) → dLook (kvs.map (·.1)) ds k = some d → ∃ v, valV kvs k = some v ∧ Rep T G d v
  | [], ds, h, e => by cases e
  | (k', v) :: kvs, ds, h, e => by
    cases ds with
    | nil => cases e
    | cons d' ds =>
      obtain ⟨v', r, e1, h1, h2⟩ := h
      rw [List.map_cons] at e1
      obtain ⟨rfl, rfl⟩ := List.cons.inj e1
      have e' : (if k' = k then some d' else dLook (kvs.map (·.1)) ds k) = some d := e
      by_cases q : k' = k
      · rw [if_pos q] at e'
        cases e'
        exact ⟨v, by unfold valV; simp [q], h1⟩
      · rw [if_neg q] at e'
        obtain ⟨w, h3, h4⟩ := dLook_rep h2 e'
        refine ⟨w, ?_, h4⟩
        rw [← h3]
        unfold valV
        simp [q]
section
variable {cl : Str → Option Addr} {X : Cx} {W : WX} {np : Nat} {pos pos' : Pos} {a b e o i : Expr} {ma mb : M Rf} {md : M D} {G H : Hp} {σ : L2.St} {ρ : En} {T : Cs} {Q : VK}
theorem ed_ix (ha : ER cl X W a ma) (hb : ER cl X W b mb) (hs : PlainIx b) : ED cl X W (.Subscript a b pos) (eBinD fIx ma mb) :=
  EX.by (pe_ix ix_seq ha hb hs) fun G ρ σ H Q k h => at_tX k (At.bind (Ra := rR) rD_back h fun x ρ1 v1 G1 H1 n1 k1 r1 h1 => at_tX k1 (At.bind (Ra := rR) rD_back h1 fun y ρ2 v2 G2 H2 n2 k2 r2 h2 => by
    obtain ⟨d1, q1, h3⟩ := At.get h2 k2 (rR_keep n2 r1)
    obtain ⟨d2, q2, h4⟩ := At.get h3 k2 r2
    obtain ⟨d3, e, h5⟩ := h4.lift
    unfold fIx at e
    split at e
    · obtain ⟨p, xs, rfl, g1, g2⟩ := q1.lst k2
      obtain rfl := q2.int
      obtain ⟨w, g3, g4⟩ := atI_rep g2 e
      exact .inl ⟨p, xs, _, w, rfl, rfl, SqL.of g1, g3, h5.ret k2 g4⟩
    · obtain ⟨p, xs, rfl, g1, g2⟩ := q1.ro k2
      obtain rfl := q2.int
      obtain ⟨w, g3, g4⟩ := atI_rep g2 e
      exact .inl ⟨p, xs, _, w, rfl, rfl, g1, g3, h5.ret k2 g4⟩
    · obtain ⟨p, xs, rfl, g1, g2, _⟩ := q1.tup k2
      obtain rfl := q2.int
      obtain ⟨w, g3, g4⟩ := atI_rep g2 e
      exact .inr (.inl ⟨p, xs, _, w, rfl, rfl, g1, g3, h5.ret k2 g4⟩)
    · split at e
      · rename_i hl
        obtain rfl := q1.str
        obtain rfl := q2.int
        obtain ⟨c, e1, rfl⟩ := Option.map_eq_some_iff.mp e
        exact .inr (.inr ⟨_, _, c, rfl, rfl, lim_le hl, e1, h5.ret k2 rfl⟩)
      · cases e
    · cases e))
/-- d[k] -/
theorem ed_dget (hu : X.A.units + 1 < cLine) (ha : ER cl X W o ma) (hb : ER cl X W i mb) (hs : NoSl i) : ED cl X W (.Subscript o i pos) (eBinD fDGet ma mb) :=
  EX.by (pe_dget hu ha hb hs) fun G ρ σ H Q k h => at_tX k (At.bind (Ra := rR) rD_back h fun x ρ1 v1 G1 H1 n1 k1 r1 h1 => at_tX k1 (At.bind (Ra := rR) rD_back h1 fun y ρ2 v2 G2 H2 n2 k2 r2 h2 => by
    obtain ⟨d1, q1, h3⟩ := At.get h2 k2 (rR_keep n2 r1)
    obtain ⟨d2, q2, h4⟩ := At.get h3 k2 r2
    obtain ⟨d3, e, h5⟩ := h4.lift
    unfold fDGet at e
    split at e
    · obtain ⟨p, kvs, rfl, g1, rfl, g2⟩ := q1.dk k2
      obtain ⟨ky, e1, e2⟩ := Option.bind_eq_some_iff.mp e
      obtain rfl := asKey_rep e1 q2
      obtain ⟨w, g3, g4⟩ := dLook_rep g2 e2
      exact ⟨p, w, rfl, .inl ⟨kvs, ky, g1, rfl, g3.symm⟩, h5.ret k2 g4⟩
    · cases e))
def hasK (ks : List Key) (k : Key) : Bool := ks.any fun x => decide (x = k)
theorem hasK_mem {ks : List Key} {k : Key} (h : hasK ks k = true) : k ∈ ks := by
  obtain ⟨x, h1, h2⟩ := List.any_eq_true.mp h
  have e : x = k := by simpa using h2
  rw [← e]
  exact h1
/-- d[k] = v, d a variable's own, the key there -/
def dputAt (y : Rf) (x kd : D) : S := fun ρ => match y with
  | .s j => match ρ[j]? with
    | some (some (.dk ks ds)) => match asKey kd with
      | some k => if hasK ks k = true ∧ ks.length < lim ∧ ks.Nodup then some (.nx, ρ.set j (some (.dk ks (dPut ks ds k x)))) else none
      | none => none
    | _ => none
  | .d _ => none
def sDPutS (mo key : M Rf) (m : M D) : S := m.then_ fun x => mo.then_ fun y => key.then_ fun kr => kr.get.then_ fun kd => dputAt y x kd
theorem AtS.get {T : Cs} {G H : Hp} {σ : L2.St} {ρ : En} {D : Ends} {f : Fn.D → S} {r : Rf} {v : V} {H0 : Hp} (h : AtS T W np (r.get.then_ f) G ρ D σ H) (k : Ok T G H σ ρ) (hr : rR T H0 σ ρ G H r v) :
    ∃ d, RepT T G H d v ∧ AtS T W np (f d) G ρ D σ H := by
  obtain ⟨r', ρ', e, o⟩ := h
  cases r with
  | d x => exact ⟨x, .inl hr, r', ρ', e, o⟩
  | s i =>
    unfold M.then_ Rf.get getS at e
    cases q : ρ[i]? with
    | none =>
      simp only [q] at e
      cases e
    | some z =>
      cases z with
      | none =>
        simp only [q] at e
        cases e
      | some u =>
        simp only [q] at e
        refine ⟨u.d, ?_, r', ρ', e, o⟩
        have q2 := k.at_ q hr
        cases u with
        | dat d => exact .inl q2
        | fz d => exact .inl q2
        | lst xs => exact .inr ⟨.lst xs, rfl, rfl, q2⟩
        | dk ks vs => exact .inr ⟨.dk ks vs, rfl, rfl, q2⟩
/-- an own variable's object is changed -/
theorem upd_ok {T : Cs} {G H : Hp} {σ : L2.St} {ρ : En} {j : Nat} {u u' : O} {p : Addr} {ho : HO} (k : Ok T G H σ ρ) (hj : ρ[j]? = some (some u)) (hp : u.own = true) (hp' : u'.own = true) (hv : σ[j]? = some (some (.ref p)))
    (new : RepO T G (upd H p ho) u' (.ref p)) : Ns np G H σ ρ G (upd H p ho) σ (ρ.set j (some u')) ∧ Ok T G (upd H p ho) σ (ρ.set j (some u')) := by
  have rj := k.at_ hj hv
  obtain ⟨b, w, e1, e2, e3⟩ := rj.there hp
  cases e1
  have hl : j < ρ.length := (List.getElem?_eq_some_iff.mp hj).1
  have back : ∀ {i : Nat} {o : O}, (ρ.set j (some u'))[i]? = some (some o) → o.own = true → ∃ o', ρ[i]? = some (some o') ∧ o'.own = true := fun {i o} h q => by
    by_cases e : j = i
    · subst e
      exact ⟨u, hj, hp⟩
    · rw [List.getElem?_set_ne e] at h
      exact ⟨o, h, q⟩
  have oj : Owns σ ρ p := ⟨j, u, hj, hp, hv⟩
  have S : Nx G H (Owns σ ρ) G (upd H p ho) (Owns σ (ρ.set j (some u'))) := ⟨Ex.refl _, fun a h1 h2 => absurd h1 h2, fun a o h1 h2 => by
      rw [upd_ne (fun z => h2 (by rw [z]; exact oj))]
      exact h1, fun a h1 => by
      by_cases q : a = p
      · rw [q, upd_same] at h1
        cases h1
      · rw [upd_ne q] at h1
        exact h1, fun a ⟨i, o, h1, h2, h3⟩ => by
      obtain ⟨o', h4, h5⟩ := back h1 h2
      exact .inl ⟨i, o', h4, h5, h3⟩⟩
  refine ⟨⟨S, fun i _ h => ⟨rfl, ?_⟩⟩, ⟨fun a o h => ?_, by rw [List.length_set]; exact k.len, fun i o h => ?_, fun i i' o o' a h1 h2 q1 q2 s1 s2 => ?_⟩⟩
  · by_cases e : j = i
    · subst e
      rw [List.getElem?_set_self hl, kd_sh, own_sh hp']
      rfl
    · rw [List.getElem?_set_ne e]
      exact h
  · rw [upd_ne (ne_of_none h e3)]
    exact k.sub a o h
  · by_cases e : j = i
    · subst e
      rw [List.getElem?_set_self hl] at h
      cases h
      exact ⟨_, hv, new⟩
    · rw [List.getElem?_set_ne e] at h
      obtain ⟨v, h1, h2⟩ := k.rep i o h
      refine ⟨v, h1, ?_⟩
      -- another's object is another
      have np' : o.own = true → ∀ a, v = .ref a → a ≠ p := fun q a ea z => by
        subst ea
        subst z
        exact e (k.dis j i u o a hj h hp q hv h1)
      refine h2.keep (S := fun a => a = p) (S1 := fun a => a = p) ⟨Ex.refl _, fun a h1 h2 => absurd h1 h2, fun a o h1 h2 => by rw [upd_ne h2]; exact h1, fun a h1 => by
        by_cases q : a = p
        · rw [q, upd_same] at h1
          cases h1
        · rw [upd_ne q] at h1
          exact h1, fun a h => .inl h⟩ np'
  · obtain ⟨o1, e5, e6⟩ := back h1 q1
    obtain ⟨o2, e7, e8⟩ := back h2 q2
    exact k.dis i i' o1 o2 a e5 e7 e6 e8 s1 s2
theorem putK_keys {kvs : List (Key × V)} {k : Key} {v : V} (h : k ∈ kvs.map (·.1)) : (putK kvs k v).map (·.1) = kvs.map (·.1) := by
  have ha : (kvs.any fun kv => decide (kv.1 = k)) = true := by
    obtain ⟨q, h1, h2⟩ := List.mem_map.mp h
    exact List.any_eq_true.mpr ⟨q, h1, by simpa using h2⟩
  unfold putK
  first
    | (rw [if_pos ha, List.map_map]; exact List.map_congr_left fun q _ => by (show (if q.1 = k then (q.1, v) else q).1 = q.1); split <;> rfl)
    | (rw [if_pos ha, List.map_map]; exact List.map_congr_left fun q _ => by (simp only [Function.comp]; split <;> simp_all))
theorem putK_rep {kvs : List (Key × V)} {k : Key} {v : V} {d : D} (hd : Rep T G d v) : ∀ {ds : List D}, RepL T G ds (kvs.map (·.2)) → k ∈ kvs.map (·.1) → (kvs.map (·.1)).Nodup → RepL T G (dPut (kvs.map (·.1)) ds k d) ((putK kvs k v).map (·.2)) := by
  intro ds h hm hn
  have ha : (kvs.any fun kv => decide (kv.1 = k)) = true := by
    obtain ⟨q, h1, h2⟩ := List.mem_map.mp hm
    exact List.any_eq_true.mpr ⟨q, h1, by simpa using h2⟩
  have key : ∀ {kvs : List (Key × V)} {ds : List D}, RepL T G ds (kvs.map (·.2)) → (kvs.map (·.1)).Nodup → RepL T G (dPut (kvs.map (·.1)) ds k d) ((kvs.map fun kv => if kv.1 = k then (kv.1, v) else kv).map (·.2)) := by
    intro kvs
    induction kvs with
    | nil =>
      intro ds h _
      cases ds with
      | nil => exact rfl
      | cons d ds =>
        obtain ⟨_, _, e, _⟩ := h
        cases e
    | cons q kvs ih =>
      obtain ⟨k', w⟩ := q
      intro ds h n
      cases ds with
      | nil =>
        have z : ((k', w) :: kvs).map (·.2) = [] := h
        cases z
      | cons d' ds =>
        obtain ⟨w', r, e1, h1, h2⟩ := h
        obtain ⟨rfl, rfl⟩ := List.cons.inj e1
        have n' := List.nodup_cons.mp n
        show RepL T G (if k' = k then d :: ds else d' :: dPut (kvs.map (·.1)) ds k d) (((if k' = k then (k', v) else (k', w)) :: kvs.map fun kv => if kv.1 = k then (kv.1, v) else kv).map (·.2))
        by_cases e : k' = k
        · rw [if_pos e, if_pos e]
          refine ⟨v, _, rfl, hd, ?_⟩
          have same : (kvs.map fun kv => if kv.1 = k then (kv.1, v) else kv) = kvs := by
            refine (List.map_congr_left fun q hq => ?_).trans (List.map_id _)
            have ne : ¬ q.1 = k := fun z => n'.1 (List.mem_map.mpr ⟨q, hq, by rw [z, e]⟩)
            rw [if_neg ne]
            rfl
          rw [same]
          exact h2
        · rw [if_neg e, if_neg e]
          exact ⟨w, _, rfl, h1, ih h2 n'.2⟩
  unfold putK
  rw [if_pos ha]
  exact key h hn
theorem es_dput {mo key : M Rf} {value : Expr} {o i : Expr} (hu : X.A.units + 1 < cLine) (ho : ER cl X W o mo) (hi : ER cl X W i key) (hv : ED cl X W value md) (hs : swapsWith value (some (.Subscript o i pos')) pos.line X.env = pure false := by rfl) :
    ES cl X W np (.Assign [.Subscript o i pos'] value pos) (sDPutS mo key md) := ES.by (ps_dput hu ho hi hv hs) fun G ρ D σ H k a => at_tX k (a.then_ (R := rD) fun x ρ1 v1 G1 H1 n1 k1 r1 a1 => at_tX k1 (a1.then_ (R := rR) fun y ρ2 v2 G2 H2 n2 k2 r2 a2 => by
  refine at_tX k2 (a2.then_ (R := rR) fun z ρ3 v3 G3 H3 n3 k3 r3 a3 => ?_)
  obtain ⟨dk, q, fl, ρ', e, oo⟩ := AtS.get a3 k3 r3
  unfold dputAt at e
  cases y with
  | d _ => cases e
  | s j =>
    have hy : σ[j]? = some (some v2) := r2
    dsimp only at e
    split at e
    case h_2 => cases e
    rename_i ks ds hj
    split at e
    case h_2 => cases e
    rename_i ky hk
    split at e
    case isFalse => cases e
    rename_i hc
    cases e
    have rj := k3.at_ hj hy
    obtain ⟨p, kvs, ev, h1, h2, h3, h4⟩ := id rj
    subst ev
    subst h3
    obtain rfl := asKey_rep hk q
    have rv : Rep ⟨X.K, cl⟩ G3 x v1 := Rep.mono (Ex.trans n2.g n3.g) x v1 r1
    obtain ⟨n4, k4⟩ := upd_ok (np := np) (u' := .dk (kvs.map (·.1)) (dPut (kvs.map (·.1)) ds ky x)) (ho := .dK (putK kvs ky v1)) k3 hj rfl rfl hy
      ⟨p, _, rfl, upd_same, h2, putK_keys (hasK_mem hc.1), putK_rep rv h4 (hasK_mem hc.1) hc.2.2⟩
    exact ⟨p, _, rfl, .inl ⟨kvs, ky, h1, rfl, lim_lt (by have := hc.2.1; rw [List.length_map] at this; exact this), rfl⟩, oo G3 _ σ n4 k4⟩))
end
end Fn

set_option maxRecDepth 100000
set_option maxHeartbeats 4000000
namespace Fn
open PySem PySem.Spec PyProof.Rows L2

/-! ### targets -/
inductive Tg where
  | n (i : Nat) | t (is : List Nat)
def Tg.sl : Tg → List Nat
  | .n i => [i] | .t is => is
def setAll : List Nat → List D → En → Option En
  | [], [], ρ => some ρ
  | i :: is, d :: ds, ρ => if i < ρ.length then setAll is ds (ρ.set i (some (.dat d))) else none
  | _, _, _ => none
def Tg.set : Tg → D → En → Option En
  | .n i, d, ρ => if i < ρ.length then some (ρ.set i (some (.dat d))) else none
  | .t is, .tup ds, ρ => setAll is ds ρ
  | _, _, _ => none
/-- variables other than those at is are as they were -/
def Off (is : List Nat) (σ : L2.St) (ρ : En) (σ' : L2.St) (ρ' : En) : Prop := σ'.length = σ.length ∧ ∀ j : Nat, j ∉ is → σ'[j]? = σ[j]? ∧ ρ'[j]? = ρ[j]?
theorem Off.refl (is : List Nat) (σ : L2.St) (ρ : En) : Off is σ ρ σ ρ := ⟨rfl, fun _ _ => ⟨rfl, rfl⟩⟩
theorem Off.trans {is : List Nat} {σ σ1 σ2 : L2.St} {ρ ρ1 ρ2 : En} (a : Off is σ ρ σ1 ρ1) (b : Off is σ1 ρ1 σ2 ρ2) : Off is σ ρ σ2 ρ2 :=
  ⟨b.1.trans a.1, fun j h => ⟨(b.2 j h).1.trans (a.2 j h).1, (b.2 j h).2.trans (a.2 j h).2⟩⟩
section
variable {T : Cs} {G H : Hp} {σ : L2.St} {ρ ρ' : En} {d : D} {v : V}
theorem set_dat {i : Nat} (k : Ok T G H σ ρ) (r : Rep T G d v) (hi : i < ρ.length) : Ok T G H (σ.set i (some v)) (ρ.set i (some (.dat d))) ∧ Off [i] σ ρ (σ.set i (some v)) (ρ.set i (some (.dat d))) ∧ ∀ a, Owns (σ.set i (some v)) (ρ.set i (some (.dat d))) a → Owns σ ρ a := by
  obtain ⟨_, k2⟩ := set_ok (np := 0) (Nk.refl G H σ ρ) k (o := .dat d) (v := v) ⟨r, Fresh.dat⟩ hi (fun z => absurd z.1 (Nat.not_lt_zero _))
  refine ⟨k2, ⟨List.length_set .., fun j h => ?_⟩, fun a h => ?_⟩
  · have e : i ≠ j := fun z => h (by rw [z]; exact List.mem_singleton_self _)
    rw [List.getElem?_set_ne e, List.getElem?_set_ne e]
    exact ⟨rfl, rfl⟩
  · rcases Owns_set h with ⟨p, _⟩ | ⟨j, o', _, h1, h2, h3⟩
    · cases p
    · exact ⟨j, o', h1, h2, h3⟩
theorem setAll_ok : ∀ {is : List Nat} {ds : List D} {vs : List V} {σ : L2.St} {ρ ρ' : En}, Ok T G H σ ρ → RepL T G ds vs → setAll is ds ρ = some ρ' →
    ∃ σ', Ok T G H σ' ρ' ∧ Off is σ ρ σ' ρ' ∧ (∀ a, Owns σ' ρ' a → Owns σ ρ a) ∧ ∀ Q : L2.St → Hp → Prop, Q σ' H → (is.foldr (fun i t => gCons (gName i) t) gNil) vs σ H Q
  | [], [], vs, σ, ρ, ρ', k, r, e => by
    cases e
    obtain rfl : vs = [] := r
    exact ⟨σ, k, Off.refl .., fun _ h => h, fun Q q => ⟨rfl, q⟩⟩
  | [], d :: ds, vs, σ, ρ, ρ', k, r, e => by cases e
  | i :: is, [], vs, σ, ρ, ρ', k, r, e => by cases e
  | i :: is, d :: ds, vs, σ, ρ, ρ', k, r, e => by
    obtain ⟨v, w, rfl, h1, h2⟩ := r
    have e' : (if i < ρ.length then setAll is ds (ρ.set i (some (.dat d))) else none) = some ρ' := e
    by_cases hi : i < ρ.length
    · rw [if_pos hi] at e'
      obtain ⟨k1, f1, o1⟩ := set_dat k h1 hi
      obtain ⟨σ', k2, f2, o2, q2⟩ := setAll_ok k1 h2 e'
      refine ⟨σ', k2, ⟨f2.1.trans f1.1, fun j h => ?_⟩, fun a h => o1 a (o2 a h), fun Q q => ⟨v, w, rfl, q2 Q q⟩⟩
      have n1 : j ∉ [i] := fun z => h (by rw [List.mem_singleton.mp z]; exact List.mem_cons_self)
      have n2 : j ∉ is := fun z => h (List.mem_cons_of_mem _ z)
      exact ⟨(f2.2 j n2).1.trans (f1.2 j n1).1, (f2.2 j n2).2.trans (f1.2 j n1).2⟩
    · rw [if_neg hi] at e'
      cases e'
/-- the rule for a target, and what it does to the variables -/
def TgOk (K : PySem.W.Frag) : Tg → TG
  | .n i => gName i
  | .t is => gTup K is.length (is.foldr (fun i t => gCons (gName i) t) gNil)
theorem tg_ok {t : Tg} (k : Ok T G H σ ρ) (r : Rep T G d v) (e : t.set d ρ = some ρ') :
    ∃ σ', Ok T G H σ' ρ' ∧ Off t.sl σ ρ σ' ρ' ∧ (∀ a, Owns σ' ρ' a → Owns σ ρ a) ∧ ∀ Q : L2.St → Hp → Prop, Q σ' H → TgOk T.K t v σ H Q := by
  cases t with
  | n i =>
    have e' : (if i < ρ.length then some (ρ.set i (some (O.dat d))) else none) = some ρ' := e
    by_cases hi : i < ρ.length
    · rw [if_pos hi] at e'
      cases e'
      obtain ⟨k1, f1, o1⟩ := set_dat k r hi
      exact ⟨_, k1, f1, o1, fun Q q => q⟩
    · rw [if_neg hi] at e'
      cases e'
  | t is =>
    cases d with
    | tup ds =>
      obtain ⟨a, xs, rfl, h1, h2⟩ := r
      have e' : setAll is ds ρ = some ρ' := e
      obtain ⟨σ', k1, f1, o1, q1⟩ := setAll_ok k h2 e'
      have hl : ds.length = is.length := by
        have : ∀ {is : List Nat} {ds : List D} {ρ ρ' : En}, setAll is ds ρ = some ρ' → ds.length = is.length := by
          intro is
          induction is with
          | nil =>
            intro ds ρ ρ' e
            cases ds with
            | nil => rfl
            | cons d ds => cases e
          | cons i is ih =>
            intro ds ρ ρ' e
            cases ds with
            | nil => cases e
            | cons d ds =>
              have e' : (if i < ρ.length then setAll is ds (ρ.set i (some (O.dat d))) else none) = some ρ' := e
              split at e'
              · rw [List.length_cons, List.length_cons, ih e']
              · cases e'
        exact this e'
      refine ⟨σ', k1, f1, o1, fun Q q => ⟨a, xs, rfl, ex_t k.sub h1, by rw [h2.length, hl], q1 Q q⟩⟩
    | _ => cases e
end
theorem pgs_names {X : Cx} (hN : X.N.Nodup) : ∀ {xs : List (Str × Pos)} {is : List Nat}, xs.length = is.length → (∀ (j : Nat) (x : Str × Pos) (i : Nat), xs[j]? = some x → is[j]? = some i → X.N[i]? = some x.1 ∧ Loc X.env.scope x.1 ∧ (X.fn x.1 = true ∨ X.env.scope.names.lookup x.1 = some .local)) →
    PGs X (xs.map fun x => Expr.Name x.1 x.2) (is.foldr (fun i t => gCons (gName i) t) gNil)
  | [], [], _, _ => pgs_nil
  | x :: xs, [], h, _ => by cases h
  | [], i :: is, h, _ => by cases h
  | x :: xs, i :: is, h, hx => by
    obtain ⟨h1, h2, h3⟩ := hx 0 x i rfl rfl
    exact pgs_cons (pg_name hN h1 h2 h3) (pgs_names hN (by simpa using h) fun j y k e1 e2 => hx (j + 1) y k (by simpa using e1) (by simpa using e2)) (by rfl)

/-! ### what is walked -/
/-- J walks the items ds, over G and H and all that comes of them -/
def Src (T : Cs) (J : It) (ds : List D) (G H : Hp) : Prop := ∀ G' H' : Hp, Ex G G' → Ex G' H' →
  (∀ (i : Nat) (d : D), ds[i]? = some d → J.go i H' ∧ ∀ x H2, J.yld i H' x H2 → ∃ G2, Ex G' G2 ∧ Ex H' H2 ∧ Ex G2 H2 ∧ (∀ a, G' a = none → G2 a ≠ none → H' a = none) ∧ Rep T G2 d x) ∧ J.stop ds.length H'
def rI : RelT (List D) It := fun T _ _ _ G H ds J => Src T J ds G H
theorem rI_back : Back rI := fun _ _ _ _ _ _ _ _ _ _ h => h
section
variable (cl : Str → Option Addr) (X : Cx) (W : WX)
abbrev EI (tg e : Expr) (m : M (List D)) : Prop := PI X tg e (tX rI ⟨X.K, cl⟩ W m)
end
theorem _root_.L2.PI.imp {X : Cx} {tg e : Expr} {t t' : TI} (h : PI X tg e t) (i : ∀ σ H R, t' σ H R → t σ H R) : PI X tg e t' := ⟨fun pins s σ H R I hw => h.run pins s σ H R I (i σ H R hw)⟩
theorem src_list {T : Cs} {G H : Hp} {a : Addr} {xs : List V} {ds : List D} (h : SqL T.K G a xs) (r : RepL T G ds xs) : Src T (Itl T.K a) ds G H := fun G' H' e1 e2 => by
  have q : SqL T.K H' a xs := ex_l e2 (ex_l e1 h)
  refine ⟨fun i d hd => ?_, ⟨xs, q, by rw [r.length]; exact Nat.le_refl _⟩⟩
  obtain ⟨v, h1, h2⟩ := r.get hd
  refine ⟨⟨xs, v, q, h1⟩, fun x H2 y => ?_⟩
  obtain ⟨y1, y2⟩ := y
  subst y1
  have e : some v = some x := h1.symm.trans (y2 xs q)
  cases e
  exact ⟨G', Ex.refl _, Ex.refl _, e2, fun a h h' => absurd h h', Rep.mono e1 d v h2⟩
theorem src_tup {T : Cs} {G H : Hp} {a : Addr} {xs : List V} {ds : List D} (h : SqT T.K G a xs) (r : RepL T G ds xs) : Src T (Itt T.K a) ds G H := fun G' H' e1 e2 => by
  have q : SqT T.K H' a xs := ex_t e2 (ex_t e1 h)
  refine ⟨fun i d hd => ?_, ⟨xs, q, by rw [r.length]; exact Nat.le_refl _⟩⟩
  obtain ⟨v, h1, h2⟩ := r.get hd
  refine ⟨⟨xs, v, q, h1⟩, fun x H2 y => ?_⟩
  obtain ⟨y1, y2⟩ := y
  subst y1
  have e : some v = some x := h1.symm.trans (y2 xs q)
  cases e
  exact ⟨G', Ex.refl _, Ex.refl _, e2, fun a h h' => absurd h h', Rep.mono e1 d v h2⟩
def rangeD (lo : Int) (n : Nat) : List D := (List.range n).map fun (k : Nat) => D.int (lo + (k : Int))
theorem src_range {T : Cs} {G H : Hp} {lo : Int} {n : Nat} : Src T (Itr lo n) (rangeD lo n) G H := fun G' H' e1 e2 => by
  refine ⟨fun i d hd => ?_, by show n ≤ (rangeD lo n).length; unfold rangeD; rw [List.length_map, List.length_range]; exact Nat.le_refl _⟩
  unfold rangeD at hd
  rw [List.getElem?_map] at hd
  cases q : (List.range n)[i]? with
  | none =>
    rw [q] at hd
    cases hd
  | some k =>
    rw [q] at hd
    cases hd
    obtain ⟨hl, e⟩ := List.getElem?_eq_some_iff.mp q
    have ek : i = k := by simpa using e
    subst ek
    refine ⟨by have z := hl; simp at z; exact z, fun x H2 y => ?_⟩
    obtain ⟨y1, y2⟩ := y
    subst y1
    subst y2
    exact ⟨G', Ex.refl _, Ex.refl _, e2, fun a h h' => absurd h h', rfl⟩
section
variable {cl : Str → Option Addr} {X : Cx} {W : WX} {tg e a b : Expr} {p pos : Pos}
/-- a list or tuple is walked, as it is shared -/
def iSeq (m : M D) : M (List D) := M.bind m fun d => match d with
  | .lst ds => M.ret ds
  | .ro ds => M.ret ds
  | _ => M.stuck
def iTp (m : M D) : M (List D) := M.bind m fun d => match d with
  | .tup ds => M.ret ds
  | _ => M.stuck
theorem EI.by {m : M (List D)} {t : TI} (h : PI X tg e t) (i : ∀ G ρ σ H Q, Ok ⟨X.K, cl⟩ G H σ ρ → At rI ⟨X.K, cl⟩ W m G ρ σ H Q → t σ H Q) : EI cl X W tg e m := h.imp fun σ H Q ⟨G, ρ, k, a⟩ => i G ρ σ H Q k a
theorem ei_list {m : M D} (h : ED cl X W e m) : EI cl X W tg e (iSeq m) := EI.by (pi_list h) fun G ρ σ H Q k x => at_tX k (At.bind (Ra := rD) rI_back x fun d ρ1 v G1 H1 n1 k1 r1 a1 => by
  cases d with
  | lst ds =>
    obtain ⟨a, xs, rfl, h1, h2⟩ := r1
    exact ⟨a, rfl, ⟨xs, SqL.of (k1.sub _ _ h1)⟩, a1.ret k1 (src_list (SqL.of h1) h2)⟩
  | ro ds =>
    obtain ⟨a, xs, rfl, h1, h2⟩ := r1
    exact ⟨a, rfl, ⟨xs, ex_l k1.sub h1⟩, a1.ret k1 (src_list h1 h2)⟩
  | _ =>
    obtain ⟨r, ρ', e, _⟩ := a1
    cases e)
theorem ei_tup {m : M D} (h : ED cl X W e m) : EI cl X W tg e (iTp m) := EI.by (pi_tup h) fun G ρ σ H Q k x => at_tX k (At.bind (Ra := rD) rI_back x fun d ρ1 v G1 H1 n1 k1 r1 a1 => by
  cases d with
  | tup ds =>
    obtain ⟨a, xs, rfl, h1, h2⟩ := r1
    exact ⟨a, rfl, ⟨xs, ex_t k1.sub h1⟩, a1.ret k1 (src_tup h1 h2)⟩
  | _ =>
    obtain ⟨r, ρ', e, _⟩ := a1
    cases e)
def iRange1 (as : M (List Rf)) : M (List D) := M.bind as fun rs => M.bind (getL rs) fun ds => match ds with
  | [.int j] => M.bind (M.chk (decide (-1000000000 ≤ j ∧ j ≤ 1000000000))) fun _ => M.ret (rangeD 0 j.toNat)
  | _ => M.stuck
def iRange2 (as : M (List Rf)) : M (List D) := M.bind as fun rs => M.bind (getL rs) fun ds => match ds with
  | [.int i, .int j] => M.bind (M.chk (decide (-1000000000 ≤ i ∧ i ≤ 1000000000 ∧ -1000000000 ≤ j ∧ j ≤ 1000000000))) fun _ => M.ret (rangeD i (j - i).toNat)
  | _ => M.stuck
theorem ei_range1 {as : M (List Rf)} (hg : Gl X "range") (hm : X.mg "range" = none) (ha : EA cl X W [a] as) (hs : starEach [a] X.env = [(false, eval a X.env)] := by rfl) : EI cl X W tg (.Call (.Name "range" p) [a] [] pos) (iRange1 as) :=
  EI.by (pi_range1 hg hm ha hs) fun G ρ σ H Q k x => at_tX k (At.bind (Ra := rA) rI_back x fun rs ρ1 vs G1 H1 n1 k1 r1 a1 => by
    obtain ⟨ds, q, a2⟩ := At.getL a1 k1 r1
    split at a2
    · obtain ⟨v, rfl, q1⟩ := q.one
      obtain rfl := q1.int
      obtain ⟨c, a3⟩ := a2.chk
      obtain ⟨c1, c2⟩ := of_decide_eq_true c
      exact ⟨_, rfl, by omega, by omega, a3.ret k1 src_range⟩
    · obtain ⟨r, ρ', e, _⟩ := a2
      cases e)
theorem ei_range2 {as : M (List Rf)} (hg : Gl X "range") (hm : X.mg "range" = none) (ha : EA cl X W [a, b] as) (hs : starEach [a, b] X.env = [(false, eval a X.env), (false, eval b X.env)] := by rfl) (hs2 : starEach [b] X.env = [(false, eval b X.env)] := by rfl) :
    EI cl X W tg (.Call (.Name "range" p) [a, b] [] pos) (iRange2 as) :=
  EI.by (pi_range2 hg hm ha hs hs2) fun G ρ σ H Q k x => at_tX k (At.bind (Ra := rA) rI_back x fun rs ρ1 vs G1 H1 n1 k1 r1 a1 => by
    obtain ⟨ds, q, a2⟩ := At.getL a1 k1 r1
    split at a2
    · obtain ⟨v, w, rfl, q1, q2⟩ := q.two
      obtain rfl := q1.int
      obtain rfl := q2.int
      obtain ⟨c, a3⟩ := a2.chk
      obtain ⟨c1, c2, c3, c4⟩ := of_decide_eq_true c
      exact ⟨_, _, rfl, ⟨by omega, by omega, by omega, by omega⟩, a3.ret k1 src_range⟩
    · obtain ⟨r, ρ', e, _⟩ := a2
      cases e)
end
end Fn

set_option maxRecDepth 100000
set_option maxHeartbeats 4000000
namespace Fn
open PySem PySem.Spec PyProof.Rows L2

/-! ### a comprehension -/
def wipeE (ρ : En) : List Nat → En
  | [] => ρ
  | v :: vs => (wipeE ρ vs).set v none
def restE (ρ ρ' : En) : List Nat → En
  | [] => ρ'
  | v :: vs => match ρ[v]? with
    | some x => (restE ρ ρ' vs).set v x
    | none => restE ρ ρ' vs
theorem wipeE_length (ρ : En) : ∀ vs, (wipeE ρ vs).length = ρ.length
  | [] => rfl
  | v :: vs => by
    show ((wipeE ρ vs).set v none).length = _
    rw [List.length_set, wipeE_length ρ vs]
theorem wipeE_off {ρ : En} {j : Nat} : ∀ {vs : List Nat}, j ∉ vs → (wipeE ρ vs)[j]? = ρ[j]?
  | [], _ => rfl
  | v :: vs, h => by
    have ne : v ≠ j := fun z => h (by rw [z]; exact List.mem_cons_self)
    show ((wipeE ρ vs).set v none)[j]? = _
    rw [List.getElem?_set_ne ne, wipeE_off fun z => h (List.mem_cons_of_mem _ z)]
theorem wipeE_on {ρ : En} {j : Nat} {o : O} : ∀ {vs : List Nat}, j ∈ vs → (wipeE ρ vs)[j]? ≠ some (some o)
  | v :: vs, h => by
    show ((wipeE ρ vs).set v none)[j]? ≠ _
    by_cases e : v = j
    · subst e
      by_cases hl : v < (wipeE ρ vs).length
      · rw [List.getElem?_set_self hl]
        intro z
        cases z
      · rw [List.getElem?_eq_none (by rw [List.length_set]; omega)]
        intro z
        cases z
    · rw [List.getElem?_set_ne e]
      exact wipeE_on (by simpa [Ne.symm e] using h)
theorem wipe_off {σ : L2.St} {j : Nat} : ∀ {vs : List Nat}, j ∉ vs → (wipe σ vs)[j]? = σ[j]?
  | [], _ => rfl
  | v :: vs, h => by
    have ne : v ≠ j := fun z => h (by rw [z]; exact List.mem_cons_self)
    show ((wipe σ vs).set v none)[j]? = _
    rw [List.getElem?_set_ne ne, wipe_off fun z => h (List.mem_cons_of_mem _ z)]
theorem wipe_on {σ : L2.St} {j : Nat} : ∀ {vs : List Nat}, j ∈ vs → j < σ.length → (wipe σ vs)[j]? = some none
  | v :: vs, h, hl => by
    show ((wipe σ vs).set v none)[j]? = _
    by_cases e : v = j
    · subst e
      rw [List.getElem?_set_self (by rw [wipe_length]; exact hl)]
    · rw [List.getElem?_set_ne e]
      exact wipe_on (by simpa [Ne.symm e] using h) hl
theorem wipe_same {σ σ' : L2.St} {vs : List Nat} (hl : σ'.length = σ.length) (h : ∀ j : Nat, j ∉ vs → σ'[j]? = σ[j]?) : wipe σ' vs = wipe σ vs := by
  apply List.ext_getElem?
  intro j
  by_cases hj : j ∈ vs
  · by_cases hb : j < σ.length
    · rw [wipe_on hj hb, wipe_on hj (by rw [hl]; exact hb)]
    · rw [List.getElem?_eq_none (by rw [wipe_length]; omega), List.getElem?_eq_none (by rw [wipe_length]; omega)]
  · rw [wipe_off hj, wipe_off hj, h j hj]
theorem wipe_idem {σ : L2.St} {vs : List Nat} : wipe (wipe σ vs) vs = wipe σ vs := wipe_same (wipe_length ..) fun j h => wipe_off h
theorem restE_length {ρ ρ' : En} : ∀ vs, (restE ρ ρ' vs).length = ρ'.length
  | [] => rfl
  | v :: vs => by
    unfold restE
    split
    · rw [List.length_set, restE_length vs]
    · exact restE_length vs
theorem restE_off {ρ ρ' : En} {j : Nat} : ∀ {vs : List Nat}, j ∉ vs → (restE ρ ρ' vs)[j]? = ρ'[j]?
  | [], _ => rfl
  | v :: vs, h => by
    have ne : v ≠ j := fun z => h (by rw [z]; exact List.mem_cons_self)
    unfold restE
    split
    · rw [List.getElem?_set_ne ne, restE_off fun z => h (List.mem_cons_of_mem _ z)]
    · exact restE_off fun z => h (List.mem_cons_of_mem _ z)
theorem restE_on {ρ ρ' : En} {j : Nat} (hl : ρ'.length = ρ.length) : ∀ {vs : List Nat}, j ∈ vs → (restE ρ ρ' vs)[j]? = ρ[j]?
  | v :: vs, h => by
    unfold restE
    by_cases e : v = j
    · subst e
      split
      · rename_i x hx
        have hb : v < ρ.length := (List.getElem?_eq_some_iff.mp hx).1
        rw [List.getElem?_set_self (by rw [restE_length, hl]; exact hb), hx]
      · rename_i hx
        have hb : ρ.length ≤ v := List.getElem?_eq_none_iff.mp hx
        rw [hx, List.getElem?_eq_none (by rw [restE_length, hl]; exact hb)]
    · have hm : j ∈ vs := by simpa [Ne.symm e] using h
      split
      · rw [List.getElem?_set_ne e, restE_on hl hm]
      · exact restE_on hl hm
def compGo (vs : List Nat) (t : Tg) (tt : M Bool) (elt : M D) : List D → List D → M (List D)
  | [], acc => M.ret acc
  | d :: ds, acc => fun ρ => match t.set d ρ with
    | none => none
    | some ρ1 => match tt ρ1 with
      | some (.ok true, ρ2) => match elt ρ2 with
        | some (.ok x, ρ3) => if acc.length < lim then compGo vs t tt elt ds (acc ++ [x]) (wipeE ρ3 vs) else none
        | _ => none
      | some (.ok false, ρ2) => compGo vs t tt elt ds acc (wipeE ρ2 vs)
      | _ => none
def eComp (vs : List Nat) (t : Tg) (src : M (List D)) (tt : M Bool) (elt : M D) : M O := M.bind src fun ds ρ => match compGo vs t tt elt ds [] (wipeE ρ vs) with
  | some (.ok acc, ρ') => if ρ'.length = ρ.length then some (.ok (.lst acc), restE ρ ρ' vs) else none
  | _ => none
def W0 : WX := fun _ _ _ _ => False

section
variable {T : Cs} {G H G1 H1 : Hp} {σ : L2.St} {ρ ρ1 : En} {vs : List Nat}
/-- the variables without those at vs -/
theorem Ok.wipe (k : Ok T G H σ ρ) : Ok T G H (L2.wipe σ vs) (wipeE ρ vs) ∧ ∀ a, Owns (L2.wipe σ vs) (wipeE ρ vs) a → Owns σ ρ a := by
  have off : ∀ {j : Nat} {o : O}, (wipeE ρ vs)[j]? = some (some o) → j ∉ vs ∧ ρ[j]? = some (some o) := fun {j o} h => by
    by_cases hj : j ∈ vs
    · exact absurd h (wipeE_on hj)
    · rw [wipeE_off hj] at h
      exact ⟨hj, h⟩
  refine ⟨⟨k.sub, by rw [wipeE_length, wipe_length]; exact k.len, fun j o h => ?_, fun j j' o o' a h1 h2 p1 p2 s1 s2 => ?_⟩, fun a ⟨j, o, h1, h2, h3⟩ => ?_⟩
  · obtain ⟨hj, h'⟩ := off h
    obtain ⟨v, h1, h2⟩ := k.rep j o h'
    exact ⟨v, by rw [wipe_off hj]; exact h1, h2⟩
  · obtain ⟨hj, h1'⟩ := off h1
    obtain ⟨hj', h2'⟩ := off h2
    rw [wipe_off hj] at s1
    rw [wipe_off hj'] at s2
    exact k.dis j j' o o' a h1' h2' p1 p2 s1 s2
  · obtain ⟨hj, h1'⟩ := off h1
    rw [wipe_off hj] at h3
    exact ⟨j, o, h1', h2, h3⟩
/-- behind the comprehension -/
theorem Ok.unwipe (k : Ok T G H σ ρ) (k1 : Ok T G1 H1 (L2.wipe σ vs) ρ1) (n : Nx G H (Owns (L2.wipe σ vs) (wipeE ρ vs)) G1 H1 (Owns (L2.wipe σ vs) ρ1)) (hk : ∀ j : Nat, j ∉ vs → kd ρ1[j]? = kd ρ[j]?) (hl : ρ1.length = ρ.length) :
    Nk G H σ ρ G1 H1 (restE ρ ρ1 vs) ∧ Ok T G1 H1 σ (restE ρ ρ1 vs) := by
  obtain ⟨_, up⟩ := k.wipe (vs := vs)
  have alive : ∀ a, Owns σ ρ a → H a ≠ none := fun a ⟨i, o, h1, h2, h3⟩ z => by
    obtain ⟨b, u, e1, e2, _⟩ := (k.at_ h1 h3).there h2
    cases e1
    rw [e2] at z
    cases z
  -- what a wiped variable owns the block does not
  have apart : ∀ {j : Nat} {o : O} {a : Addr}, j ∈ vs → ρ[j]? = some (some o) → o.own = true → σ[j]? = some (some (.ref a)) → ¬ Owns (L2.wipe σ vs) (wipeE ρ vs) a := fun {j o a} hj h1 p s1 ⟨i, o', h2, p', s2⟩ => by
    by_cases hi : i ∈ vs
    · exact wipeE_on hi h2
    · rw [wipeE_off hi] at h2
      rw [wipe_off hi] at s2
      have e := k.dis j i o o' a h1 h2 p p' s1 s2
      rw [e] at hj
      exact hi hj
  have ownsIn : ∀ a, Owns σ (restE ρ ρ1 vs) a → Owns σ ρ a ∨ H a = none := fun a ⟨j, o, h1, h2, h3⟩ => by
    by_cases hj : j ∈ vs
    · rw [restE_on hl hj] at h1
      exact .inl ⟨j, o, h1, h2, h3⟩
    · rw [restE_off hj] at h1
      rcases n.own a ⟨j, o, h1, h2, by rw [wipe_off hj]; exact h3⟩ with z | z
      · exact .inl (up a z)
      · exact .inr z
  refine ⟨⟨⟨n.g, fun a h1 h2 => (n.new a h1 h2).imp id (up a), fun a o h1 h2 => n.keep a o h1 fun z => h2 (up a z), n.there, ownsIn⟩, fun j => ?_⟩, ⟨k1.sub, ?_, fun j o h => ?_, fun j j' o o' a h1 h2 p1 p2 s1 s2 => ?_⟩⟩
  · by_cases hj : j ∈ vs
    · rw [restE_on hl hj]
    · rw [restE_off hj]
      exact hk j hj
  · rw [restE_length, hl]
    exact k.len
  · by_cases hj : j ∈ vs
    · rw [restE_on hl hj] at h
      obtain ⟨v, h1, h2⟩ := k.rep j o h
      exact ⟨v, h1, h2.keep n fun p a e => by
        subst e
        exact apart hj h p h1⟩
    · rw [restE_off hj] at h
      obtain ⟨v, h1, h2⟩ := k1.rep j o h
      rw [wipe_off hj] at h1
      exact ⟨v, h1, h2⟩
  · have mixed : ∀ {j j' : Nat} {o o' : O} {a : Addr}, j ∈ vs → j' ∉ vs → ρ[j]? = some (some o) → o.own = true → σ[j]? = some (some (.ref a)) → ρ1[j']? = some (some o') → o'.own = true → σ[j']? = some (some (.ref a)) → False := fun {j j' o o' a} hj hj' h1 p1 s1 h2 p2 s2 => by
      rcases n.own a ⟨j', o', h2, p2, by rw [wipe_off hj']; exact s2⟩ with z | z
      · exact apart hj h1 p1 s1 z
      · exact alive a ⟨j, o, h1, p1, s1⟩ z
    by_cases hj : j ∈ vs
    · rw [restE_on hl hj] at h1
      by_cases hj' : j' ∈ vs
      · rw [restE_on hl hj'] at h2
        exact k.dis j j' o o' a h1 h2 p1 p2 s1 s2
      · rw [restE_off hj'] at h2
        exact (mixed hj hj' h1 p1 s1 h2 p2 s2).elim
    · rw [restE_off hj] at h1
      by_cases hj' : j' ∈ vs
      · rw [restE_on hl hj'] at h2
        exact (mixed hj' hj h2 p2 s2 h1 p1 s1).elim
      · rw [restE_off hj'] at h2
        exact k1.dis j j' o o' a h1 h2 p1 p2 (by rw [wipe_off hj]; exact s1) (by rw [wipe_off hj']; exact s2)
end
end Fn

set_option maxRecDepth 100000
set_option maxHeartbeats 4000000
namespace Fn
open PySem PySem.Spec PyProof.Rows L2

section
variable {T : Cs} {G H G1 H1 : Hp} {σ : L2.St} {ρ ρ1 : En}
theorem Nx.less {S S' : Addr → Prop} (h : ∀ a, S' a → S a) : Nx G H S G H S' := ⟨Ex.refl _, fun _ a b => absurd a b, fun _ _ a _ => a, fun _ a => a, fun a z => .inl (h a z)⟩
/-- the heaps grow -/
theorem grow_ok (k : Ok T G H σ ρ) (eg : Ex G G1) (eh : Ex H H1) (es : Ex G1 H1) (new : ∀ a, G a = none → G1 a ≠ none → H a = none) : Nk G H σ ρ G1 H1 ρ ∧ Ok T G1 H1 σ ρ := by
  have th : ∀ a, H1 a = none → H a = none := fun a h => by
    cases q : H a with
    | none => rfl
    | some o =>
      rw [eh a o q] at h
      cases h
  have n : ∀ S, Nx G H S G1 H1 S := fun S => ⟨eg, fun a h1 h2 => .inl (new a h1 h2), fun a o h _ => eh a o h, th, fun _ h => .inl h⟩
  refine ⟨⟨n _, fun _ => rfl⟩, ⟨es, k.len, fun i o h => ?_, k.dis⟩⟩
  obtain ⟨v, h1, h2⟩ := k.rep i o h
  exact ⟨v, h1, h2.keep (n fun _ => False) fun _ _ _ z => z⟩
/-- an object that nobody has is changed -/
theorem tmp_ok {p : Addr} {o u : HO} (k : Ok T G H σ ρ) (gp : G p = none) (hp : H p = some u) (np : ¬ Owns σ ρ p) : Ok T G (upd H p o) σ ρ := by
  refine ⟨fun a w h => ?_, k.len, fun i w h => ?_, k.dis⟩
  · rw [upd_ne (ne_of_none h gp)]
    exact k.sub a w h
  · obtain ⟨v, h1, h2⟩ := k.rep i w h
    refine ⟨v, h1, h2.keep (S := fun a => a = p) (S1 := fun a => a = p) ⟨Ex.refl _, fun a h1 h2 => absurd h1 h2, fun a o h1 h2 => by rw [upd_ne h2]; exact h1, fun a h1 => by
        by_cases q : a = p
        · rw [q, upd_same] at h1
          cases h1
        · rw [upd_ne q] at h1
          exact h1, fun a h => .inl h⟩ fun q a ea z => ?_⟩
    subst ea
    subst z
    exact np ⟨i, w, h, q, h1⟩
/-- .. seen from where it was not there -/
theorem Nx.tmp {S S1 : Addr → Prop} {p : Addr} {o u : HO} (n : Nx G H S G1 H1 S1) (h0 : H p = none) (hp : H1 p = some u) : Nx G H S G1 (upd H1 p o) S1 := by
  refine ⟨n.g, n.new, fun a w h h' => ?_, fun a h => ?_, n.own⟩
  · rw [upd_ne (ne_of_none h h0)]
    exact n.keep a w h h'
  · by_cases q : a = p
    · rw [q]
      exact h0
    · rw [upd_ne q] at h
      exact n.there a h
end
section
variable {cl : Str → Option Addr} {X : Cx} {W : WX}
theorem comp_core {K : PySem.W.Frag} {G H : Hp} {σ : L2.St} {ρ : En} {Q : VK} {vs : List Nat} {t : Tg} {src : M (List D)} {ttm : M Bool} {em : M D} (k : Ok ⟨K, cl⟩ G H σ ρ) (a : At rO ⟨K, cl⟩ W (eComp vs t src ttm em) G ρ σ H Q) (hsl : ∀ i ∈ t.sl, i ∈ vs) :
    tLc (tX rI ⟨K, cl⟩ W src) (TgOk K t) (tX rB ⟨K, cl⟩ W0 ttm) (tX rD ⟨K, cl⟩ W0 em) vs σ H Q := by
  refine at_tX k (At.bind (Ra := rI) rO_back a fun ds ρ1 J G1 H1 n1 k1 hsrc a1 => fun D hD => ?_)
  obtain ⟨r, ρ', e, oo⟩ := a1
  dsimp only at e
  split at e
  case h_2 => cases e
  rename_i fin ρ2 hgo
  split at e
  case isFalse => cases e
  rename_i hlen
  cases e
  obtain ⟨kw, up⟩ := k1.wipe (vs := vs)
  let St : Nat → Hp → Prop := fun i H' => ∃ G' ρi acc xs, compGo vs t ttm em (ds.drop i) acc ρi = some (.ok fin, ρ2) ∧ Nx G1 H1 (Owns (wipe σ vs) (wipeE ρ1 vs)) G' H' (Owns (wipe σ vs) ρi) ∧ Ok ⟨K, cl⟩ G' H' (wipe σ vs) ρi ∧
    (∀ j : Nat, j ∉ vs → kd ρi[j]? = kd ρ1[j]?) ∧ H' D = some (.lst xs) ∧ G' D = none ∧ RepL ⟨K, cl⟩ G' acc xs ∧ xs.length ≤ lim ∧ ¬ Owns (wipe σ vs) ρi D
  refine ⟨fun i m H' => m = ds.length - i ∧ i ≤ ds.length ∧ St i H', ⟨_, rfl, Nat.zero_le _, ?_⟩, ?_⟩
  · obtain ⟨n, k', gD, nD⟩ := new_own (o := .lst []) hD kw
    exact ⟨G1, wipeE ρ1 vs, [], [], hgo, n.toNx, k', fun j hj => by rw [wipeE_off hj], upd_same, gD, rfl, Nat.zero_le _, nD⟩
  rintro i m H' ⟨rfl, hi', G', ρi, acc, xs, hgo', n', k', kk, dD, gD, rD', hxs, nD⟩
  by_cases hlt : i < ds.length
  · refine .inr ?_
    obtain ⟨hgo1, hyl⟩ := (hsrc G' H' n'.g k'.sub).1 i ds[i] (by simp [hlt])
    refine ⟨hgo1, St (i + 1), fun H'' st => ⟨_, by omega, rfl, hlt, st⟩, fun x H2 hy => ?_⟩
    obtain ⟨G2, x1, x2, x3, x4, x5⟩ := hyl x H2 hy
    obtain ⟨n2, k2⟩ := grow_ok k' x1 x2 x3 x4
    have dD2 : H2 D = some (.lst xs) := x2 _ _ dD
    have gD2 : G2 D = none := by
      cases q : G2 D with
      | none => rfl
      | some u =>
        have z := x4 D gD (by rw [q]; simp)
        rw [dD] at z
        cases z
    rw [List.drop_eq_getElem_cons hlt] at hgo'
    unfold compGo at hgo'
    split at hgo'
    case h_1 => cases hgo'
    rename_i ρa hset
    obtain ⟨σ', k3, f3, o3, q3⟩ := tg_ok k2 x5 hset
    refine q3 _ ?_
    have hw : wipe σ' vs = wipe σ vs := (wipe_same f3.1 fun j hj => (f3.2 j fun z => hj (hsl j z)).1).trans wipe_idem
    refine ⟨hw, ?_⟩
    have nD3 : ¬ Owns σ' ρa D := fun z => nD (o3 D z)
    -- the list so far, as a thing of nobody's
    have l3 : RepO ⟨K, cl⟩ G2 H2 (.lst acc) (.ref D) := ⟨D, xs, rfl, dD2, gD2, RepL.mono x1 _ _ rD'⟩
    split at hgo'
    · rename_i ρb hb
      split at hgo'
      case h_2 => cases hgo'
      rename_i y ρc hy2
      split at hgo'
      case isFalse => cases hgo'
      rename_i hal
      refine ⟨G2, ρa, k3, _, _, hb, fun b G4 H4 n4 k4 rb => ?_⟩
      obtain rfl : true = b := rb
      have l4 := l3.keep n4.toNx fun _ a ea => by
        cases ea
        exact nD3
      have nD4 : ¬ Owns σ' ρb D := fun z => by
        rcases n4.own D z with q | q
        · exact nD3 q
        · rw [dD2] at q
          cases q
      rw [if_pos rfl]
      refine ⟨G4, ρb, k4, _, _, hy2, fun v G5 H5 n5 k5 rv => ?_⟩
      have l5 := l4.keep n5.toNx fun _ a ea => by
        cases ea
        exact nD4
      obtain ⟨_, ys, ea, dD5, gD5, rL5⟩ := l5
      cases ea
      have dD4 : ∃ u, H4 D = some u := by
        obtain ⟨_, zs, ea, q, _⟩ := l4
        cases ea
        exact ⟨_, q⟩
      have nD5 : ¬ Owns σ' ρc D := fun z => by
        rcases n5.own D z with q | q
        · exact nD4 q
        · obtain ⟨u, hu⟩ := dD4
          rw [hu] at q
          cases q
      refine ⟨ys, dD5, lim_lt (by rw [rL5.length]; exact hal), ?_⟩
      obtain ⟨kz, upz⟩ := k5.wipe (vs := vs)
      rw [hw] at kz upz
      have nn : Nx G1 H1 (Owns (wipe σ vs) (wipeE ρ1 vs)) G5 H5 (Owns (wipe σ vs) (wipeE ρc vs)) := n'.trans (n2.toNx.trans ((Nx.less o3).trans (n4.toNx.trans (n5.toNx.trans (Nx.less upz)))))
      refine ⟨G5, wipeE ρc vs, acc ++ [y], ys ++ [v], hgo', nn.tmp hD dD5, tmp_ok kz gD5 dD5 fun z => nD5 (upz D z), fun j hj => ?_, upd_same, gD5, rL5.append ⟨v, [], rfl, rv, rfl⟩, by rw [List.length_append, rL5.length]; exact hal, fun z => nD5 (upz D z)⟩
      rw [wipeE_off hj, n5.kp j, n4.kp j, (f3.2 j fun z => hj (hsl j z)).2]
      exact kk j hj
    · rename_i ρb hb
      refine ⟨G2, ρa, k3, _, _, hb, fun b G4 H4 n4 k4 rb => ?_⟩
      obtain rfl : false = b := rb
      rw [if_neg Bool.false_ne_true]
      obtain ⟨_, ys, ea, dD5, gD5, rL5⟩ := l3.keep n4.toNx fun _ a ea => by
        cases ea
        exact nD3
      cases ea
      have nD4 : ¬ Owns σ' ρb D := fun z => by
        rcases n4.own D z with q | q
        · exact nD3 q
        · rw [dD2] at q
          cases q
      obtain ⟨kz, upz⟩ := k4.wipe (vs := vs)
      rw [hw] at kz upz
      have nn : Nx G1 H1 (Owns (wipe σ vs) (wipeE ρ1 vs)) G4 H4 (Owns (wipe σ vs) (wipeE ρb vs)) := n'.trans (n2.toNx.trans ((Nx.less o3).trans (n4.toNx.trans (Nx.less upz))))
      refine ⟨G4, wipeE ρb vs, acc, ys, hgo', nn, kz, fun j hj => ?_, dD5, gD5, rL5, by rw [rL5.length, ← rD'.length]; exact hxs, fun z => nD4 (upz D z)⟩
      rw [wipeE_off hj, n4.kp j, (f3.2 j fun z => hj (hsl j z)).2]
      exact kk j hj
    · cases hgo'
  · refine .inl ?_
    have e : i = ds.length := by omega
    subst e
    refine ⟨(hsrc G' H' n'.g k'.sub).2, ?_⟩
    rw [List.drop_length] at hgo'
    cases hgo'
    obtain ⟨n9, k9⟩ := k1.unwipe k' n' kk hlen
    refine oo (.ref D) G' H' n9 k9 ⟨⟨D, xs, rfl, dD, gD, rD'⟩, fun _ a ea => ?_⟩
    cases ea
    refine ⟨hD, fun z => ?_⟩
    obtain ⟨j, o, h1, h2, h3⟩ := z
    by_cases hj : j ∈ vs
    · rw [restE_on hlen hj] at h1
      obtain ⟨b, u, e1, e2, _⟩ := (k1.at_ h1 h3).there h2
      cases e1
      rw [hD] at e2
      cases e2
    · rw [restE_off hj] at h1
      exact nD ⟨j, o, h1, h2, by rw [wipe_off hj]; exact h3⟩
theorem eo_comp {elt tg iter : Expr} {ifs : List Expr} {scope : Scope} {own : List (Str × Nat)} {pos : Pos} {t : Tg} {src : M (List D)} {ttm : M Bool} {em : M D} (hc : X.calm = true) (hN : X.N.Nodup) (hi : EI cl X W tg iter src) (ok : BlkOk X.N X.env.scope scope own)
    (hg : ∀ (s : Shared) (H : Hp) (C : Addr) (cs : List (Str × Addr)) (fp : List Addr), PG (X.blk s H scope (compEnvC scope cs C X.env) fp) tg (TgOk X.K t))
    (ht : ∀ (s : Shared) (H : Hp) (C : Addr) (cs : List (Str × Addr)) (fp : List Addr), PTs (X.blk s H scope (compEnvC scope cs C X.env) fp) ifs (tX rB ⟨X.K, cl⟩ W0 ttm))
    (he : ∀ (s : Shared) (H : Hp) (C : Addr) (cs : List (Str × Addr)) (fp : List Addr), ED cl (X.blk s H scope (compEnvC scope cs C X.env) fp) W0 elt em)
    (hsl : ∀ i ∈ t.sl, i ∈ own.map (·.2)) (hs : ∀ x, foldedSetIterable iter X.env x = pure x := by intro _; rfl) :
    EO cl X W (.ListComp elt [⟨tg, iter, ifs, 0⟩] scope pos) (eComp (own.map (·.2)) t src ttm em) := by
  have base : PE X (.ListComp elt [⟨tg, iter, ifs, 0⟩] scope pos) (tLc (tX rI ⟨X.K, cl⟩ W src) (TgOk X.K t) (tX rB ⟨X.K, cl⟩ W0 ttm) (tX rD ⟨X.K, cl⟩ W0 em) (own.map (·.2))) := pe_lc hc hN hi ok hg ht (fun s H C cs fp => he s H C cs fp) hs
  generalize own.map (·.2) = vs at base hsl ⊢
  exact EX.by base fun G ρ σ H Q k a => comp_core k a hsl
end
end Fn

set_option maxRecDepth 100000
set_option maxHeartbeats 4000000
namespace Fn
open PySem PySem.Spec PyProof.Rows L2

/-! ### for -/
def free (np : Nat) (t : Tg) (ρ : En) : Bool := t.sl.all fun i => !(decide (i < np) && decide (kd ρ[i]? = 3))
def forGo (np : Nat) (t : Tg) (body : S) : List D → S
  | [] => fun ρ => some (.nx, ρ)
  | d :: ds => fun ρ => if free np t ρ = true then match t.set d ρ with
    | none => none
    | some ρ1 => match body ρ1 with
      | some (.nx, ρ2) => forGo np t body ds ρ2
      | some (.ct, ρ2) => forGo np t body ds ρ2
      | some (.bk, ρ2) => some (.nx, ρ2)
      | r => r
    else none
def sFor (np : Nat) (t : Tg) (src : M (List D)) (body : S) : S := src.then_ fun ds => forGo np t body ds
section
variable {cl : Str → Option Addr} {X : Cx} {W : WX} {np : Nat} {pos : Pos}
theorem free_off {np : Nat} {t : Tg} {ρ : En} {i : Nat} (h : free np t ρ = true) (hi : i < np) (hk : kd ρ[i]? = 3) : i ∉ t.sl := fun z => by
  have q := List.all_eq_true.mp h i z
  rw [decide_eq_true hi, decide_eq_true hk] at q
  cases q
theorem es_for {tg iter : Expr} {body : List Stmt} {t : Tg} {src : M (List D)} {f : S} (hp : PassesOwn (model X.prog X.w) X.A X.env X.xe) (hc : X.calm = true) (hi : EI cl X W tg iter src) (hg : PG X tg (TgOk X.K t)) (hb : ESs cl X W np body f)
    (hs : ∀ x, foldedSetIterable iter X.env x = pure x := by intro _; rfl) : ES cl X W np (.For tg iter body [] pos) (sFor np t src f) := ES.by (ps_for hp hc hi hg hb hs) fun G ρ D σ H k a => by
  refine at_tX k (a.then_ (R := rI) fun ds ρ1 J G1 H1 n1 k1 hsrc a1 => ?_)
  obtain ⟨fl, ρ', e, oo⟩ := a1
  refine ⟨fun i m σ' H' => m = ds.length - i ∧ i ≤ ds.length ∧ ∃ G' ρi, forGo np t f (ds.drop i) ρi = some (fl, ρ') ∧ Ns np G1 H1 σ ρ1 G' H' σ' ρi ∧ Ok ⟨X.K, cl⟩ G' H' σ' ρi, ⟨_, rfl, Nat.zero_le _, G1, ρ1, e, Ns.refl .., k1⟩, ?_⟩
  rintro i m σ' H' ⟨rfl, hi', G', ρi, hgo, n', k'⟩
  by_cases hlt : i < ds.length
  · refine .inr ?_
    obtain ⟨hgo1, hyl⟩ := (hsrc G' H' n'.g k'.sub).1 i ds[i] (by simp [hlt])
    refine ⟨hgo1, fun σ'' H'' => ∃ G' ρi, forGo np t f (ds.drop (i + 1)) ρi = some (fl, ρ') ∧ Ns np G1 H1 σ ρ1 G' H'' σ'' ρi ∧ Ok ⟨X.K, cl⟩ G' H'' σ'' ρi, fun σ'' H'' st => ⟨_, by omega, rfl, hlt, st⟩, fun x H2 hy => ?_⟩
    obtain ⟨G2, x1, x2, x3, x4, x5⟩ := hyl x H2 hy
    obtain ⟨n2, k2⟩ := grow_ok k' x1 x2 x3 x4
    rw [List.drop_eq_getElem_cons hlt] at hgo
    unfold forGo at hgo
    split at hgo
    case isFalse => cases hgo
    rename_i hfree
    split at hgo
    case h_1 => cases hgo
    rename_i ρa hset
    obtain ⟨σa, k3, f3, o3, q3⟩ := tg_ok k2 x5 hset
    refine q3 _ ?_
    have n3 : Ns np G' H' σ' ρi G2 H2 σa ρa := by
      refine ⟨n2.toNx.trans (Nx.less o3), fun j hj hk => ?_⟩
      obtain ⟨e1, e2⟩ := f3.2 j (free_off hfree hj hk)
      rw [e1, e2]
      exact ⟨rfl, hk⟩
    have nn := n'.trans n3
    refine ⟨G2, ρa, k3, ?_⟩
    have key : ∀ {fl1 ρb}, f ρa = some (fl1, ρb) → (∀ G4 H4 σ4, Ns np G2 H2 σa ρa G4 H4 σ4 ρb → Ok ⟨X.K, cl⟩ G4 H4 σ4 ρb → Ns np G1 H1 σ ρ1 G4 H4 σ4 ρb ∧ Ok ⟨X.K, cl⟩ G4 H4 σ4 ρb) := fun _ G4 H4 σ4 n4 k4 => ⟨nn.trans n4, k4⟩
    split at hgo
    · rename_i ρb hb2
      exact ⟨.nx, ρb, hb2, fun G4 H4 σ4 n4 k4 => ⟨G4, ρb, hgo, nn.trans n4, k4⟩⟩
    · rename_i ρb hb2
      exact ⟨.ct, ρb, hb2, fun G4 H4 σ4 n4 k4 => ⟨G4, ρb, hgo, nn.trans n4, k4⟩⟩
    · rename_i ρb hb2
      cases hgo
      exact ⟨.bk, _, hb2, fun G4 H4 σ4 n4 k4 => oo G4 H4 σ4 (nn.trans n4) k4⟩
    · rename_i xx a1 a2 a3
      have oo2 := oo.shift nn
      refine ⟨fl, ρ', hgo, ?_⟩
      cases fl with
      | nx => exact (a1 _ hgo).elim
      | ct => exact (a2 _ hgo).elim
      | bk => exact (a3 _ hgo).elim
      | rt o => exact oo2
      | er c ns vs => exact oo2
  · refine .inl ?_
    have e2 : i = ds.length := by omega
    subst e2
    rw [List.drop_length] at hgo
    cases hgo
    exact ⟨(hsrc G' H' n'.g k'.sub).2, oo G' H' σ' n' k'⟩
end

/-! ### a def -/
def outs : Nat → List O → En → Option (List O)
  | _, [], _ => some []
  | i, o :: os, ρ => if o.own = true then match ρ[i]? with
      | some (some o') => if o'.sh = true then (outs (i + 1) os ρ).map fun r => o' :: r else none
      | _ => none
    else (outs (i + 1) os ρ).map fun r => o :: r
def defF (n : Nat) (f : S) : Fx := fun os => match f (os.map some ++ List.replicate (n - os.length) none) with
  | some (.nx, ρ') => (outs 0 os ρ').map fun r => (.ok (.dat .non), r)
  | some (.rt o, ρ') => (outs 0 os ρ').map fun r => (.ok o, r)
  | some (.er c ns vs, ρ') => (outs 0 os ρ').map fun r => (.er c ns vs, r)
  | _ => none
theorem outs_get {ρ : En} : ∀ {os : List O} {i : Nat} {r : List O}, outs i os ρ = some r → r.length = os.length ∧ ∀ (j : Nat) (o : O), os[j]? = some o → ∃ o', r[j]? = some o' ∧ ((o.own = true ∧ ρ[i + j]? = some (some o') ∧ o'.sh = true) ∨ (o.own = false ∧ o' = o))
  | [], i, r, h => by
    cases h
    exact ⟨rfl, fun j o e => by simp at e⟩
  | o :: os, i, r, h => by
    unfold outs at h
    by_cases p : o.own = true
    · rw [if_pos p] at h
      split at h
      case h_2 => cases h
      rename_i o' ho
      split at h
      case isFalse => cases h
      rename_i hs
      obtain ⟨r', h1, rfl⟩ := Option.map_eq_some_iff.mp h
      obtain ⟨l, g⟩ := outs_get h1
      refine ⟨by rw [List.length_cons, List.length_cons, l], fun j u e => ?_⟩
      cases j with
      | zero =>
        have e' : o = u := by simpa using e
        subst e'
        exact ⟨o', rfl, .inl ⟨p, ho, hs⟩⟩
      | succ j =>
        obtain ⟨u', g1, g2⟩ := g j u (by simpa using e)
        refine ⟨u', by simpa using g1, ?_⟩
        rw [show i + (j + 1) = i + 1 + j from by omega]
        exact g2
    · rw [if_neg p] at h
      obtain ⟨r', h1, rfl⟩ := Option.map_eq_some_iff.mp h
      obtain ⟨l, g⟩ := outs_get h1
      refine ⟨by rw [List.length_cons, List.length_cons, l], fun j u e => ?_⟩
      cases j with
      | zero =>
        have e' : o = u := by simpa using e
        subst e'
        exact ⟨o, rfl, .inr ⟨by simpa using p, rfl⟩⟩
      | succ j =>
        obtain ⟨u', g1, g2⟩ := g j u (by simpa using e)
        refine ⟨u', by simpa using g1, ?_⟩
        rw [show i + (j + 1) = i + 1 + j from by omega]
        exact g2
section
variable {T : Cs} {G H : Hp} {os : List O} {vs : List V} {m : Nat}
theorem get_app {α : Type} {xs : List α} {m j : Nat} {x : α} (h : (xs.map some ++ List.replicate m none)[j]? = some (some x)) : xs[j]? = some x := by
  by_cases hj : j < xs.length
  · rw [List.getElem?_append_left (by simpa using hj), List.getElem?_map] at h
    cases q : xs[j]? with
    | none =>
      rw [q] at h
      cases h
    | some z =>
      rw [q] at h
      cases h
      rfl
  · rw [List.getElem?_append_right (by simpa using hj), List.getElem?_replicate] at h
    split at h <;> cases h
theorem app_get {α : Type} {xs : List α} {m j : Nat} {x : α} (h : xs[j]? = some x) : (xs.map some ++ List.replicate m none)[j]? = some (some x) := by
  have hj : j < xs.length := (List.getElem?_eq_some_iff.mp h).1
  rw [List.getElem?_append_left (by simpa using hj), List.getElem?_map, h]
  rfl
theorem map_get {α : Type} {xs : List α} {j : Nat} {x : α} : (xs.map some)[j]? = some (some x) ↔ xs[j]? = some x := by
  rw [List.getElem?_map]
  cases q : xs[j]? with
  | none => simp
  | some z => simp
theorem Ok.enter (k : Ok T G H (vs.map some) (os.map some)) : Ok T G H (vs.map some ++ List.replicate m none) (os.map some ++ List.replicate m none) ∧ ∀ a, Owns (vs.map some ++ List.replicate m none) (os.map some ++ List.replicate m none) a → Owns (vs.map some) (os.map some) a := by
  refine ⟨⟨k.sub, ?_, fun i o h => ?_, fun i j o o' a h1 h2 p1 p2 s1 s2 => ?_⟩, fun a ⟨i, o, h1, h2, h3⟩ => ⟨i, o, map_get.mpr (get_app h1), h2, map_get.mpr (get_app h3)⟩⟩
  · have z := k.len
    rw [List.length_map, List.length_map] at z
    rw [List.length_append, List.length_append, List.length_map, List.length_map, z]
    simp
  · obtain ⟨v, h1, h2⟩ := k.rep i o (map_get.mpr (get_app h))
    exact ⟨v, app_get (map_get.mp h1), h2⟩
  · exact k.dis i j o o' a (map_get.mpr (get_app h1)) (map_get.mpr (get_app h2)) p1 p2 (map_get.mpr (get_app s1)) (map_get.mpr (get_app s2))
theorem Ok.leave {os' : List O} {G' H' : Hp} {σ' : L2.St} {ρ' : En} (k : Ok T G H (vs.map some) (os.map some)) (n : Ns os.length G H (vs.map some ++ List.replicate m none) (os.map some ++ List.replicate m none) G' H' σ' ρ') (k' : Ok T G' H' σ' ρ') (ho : outs 0 os ρ' = some os') :
    Nk G H (vs.map some) (os.map some) G' H' (os'.map some) ∧ Ok T G' H' (vs.map some) (os'.map some) := by
  obtain ⟨l, g⟩ := outs_get ho
  have lv : os.length = vs.length := by
    have z := k.len
    rw [List.length_map, List.length_map] at z
    exact z
  have S0 := (k.enter (m := m)).2
  have inv : ∀ {j : Nat} {o' : O}, os'[j]? = some o' → ∃ o, os[j]? = some o ∧ ((o.own = true ∧ ρ'[j]? = some (some o') ∧ o'.sh = true) ∨ (o.own = false ∧ o' = o)) := fun {j o'} e => by
    have hj : j < os.length := by rw [← l]; exact (List.getElem?_eq_some_iff.mp e).1
    obtain ⟨o2, e2, h2⟩ := g j os[j] (by simp [hj])
    rw [e] at e2
    cases e2
    rw [Nat.zero_add] at h2
    exact ⟨os[j], by simp [hj], h2⟩
  -- the places that are lent
  have held : ∀ {j : Nat} {o : O} {v : V}, os[j]? = some o → o.own = true → vs[j]? = some v → σ'[j]? = some (some v) := fun {j o v} h1 p h2 => by
    have hj : j < os.length := (List.getElem?_eq_some_iff.mp h1).1
    obtain ⟨e, _⟩ := n.lk j hj (by rw [app_get h1, kd_sh, own_sh p]; rfl)
    rw [e]
    exact app_get h2
  have ownsUp : ∀ a, Owns (vs.map some) (os'.map some) a → Owns (vs.map some) (os.map some) a := fun a ⟨j, o', h1, h2, h3⟩ => by
    obtain ⟨o, h4, h5⟩ := inv (map_get.mp h1)
    rcases h5 with ⟨p, _, _⟩ | ⟨p, e⟩
    · exact ⟨j, o, map_get.mpr h4, p, h3⟩
    · rw [e, p] at h2
      cases h2
  refine ⟨⟨⟨n.g, fun a h1 h2 => (n.new a h1 h2).imp id (S0 a), fun a o h1 h2 => n.keep a o h1 fun z => h2 (S0 a z), n.there, fun a h => .inl (ownsUp a h)⟩, fun j => ?_⟩, ⟨k'.sub, ?_, fun j o' h => ?_, fun j j' o o' a h1 h2 p1 p2 s1 s2 => ?_⟩⟩
  · rw [List.getElem?_map, List.getElem?_map]
    by_cases hj : j < os.length
    · obtain ⟨o', e1, h2⟩ := g j os[j] (by simp [hj])
      have e0 : os[j]? = some os[j] := by simp [hj]
      rw [e0, e1]
      show kd (some (some o')) = kd (some (some os[j]))
      rcases h2 with ⟨p, _, hs⟩ | ⟨_, e⟩
      · rw [kd_sh, kd_sh, hs, own_sh p]
      · rw [e]
    · rw [List.getElem?_eq_none (by omega), List.getElem?_eq_none (by omega)]
  · rw [List.length_map, List.length_map, l, lv]
  · obtain ⟨o, h4, h5⟩ := inv (map_get.mp h)
    obtain ⟨v, h6, h7⟩ := k.rep j o (map_get.mpr h4)
    refine ⟨v, h6, ?_⟩
    rcases h5 with ⟨p, hr, _⟩ | ⟨p, e⟩
    · obtain ⟨v', h8, h9⟩ := k'.rep j o' hr
      have e := held h4 p (map_get.mp h6)
      rw [e] at h8
      cases h8
      exact h9
    · subst e
      exact h7.keep n.toNx fun q => by rw [p] at q; cases q
  · obtain ⟨u, h4, h5⟩ := inv (map_get.mp h1)
    obtain ⟨u', h6, h7⟩ := inv (map_get.mp h2)
    rcases h5 with ⟨q1, r1, _⟩ | ⟨q1, e⟩
    · rcases h7 with ⟨q2, r2, _⟩ | ⟨q2, e⟩
      · exact k'.dis j j' o o' a r1 r2 p1 p2 (held h4 q1 (map_get.mp s1)) (held h6 q2 (map_get.mp s2))
      · rw [e, q2] at p2
        cases p2
    · rw [e, q1] at p1
      cases p1
end
section
variable {P : Program} {w : World} {K : PySem.W.Frag} {mg : Str → Option Value} {base : Heap} {CX : CXT} {cl : Str → Option Addr}
theorem def_ok {k np : Nat} {f : Addr} {x qual : Str} {st : Stmt} {fd : FuncData} {N ps : List Str} {den : S} (F : Fun K x qual st f fd) (Sc : FnScope N ps (defScope st)) (hn : ps.length = np)
    (body : ∀ (cdv : Value) (A : Around) (outer : List Env) (s : Shared) (H : Hp) (E : XK), A.guards = some [] → Room k (A.deeper (envOfC qual (defScope st) s.heap.objs.size f cdv)) →
      ESs cl (cxOf CX P w K mg base N qual (defScope st) f cdv A outer s H E) (WE E) np (defBody st) den) :
    FnS P w K mg base CX (k + 1) f fd ps (spF ⟨K, cl⟩ np (defF N.length den)) := by
  refine fnS_of F Sc (fun vs H Q E h => h.1.trans hn.symm) fun cdv A outer s H vs Q E hg hr h => ?_
  refine ⟨_, body cdv A outer s H E hg hr, ?_⟩
  obtain ⟨hl, G, os, r, os', k0, hF, hlen, oo⟩ := h
  have lv : os.length = vs.length := by
    have z := k0.len
    rw [List.length_map, List.length_map] at z
    exact z
  have eN : N.length - os.length = N.length - vs.length := by rw [lv]
  have k1 := (k0.enter (m := N.length - vs.length)).1
  have hnp : np = os.length := by rw [lv, hl]
  unfold defF at hF
  rw [eN] at hF
  have alive : ∀ a, Owns (vs.map some) (os.map some) a → H a ≠ none := fun a ⟨i, o, h1, h2, h3⟩ z => by
    obtain ⟨b, u, e1, e2, _⟩ := (k0.at_ h1 h3).there h2
    cases e1
    rw [e2] at z
    cases z
  have ownsUp : ∀ a, Owns (vs.map some) (os'.map some) a → ∀ ρ', outs 0 os ρ' = some os' → Owns (vs.map some) (os.map some) a := fun a ⟨j, o', h1, h2, h3⟩ ρ' ho => by
    obtain ⟨l, g⟩ := outs_get ho
    have hj : j < os.length := by rw [← l]; exact (List.getElem?_eq_some_iff.mp (map_get.mp h1)).1
    obtain ⟨o2, e2, h5⟩ := g j os[j] (by simp [hj])
    rw [map_get.mp h1] at e2
    cases e2
    rcases h5 with ⟨p, _, _⟩ | ⟨p, e⟩
    · exact ⟨j, os[j], map_get.mpr (by simp [hj]), p, h3⟩
    · rw [e, p] at h2
      cases h2
  have fin : ∀ {ρ' G' H' σ'}, outs 0 os ρ' = some os' → Ns np G H (vs.map some ++ List.replicate (N.length - vs.length) none) (os.map some ++ List.replicate (N.length - vs.length) none) G' H' σ' ρ' → Ok ⟨K, cl⟩ G' H' σ' ρ' →
      Nk G H (vs.map some) (os.map some) G' H' (os'.map some) ∧ Ok ⟨K, cl⟩ G' H' (vs.map some) (os'.map some) := fun {ρ' G' H' σ'} ho n k' => k0.leave (m := N.length - vs.length) (hnp ▸ n) k' ho
  refine ⟨G, _, k1, ?_⟩
  split at hF
  · rename_i ρ' e1
    obtain ⟨r', ho, e2⟩ := Option.map_eq_some_iff.mp hF
    cases e2
    refine ⟨_, _, e1, fun G' H' σ' n k' => ?_⟩
    obtain ⟨n2, k2⟩ := fin ho n k'
    exact oo .non G' H' n2 k2 ⟨rfl, Fresh.dat⟩
  · rename_i o ρ' e1
    obtain ⟨r', ho, e2⟩ := Option.map_eq_some_iff.mp hF
    cases e2
    refine ⟨_, _, e1, fun v G' H' σ' n k' ro => ?_⟩
    obtain ⟨n2, k2⟩ := fin ho n k'
    exact oo v G' H' n2 k2 ⟨ro.1, fun p a ea => ⟨(ro.2 p a ea).1, fun z => alive a (ownsUp a z _ ho) (ro.2 p a ea).1⟩⟩
  · rename_i c ns ds ρ' e1
    obtain ⟨r', ho, e2⟩ := Option.map_eq_some_iff.mp hF
    cases e2
    refine ⟨_, _, e1, fun G' H' σ' C hc n k' => ?_⟩
    obtain ⟨n2, k2⟩ := fin ho n k'
    exact oo G' H' C hc n2 k2
  · cases hF
end
end Fn

set_option maxRecDepth 100000
set_option maxHeartbeats 4000000
/-! own exception classes, called with keywords: BaseException.__new__ takes them and forgets them -/
namespace PySem
namespace FnX
open HandSPX Builtin Builtin.ObjectAttr
section
variable {M : Model} {A : Around} {E : Value → Shared → Prop} {h : Heap} {g : Array GenState} {d : Drawn} {t : Nat} {os : OsState}
variable {nm q : Str} {C N : Addr} {bs bm bmB : List Value} {hdct : Bool} {sn : List Str} {sub : List Value} {ab : Bool} {col : Option Bool} {dd : Option Addr} {k0 k1 k2 k3 k5 : Option Value} {B newId initId : String}
theorem kw_check (F : ExcBaseFacts B newId initId bmB) (hT : ∀ X : String, bm.contains (.type X) = bmB.contains (.type X)) {rest : List Value} {kw : List (Str × Value)} {Q : Unit → Shared → Prop}
    (hC : h.get? C = some (excClassObj nm q C N bs bm hdct sn sub ab col dd k0 k1 k2 k3 k5 newId)) (hq : Q () ⟨h, g, d, t, os⟩) : wpAny M A (checkBuiltinCall newId ⟨.ref C :: rest, kw⟩) Q E ⟨h, g, d, t, os⟩ := by
  have hcont : (Value.ref C :: bm).contains (.type B) = true := by rw [List.contains_cons, hT, F.hasB, Bool.or_true]
  have hstar := F.noStar
  simp only [checkBuiltinCall, F.newKind, F.newSplit, F.newRow]
  repeat (first | refine wpAny_loadPart_at hC ?_ | (refine wpAny_isSubtype_exc hC ?_; rw [hcont]) | refine wpAny_staticBase_exc hC ?_ | refine wpAny_madeBy_exc hC ?_ | simp only [bne_self_eq_false, Bool.false_eq_true, if_false] | wp_step)
  exact hq
end
section
variable {prog : Program} {w : World} {A : Around} {E : Value → Shared → Prop} {R : Result → Shared → Prop} {h : Heap} {g : Array GenState} {d : Drawn} {t : Nat} {os : OsState}
variable {nm q : Str} {C N : Addr} {bs bm bmB : List Value} {hdct : Bool} {sn : List Str} {sub : List Value} {ab : Bool} {col : Option Bool} {dd : Option Addr} {k0 k1 k2 k3 k5 : Option Value} {B newId initId : String}
theorem kw_new (F : ExcBaseFacts B newId initId bmB) (hT : ∀ X : String, bm.contains (.type X) = bmB.contains (.type X)) {rest : List Value} {kw : List (Str × Value)}
    (hC : h.get? C = some (excClassObj nm q C N bs bm hdct sn sub ab col dd k0 k1 k2 k3 k5 newId))
    (hq : R (.ok (.ret (.ref (h.objs.size + 1)))) ⟨(h.push { cls := .type "tuple", data := .seq rest.toArray }).push
      { cls := .ref C, data := .fields #[.ref h.objs.size, .none, .none, .none, .bool false, .none] }, g, d, t, os⟩) (hrest : rest.length ≤ sizeLine) :
    codeAny (model prog w) A (.builtin newId ⟨.ref C :: rest, kw⟩) R ⟨h, g, d, t, os⟩ := by
  have hends := F.ends
  have hcB : (Value.ref C :: bm).contains (.type B) = true := by rw [List.contains_cons, hT, F.hasB, Bool.or_true]
  have hcA : (Value.ref C :: bm).contains (.type "AttributeError") = false := by rw [List.contains_cons, hT, F.noAttr]; rfl
  have hcN : (Value.ref C :: bm).contains (.type "NameError") = false := by rw [List.contains_cons, hT, F.noName]; rfl
  refine codeAny_builtinAt F.entry ?_
  unfold Builtin.«BaseException.__new__»
  refine wpAt_bind ?_
  show wpAt _ _ _ (stack >>= _) _ _ _
  refine wpAt_bind (wpAt_stack fun p below => wpAt_of_wpAny ?_)
  wp_walk
  refine wpAt_of_wpAny ?_
  rw [F.owner]
  repeat (first | with_reducible refine wpAny_madeHere_exc F.canon hC ?_ | with_reducible refine wpAny_loadPart_at hC ?_ | (with_reducible refine wpAny_isSubtype_exc hC ?_; first | rw [hcB] | rw [hcA] | rw [hcN]) | wp_step)
  show R _ _
  rw [Heap.size_push]
  exact hq
theorem kw_type (F : ExcBaseFacts B newId initId bmB) (hT : ∀ X : String, bm.contains (.type X) = bmB.contains (.type X)) {rest : List Value} {kw : List (Str × Value)} {fI : Addr} {Q : Fin → Shared → Prop}
    (hC : h.get? C = some (excClassObj nm q C N bs bm hdct sn sub ab col dd k0 k1 k2 k3 k5 newId))
    (hi : W.Looks (model prog w) h (typeLookup (.ref C) "__init__") (some (.ref fI))) (hb : ∀ self, W.Looks (model prog w) h (bindSpecial (.ref fI) self) (.ref fI, [self])) (hrest : rest.length ≤ sizeLine)
    (hq : codeAny (model prog w) A (.call (.ref fI) ⟨.ref (h.objs.size + 1) :: rest, kw⟩)
      (fun r s' => match r with | .ok (.ret v) => v = .none ∧ Q (.done (.ret (.ref (h.objs.size + 1)))) s' | .ok _ => False | .error e => E e s')
      ⟨(h.push (W.kdv_tup rest)).push (excO C h.objs.size), g, d, t, os⟩) :
    wpAny (model prog w) A (Builtin.«type.__call__» ⟨.ref C :: rest, kw⟩) Q E ⟨h, g, d, t, os⟩ := by
  repeat (first | with_reducible refine wpAny_loadPart_at hC ?_ | with_reducible refine wpAny_madeBy_exc hC ?_ | wp_step)
  refine codeAny_call_builtin_code (Code.quiet_builtin _ F.quiet) (kw_check F hT hC ?_)
  refine kw_new F hT hC ?_ hrest
  show wpAny _ _ _ _ _ _
  have k : ∀ b o, h.get? b = some o → ((h.push (W.kdv_tup rest)).push (excO C h.objs.size)).get? b = some o := fun b o e => Heap.get?_push_of_some _ (Heap.get?_push_of_some _ e)
  have hC₁ := k _ _ hC
  have hget : ((h.push (W.kdv_tup rest)).push (excO C h.objs.size)).get? (h.objs.size + 1) = some (excO C h.objs.size) := by heap_get
  have hcC : (Value.ref C :: bm).contains (.ref C) = true := by simp
  have i1 := hi.keeps k
  have b1 := (hb (.ref (h.objs.size + 1))).keeps k
  unfold isInstance
  repeat (first | with_reducible refine wpAny_loadPart_at hget ?_ | (with_reducible refine wpAny_isSubtype_exc hC₁ ?_; rw [hcC]) | wp_step)
  show wpAny _ _ (typeLookup (.ref C) _) _ _ _
  refine i1.at ?_
  refine wpAny_holding (wpAny_bind (b1.at ?_))
  refine wpAny_bind (wpAny_call (codeAny_mono hq fun r s' z => ?_))
  rcases r with e | (v | _ | _ | _) <;> first | exact z | exact z.elim | skip
  obtain ⟨rfl, z⟩ := z
  first
    | exact wpAny_pure (wpAny_pure z)
    | (wp_walk; exact z)
theorem kw_call (F : ExcBaseFacts B newId initId bmB) (hT : ∀ X : String, bm.contains (.type X) = bmB.contains (.type X)) {rest : List Value} {kw : List (Str × Value)} {fI : Addr}
    (hC : h.get? C = some (excClassObj nm q C N bs bm hdct sn sub ab col dd k0 k1 k2 k3 k5 newId))
    (hi : W.Looks (model prog w) h (typeLookup (.ref C) "__init__") (some (.ref fI))) (hb : ∀ self, W.Looks (model prog w) h (bindSpecial (.ref fI) self) (.ref fI, [self])) (hrest : rest.length ≤ sizeLine)
    (hq : codeAny (model prog w) (A.under (.builtin "type.__call__" ⟨.ref C :: rest, kw⟩)) (.call (.ref fI) ⟨.ref (h.objs.size + 1) :: rest, kw⟩) (W.InitBack (h.objs.size + 1) R)
      ⟨(h.push (W.kdv_tup rest)).push (excO C h.objs.size), g, d, t, os⟩) :
    codeAny (model prog w) A (.call (.ref C) ⟨rest, kw⟩) R ⟨h, g, d, t, os⟩ := by
  have f1 := tc_lookup
  have f2 := tc_bind (.ref C)
  have hTy : (⟨h, g, d, t, os⟩ : Shared).TypeIs (.ref C) "type" := ⟨_, hC, rfl⟩
  refine codeAny_of_tree ?_
  show wpAny _ _ (callAny (.ref C) _) _ _ _
  repeat (any_goals (first | assumption | with_reducible refine wpAny_loadPart_at hC ?_ | wp_step))
  refine ⟨rfl, ?_⟩
  refine codeAny_call_builtin_at (Code.quiet_builtin _ (by decide +kernel)) entry_typeCall (wpAny_check_type_call_sub hC (kw_type F hT hC hi hb hrest ?_))
  refine codeAny_mono hq fun r s' z => ?_
  rcases r with e | (v | _ | _ | _) <;> exact z
end
end FnX
end PySem

set_option maxRecDepth 100000
set_option maxHeartbeats 4000000
/-! own exceptions as values -/
namespace Fn
open PySem PySem.Spec PyProof.Rows L2

/-- what the written part says of an own exception class -/
structure XK1 (K : PySem.W.Frag) (C : Addr) : Prop extends OexC K C where
  ec : ExcC K C
/-- .. of one with the field f, set by its own __init__ -/
structure XK2 (K : PySem.W.Frag) (C : Addr) (f : Str) (fI : Addr) : Prop extends XK1 K C where
  no : PySem.W.findIn K (.ref C) f = some none
  iC : PySem.W.findIn K (.ref C) "__init__" = some (some (.ref fI))
  tI : PySem.W.typeIn K (.ref fI) = some (.type "function")
def spIni (C : Addr) (f : Str) : Sp := fun vs H Q _ => ∃ a y, vs = [.ref a, y] ∧ H a = some (exo a C none) ∧ ∀ dx, H dx = none → dx ≠ a → Q .non (upd (upd H dx (exd dx [(f, y)])) a (exo a C (some dx)))
section
variable {P : Program} {w : World} {K : PySem.W.Frag} {mg : Str → Option Value} {base : Heap} {CX : CXT}
/-- def __init__(self, f): self.f = f -/
theorem ini_ok {k : Nat} {x qual f : Str} {st : Stmt} {fI C : Addr} {fd : FuncData} {p1 p2 p3 p4 : Pos} (F : L2.Fun K x qual st fI fd) (Sc : FnScope ["self", f] ["self", f] (defScope st)) (hb : defBody st = [.Assign [.Attribute (.Name "self" p1) f p2] (.Name f p3) p4])
    (T : XK2 K C f fI) (v1 : Vis (defScope st) "self") (v2 : Vis (defScope st) f) (d1 : (f == ("__debug__" : Str)) = false) (d2 : (f == ("__classdict__" : Str)) = false) : FnS P w K mg base CX (k + 1) fI fd ["self", f] (spIni C f) := by
  refine fnS_of F Sc (fun vs H Q E h => ?_) fun cdv A outer s H vs Q E hg hr h => ?_
  · obtain ⟨a, y, rfl, _⟩ := h
    rfl
  obtain ⟨a, y, rfl, h1, h2⟩ := h
  rw [hb]
  refine ⟨_, pss_one (ps_ost (pe_var (i := 0) (x := "self") rfl v1) (pe_var (i := 1) (x := f) rfl v2 d1 d2)), ?_⟩
  refine ⟨y, rfl, .ref a, rfl, a, C, rfl, T.toOexC, T.no, .inl ⟨h1, fun dx e1 e2 => h2 dx e1 e2⟩⟩
end
section
variable {X : Cx} {CX : CXT} {k : Nat} {C fI : Addr} {f x : Str} {fd : FuncData} {e : Expr} {te : TE} {p pos : Pos}
/-- a new exception with its field -/
def mkH (H : Hp) (a dx C : Addr) (f : Str) (y : V) : Hp := upd (upd H dx (exd dx [(f, y)])) a (exo a C (some dx))
theorem run_exV {pins : List (Addr × Obj)} {σ : L2.St} {H : Hp} {s : Shared} {Q : VK} {us : List Value} {kw : List (Str × Value)} {u : Value} {y : V} (T : XK2 X.K C f fI) (F1 : FnS X.prog X.w X.K X.mg X.base CX k fI fd ["self", f] (spIni C f)) (hr : Room (k + 1) X.A) (hgd : X.A.guards = some [])
    (hx : Passes CX X (fun _ _ _ => False)) (hl : us.length ≤ 1) (hb : ∀ s : Shared, X.K.In s.heap → ∀ self, BindsTo s fd ⟨self :: us, kw⟩ [("self", self), (f, u)]) (I : Inv X pins σ H s) (r : RelV y u)
    (h : ∀ a dx, H a = none → H dx = none → dx ≠ a → Q (.ref a) (mkH H a dx C f y)) : wpAny (model X.prog X.w) X.A (call (.ref C) us kw) (EP X pins σ Q) X.xe s := by
  obtain ⟨nm, q, N, bs, bm, sn, sub, ab, col, dd, k0, k1, k2, k3, k5, hC, hbm⟩ := T.cls
  obtain ⟨hp, g, dr, tk, os⟩ := s
  have hsz : hp.objs.size ≤ hp.objs.size + 1 := Nat.le_succ _
  have hn : H (hp.objs.size + 1) = none := I.hok.fresh hsz
  have kk : ∀ b o, hp.get? b = some o → ((hp.push (PySem.W.kdv_tup us)).push (PySem.HandSPX.excO C hp.objs.size)).get? b = some o := fun b o e => Heap.get?_push_of_some _ (Heap.get?_push_of_some _ e)
  have hget : ((hp.push (PySem.W.kdv_tup us)).push (PySem.HandSPX.excO C hp.objs.size)).get? (hp.objs.size + 1) = some (PySem.HandSPX.excO C hp.objs.size) := by heap_get
  have I2 : Inv X pins σ (upd H (hp.objs.size + 1) (exo (hp.objs.size + 1) C none)) ⟨(hp.push (PySem.W.kdv_tup us)).push (PySem.HandSPX.excO C hp.objs.size), g, dr, tk, os⟩ :=
    I.laid (t' := tk) (a := hp.objs.size + 1) (o := exo (hp.objs.size + 1) C none) (h' := (hp.push (PySem.W.kdv_tup us)).push (PySem.HandSPX.excO C hp.objs.size)) kk hsz (exo_ok hget)
  have r2 : Vals [V.ref (hp.objs.size + 1), y] [Value.ref (hp.objs.size + 1), u] := .cons rfl (.cons r .nil)
  have sp : spIni C f [V.ref (hp.objs.size + 1), y] (upd H (hp.objs.size + 1) (exo (hp.objs.size + 1) C none)) (fun v H2 => v = .non ∧ Q (.ref (hp.objs.size + 1)) H2) (fun _ _ _ => False) := by
    refine ⟨_, y, rfl, upd_same, fun dx e1 e2 => ⟨rfl, ?_⟩⟩
    have e3 : H dx = none := by rw [upd_ne e2] at e1; exact e1
    have z := h _ dx hn e3 e2
    have eq : upd (upd (upd H (hp.objs.size + 1) (exo (hp.objs.size + 1) C none)) dx (exd dx [(f, y)])) (hp.objs.size + 1) (exo (hp.objs.size + 1) C (some dx)) = mkH H (hp.objs.size + 1) dx C f y := by
      funext b
      unfold mkH
      by_cases q1 : b = hp.objs.size + 1
      · rw [q1, upd_same, upd_same]
      · rw [upd_ne q1, upd_ne q1]
        by_cases q2 : b = dx
        · rw [q2, upd_same, upd_same]
        · rw [upd_ne q2, upd_ne q2, upd_ne q1]
    rw [eq]
    exact z
  refine wpAny_call (PySem.FnX.kw_call F.excBase_ValueError (fun Y => PySem.HandSPX.refsVE_contains Y bm hbm) (I.kIn _ _ hC) (PySem.W.looks_findIn I.kIn T.iC) (fun self => PySem.W.bind_fn I.kIn self T.tI) (by rw [sizeLine_eq]; omega)
    (codeAny_mono (F1.go _ X.stack _ _ ⟨Value.ref (hp.objs.size + 1) :: us, kw⟩ [Value.ref (hp.objs.size + 1), u] _ _ (fun _ _ _ => False) hgd (hr.make C us kw) (I2.env0.make C us kw) (hb _ I2.kIn _) r2 sp) fun r s' hq' => ?_))
  cases r with
  | error er => exact hx pins σ _ _ er s' I2 hq'
  | ok fl =>
    cases fl with
    | ret u =>
      obtain ⟨v, H', I3, rv, ev, q3⟩ := I2.after hq'
      subst ev
      exact ⟨rv, ⟨V.ref (hp.objs.size + 1), H', I3, rfl, q3⟩⟩
    | next => exact False.elim hq'
    | brk => exact False.elim hq'
    | cont => exact False.elim hq'
def tExV (C : Addr) (f : Str) (te : TE) : TE := fun σ H Q => te σ H fun y H1 => ∀ a dx, H1 a = none → H1 dx = none → dx ≠ a → Q (.ref a) (mkH H1 a dx C f y)
/-- C(e) -/
theorem pe_exV (T : XK2 X.K C f fI) (F1 : FnS X.prog X.w X.K X.mg X.base CX k fI fd ["self", f] (spIni C f)) (hr : Room (k + 1) X.A) (hgd : X.A.guards = some []) (hx : Passes CX X (fun _ _ _ => False)) (hb : ∀ u v : Value, bindArgs fd ⟨[u, v], []⟩ = pure [(("self" : Str), u), (f, v)])
    (hg : Gl X x) (hm : X.mg x = some (.ref C)) (he : PE X e te) (hdb : (x == ("__debug__" : Str)) = false := by decide) (hs : starEach [e] X.env = (false, eval e X.env) :: starEach [] X.env := by rfl) :
    PE X (.Call (.Name x p) [e] [] pos) (tExV C f te) := by
  refine ⟨fun pins s σ H Q I h => ?_⟩
  refine wpAny_Call_Name_kw (ld_glob I hg hm ?_ hdb)
  refine PySem.W.callWith_K (h₀ := X.base) I.ok.mod.kin T.kC ?_ hs (by rfl)
  refine thn ((pa_cons he pa_nil hs).run pos pins s σ H (fun vs H1 => match vs with | [y] => ∀ a dx, H1 a = none → H1 dx = none → dx ≠ a → Q (.ref a) (mkH H1 a dx C f y) | _ => False) I h) ?_
  rintro us s1 ⟨vs, H1, I1, r, q⟩
  cases r with
  | nil => exact q.elim
  | cons r1 r2 =>
    cases r2 with
    | cons _ _ => exact q.elim
    | nil => exact ⟨I1.kIn, run_exV T F1 hr hgd hx (Nat.le_refl _) (fun s X self => .of_eq (hb self _)) I1 r1 q⟩
/-- C(f = e) -/
theorem pe_exK {kp : Pos} (T : XK2 X.K C f fI) (F1 : FnS X.prog X.w X.K X.mg X.base CX k fI fd ["self", f] (spIni C f)) (hr : Room (k + 1) X.A) (hgd : X.A.guards = some []) (hx : Passes CX X (fun _ _ _ => False)) (hb : ∀ u v : Value, bindArgs fd ⟨[u], [(f, v)]⟩ = pure [(("self" : Str), u), (f, v)])
    (hg : Gl X x) (hm : X.mg x = some (.ref C)) (he : PE X e te) (hdb : (x == ("__debug__" : Str)) = false := by decide)
    (hall : (backToKw pos (keywordEach [⟨some f, e, kp⟩] X.env)).all (·.1.isSome) = true := by rfl) (hks : (backToKw pos (keywordEach [⟨some f, e, kp⟩] X.env)).filterMap (·.1) = [f] := by rfl)
    (hpl : ((backTo pos (starEach [] X.env)).any (·.1) || (backToKw pos (keywordEach [⟨some f, e, kp⟩] X.env)).any (·.1.isNone)) = false := by rfl) :
    PE X (.Call (.Name x p) [] [⟨some f, e, kp⟩] pos) (tExV C f te) := by
  refine ⟨fun pins s σ H Q I h => ?_⟩
  refine wpAny_Call_Name_kw (ld_glob I hg hm ?_ hdb)
  refine PySem.W.callWith_KW0 (h₀ := X.base) I.ok.mod.kin T.kC hall ?_ hpl
  refine thn ((pk_cons (nm := some f) (kpos := kp) he pk_nil).run pos pins s σ H (fun vs H1 => match vs with | [y] => ∀ a dx, H1 a = none → H1 dx = none → dx ≠ a → Q (.ref a) (mkH H1 a dx C f y) | _ => False) I h) ?_
  rintro us s1 ⟨vs, H1, I1, r, q⟩
  rw [hks]
  cases r with
  | nil => exact q.elim
  | cons r1 r2 =>
    cases r2 with
    | cons _ _ => exact q.elim
    | nil => exact ⟨I1.kIn, run_exV T F1 hr hgd hx (Nat.zero_le _) (fun s X self => .of_eq (hb self _)) I1 r1 q⟩
/-- C(), no own __init__ -/
theorem pe_ex0 (T : XK1 X.K C) (q : PySem.W.excIn X.K C PySem.HandSPX.veTail "ValueError.__new__" = true) (hg : Gl X x) (hm : X.mg x = some (.ref C)) (hdb : (x == ("__debug__" : Str)) = false := by decide) :
    PE X (.Call (.Name x p) [] [] pos) (fun _ H Q => ∀ a, H a = none → Q (.ref a) (upd H a (exo a C none))) := by
  refine ⟨fun pins s σ H Q I h => ?_⟩
  refine wpAny_Call_Name_kw (ld_glob I hg hm ?_ hdb)
  refine PySem.W.callWith_K0 I.kIn T.kC ?_
  obtain ⟨bm, N, nm, qn, bs, hdct, sn, sub, ab, col, dd, k0, k1, k2, k3, k5, mN, hC, hN, hni, T⟩ := exc_obj I.kIn q
  refine wpAny_call_exc_subT F.excBase_ValueError T hC hN hni (fun h' a hm => ?_) (by show 0 ≤ sizeLine; omega)
  have hn : H a = none := I.hok.gone hm.new
  obtain ⟨t, ht, _, _⟩ := hm.there
  exact ⟨.ref a, upd H a (exo a C none), I.laidN hm.keeps hm.new hn (exo_ok ht), rfl, h a hn⟩
end
end Fn

set_option maxRecDepth 100000
set_option maxHeartbeats 4000000
namespace Fn
open PySem PySem.Spec PyProof.Rows L2

/-- all own exception classes, with the fields that may be asked of them -/
structure Xs (K : PySem.W.Frag) (cl : Str → Option Addr) (flds : List Str) : Prop where
  k1 : ∀ c C, cl c = some C → XK1 K C
  no : ∀ c C, cl c = some C → ∀ f ∈ flds, PySem.W.findIn K (.ref C) f = some none

section
variable {cl : Str → Option Addr} {X : Cx} {W : WX} {CX : CXT} {k : Nat} {C fI : Addr} {c f x : Str} {fd : FuncData} {e : Expr} {md : M D} {p pos : Pos} {flds : List Str}
def eEx (c f : Str) (md : M D) : M D := M.bind md fun d => M.ret (.exc c [f] [d])
def eEx0 (c : Str) : M D := M.ret (.exc c [] [])
theorem exv_by (hc : cl c = some C) {ce : Expr} (h : PE X ce (tExV C f (tX rD ⟨X.K, cl⟩ W md))) : ED cl X W ce (eEx c f md) := EX.by h fun G ρ σ H Q k a => at_tX k (At.bind (Ra := rD) rD_back a fun d ρ1 v G1 H1 n1 k1 r1 a1 => fun a dx ha hd hne => by
  obtain ⟨n2, k2⟩ := new_nx (o := exd dx [(f, v)]) hd k1
  have ha2 : upd H1 dx (exd dx [(f, v)]) a = none := by rw [upd_ne (Ne.symm hne)]; exact ha
  obtain ⟨n3, k3⟩ := new_nx (o := exo a C (some dx)) ha2 k2
  refine a1.done (n2.trans n3) k3 ⟨a, C, rfl, hc, .inr ⟨dx, [(f, v)], upd_same, ?_, rfl, ?_⟩⟩
  · rw [upd_ne hne, upd_same]
  · exact ⟨v, [], rfl, Rep.mono (Ex.trans n2.g n3.g) d v r1, rfl⟩)
theorem ed_exV (hc : cl c = some C) (T : XK2 X.K C f fI) (F1 : FnS X.prog X.w X.K X.mg X.base CX k fI fd ["self", f] (spIni C f)) (hr : Room (k + 1) X.A) (hgd : X.A.guards = some []) (hx : Passes CX X (fun _ _ _ => False)) (hb : ∀ u v : Value, bindArgs fd ⟨[u, v], []⟩ = pure [(("self" : Str), u), (f, v)])
    (hg : Gl X c) (hm : X.mg c = some (.ref C)) (he : ED cl X W e md) (hdb : (c == ("__debug__" : Str)) = false := by decide) (hs : starEach [e] X.env = (false, eval e X.env) :: starEach [] X.env := by rfl) :
    ED cl X W (.Call (.Name c p) [e] [] pos) (eEx c f md) := exv_by hc (pe_exV T F1 hr hgd hx hb hg hm he hdb hs)
theorem ed_exK {kp : Pos} (hc : cl c = some C) (T : XK2 X.K C f fI) (F1 : FnS X.prog X.w X.K X.mg X.base CX k fI fd ["self", f] (spIni C f)) (hr : Room (k + 1) X.A) (hgd : X.A.guards = some []) (hx : Passes CX X (fun _ _ _ => False)) (hb : ∀ u v : Value, bindArgs fd ⟨[u], [(f, v)]⟩ = pure [(("self" : Str), u), (f, v)])
    (hg : Gl X c) (hm : X.mg c = some (.ref C)) (he : ED cl X W e md) (hdb : (c == ("__debug__" : Str)) = false := by decide)
    (hall : (backToKw pos (keywordEach [⟨some f, e, kp⟩] X.env)).all (·.1.isSome) = true := by rfl) (hks : (backToKw pos (keywordEach [⟨some f, e, kp⟩] X.env)).filterMap (·.1) = [f] := by rfl)
    (hpl : ((backTo pos (starEach [] X.env)).any (·.1) || (backToKw pos (keywordEach [⟨some f, e, kp⟩] X.env)).any (·.1.isNone)) = false := by rfl) :
    ED cl X W (.Call (.Name c p) [] [⟨some f, e, kp⟩] pos) (eEx c f md) := exv_by hc (pe_exK T F1 hr hgd hx hb hg hm he hdb hall hks hpl)
theorem ed_ex0 (hc : cl c = some C) (T : XK1 X.K C) (q : PySem.W.excIn X.K C PySem.HandSPX.veTail "ValueError.__new__" = true) (hg : Gl X c) (hm : X.mg c = some (.ref C)) (hdb : (c == ("__debug__" : Str)) = false := by decide) :
    ED cl X W (.Call (.Name c p) [] [] pos) (eEx0 c) := EX.by (pe_ex0 T q hg hm hdb) fun G ρ σ H Q k a => fun p hp => by
  obtain ⟨n3, k3⟩ := new_nx (o := exo p C none) hp k
  exact At.done a n3 k3 ⟨p, C, rfl, hc, .inl ⟨rfl, rfl, upd_same⟩⟩

/-! ### e.f -/
def fLook : List Str → List D → Str → Option D
  | n :: ns, d :: ds, f => if f = n then some d else fLook ns ds f
  | _, _, _ => none
theorem fLook_rep {T : Cs} {G : Hp} {f : Str} {d : D} : ∀ {fs : List (Str × V)} {ds : List D}, RepL T G ds (fs.map (·.2)) → fLook (fs.map (·.1)) ds f = some d → ∃ v, fs.lookup f = some v ∧ Rep T G d v
  | [], ds, h, e => by cases e
  | (n, v) :: fs, ds, h, e => by
    cases ds with
    | nil => cases e
    | cons d' ds =>
      obtain ⟨v', r, e1, h1, h2⟩ := h
      rw [List.map_cons] at e1
      obtain ⟨rfl, rfl⟩ := List.cons.inj e1
      have e' : (if f = n then some d' else fLook (fs.map (·.1)) ds f) = some d := e
      rw [lookup_put]
      by_cases q : f = n
      · rw [if_pos q] at e' ⊢
        cases e'
        exact ⟨v, rfl, h1⟩
      · rw [if_neg q] at e' ⊢
        exact fLook_rep h2 e'
def eAttr (f : Str) (m : M D) : M D := M.bind m fun d => match d with
  | .exc _ ns ds => M.lift (fLook ns ds f)
  | _ => M.stuck
theorem pe_xv {te : TE} {n : Str} (he : PE X e te) (hb : attributeBase e n X.env (eval e X.env) = eval e X.env := by rfl) :
    PE X (.Attribute e n pos) (fun σ H Q => te σ H fun x H1 => ∃ (a C dx : Addr) (fs : List (Str × V)) (v : V), x = .ref a ∧ ExcC X.K C ∧ PySem.W.findIn X.K (.ref C) n = some none ∧ H1 a = some (exo a C (some dx)) ∧ H1 dx = some (exd dx fs) ∧ fs.lookup n = some v ∧ Q v H1) := by
  refine ⟨fun pins s σ H Q I h => ?_⟩
  refine attr_of hb (thn (he.run pins s σ H _ I h) fun u s1 hh => ?_)
  obtain ⟨x, H1, I1, rx, a, C, dx, fs, v, ex, T, hno, ea, ed, l, q⟩ := hh
  subst ex
  obtain rfl : u = Value.ref a := rx
  obtain ⟨t1, ho⟩ := exo_at I1.hok ea
  obtain ⟨mA, hns, hr⟩ := exd_at I1.hok ed
  obtain ⟨od, hod, hl⟩ := lookIn_ns hns
  obtain ⟨u, hu, ru⟩ := RelO.some_of (v := v) (o := mA n) (by rw [← l]; exact hr n)
  have J : PySem.W.InstAt s1.heap a _ C (some od) := ⟨ho, rfl, rfl, hod⟩
  exact HandSPX.exc_get I1.kIn J T.hg T.hk T.hs (PySem.W.findObj_own T.hd hno rfl (by rw [hl, hu])) (handed_of ru) ⟨v, H1, I1.tok _, ru, q⟩
theorem ed_attr {n : Str} (hX : Xs X.K cl flds) (hn : n ∈ flds) (he : ED cl X W e md) (hb : attributeBase e n X.env (eval e X.env) = eval e X.env := by rfl) : ED cl X W (.Attribute e n pos) (eAttr n md) :=
  EX.by (pe_xv he hb) fun G ρ σ H Q k a => at_tX k (At.bind (Ra := rD) rD_back a fun d ρ1 v G1 H1 n1 k1 r1 a1 => by
    cases d with
    | exc c ns ds =>
      obtain ⟨d, e1, a2⟩ := At.lift a1
      obtain ⟨a, C, rfl, hc, h⟩ := r1
      rcases h with ⟨rfl, rfl, _⟩ | ⟨dx, fs, h1, h2, rfl, h4⟩
      · cases e1
      · obtain ⟨w, h5, h6⟩ := fLook_rep h4 e1
        exact ⟨a, C, dx, fs, w, rfl, (hX.k1 c C hc).ec, hX.no c C hc n hn, k1.sub _ _ h1, k1.sub _ _ h2, h5, a2.ret k1 h6⟩
    | _ =>
      obtain ⟨r, ρ', e, _⟩ := a1
      cases e)

/-! ### isinstance -/
/-- the class of a datum: a built-in one, an own one -/
inductive Kn where
  | ty (n : String) | own (c : Str)
def D.kn : D → Kn
  | .non => .ty "NoneType" | .bl _ => .ty "bool" | .int _ => .ty "int" | .str _ => .ty "str" | .lst _ => .ty "list" | .ro _ => .ty "list" | .tup _ => .ty "tuple" | .dk _ _ => .ty "dict"
  | .exc c _ _ => .own c
/-- what isinstance asks for -/
inductive TyE (K : PySem.W.Frag) (H : Hp) : V → Value → Prop where
  | b {x : V} {t : Value} (h : TyX K H x t) : TyE K H x t
  | e {a C : Addr} (T : ExcC K C) (h : H a = some (exo a C none)) : TyE K H (.ref a) (.ref C)
  | f {a C dx : Addr} {fs : List (Str × V)} (T : ExcC K C) (h : H a = some (exo a C (some dx))) (h' : H dx = some (exd dx fs)) : TyE K H (.ref a) (.ref C)
def rIsE2 (K : PySem.W.Frag) : List V → Hp → VK → Prop := fun xs H Q => ∃ (x c : V) (t u : Value) (b : Bool), xs = [x, c] ∧ ClsV c u ∧ TyE K H x t ∧ PySem.W.kitOne K t u = some b ∧ Q (.bl b) H
theorem call_isE2 : CallR X (.builtin "isinstance") (rIsE2 X.K) := by
  intro pins s σ H xs us Q I r h
  obtain ⟨x, c, t, u, b, rfl, k, ty, e, q⟩ := h
  obtain ⟨u1, u2, rfl, r1, r2⟩ := vals2 r
  have e2 := k.eq r2
  subst e2
  have fin : ∀ tk, EP X pins σ Q (.bool b) { s with toks := tk } := fun tk => ⟨.bl b, H, I.tok tk, rfl, q⟩
  cases ty with
  | b ty =>
    obtain ⟨P, Z, p, hx⟩ := kit_of I r1 ty
    exact PySem.W.kia_one Z I.kIn p e hx fin
  | @e a C T h =>
    cases (show u1 = Value.ref a from r1)
    obtain ⟨t1, ho⟩ := exo_at I.hok h
    have J : PySem.W.InstAt s.heap a _ C none := ⟨ho, rfl, rfl, trivial⟩
    exact PySem.W.kia_one (PySem.W.handS_kitx_exc T.hg T.hk T.hs T.hd T.ha T.hn T.ht T.hm) I.kIn J e (fun z => nomatch z) fin
  | @f a C dx fs T h h' =>
    cases (show u1 = Value.ref a from r1)
    obtain ⟨t1, ho⟩ := exo_at I.hok h
    obtain ⟨mA, hns, hr⟩ := exd_at I.hok h'
    obtain ⟨od, hod, hl⟩ := lookIn_ns hns
    have J : PySem.W.InstAt s.heap a _ C (some od) := ⟨ho, rfl, rfl, hod⟩
    have hcl : (PySem.W.clsIn X.K C).isSome = true := by
      obtain ⟨cd, hc, _⟩ := PySem.W.any_some T.hd
      rw [hc]
      rfl
    exact PySem.W.kia_one (PySem.W.kitx_exc hcl T.hg T.hk T.hs T.ha T.hn T.ht T.hm) I.kIn J e (fun z => nomatch z) fin
theorem RepT.tyE {G H : Hp} {σ : L2.St} {ρ : En} {d : D} {v : V} (hX : Xs X.K cl flds) (k : Ok ⟨X.K, cl⟩ G H σ ρ) (h : RepT ⟨X.K, cl⟩ G H d v) : ∃ t, TyE X.K H v t ∧ match d.kn with | .ty n => t = .type n | .own c => ∃ C, cl c = some C ∧ t = .ref C := by
  have h := h.inH k
  have sqT : ∀ {a xs}, SqT X.K H a xs → TyX X.K H (.ref a) (.type "tuple") := fun {a xs} q => by
    rcases q with (q | ⟨o, q⟩) | ⟨o, its, n, q1, q2, _⟩
    · exact .base (.tup q)
    · exact .fTuple q
    · exact .kTuple q1 q2
  have sqL : ∀ {a xs}, SqL X.K H a xs → TyX X.K H (.ref a) (.type "list") := fun {a xs} q => by
    rcases q with (q | ⟨o, q⟩) | ⟨o, its, n, q1, q2, _⟩
    · exact .base (.lst q)
    · exact .base (.frz q)
    · exact .kList q1 q2
  cases d with
  | non =>
    obtain rfl : v = .non := h
    exact ⟨_, .b (.base .non), rfl⟩
  | bl b =>
    obtain rfl : v = .bl b := h
    exact ⟨_, .b (.base (.bl b)), rfl⟩
  | int b =>
    obtain rfl : v = .int b := h
    exact ⟨_, .b (.base (.int b)), rfl⟩
  | str b =>
    obtain rfl : v = .str b := h
    exact ⟨_, .b (.base (.str b)), rfl⟩
  | lst ds =>
    obtain ⟨a, xs, rfl, h1, h2⟩ := h
    exact ⟨_, .b (.base (.lst h1)), rfl⟩
  | ro ds =>
    obtain ⟨a, xs, rfl, h1, h2⟩ := h
    exact ⟨_, .b (sqL h1), rfl⟩
  | tup ds =>
    obtain ⟨a, xs, rfl, h1, h2⟩ := h
    exact ⟨_, .b (sqT h1), rfl⟩
  | dk ks ds =>
    obtain ⟨a, kvs, rfl, h1, h2, h3⟩ := h
    rcases h1 with q | ⟨o, q⟩
    · exact ⟨_, .b (.base (.dK q)), rfl⟩
    · exact ⟨_, .b (.fDict q), rfl⟩
  | exc c ns ds =>
    obtain ⟨a, C, rfl, hc, h⟩ := h
    have T := (hX.k1 c C hc).ec
    rcases h with ⟨_, _, h⟩ | ⟨dx, fs, h1, h2, _⟩
    · exact ⟨_, .e T h, C, hc, rfl⟩
    · exact ⟨_, .f T h1 h2, C, hc, rfl⟩
def eIsi (sub : Kn → Option Bool) (mr : M Rf) : M D := M.bind mr fun r => M.bind r.get fun d => M.lift ((sub d.kn).map D.bl)
/-- sub tells what isinstance tells of the class u -/
structure SubOk (K : PySem.W.Frag) (cl : Str → Option Addr) (u : Value) (sub : Kn → Option Bool) : Prop where
  ty : ∀ n b, sub (.ty n) = some b → PySem.W.kitOne K (.type n) u = some b
  own : ∀ c C b, cl c = some C → sub (.own c) = some b → PySem.W.kitOne K (.ref C) u = some b
theorem ed_isi {ce : Expr} {cv : V} {u : Value} {sub : Kn → Option Bool} {mr : M Rf} (hX : Xs X.K cl flds) (hs : SubOk X.K cl u sub) (he : ER cl X W e mr) (hc : PE X ce (tC cv)) (hk : ClsV cv u) (hg : Gl X "isinstance") (hm : X.mg "isinstance" = none)
    (s1 : starEach [e, ce] X.env = (false, eval e X.env) :: starEach [ce] X.env := by rfl) (s2 : starEach [ce] X.env = (false, eval ce X.env) :: starEach [] X.env := by rfl) :
    ED cl X W (.Call (.Name "isinstance" p) [e, ce] [] pos) (eIsi sub mr) :=
  EX.by (pe_callB call_isE2 hg hm (by decide +kernel) (pa_cons he (pa_cons hc pa_nil s2) s1) (by decide) (by decide) s1 (by rw [s2]; rfl)) fun G ρ σ H Q k a => at_tX k (At.bind (Ra := rR) rD_back a fun r ρ1 v G1 H1 n1 k1 r1 a1 => by
    obtain ⟨d, q1, a2⟩ := At.get a1 k1 r1
    obtain ⟨o, e1, a3⟩ := a2.lift
    obtain ⟨b, e2, rfl⟩ := Option.map_eq_some_iff.mp e1
    obtain ⟨t, ty, ht⟩ := q1.tyE hX k1
    refine ⟨v, cv, t, u, b, rfl, hk, ty, ?_, a3.ret k1 rfl⟩
    cases q : d.kn with
    | ty n =>
      rw [q] at ht e2
      subst ht
      exact hs.ty n b e2
    | own c =>
      rw [q] at ht e2
      obtain ⟨C, hc, rfl⟩ := ht
      exact hs.own c C b hc e2)
end
end Fn

set_option maxRecDepth 100000
set_option maxHeartbeats 4000000
namespace Fn
open PySem PySem.Spec PyProof.Rows L2

/-! ### slices -/
def rPt : RelT (Option Int) (Option Int) := fun _ _ _ _ _ _ a b => a = b
theorem rPt_back : Back rPt := fun _ _ _ _ _ _ _ _ _ _ h => h
abbrev EP' (cl : Str → Option Addr) (X : Cx) (W : WX) (e : Option Expr) (m : M (Option Int)) : Prop := PO X e (tX rPt ⟨X.K, cl⟩ W m)
theorem _root_.L2.PO.imp {X : Cx} {e : Option Expr} {t t' : TO} (h : PO X e t) (i : ∀ σ H Q, t' σ H Q → t σ H Q) : PO X e t' := ⟨fun pins s σ H Q I hw => h.run pins s σ H Q I (i σ H Q hw)⟩
def cutD (ds : List D) (lo hi : Option Int) : List D := (ds.drop (HT.sIx ds.length 0 lo)).take (HT.sIx ds.length ds.length hi - HT.sIx ds.length 0 lo)
theorem cutD_rep {T : Cs} {G : Hp} {ds : List D} {vs : List V} (h : RepL T G ds vs) (lo hi : Option Int) : RepL T G (cutD ds lo hi) (cutV vs lo hi) := by
  unfold cutD cutV
  rw [h.length]
  exact (h.drop _).take _
def fSl (d : D) (lo hi : Option Int) : Option O := match d with
  | .lst ds => some (.lst (cutD ds lo hi))
  | .ro ds => some (.lst (cutD ds lo hi))
  | .tup ds => some (.dat (.tup (cutD ds lo hi)))
  | .str z => if z.length ≤ lim then some (.dat (.str (cutS z lo hi))) else none
  | _ => none
def pNone : M (Option Int) := M.ret none
def pInt (m : M D) : M (Option Int) := M.bind m fun d => match d with
  | .int i => M.ret (some i)
  | _ => M.stuck
def eSlice (mr : M Rf) (ml mh : M (Option Int)) : M O := M.bind mr fun r => M.bind ml fun l => M.bind mh fun h => M.bind r.get fun d => M.lift (fSl d l h)
def pickD (ds : List D) (lo hi : Option Int) (st : Int) : List D := (sliceRange (sliceBounds lo hi (some st) ds.length).1 (sliceBounds lo hi (some st) ds.length).2.1 (sliceBounds lo hi (some st) ds.length).2.2).filterMap (ds[·]?)
def fPick (d : D) (lo hi st : Option Int) : Option O := match d, st with
  | .lst ds, some i => if i ≠ 0 then some (.lst (pickD ds lo hi i)) else none
  | .ro ds, some i => if i ≠ 0 then some (.lst (pickD ds lo hi i)) else none
  | _, _ => none
def ePick (mr : M Rf) (ml mh ms : M (Option Int)) : M O := M.bind mr fun r => M.bind ml fun l => M.bind mh fun h => M.bind ms fun s => M.bind r.get fun d => M.lift (fPick d l h s)
theorem RepL.filterMap {T : Cs} {G : Hp} {ds : List D} {vs : List V} (h : RepL T G ds vs) : ∀ ns : List Nat, RepL T G (ns.filterMap (ds[·]?)) (ns.filterMap (vs[·]?))
  | [] => rfl
  | n :: ns => by
    cases e : ds[n]? with
    | none =>
      have e2 : vs[n]? = none := by rw [List.getElem?_eq_none_iff] at e ⊢; rw [h.length]; exact e
      rw [List.filterMap_cons_none e, List.filterMap_cons_none e2]
      exact h.filterMap ns
    | some d =>
      obtain ⟨v, e2, r⟩ := h.get e
      rw [List.filterMap_cons_some e, List.filterMap_cons_some e2]
      exact ⟨v, _, rfl, r, h.filterMap ns⟩
theorem vals_get {vs : List V} {us : List Value} (h : Vals vs us) (n : Nat) : (vs[n]? = none ∧ us[n]? = none) ∨ ∃ v u, vs[n]? = some v ∧ us[n]? = some u ∧ RelV v u := by
  induction h generalizing n with
  | nil => exact .inl ⟨rfl, rfl⟩
  | cons r t ih =>
    cases n with
    | zero => exact .inr ⟨_, _, rfl, rfl, r⟩
    | succ n => simpa using ih n
theorem vals_filterMap {vs : List V} {us : List Value} (h : Vals vs us) : ∀ ns : List Nat, Vals (ns.filterMap (vs[·]?)) (ns.filterMap (us[·]?))
  | [] => .nil
  | n :: ns => by
    rcases vals_get h n with ⟨e1, e2⟩ | ⟨v, u, e1, e2, r⟩
    · rw [List.filterMap_cons_none e1, List.filterMap_cons_none e2]
      exact vals_filterMap h ns
    · rw [List.filterMap_cons_some e1, List.filterMap_cons_some e2]
      exact .cons r (vals_filterMap h ns)
def pickV (xs : List V) (lo hi : Option Int) (st : Int) : List V := (sliceRange (sliceBounds lo hi (some st) xs.length).1 (sliceBounds lo hi (some st) xs.length).2.1 (sliceBounds lo hi (some st) xs.length).2.2).filterMap (xs[·]?)
section
variable {cl : Str → Option Addr} {X : Cx} {W : WX} {e : Expr} {lo hi : Option Expr} {mr : M Rf} {ml mh ms : M (Option Int)} {md : M D} {pos p2 : Pos}
theorem EP'.by {eo : Option Expr} {m : M (Option Int)} {t : TO} (h : PO X eo t) (i : ∀ G ρ σ H Q, Ok ⟨X.K, cl⟩ G H σ ρ → At rPt ⟨X.K, cl⟩ W m G ρ σ H Q → t σ H Q) : EP' cl X W eo m := h.imp fun σ H Q ⟨G, ρ, k, a⟩ => i G ρ σ H Q k a
theorem ep_none : EP' cl X W none pNone := EP'.by po_none fun G ρ σ H Q k a => a.ret k rfl
theorem ep_some (h : ED cl X W e md) : EP' cl X W (some e) (pInt md) := EP'.by (po_some h) fun G ρ σ H Q k a => at_tX k (At.bind (Ra := rD) rPt_back a fun d ρ1 v G1 H1 n1 k1 r1 a1 => by
  cases d with
  | int i =>
    obtain rfl : v = .int i := r1
    exact ⟨i, rfl, a1.ret k1 rfl⟩
  | _ =>
    obtain ⟨r, ρ', e, _⟩ := a1
    cases e)
theorem eo_slice (he : ER cl X W e mr) (hl : EP' cl X W lo ml) (hu : EP' cl X W hi mh) : EO cl X W (.Subscript e (.Slice lo hi none p2) pos) (eSlice mr ml mh) :=
  EX.by (pe_slice (SlR.or (SlR.or sl_list sl_tupA) sl_str) he hl hu) fun G ρ σ H Q k a => at_tX k (At.bind (Ra := rR) rO_back a fun r ρ1 v G1 H1 n1 k1 r1 a1 => at_tX k1 (At.bind (Ra := rPt) rO_back a1 fun l ρ2 l' G2 H2 n2 k2 r2 a2 => at_tX k2 (At.bind (Ra := rPt) rO_back a2 fun h ρ3 h' G3 H3 n3 k3 r3 a3 => by
    obtain rfl : l = l' := r2
    obtain rfl : h = h' := r3
    obtain ⟨d, q, a4⟩ := At.get a3 k3 (rR_keep n3 (rR_keep n2 r1))
    obtain ⟨o, e1, a5⟩ := a4.lift
    unfold fSl at e1
    split at e1
    · cases e1
      obtain ⟨p, xs, rfl, h1, r1⟩ := q.lst k3
      exact .inl (.inl ⟨p, xs, rfl, SqL.of h1, a5.newL k3 (cutD_rep r1 l h)⟩)
    · cases e1
      obtain ⟨p, xs, rfl, h1, r1⟩ := q.ro k3
      exact .inl (.inl ⟨p, xs, rfl, h1, a5.newL k3 (cutD_rep r1 l h)⟩)
    · cases e1
      rename_i ds
      obtain ⟨p, xs, rfl, h1, r1, g1⟩ := q.tup k3
      refine .inl (.inr ⟨p, xs, rfl, h1, fun w => ?_, fun _ => a5.newT k3 (cutD_rep r1 l h)⟩)
      have ed : cutD ds l h = ds := by
        unfold cutD
        rw [← r1.length, w.1, w.2, List.drop_zero, Nat.sub_zero, r1.length, List.take_length]
      rw [ed] at a5
      exact a5.flat k3 g1
    · split at e1
      · rename_i hz
        cases e1
        obtain rfl := q.str
        exact .inr ⟨_, rfl, lim_le hz, a5.flat k3 rfl⟩
      · cases e1
    · cases e1)))
/-- xs[lo:hi:st] of a list -/
theorem pe_pick {st : Expr} {te : TE} {tl th ts : TO} (he : PE X e te) (hl : PO X lo tl) (hu : PO X hi th) (hst : PO X (some st) ts) :
    PE X (.Subscript e (.Slice lo hi (some st) p2) pos) (fun σ H Q => te σ H fun x H1 => tl σ H1 fun l H2 => th σ H2 fun u H3 => ts σ H3 fun s H4 => ∃ a xs i, x = .ref a ∧ s = some i ∧ i ≠ 0 ∧ SqL X.K H4 a xs ∧ ∀ p, H4 p = none → Q (.ref p) (upd H4 p (.lst (pickV xs l u i)))) := by
  refine ⟨fun pins s σ H Q I h => ?_⟩
  refine Subscript_ (thn (he.run pins s σ H _ I h) fun v s1 ⟨x, H1, I1, r1, q1⟩ => ?_)
  refine wpAny_Slice (thn (hl.run pins s1 σ H1 _ I1 q1) fun vl s2 ⟨l, H2, I2, pl, q2⟩ => thn (hu.run pins s2 σ H2 _ I2 q2) fun vu s3 ⟨u, H3, I3, pu, q3⟩ => thn (hst.run pins s3 σ H3 _ I3 q3) fun vs s4 ⟨o, H4, I4, ps, q4⟩ => ?_)
  obtain ⟨a, xs, i, ex, eo, h0, hx, q⟩ := q4
  subst ex eo
  cases r1
  have I5 : Inv X pins σ H4 { s4 with heap := s4.heap.push { cls := .type "slice", data := .fields #[vl, vu, vs] } } := I4.kept (t' := s4.toks) fun b ob q => Heap.get?_push_of_some _ q
  obtain ⟨its, r, ht, hz⟩ := I5.list hx
  have hlen := r.length
  show wpAny (model X.prog X.w) X.A (subscriptTail e (.Slice lo hi (some st) p2) (.ref a) (.ref s4.heap.objs.size)) (EP X pins σ Q) X.xe { s4 with heap := s4.heap.push { cls := .type "slice", data := .fields #[vl, vu, vs] } }
  refine tail_any (ops := [.ref a, .ref s4.heap.objs.size]) ht.isList.typeIs (PySem.slot_list_getitem.lookup) ?_ (by with_unfolding_all rfl)
  refine wpAny_getItem_list_slice ht.isList (Heap.IsSliceOf.new _ vl vu vs) pl pu ps (fun z => h0 (Option.some.inj z)) ?_ (by rw [List.size_toArray]; omega)
  refine ⟨.ref _, _, I5.laid (t' := s4.toks) (o := .lst (pickV xs l u i)) (fun b ob q => Heap.get?_push_of_some _ q) (Nat.le_refl _) ?_, rfl, q _ (I5.hok.fresh (Nat.le_refl _))⟩
  have rp : Vals (pickV xs l u i) (slicePick its.toArray l u (some i)).toList := by
    unfold pickV slicePick
    rw [List.size_toArray, ← hlen]
    have z := vals_filterMap r (sliceRange (sliceBounds l u (some i) xs.length).1 (sliceBounds l u (some i) xs.length).2.1 (sliceBounds l u (some i) xs.length).2.2)
    simpa using z
  refine ⟨?_, (slicePick its.toArray l u (some i)).toList, 0, rp, ?_⟩
  · rw [rp.length]
    have z := slicePick_size_le its.toArray l u (some i)
    have z3 : its.toArray.size = its.length := by simp
    have z2 : (slicePick its.toArray l u (some i)).toList.length = (slicePick its.toArray l u (some i)).size := Array.length_toList
    omega
  · exact Heap.get?_push_size _ rfl
theorem pick_rep {T : Cs} {G : Hp} {ds : List D} {vs : List V} (h : RepL T G ds vs) (lo hi : Option Int) (st : Int) : RepL T G (pickD ds lo hi st) (pickV vs lo hi st) := by
  unfold pickD pickV
  rw [h.length]
  exact h.filterMap _
theorem eo_pick {st : Expr} (he : ER cl X W e mr) (hl : EP' cl X W lo ml) (hu : EP' cl X W hi mh) (hs : EP' cl X W (some st) ms) : EO cl X W (.Subscript e (.Slice lo hi (some st) p2) pos) (ePick mr ml mh ms) :=
  EX.by (pe_pick he hl hu hs) fun G ρ σ H Q k a => at_tX k (At.bind (Ra := rR) rO_back a fun r ρ1 v G1 H1 n1 k1 r1 a1 => at_tX k1 (At.bind (Ra := rPt) rO_back a1 fun l ρ2 l' G2 H2 n2 k2 r2 a2 => at_tX k2 (At.bind (Ra := rPt) rO_back a2 fun h ρ3 h' G3 H3 n3 k3 r3 a3 => at_tX k3 (At.bind (Ra := rPt) rO_back a3 fun s ρ4 s' G4 H4 n4 k4 r4 a4 => by
    obtain rfl : l = l' := r2
    obtain rfl : h = h' := r3
    obtain rfl : s = s' := r4
    obtain ⟨d, q, a4⟩ := At.get a4 k4 (rR_keep n4 (rR_keep n3 (rR_keep n2 r1)))
    obtain ⟨o, e1, a5⟩ := a4.lift
    unfold fPick at e1
    split at e1
    · split at e1
      · rename_i ds i _ h0
        cases e1
        obtain ⟨p, xs, rfl, h1, r1⟩ := q.lst k4
        exact ⟨p, xs, i, rfl, rfl, h0, SqL.of h1, a5.newL k4 (pick_rep r1 l h i)⟩
      · cases e1
    · split at e1
      · rename_i ds i _ h0
        cases e1
        obtain ⟨p, xs, rfl, h1, r1⟩ := q.ro k4
        exact ⟨p, xs, i, rfl, rfl, h0, h1, a5.newL k4 (pick_rep r1 l h i)⟩
      · cases e1
    · cases e1))))
end
end Fn

set_option maxRecDepth 100000
set_option maxHeartbeats 4000000
namespace Fn
open PySem PySem.Spec PyProof.Rows L2

/-! ### a dict's display -/
def rKV : RelT (List (Key × D)) (List (V × V)) := fun T _ _ _ G _ kds ps => ∃ kvs : List (Key × V), ps = kvs.map (fun kv => (kV kv.1, kv.2)) ∧ kvs.map (·.1) = kds.map (·.1) ∧ RepL T G (kds.map (·.2)) (kvs.map (·.2))
theorem rKV_back : Back rKV := fun _ _ _ _ _ _ _ _ _ _ h => h
def pairsM : List (M D × M D) → M (List (Key × D))
  | [] => M.ret []
  | (mk, mv) :: r => M.bind mk fun k => M.bind mv fun d => M.bind (M.lift (asKey k)) fun ky => M.bind (pairsM r) fun kds => M.ret ((ky, d) :: kds)
def eDict (ps : List (M D × M D)) : M O := M.bind (pairsM ps) fun kds => M.bind (M.chk (decide ((kds.map (·.1)).Nodup ∧ kds.length ≤ 15))) fun _ => M.ret (.dk (kds.map (·.1)) (kds.map (·.2)))
section
variable {cl : Str → Option Addr} {X : Cx} {W : WX} {T : Cs} {pos : Pos}
theorem At.lift2 {α β δ : Type} {Rb : RelT β δ} {o : Option α} {f : α → M β} {G H : Hp} {σ : L2.St} {ρ : En} {Q : Wi δ} (h : At Rb T W (M.bind (M.lift o) f) G ρ σ H Q) : ∃ a, o = some a ∧ At Rb T W (f a) G ρ σ H Q := by
  cases o with
  | none =>
    obtain ⟨r, ρ', e, _⟩ := h
    cases e
  | some a => exact ⟨a, rfl, h⟩
theorem pairs_at : ∀ {ps : List (M D × M D)} {G H : Hp} {σ : L2.St} {ρ : En} {Q : Wi (List (V × V))}, Ok T G H σ ρ → At rKV T W (pairsM ps) G ρ σ H Q → tPairs (ps.map fun p => (tX rD T W p.1, tX rD T W p.2)) σ H Q
  | [], G, H, σ, ρ, Q, k, a => a.ret k ⟨[], rfl, rfl, rfl⟩
  | (mk, mv) :: r, G, H, σ, ρ, Q, k, a => at_tX k (At.bind (Ra := rD) rKV_back a fun d ρ1 v G1 H1 n1 k1 r1 a1 => at_tX k1 (At.bind (Ra := rD) rKV_back a1 fun d2 ρ2 v2 G2 H2 n2 k2 r2 a2 => by
    obtain ⟨ky, e, a3⟩ := a2.lift2
    refine pairs_at (ps := r) k2 (At.bind (Ra := rKV) rKV_back a3 fun kds ρ3 ps G3 H3 n3 k3 r3 a4 => ?_)
    obtain ⟨kvs, rfl, e2, r4⟩ := r3
    have ev : v = kV ky := asKey_rep (G := G1) (H := H1) e (.inl r1)
    exact a4.ret k3 ⟨(ky, v2) :: kvs, by rw [List.map_cons, ev], by rw [List.map_cons, List.map_cons, e2], v2, _, rfl, Rep.mono n3.g d2 v2 r2, r4⟩))
theorem mergeK_app : ∀ (ys xs : List (Key × V)), (xs.map (·.1) ++ ys.map (·.1)).Nodup → mergeK xs ys = xs ++ ys
  | [], xs, _ => by rw [List.append_nil]; rfl
  | y :: ys, xs, h => by
    have hn : (xs.any fun kv => decide (kv.1 = y.1)) = false := by
      refine Bool.eq_false_iff.mpr fun z => ?_
      obtain ⟨q, h1, h2⟩ := List.any_eq_true.mp z
      have e : q.1 = y.1 := by simpa using h2
      have := (List.nodup_append.mp h).2.2 q.1 (List.mem_map_of_mem h1) y.1 (by simp)
      exact this e
    have e : putK xs y.1 y.2 = xs ++ [y] := by
      unfold putK
      rw [if_neg (by rw [hn]; exact Bool.false_ne_true)]
    show mergeK (putK xs y.1 y.2) ys = _
    rw [e, mergeK_app ys (xs ++ [y]) (by rw [List.map_append]; simpa using h)]
    simp
theorem eo_dict {keys : List (Option Expr)} {values : List Expr} {ps : List (M D × M D)} (h : PPs X pos keys values (ps.map fun p => (tX rD ⟨X.K, cl⟩ W p.1, tX rD ⟨X.K, cl⟩ W p.2))) (hall : keys.all (·.isSome) = true) (hl : keys.length = values.length) (h0 : keys ≠ []) (h15 : keys.length ≤ 15) :
    EO cl X W (.Dict keys values pos) (eDict ps) := EX.by (pe_disp h hall hl h0 h15) fun G ρ σ H Q k a => fun p hp => by
  obtain ⟨n, k', gp, np⟩ := new_own (o := .dK []) hp k
  obtain ⟨r, ρ', e, oo⟩ := a
  refine pairs_at (ps := ps) k' ?_
  unfold eDict M.bind at e
  cases q : pairsM ps ρ with
  | none =>
    rw [q] at e
    cases e
  | some z =>
    obtain ⟨r1, ρ1⟩ := z
    rw [q] at e
    cases r1 with
    | er c ns vs =>
      cases e
      exact ⟨_, _, q, ErW.shift n oo⟩
    | ok kds =>
      refine ⟨_, _, q, fun v G' H' n' k2 rel => ?_⟩
      obtain ⟨kvs, rfl, e2, r4⟩ := rel
      have hp' : H' p = some (.dK []) := n'.keep p _ upd_same np
      refine ⟨hp', kvs, rfl, ?_⟩
      dsimp only at e
      by_cases hc : (kds.map (·.1)).Nodup ∧ kds.length ≤ 15
      · have c1 : M.chk (decide ((kds.map (·.1)).Nodup ∧ kds.length ≤ 15)) ρ1 = some (.ok (), ρ1) := by
          unfold M.chk
          rw [if_pos (decide_eq_true hc)]
          rfl
        rw [c1] at e
        cases e
        have gp' : G' p = none := by
          cases z : G' p with
          | none => rfl
          | some u =>
            rcases n'.new p gp (by rw [z]; exact fun w => nomatch w) with y | y
            · rw [upd_same] at y
              cases y
            · exact absurd y np
        have np' : ¬ Owns σ ρ' p := fun z => by
          rcases n'.own p z with y | y
          · exact np y
          · rw [upd_same] at y
            cases y
        have em : mergeK [] kvs = kvs := mergeK_app kvs [] (by rw [e2]; simpa using hc.1)
        rw [em]
        have nn : Nk G H σ ρ G' (upd H' p (.dK kvs)) ρ' := { (Nx.tmp (o := .dK kvs) (n.toNx.trans n'.toNx) hp hp') with kp := (n.trans n').kp }
        have hlen : kvs.length ≤ 15 := by
          have z := congrArg List.length e2
          rw [List.length_map, List.length_map] at z
          rw [z]
          exact hc.2
        refine ⟨hlen, oo (.ref p) G' _ nn (tmp_ok k2 gp' hp' np') ⟨⟨p, kvs, rfl, upd_same, gp', e2, r4⟩, fun _ b eb => ?_⟩⟩
        cases eb
        exact ⟨hp, np'⟩
      · have c1 : M.chk (decide ((kds.map (·.1)).Nodup ∧ kds.length ≤ 15)) ρ1 = none := by
          unfold M.chk
          rw [if_neg (fun z => hc (of_decide_eq_true z))]
          rfl
        rw [c1] at e
        cases e
end
def eDict0 : M O := M.ret (.dk [] [])
section
variable {cl : Str → Option Addr} {X : Cx} {W : WX} {T : Cs} {pos : Pos} {np : Nat}
/-- x, y, z = a, b, c -/
def parGo (np : Nat) : List Nat → List D → S
  | [], [] => fun ρ => some (.nx, ρ)
  | i :: is, d :: ds => fun ρ => if i < ρ.length ∧ ¬ (i < np ∧ kd ρ[i]? = 3) then parGo np is ds (ρ.set i (some (.dat d))) else none
  | _, _ => fun _ => none
def sPar (np : Nat) (is : List Nat) (m : M (List D)) : S := m.then_ fun ds => parGo np is ds
def setVs : List Nat → List V → L2.St → L2.St
  | i :: is, v :: vs, σ => setVs is vs (σ.set i (some v))
  | _, _, σ => σ
theorem par_ok : ∀ {is : List Nat} {ds : List D} {vs : List V} {G H : Hp} {σ : L2.St} {ρ ρ' : En} {fl : Fl}, Ok T G H σ ρ → RepL T G ds vs → parGo np is ds ρ = some (fl, ρ') → fl = .nx ∧ is.length = ds.length ∧ Ns np G H σ ρ G H (setVs is vs σ) ρ' ∧ Ok T G H (setVs is vs σ) ρ'
  | [], [], vs, G, H, σ, ρ, ρ', fl, k, r, e => by
    cases e
    obtain rfl : vs = [] := r
    exact ⟨rfl, rfl, Ns.refl .., k⟩
  | i :: is, d :: ds, vs, G, H, σ, ρ, ρ', fl, k, r, e => by
    obtain ⟨v, w, rfl, r1, r2⟩ := r
    have e' : (if i < ρ.length ∧ ¬ (i < np ∧ kd ρ[i]? = 3) then parGo np is ds (ρ.set i (some (.dat d))) else none) = some (fl, ρ') := e
    split at e'
    · rename_i hc
      obtain ⟨n1, k1⟩ := set_ok (np := np) (Nk.refl G H σ ρ) k (o := .dat d) (v := v) ⟨r1, Fresh.dat⟩ hc.1 hc.2
      obtain ⟨e1, e2, n2, k2⟩ := par_ok (is := is) k1 r2 e'
      exact ⟨e1, by rw [List.length_cons, List.length_cons, e2], n1.trans n2, k2⟩
    · cases e'
  | [], _ :: _, _, _, _, _, _, _, _, _, _, e => by cases e
  | _ :: _, [], _, _, _, _, _, _, _, _, _, e => by cases e
theorem es_par3 {i j l : Nat} {x y z : Str} {a b c : Expr} {m : M (List D)} {px py pz pt pos : Pos} {kt k2 pt2} (hc : X.calm = true) (hN : X.N.Nodup) (hi : X.N[i]? = some x) (hj : X.N[j]? = some y) (hl : X.N[l]? = some z) (hij : i ≠ j) (hil : i ≠ l) (hjl : j ≠ l)
    (hx : X.env.scope.names.lookup x = some .local) (hy : X.env.scope.names.lookup y = some .local) (hz : X.env.scope.names.lookup z = some .local) (ha : EL cl X W [a, b, c] m)
    (hw : swappedStores [.Tuple [.Name x px, .Name y py, .Name z pz] kt pt] (.Tuple [a, b, c] k2 pt2) X.env = pure (some [x, y, z]))
    (hs : swapsWithSole [.Tuple [.Name x px, .Name y py, .Name z pz] kt pt] (.Tuple [a, b, c] k2 pt2) pos.line X.env = pure false := by rfl) :
    ES cl X W np (.Assign [.Tuple [.Name x px, .Name y py, .Name z pz] kt pt] (.Tuple [a, b, c] k2 pt2) pos) (sPar np [i, j, l] m) :=
  ES.by (ps_par3 hc hN hi hj hl hij hil hjl hx hy hz ha hw hs) fun G ρ D σ H k a => at_tX k (a.then0 (R := rLs) fun ds ρ1 vs G1 H1 n1 k1 r1 ⟨fl, ρ', e, o⟩ => by
    obtain ⟨rfl, e2, n2, k2⟩ := par_ok k1 r1 e
    have e3 := r1.length
    rw [← e2] at e3
    match vs, e3 with
    | [u, v, w], _ => exact ⟨u, v, w, rfl, o G1 H1 _ (n1.ns.trans n2) k2⟩)
theorem es_par2 {i j : Nat} {x y : Str} {a b : Expr} {m : M (List D)} {px py pt pos : Pos} {kt k2 pt2} (hc : X.calm = true) (hN : X.N.Nodup) (hi : X.N[i]? = some x) (hj : X.N[j]? = some y) (hij : i ≠ j)
    (hx : X.env.scope.names.lookup x = some .local) (hy : X.env.scope.names.lookup y = some .local) (ha : EL cl X W [a, b] m)
    (hw : swappedStores [.Tuple [.Name x px, .Name y py] kt pt] (.Tuple [a, b] k2 pt2) X.env = pure (some [x, y]))
    (hs : swapsWithSole [.Tuple [.Name x px, .Name y py] kt pt] (.Tuple [a, b] k2 pt2) pos.line X.env = pure false := by rfl) :
    ES cl X W np (.Assign [.Tuple [.Name x px, .Name y py] kt pt] (.Tuple [a, b] k2 pt2) pos) (sPar np [i, j] m) :=
  ES.by (ps_par hc hN hi hj hij hx hy ha hw hs) fun G ρ D σ H k a => at_tX k (a.then0 (R := rLs) fun ds ρ1 vs G1 H1 n1 k1 r1 ⟨fl, ρ', e, o⟩ => by
    obtain ⟨rfl, e2, n2, k2⟩ := par_ok k1 r1 e
    have e3 := r1.length
    rw [← e2] at e3
    match vs, e3 with
    | [u, v], _ => exact ⟨u, v, rfl, o G1 H1 _ (n1.ns.trans n2) k2⟩)
end
end Fn

set_option maxRecDepth 100000
set_option maxHeartbeats 4000000
namespace Fn
open PySem PySem.Spec PyProof.Rows L2

section
variable {cl : Str → Option Addr} {X : Cx} {W : WX} {pos : Pos}
theorem eo_dict0 : EO cl X W (.Dict [] [] pos) eDict0 := EX.by pe_dnewK fun G ρ σ H Q k a => fun p hp => by
  obtain ⟨n, k', gp, np⟩ := new_own (o := .dK []) hp k
  exact At.done a n k' ⟨⟨p, [], rfl, upd_same, gp, rfl, rfl⟩, fun _ b e => by
    cases e
    exact ⟨hp, np⟩⟩
end

/-- the heap that knows the script alone (or nothing, where the script is the module's own) -/
def scH (K : PySem.W.Frag) (a : Addr) (vs : List Value) (ns : List Int) : Hp := fun b => if b = a ∧ K.lookup a = none then some (.frz { cls := .type "list", data := .seq vs.toArray } (.lst (ns.map V.int))) else none
section
variable {K : PySem.W.Frag} {a : Addr} {vs : List Value} {ns : List Int} {s : Shared}
theorem scH_cases (b : Addr) : scH K a vs ns b = none ∨ (b = a ∧ K.lookup a = none ∧ scH K a vs ns b = some (.frz { cls := .type "list", data := .seq vs.toArray } (.lst (ns.map V.int)))) := by
  unfold scH
  by_cases h : b = a ∧ K.lookup a = none
  · exact .inr ⟨h.1, h.2, if_pos h⟩
  · exact .inl (if_neg h)
theorem scH_sq (X : K.In s.heap) (ha : s.heap.get? a = some { cls := .type "list", data := .seq vs.toArray }) (hi : IntsAre vs ns) (hl : ns.length ≤ sizeLine) : SqL K (scH K a vs ns) a (ns.map V.int) := by
  have rv := vals_ints hi
  cases q : K.lookup a with
  | none => exact .inl (.inr ⟨_, if_pos ⟨rfl, q⟩⟩)
  | some o =>
    have z := (X a o q).symm.trans ha
    cases z
    have e : vs.length = ns.length := by
      have z := rv.length
      rw [List.length_map] at z
      exact z.symm
    exact .inr ⟨_, _, _, q, rfl, rfl, rfl, by rw [List.size_toArray, e]; exact hl, rv⟩
theorem scH_ok {P : Program} {w : World} (ha : s.heap.get? a = some { cls := .type "list", data := .seq vs.toArray }) (hi : IntsAre vs ns) (hl : ns.length ≤ sizeLine) : HOk P w (scH K a vs ns) s.heap := fun b u z => by
  rcases scH_cases (K := K) (a := a) (vs := vs) (ns := ns) b with q | ⟨rfl, _, q⟩
  · rw [q] at z
    cases z
  · rw [q] at z
    cases z
    exact ⟨ha, by rw [List.length_map]; exact hl, vs, _, vals_ints hi, ha⟩
end
/-- THE END: what FnS says of the law's def, at the heap behind the top -/
theorem end_call {P : Program} {w : World} {K : PySem.W.Frag} {mg mb : Str → Option Value} {CX : CXT} {k : Nat} {fa a : Addr} {fd : FuncData} {x : Str} {sp : Sp} {s : Shared} {vs : List Value} {ns : List Int}
    (X : K.In s.heap) (hns : s.heap.Ns mainGlobals mg) (hb : s.heap.Ns builtinsNs mb) (hbb : ∀ x : Str, x ≠ "__name__" → mb x = bootBuiltins x) (hlim : s.heap.NoLimit) (hg : s.gens = #[])
    (ha : s.heap.get? a = some { cls := .type "list", data := .seq vs.toArray }) (hi : IntsAre vs ns) (hl : ns.length ≤ sizeLine) (hr : Room k callerA)
    (F : ∀ base : Heap, K.In base → base.Ns mainGlobals mg → FnS P w K mg base CX k fa fd [x] sp) (hbind : ∀ (s : Shared) (u : Value), BindsTo s fd ⟨[u], []⟩ [(x, u)])
    (hsp : ∀ H : Hp, SqL K H a (ns.map V.int) → sp [.ref a] H (fun v _ => v = .bl true) fun _ _ _ => False) (hCX : ∀ H e s', CX [] H s (fun _ _ _ => False) e s' → False) :
    codeAny (model P w) callerA (.call (.ref fa) ⟨[.ref a], []⟩) (fun r s' => r = .ok (.ret (.bool true)) ∧ OldK s.heap s'.heap ∧ s'.os = s.os ∧ AllBare s'.gens) s := by
  generalize hH : scH K a vs ns = H
  have cs : ∀ b, H b = none ∨ (b = a ∧ K.lookup a = none ∧ H b = some (.frz { cls := .type "list", data := .seq vs.toArray } (.lst (ns.map V.int)))) := fun b => by rw [← hH]; exact scH_cases b
  have hS : SqL K H a (ns.map V.int) := by rw [← hH]; exact scH_sq X ha hi hl
  have hok : HOk P w H s.heap := by rw [← hH]; exact scH_ok ha hi hl
  have dictFree : ∀ {b : Addr} {o : Obj} {es : Array DictEntry} {ep : Nat}, s.heap.get? b = some o → o.data = .dict es ep → (hidT s.heap H).get? b = some o := fun {b o es ep} e d => hidT_get e (by
    rcases cs b with q | ⟨rfl, _, _⟩
    · exact q
    · rw [ha] at e
      cases e
      cases d)
  have ns0 : ∀ {b : Addr} {m : Str → Option Value}, s.heap.Ns b m → (hidT s.heap H).Ns b m := fun ⟨o, es, ep, e, d, r⟩ => ⟨o, es, ep, dictFree e d, d, r⟩
  have X0 : K.In (hidT s.heap H) := fun b o e => hidT_get (X b o e) (by
    rcases cs b with q | ⟨rfl, q, _⟩
    · exact q
    · rw [q] at e
      cases e)
  obtain ⟨mc, l1, l2⟩ := hlim
  have e0 : Env0 P w K mg (hidT s.heap H) callerA [] s H := ⟨rfl, ⟨X0, ns0 hns, ⟨mb, ns0 hb, hbb⟩, ⟨mc, ns0 l1, l2⟩⟩, fun b o e => of_hidT e, Nat.le_of_eq (hidT_size _ _), trivial, fun b z => (List.not_mem_nil z).elim, hok, .of_eq hg⟩
  refine codeAny_mono ((F _ X0 (ns0 hns)).go callerA [] s H ⟨[.ref a], []⟩ [.ref a] [.ref a] _ _ rfl hr e0 (hbind s (.ref a)) (.cons rfl .nil) (hsp H hS)) fun r s' h => ?_
  cases r with
  | error e => exact (hCX H e s' h).elim
  | ok fl =>
    cases fl with
    | next => exact False.elim h
    | brk => exact False.elim h
    | cont => exact False.elim h
    | ret u =>
      obtain ⟨v, H', os, bare, un, hok', rv, q⟩ := h
      cases (show v = .bl true from q)
      cases (show u = Value.bool true from rv)
      refine ⟨rfl, OldK.of_keep fun b o e => ?_, os, bare⟩
      rcases cs b with q | ⟨_, _, q⟩
      · exact un.keep b o e q (fun z => (List.not_mem_nil z).elim) List.not_mem_nil
      · have e1 := (hok b _ q).1
        have e2 := (hok' b _ (un.frzs b _ _ q)).1
        rw [e] at e1
        cases e1
        exact e2
theorem end_walk {l : PySem.W.OpenLaw} {n k : Nat} {q : Program} {loose : List Str} {XP : (Str → Option Value) → Heap → Prop} {YP : World → Heap → Prop} {d : DefRec} {K : Params → PySem.W.Frag} {CX : World → CXT} {sp : World → Sp} {x : Str}
    (hn : l.most = some n) (hn2 : n ≤ sizeLine) (hdf : d.params.defaults = []) (hr : Room k callerA) (hY : ∀ (w : World) (h : Heap), YP w h → (K w.params).In h)
    (F : ∀ (w : World) (mg : Str → Option Value) (fa : Addr) (h : Heap), (K w.params).In h → h.Ns mainGlobals mg → mg d.name = some (.ref fa) →
      ∃ fd : FuncData, (∀ (s : Shared) (u : Value), BindsTo s fd ⟨[u], []⟩ [(x, u)]) ∧ ∀ base : Heap, (K w.params).In base → base.Ns mainGlobals mg → FnS l.prog w (K w.params) mg base (CX w) k fa fd [x] (sp w))
    (hsp : ∀ (w : World) (H : Hp) (a : Addr) (ns : List Int), ns.length ≤ n → (∀ z ∈ ns, bits z ≤ 1048576) → SqL (K w.params) H a (ns.map V.int) → sp w [.ref a] H (fun v _ => v = .bl true) fun _ _ _ => False)
    (hCX : ∀ (w : World) (H : Hp) (s : Shared) (e : Value) (s' : Shared), CX w [] H s (fun _ _ _ => False) e s' → False) : PySem.W.WalkO q loose XP YP l.row.toRowW d [] (fun f vs => PySem.call f vs) :=
  Att.attach_callB hn hdf fun w s₀ s₁ mg mb fa o pm cd doc a vs ns G Y ho hd hcd hmg hobj hints hlen hbits hg => by
    have KX := hY w _ Y
    obtain ⟨fd, hb, hF⟩ := F w mg fa _ KX G.T.g hmg
    exact end_call KX G.T.g G.T.b G.T.builtins G.T.nolimit hg hobj hints (Nat.le_trans hlen hn2) hr hF hb (fun H hS => hsp w H a ns hlen hbits hS) fun H e s' => hCX w H s₁ e s'
end Fn

set_option maxRecDepth 100000
set_option maxHeartbeats 4000000
namespace Fn
open PySem PySem.Spec PyProof.Rows L2

/-! ### exceptions through a def's frame and a block -/
theorem thru_of {X : Cx} {W : WX} (tk : Takes X W) : WThru X (L2.CX X.prog X.w) W := fun σ pins H s e s' I c => tk e s' (XE.of_call I (fun _ _ _ h => h) c)
theorem thru_fn {P : Program} {w : World} {K : PySem.W.Frag} {mg : Str → Option Value} {base : Heap} {N : List Str} {qual : Str} {scope : Scope} {f : Addr} {cd : Value} {A : Around} {outer : List Env} {s : Shared} {H : Hp} {E : XK} :
    WThru (cxOf (L2.CX P w) P w K mg base N qual scope f cd A outer s H E) (L2.CX P w) (WE E) := thru_of (takes_of rfl rfl rfl rfl)
theorem thru_blk {X : Cx} {P : Program} {w : World} : WThru X (L2.CX P w) W0 := fun σ pins H s e s' I c => by
  obtain ⟨a, B, H', cls, d, _, _, _, _, _, _, _, q⟩ := c
  exact q.elim
theorem pass_no {X : Cx} {P : Program} {w : World} : Passes (L2.CX P w) X (fun _ _ _ => False) := fun pins σ H s e s' I c => by
  obtain ⟨a, B, H', cls, d, _, _, _, _, _, _, _, q⟩ := c
  exact q.elim
theorem own_fn {P : Program} {w : World} {K : PySem.W.Frag} {mg : Str → Option Value} {base : Heap} {N : List Str} {qual : Str} {scope : Scope} {f : Addr} {cd : Value} {A : Around} {outer : List Env} {s : Shared} {H : Hp} {E : XK} :
    PassesOwn (model P w) (cxOf (L2.CX P w) P w K mg base N qual scope f cd A outer s H E).A (cxOf (L2.CX P w) P w K mg base N qual scope f cd A outer s H E).env (cxOf (L2.CX P w) P w K mg base N qual scope f cd A outer s H E).xe :=
  passes_of (X := cxOf (L2.CX P w) P w K mg base N qual scope f cd A outer s H E) rfl

/-! ### tests of a comprehension -/
section
variable {cl : Str → Option Addr} {X : Cx} {W : WX} {e : Expr} {m : M Bool}
def mYes : M Bool := M.ret true
theorem ets_nil : PTs X [] (tX rB ⟨X.K, cl⟩ W mYes) := ⟨fun pins s σ H Q I ⟨G, ρ, k, a⟩ => pts_nil.run pins s σ H Q I (a.ret k rfl)⟩
theorem ets_one (h : ET cl X W e m) : PTs X [e] (tX rB ⟨X.K, cl⟩ W m) := pts_one h
end

/-! ### who is called -/
def ALen (n : Nat) (as : M (List Rf)) : Prop := ∀ ρ rs ρ', as ρ = some (.ok rs, ρ') → rs.length = n
theorem alen0 : ALen 0 aNil := fun ρ rs ρ' e => by
  cases e
  rfl
theorem alen1 {n : Nat} {m : M Rf} {as : M (List Rf)} (h : ALen n as) : ALen (n + 1) (aCons m as) := fun ρ rs ρ' e => by
  unfold aCons M.bind at e
  cases q : m ρ with
  | none =>
    rw [q] at e
    cases e
  | some z =>
    obtain ⟨r, ρ1⟩ := z
    rw [q] at e
    cases r with
    | er c ns vs => cases e
    | ok x =>
      dsimp only at e
      cases q2 : as ρ1 with
      | none =>
        rw [q2] at e
        cases e
      | some z =>
        obtain ⟨r2, ρ2⟩ := z
        rw [q2] at e
        cases r2 with
        | er c ns vs => cases e
        | ok xs =>
          cases e
          rw [List.length_cons, h _ _ _ q2]
/-- the text of a program, where it runs -/
structure At0 where
  P : Program
  w : World
  K : PySem.W.Frag
  mg : Str → Option Value
  base : Heap
  cl : Str → Option Addr
/-- x is a def that makes F of its n arguments -/
def Cal (T : At0) (k n : Nat) (x : Str) (F : Fx) : Prop := ∃ f fd ps, FnS T.P T.w T.K T.mg T.base (L2.CX T.P T.w) k f fd ps (spF ⟨T.K, T.cl⟩ n F) ∧ T.mg x = some (.ref f) ∧ PySem.W.keepIn T.K (.ref f) = true ∧ Binds T.K fd ps []
/-- c is an own exception class with the field f -/
def CalX (T : At0) (k : Nat) (c f : Str) : Prop := ∃ C fI fd, T.cl c = some C ∧ XK2 T.K C f fI ∧ FnS T.P T.w T.K T.mg T.base (L2.CX T.P T.w) k fI fd ["self", f] (spIni C f) ∧ T.mg c = some (.ref C) ∧
  (∀ u v : Value, bindArgs fd ⟨[u, v], []⟩ = pure [(("self" : Str), u), (f, v)]) ∧ ∀ u v : Value, bindArgs fd ⟨[u], [(f, v)]⟩ = pure [(("self" : Str), u), (f, v)]
/-- .. with none -/
def CalX0 (T : At0) (c : Str) : Prop := ∃ C, T.cl c = some C ∧ XK1 T.K C ∧ PySem.W.excIn T.K C PySem.HandSPX.veTail "ValueError.__new__" = true ∧ T.mg c = some (.ref C)
/-- a name of a class, of which isinstance tells sub -/
inductive IsC (T : At0) (x : Str) (sub : Kn → Option Bool) : Prop where
  | own (C : Addr) (h : T.mg x = some (.ref C)) (s : SubOk T.K T.cl (.ref C) sub)
  | ty (n : String) (h : T.mg x = none) (b : bootBuiltins x = some (.type n)) (hn : x ≠ "__name__") (s : SubOk T.K T.cl (.type n) sub)
section
variable {cl : Str → Option Addr} {X : Cx} {W : WX} {k n : Nat} {x : Str} {p pos : Pos} {e ce : Expr} {es : List Expr} {as : M (List Rf)} {F : Fx} {md : M D} {mr : M Rf} {c f : Str} {sub : Kn → Option Bool} {flds : List Str}
abbrev atX (cl : Str → Option Addr) (X : Cx) : At0 := ⟨X.prog, X.w, X.K, X.mg, X.base, cl⟩
theorem c_call (G : Cal (atX cl X) k n x F) (hx : WThru X (L2.CX X.prog X.w) W) (hgd : X.A.guards = some []) (hr : Room k X.A) (hg : Gl X x) (ha : EA cl X W (e :: es) as) (hn : ALen n as) (hdb : (x == ("__debug__" : Str)) = false := by decide)
    (he : starEach (e :: es) X.env = (false, eval e X.env) :: starEach es X.env := by rfl) (hpl : (backTo pos (starEach es X.env)).any (·.1) = false := by rfl) : EO cl X W (.Call (.Name x p) (e :: es) [] pos) (eCall F as) := by
  obtain ⟨f, fd, ps, G, hm, hk, hb⟩ := G
  exact eo_call G hx hgd hr hg hm hk hb ha hn hdb he hpl
theorem c_exV (G : CalX (atX cl X) k c f) (hr : Room (k + 1) X.A) (hgd : X.A.guards = some []) (hg : Gl X c) (he : ED cl X W e md) (hdb : (c == ("__debug__" : Str)) = false := by decide) (hs : starEach [e] X.env = (false, eval e X.env) :: starEach [] X.env := by rfl) :
    ED cl X W (.Call (.Name c p) [e] [] pos) (eEx c f md) := by
  obtain ⟨C, fI, fd, hc, T, F1, hm, b1, b2⟩ := G
  exact ed_exV hc T F1 hr hgd pass_no b1 hg hm he hdb hs
theorem c_exK {kp : Pos} (G : CalX (atX cl X) k c f) (hr : Room (k + 1) X.A) (hgd : X.A.guards = some []) (hg : Gl X c) (he : ED cl X W e md) (hdb : (c == ("__debug__" : Str)) = false := by decide)
    (hall : (backToKw pos (keywordEach [⟨some f, e, kp⟩] X.env)).all (·.1.isSome) = true := by rfl) (hks : (backToKw pos (keywordEach [⟨some f, e, kp⟩] X.env)).filterMap (·.1) = [f] := by rfl)
    (hpl : ((backTo pos (starEach [] X.env)).any (·.1) || (backToKw pos (keywordEach [⟨some f, e, kp⟩] X.env)).any (·.1.isNone)) = false := by rfl) :
    ED cl X W (.Call (.Name c p) [] [⟨some f, e, kp⟩] pos) (eEx c f md) := by
  obtain ⟨C, fI, fd, hc, T, F1, hm, b1, b2⟩ := G
  exact ed_exK hc T F1 hr hgd pass_no b2 hg hm he hdb hall hks hpl
theorem c_ex0 (G : CalX0 (atX cl X) c) (hg : Gl X c) (hdb : (c == ("__debug__" : Str)) = false := by decide) : ED cl X W (.Call (.Name c p) [] [] pos) (eEx0 c) := by
  obtain ⟨C, hc, T, q, hm⟩ := G
  exact ed_ex0 hc T q hg hm hdb
theorem c_isi {cp : Pos} (G : IsC (atX cl X) c sub) (hX : Xs X.K cl flds) (he : ER cl X W e mr) (hg : Gl X "isinstance") (hm : X.mg "isinstance" = none) (hgc : Gl X c) (hdb : (c == ("__debug__" : Str)) = false := by decide)
    (s1 : starEach [e, .Name c cp] X.env = (false, eval e X.env) :: starEach [.Name c cp] X.env := by rfl) : ED cl X W (.Call (.Name "isinstance" p) [e, .Name c cp] [] pos) (eIsi sub mr) := by
  cases G with
  | own C h s => exact ed_isi hX s he (pe_glob (v := .ref C) hgc h rfl hdb) (.own C) hg hm s1
  | ty n h b hn s => exact ed_isi hX s he (pe_bltn (v := .ty n) hgc h b rfl hn hdb) (.ty n) hg hm s1
end
end Fn

set_option maxRecDepth 100000
set_option maxHeartbeats 4000000
namespace Fn
open PySem PySem.Spec PyProof.Rows L2

/-! ### words for the derivations -/
theorem bt_len : bootBuiltins "len" = some (.builtin "len") := by decide +kernel
theorem bt_max : bootBuiltins "max" = some (.builtin "max") := by decide +kernel
theorem bt_min : bootBuiltins "min" = some (.builtin "min") := by decide +kernel
theorem bt_repr : bootBuiltins "repr" = some (.builtin "repr") := by decide +kernel
theorem bt_int : bootBuiltins "int" = some (.type "int") := by decide +kernel
section
variable {cl : Str → Option Addr} {X : Cx} {W : WX} {p pos : Pos} {a b e : Expr} {as : M (List Rf)} {ma mb : M Rf} {op : CmpOp}
theorem c_len (hg : Gl X "len") (hm : X.mg "len" = none) (ha : EA cl X W [e] as) (he : starEach [e] X.env = (false, eval e X.env) :: starEach [] X.env := by rfl) : ED cl X W (.Call (.Name "len" p) [e] [] pos) (eFun fLen as) := ed_blt call_len hop_len hg hm bt_len ha (he := he) (hpl := by rfl)
theorem c_int (hg : Gl X "int") (hm : X.mg "int" = none) (ha : EA cl X W [e] as) (he : starEach [e] X.env = (false, eval e X.env) :: starEach [] X.env := by rfl) : ED cl X W (.Call (.Name "int" p) [e] [] pos) (eFun fInt as) := ed_ty call_int1 hop_int hg hm bt_int ha (he := he) (hpl := by rfl)
theorem c_repr (hk : SysK X.K) (hgd : X.A.guards = some []) (hu : X.A.units + 64 < cLine) (hg : Gl X "repr") (hm : X.mg "repr" = none) (ha : EA cl X W [e] as) (he : starEach [e] X.env = (false, eval e X.env) :: starEach [] X.env := by rfl) : ED cl X W (.Call (.Name "repr" p) [e] [] pos) (eFun fRepr as) :=
  ed_blt (call_reprT hk hgd hu) hop_repr hg hm bt_repr ha (he := he) (hpl := by rfl)
theorem c_max2 (hc : X.calm = true) (hg : Gl X "max") (hm : X.mg "max" = none) (ha : EA cl X W [a, b] as) (he : starEach [a, b] X.env = (false, eval a X.env) :: starEach [b] X.env := by rfl) (hpl : (backTo pos (starEach [b] X.env)).any (·.1) = false := by rfl) : ED cl X W (.Call (.Name "max" p) [a, b] [] pos) (eFun fMax2 as) :=
  ed_blt (call_max2 hc) hop_max2 hg hm bt_max ha (he := he) (hpl := hpl)
theorem c_min2 (hc : X.calm = true) (hg : Gl X "min") (hm : X.mg "min" = none) (ha : EA cl X W [a, b] as) (he : starEach [a, b] X.env = (false, eval a X.env) :: starEach [b] X.env := by rfl) (hpl : (backTo pos (starEach [b] X.env)).any (·.1) = false := by rfl) : ED cl X W (.Call (.Name "min" p) [a, b] [] pos) (eFun fMin2 as) :=
  ed_blt (call_min2 hc) hop_min2 hg hm bt_min ha (he := he) (hpl := hpl)
theorem c_eq (hk : SysK X.K) (hu : X.A.units + 64 < cLine) (hm : behindInMarks .Eq b = false) (ha : ER cl X W a ma) (hb : ER cl X W b mb) : ED cl X W (.Compare a [.Eq] [b] pos) (eBinD fEq ma mb) := ed_cmp (op_eqT hk hu) hop_eq hm ha hb
theorem c_ne (hk : SysK X.K) (hu : X.A.units + 64 < cLine) (hm : behindInMarks .NotEq b = false) (ha : ER cl X W a ma) (hb : ER cl X W b mb) : ED cl X W (.Compare a [.NotEq] [b] pos) (eBinD fNe ma mb) := ed_cmp (op_neT hk hu) hop_ne hm ha hb
theorem c_lt (hm : behindInMarks .Lt b = false) (ha : ER cl X W a ma) (hb : ER cl X W b mb) : ED cl X W (.Compare a [.Lt] [b] pos) (eBinD fLt ma mb) := ed_cmp opLt hop_lt hm ha hb
theorem c_le (hm : behindInMarks .LtE b = false) (ha : ER cl X W a ma) (hb : ER cl X W b mb) : ED cl X W (.Compare a [.LtE] [b] pos) (eBinD fLe ma mb) := ed_cmp opLe hop_le hm ha hb
theorem c_gt (hm : behindInMarks .Gt b = false) (ha : ER cl X W a ma) (hb : ER cl X W b mb) : ED cl X W (.Compare a [.Gt] [b] pos) (eBinD fGt ma mb) := ed_cmp opGt hop_gt hm ha hb
theorem c_ge (hm : behindInMarks .GtE b = false) (ha : ER cl X W a ma) (hb : ER cl X W b mb) : ED cl X W (.Compare a [.GtE] [b] pos) (eBinD fGe ma mb) := ed_cmp opGe hop_ge hm ha hb
theorem t_eq (hk : SysK X.K) (hu : X.A.units + 64 < cLine) (hm : behindInMarks .Eq b = false) (ha : ER cl X W a ma) (hb : ER cl X W b mb) : ET cl X W (.Compare a [.Eq] [b] pos) (eT (eBinD fEq ma mb)) := et_cmp (op_eqT hk hu) hop_eq hm ha hb
theorem t_ne (hk : SysK X.K) (hu : X.A.units + 64 < cLine) (hm : behindInMarks .NotEq b = false) (ha : ER cl X W a ma) (hb : ER cl X W b mb) : ET cl X W (.Compare a [.NotEq] [b] pos) (eT (eBinD fNe ma mb)) := et_cmp (op_neT hk hu) hop_ne hm ha hb
theorem t_lt (hm : behindInMarks .Lt b = false) (ha : ER cl X W a ma) (hb : ER cl X W b mb) : ET cl X W (.Compare a [.Lt] [b] pos) (eT (eBinD fLt ma mb)) := et_cmp opLt hop_lt hm ha hb
theorem t_le (hm : behindInMarks .LtE b = false) (ha : ER cl X W a ma) (hb : ER cl X W b mb) : ET cl X W (.Compare a [.LtE] [b] pos) (eT (eBinD fLe ma mb)) := et_cmp opLe hop_le hm ha hb
theorem t_gt (hm : behindInMarks .Gt b = false) (ha : ER cl X W a ma) (hb : ER cl X W b mb) : ET cl X W (.Compare a [.Gt] [b] pos) (eT (eBinD fGt ma mb)) := et_cmp opGt hop_gt hm ha hb
theorem t_ge (hm : behindInMarks .GtE b = false) (ha : ER cl X W a ma) (hb : ER cl X W b mb) : ET cl X W (.Compare a [.GtE] [b] pos) (eT (eBinD fGe ma mb)) := et_cmp opGe hop_ge hm ha hb
end

end Fn

set_option maxRecDepth 100000
set_option maxHeartbeats 4000000
namespace Fn
open PySem PySem.Spec PyProof.Rows L2

/-! ### reckoning with denotations -/
section
variable {α β : Type} {m : M α} {f : α → M β} {g h : S} {ρ ρ1 : En} {a : α} {o : O} {b : Bool} {mb : M Bool} {mo : M O} {np i : Nat}
theorem bind_at (e : m ρ = some (.ok a, ρ1)) : M.bind m f ρ = f a ρ1 := by unfold M.bind; rw [e]
theorem map_at {k : α → β} (e : m ρ = some (.ok a, ρ1)) : M.map k m ρ = some (.ok (k a), ρ1) := bind_at e
theorem then_at {k : α → S} (e : m ρ = some (.ok a, ρ1)) : M.then_ m k ρ = k a ρ1 := by unfold M.then_; rw [e]
theorem seq_at (e : g ρ = some (.nx, ρ1)) : sSeq g h ρ = h ρ1 := by unfold sSeq; rw [e]
theorem seq_rt (e : g ρ = some (.rt o, ρ1)) : sSeq g h ρ = some (.rt o, ρ1) := by unfold sSeq; rw [e]
theorem if_at (e : mb ρ = some (.ok b, ρ1)) : sIf mb g h ρ = if b = true then g ρ1 else h ρ1 := by
  unfold sIf
  rw [then_at e]
  cases b <;> rfl
theorem set_at (e : mo ρ = some (.ok o, ρ1)) (h1 : i < ρ1.length) (h2 : ¬ (i < np ∧ kd ρ1[i]? = 3)) : sSet np i mo ρ = some (.nx, ρ1.set i (some o)) := by
  unfold sSet
  rw [then_at e, if_pos ⟨h1, h2⟩]
theorem ret_at (e : mo ρ = some (.ok o, ρ1)) : sRet mo ρ = some (.rt o, ρ1) := by
  unfold sRet
  rw [then_at e]
theorem call_at {F : Fx} {as : M (List Rf)} {rs : List Rf} {os os' : List O} {r : Res O} (h1 : as ρ = some (.ok rs, ρ1)) (h2 : argOs ρ1 rs = some os) (h3 : (lent ρ1 rs).Nodup) (h4 : F os = some (r, os')) (h5 : backOk ρ1 rs os' = true) (h6 : os'.length = os.length) :
    eCall F as ρ = some (r, back ρ1 rs os') := by
  unfold eCall
  rw [bind_at h1]
  unfold callF
  rw [h2]
  dsimp only
  rw [if_pos h3, h4]
  dsimp only
  rw [if_pos ⟨h5, h6⟩]
theorem forGo_cons {t : Tg} {body : S} {d : D} {ds : List D} {ρ2 : En} (hf : free np t ρ = true) (hs : t.set d ρ = some ρ1) (hb : body ρ1 = some (.nx, ρ2)) : forGo np t body (d :: ds) ρ = forGo np t body ds ρ2 := by
  conv => lhs; unfold forGo
  rw [if_pos hf, hs]
  dsimp only
  rw [hb]
end

/-! ### bits -/
theorem bits_le {i : Int} {k : Nat} (h : i.natAbs < 2 ^ k) (hk : 0 < k) : bits i ≤ k := by
  unfold bits Builtin.Int.intBits
  by_cases z : (i == 0) = true
  · rw [if_pos z]
    omega
  · rw [if_neg z]
    have hz : i.natAbs ≠ 0 := by
      intro e
      apply z
      have : i = 0 := Int.natAbs_eq_zero.mp e
      rw [this]
      rfl
    have := (Nat.log2_lt hz).mpr h
    omega
theorem of_bits {i : Int} {k : Nat} (h : bits i ≤ k) : i.natAbs < 2 ^ k := by
  unfold bits Builtin.Int.intBits at h
  by_cases z : (i == 0) = true
  · have e : i = 0 := by simpa using z
    rw [e]
    exact Nat.two_pow_pos k
  · rw [if_neg z] at h
    have hz : i.natAbs ≠ 0 := by
      intro e
      apply z
      have : i = 0 := Int.natAbs_eq_zero.mp e
      rw [this]
      rfl
    exact (Nat.log2_lt hz).mp (by omega)
theorem bits_small {i : Int} {k : Nat} (h0 : 0 ≤ i) (h : i < 2 ^ k) (hk : 0 < k) : bits i ≤ k := bits_le (by
  have e : ((i.natAbs : Nat) : Int) = i := Int.natAbs_of_nonneg h0
  have : ((i.natAbs : Nat) : Int) < ((2 ^ k : Nat) : Int) := by
    rw [e]
    push_cast
    exact h
  exact Int.ofNat_lt.mp this) hk
end Fn

set_option maxRecDepth 100000
set_option maxHeartbeats 4000000
namespace Fn
open PySem PySem.Spec PyProof.Rows L2

/-! ### what the top has written -/
/-- the def x of the module: st -/
def FnAt (K : PySem.W.Frag) (x : Str) (st : Stmt) (f : Addr) : Prop := ∃ (oc : Value) (od an : Option Addr) (kV dc pm cd ct : Value) (sl : Array (Option Value)), PySem.W.nsIn K mainGlobals x = some (some (.ref f)) ∧
  K.lookup f = some ⟨oc, od, .func (PySem.W.fnOf x x (defArgs st) (defBody st) (defScope st) .none kV dc pm an cd ct), sl⟩ ∧ PySem.W.codeIn K cd x = true ∧ PySem.W.keepIn K (.ref f) = true
/-- the class c, over ValueError, at C -/
def XcAt (K : PySem.W.Frag) (c : Str) (C : Addr) : Prop := ∃ (nm q : Str) (N : Addr) (bs bm : List Value) (sn : List Str) (sub : List Value) (ab : Bool) (col : Option Bool) (dd : Option Addr) (k0 k1 k2 k3 k5 : Option Value), PySem.W.nsIn K mainGlobals c = some (some (.ref C)) ∧
  K.lookup C = some (excClassObj nm q C N bs bm true sn sub ab col dd k0 k1 k2 k3 k5 "ValueError.__new__") ∧ PySem.HandSPX.refsVE bm = true
/-- its own __init__, at f: st -/
def InAt (K : PySem.W.Frag) (qual : Str) (st : Stmt) (C f : Addr) : Prop := ∃ (oc : Value) (od an : Option Addr) (kV dc pm cd ct : Value) (sl : Array (Option Value)), PySem.W.findIn K (.ref C) "__init__" = some (some (.ref f)) ∧
  K.lookup f = some ⟨oc, od, .func (PySem.W.fnOf "__init__" qual (defArgs st) (defBody st) (defScope st) .none kV dc pm an cd ct), sl⟩ ∧ PySem.W.codeIn K cd qual = true ∧ PySem.W.keepIn K (.ref f) = true
section
variable {K : PySem.W.Frag} {x qual : Str} {st : Stmt} {C f : Addr} {oc : Value} {od an : Option Addr} {kV dc pm cd ct : Value} {sl : Array (Option Value)}
theorem fnAt_mk (a : PySem.W.nsIn K mainGlobals x = some (some (.ref f))) (l : K.lookup f = some ⟨oc, od, .func (PySem.W.fnOf x x (defArgs st) (defBody st) (defScope st) .none kV dc pm an cd ct), sl⟩) (c : PySem.W.codeIn K cd x = true) (k : PySem.W.keepIn K (.ref f) = true) : FnAt K x st f := ⟨_, _, _, _, _, _, _, _, _, a, l, c, k⟩
theorem inAt_mk (a : PySem.W.findIn K (.ref C) "__init__" = some (some (.ref f))) (l : K.lookup f = some ⟨oc, od, .func (PySem.W.fnOf "__init__" qual (defArgs st) (defBody st) (defScope st) .none kV dc pm an cd ct), sl⟩) (c : PySem.W.codeIn K cd qual = true) (k : PySem.W.keepIn K (.ref f) = true) : InAt K qual st C f := ⟨_, _, _, _, _, _, _, _, _, a, l, c, k⟩
theorem xcAt_mk {c nm q : Str} {N : Addr} {bs bm : List Value} {sn : List Str} {sub : List Value} {ab : Bool} {col : Option Bool} {dd : Option Addr} {k0 k1 k2 k3 k5 : Option Value} (a : PySem.W.nsIn K mainGlobals c = some (some (.ref C)))
    (l : K.lookup C = some (excClassObj nm q C N bs bm true sn sub ab col dd k0 k1 k2 k3 k5 "ValueError.__new__")) (r : PySem.HandSPX.refsVE bm = true) : XcAt K c C := ⟨_, _, _, _, _, _, _, _, _, _, _, _, _, _, _, a, l, r⟩
theorem sysK_mk {o : Obj} (l : K.lookup sysModules = some o) (c : o.cls ≠ .type "list") : SysK K := ⟨o, l, c⟩
end
/-- what is asked of an own exception class, by looking -/
def xck (K : PySem.W.Frag) (C : Addr) (fs : List Str) : Bool :=
  decide (PySem.W.findIn K (.ref C) "__setattr__" = some (some (.builtin "object.__setattr__"))) && (decide (PySem.W.subIn K (.ref C) (.type "BaseException") = some true) && (decide (PySem.W.typeIn K (.ref C) = some (.type "type")) && (PySem.W.keepIn K (.ref C) &&
  (decide (PySem.W.findIn K (.ref C) "__getattribute__" = some (some (.builtin "BaseException.__getattribute__"))) && (decide (PySem.W.findIn K (.ref C) "__getattr__" = some none) && (PySem.W.hasDictIn K C && (decide (PySem.W.findIn K (.ref C) "__class__" = some (some (.builtin "object.__class__"))) &&
  (decide (PySem.W.specialIn K (.builtin "object.__class__") "__get__" = some (some (.builtin "getset_descriptor.__get__"))) && (decide (PySem.W.takesIn K (.builtin "object.__class__") = some true) && (decide (PySem.W.mroIn K C (.type "object") = some true) &&
  fs.all fun f => decide (PySem.W.findIn K (.ref C) f = some none)))))))))))
theorem xck_ok {K : PySem.W.Frag} {c : Str} {C : Addr} {fs : List Str} (A : XcAt K c C) (h : xck K C fs = true) : XK1 K C ∧ ∀ f ∈ fs, PySem.W.findIn K (.ref C) f = some none := by
  obtain ⟨nm, q, N, bs, bm, sn, sub, ab, col, dd, k0, k1, k2, k3, k5, _, hC, hr⟩ := A
  unfold xck at h
  simp only [Bool.and_eq_true, decide_eq_true_eq, List.all_eq_true] at h
  obtain ⟨h1, h2, h3, h4, h5, h6, h7, h8, h9, h10, h11, h12⟩ := h
  exact ⟨⟨⟨⟨nm, q, N, bs, bm, sn, sub, ab, col, dd, k0, k1, k2, k3, k5, hC, hr⟩, h1, h2, h3, h4⟩, ⟨h5, h6, h2, h7, h8, h9, h10, h11⟩⟩, h12⟩
/-- a text of __init__ that stores its one argument -/
def IniSt (st : Stmt) (f : Str) : Prop := ∃ p1 p2 p3 p4 : Pos, FnScope ["self", f] ["self", f] (defScope st) ∧ defBody st = [.Assign [.Attribute (.Name "self" p1) f p2] (.Name f p3) p4] ∧ Vis (defScope st) "self" ∧ Vis (defScope st) f ∧ (f == ("__debug__" : Str)) = false ∧ (f == ("__classdict__" : Str)) = false ∧
  (∀ (qual : Str) (kV dc pm cd ct : Value) (an : Option Addr) (u v : Value), bindArgs (PySem.W.fnOf "__init__" qual (defArgs st) (defBody st) (defScope st) .none kV dc pm an cd ct) ⟨[u, v], []⟩ = pure [(("self" : Str), u), (f, v)]) ∧
  ∀ (qual : Str) (kV dc pm cd ct : Value) (an : Option Addr) (u v : Value), bindArgs (PySem.W.fnOf "__init__" qual (defArgs st) (defBody st) (defScope st) .none kV dc pm an cd ct) ⟨[u], [(f, v)]⟩ = pure [(("self" : Str), u), (f, v)]
section
variable {T : At0} {c f qual : Str} {C fI : Addr} {fs : List Str} {st : Stmt}
theorem calX_of {h : Heap} (X : T.K.In h) (G : h.Ns mainGlobals T.mg) (hc : T.cl c = some C) (A : XcAt T.K c C) (hk : xck T.K C fs = true) (hf : f ∈ fs) (I : InAt T.K qual st C fI) (ht : PySem.W.typeIn T.K (.ref fI) = some (.type "function")) (S : IniSt st f) : CalX T 1 c f := by
  obtain ⟨x1, no⟩ := xck_ok A hk
  obtain ⟨nm, q, N, bs, bm, sn, sub, ab, col, dd, k0, k1, k2, k3, k5, ha, _, _⟩ := A
  obtain ⟨oc, od, an, kV, dc, pm, cd, ct, sl, i1, i2, i3, i4⟩ := I
  obtain ⟨p1, p2, p3, p4, s1, s2, s3, s4, s5, s6, s7, s8⟩ := S
  have x2 : XK2 T.K C f fI := { x1 with no := no f hf, iC := i1, tI := ht }
  exact ⟨C, fI, _, hc, x2, ini_ok (fun_mk i2 i3 i4) s1 s2 x2 s3 s4 s5 s6, PySem.W.mg_of X G ha, fun u v => s7 _ _ _ _ _ _ _ u v, fun u v => s8 _ _ _ _ _ _ _ u v⟩
theorem calX0_of {h : Heap} (X : T.K.In h) (G : h.Ns mainGlobals T.mg) (hc : T.cl c = some C) (A : XcAt T.K c C) (hk : xck T.K C fs = true) (q : PySem.W.excIn T.K C PySem.HandSPX.veTail "ValueError.__new__" = true) : CalX0 T c := by
  obtain ⟨x1, _⟩ := xck_ok A hk
  obtain ⟨nm, q', N, bs, bm, sn, sub, ab, col, dd, k0, k1, k2, k3, k5, ha, _, _⟩ := A
  exact ⟨C, hc, x1, q, PySem.W.mg_of X G ha⟩
/-- a def, by its text -/
theorem cal_of {h : Heap} {k n : Nat} {x : Str} {f : Addr} {F : Fx} {ps : List Str} (X : T.K.In h) (G : h.Ns mainGlobals T.mg) (A : FnAt T.K x st f)
    (ok : ∀ fd, L2.Fun T.K x x st f fd → FnS T.P T.w T.K T.mg T.base (L2.CX T.P T.w) k f fd ps (spF ⟨T.K, T.cl⟩ n F))
    (hb : ∀ (kV doc pm : Value) (an : Option Addr) (cdv ct : Value) (us : List Value), us.length = ps.length → bindArgs (PySem.W.fnOf x x (defArgs st) (defBody st) (defScope st) .none kV doc pm an cdv ct) ⟨us, []⟩ = pure (ps.zip us)) : Cal T k n x F := by
  obtain ⟨oc, od, an, kV, dc, pm, cd, ct, sl, i1, i2, i3, i4⟩ := A
  have Fu := fun_mk i2 i3 i4
  exact ⟨f, _, ps, ok _ Fu, PySem.W.mg_of X G i1, i4, Fu.binds hb⟩
end
end Fn

set_option maxRecDepth 100000
set_option maxHeartbeats 4000000
namespace Law
open PySem PySem.Spec PyProof.Rows L2 Fn

def top (i : Nat) : Stmt := PySem.Challenge.pw_talkedalike_k01_errors_made.main.body.getD i (.Pass ⟨0, 0, 0, 0⟩)
/-- the error classes: name, field -/
def withF : List (Str × Str) := [("BadWorlds", "value"), ("BadWeights", "value"), ("BadPeople", "value"), ("BadPerson", "number"), ("NamedTwice", "name"), ("NoPerson", "value"), ("NoWorld", "value"), ("NoSet", "value"), ("BadEvent", "value"), ("BadRule", "value"), ("BadOrder", "value"), ("BadWeb", "value"), ("BadNumber", "value"), ("BadCells", "value"), ("BadName", "value"), ("BadLine", "line")]
def bare : List Str := ["NotSettled", "LastOne", "Nothing"]
def allC : List Str := withF.map (·.1) ++ bare
def flds : List Str := ["value", "number", "name", "line"]
def blts : List Str := ["len", "int", "repr", "max", "min", "isinstance", "range"]
def sub (c : Str) : Kn → Option Bool
  | .own d => if d ∈ allC then some (decide (d = c ∨ c = "TalkError" ∨ c = "ValueError")) else none
  | .ty _ => none
def asked : List Str := allC ++ ([("TalkError" : Str), ("ValueError" : Str)] : List Str)
/-- what the defs find -/
structure Env1 (T : At0) : Prop where
  hB : ∀ x, x ∈ blts → T.mg x = none
  hS : SysK T.K
  hX : Xs T.K T.cl flds
  hE : ∀ c f, (c, f) ∈ withF → CalX T 1 c f
  hE0 : ∀ c, c ∈ bare → CalX0 T c
  hI : ∀ c, c ∈ asked → IsC T c (sub c)
variable {T : At0}
abbrev s_law_tape : Stmt := top 22
def N_law_tape : List Str := ["script", "first", "mixed", "cell", "digits"]
def den_law_tape : S := (sSeq (sSet 2 2 (eBin fAdd (M.map Rf.d (eC (.int 101))) (M.map Rf.d (eBin fMul (rVar 1) (M.map Rf.d (eC (.int 53)))).fr)))
    (sSeq (sFor 2 (.n 3) (iSeq (eVar 0)) (sSet 2 2 (eBin fAdd (M.map Rf.d (eBinD fMod (M.map Rf.d (eFun fInt (aCons (M.map Rf.d (eBinD fPow (M.map Rf.d (eBin fAdd (M.map Rf.d (eBin fAdd (M.map Rf.d (eBin fMul (rVar 2) (M.map Rf.d (eC (.int 30029)))).fr) (M.map Rf.d (eBin fMul (rVar 3) (rVar 3)).fr)).fr) (M.map Rf.d (eC (.int 13)))).fr) (M.map Rf.d (eC (.int 2))))) aNil))) (M.map Rf.d (eC (.int 2147483563))))) (M.map Rf.d (eC (.int 2))))))
    (sSeq (sSet 2 4 (M.map O.dat (eIf (mAnd (eT (eBinD fLt (rVar 1) (M.map Rf.d (eFun fLen (aCons (rVar 0) aNil))))) (eT (eBinD fGe (M.map Rf.d (eBinD fIx (rVar 0) (rVar 1))) (M.map Rf.d (eBinD fPow (M.map Rf.d (eC (.int 10))) (M.map Rf.d (eC (.int 18)))))))) (eBinD fSub (M.map Rf.d (eBinD fIx (rVar 0) (rVar 1))) (M.map Rf.d (eBinD fPow (M.map Rf.d (eC (.int 10))) (M.map Rf.d (eC (.int 18)))))) (eC (.int 0)))))
    (sRet (eDict [((eC (.str "digits")), (eVar 4)), ((eC (.str "mixed")), (eVar 2))])))))
def F_law_tape : Fx := defF 5 den_law_tape
theorem sc_law_tape : FnScope N_law_tape ["script", "first"] (defScope s_law_tape) := ⟨rfl, rfl, rfl, by decide +kernel, rfl, by decide +kernel, by decide +kernel⟩
theorem ok_law_tape {f : Addr} {fd : FuncData} (F : L2.Fun T.K "_law_tape" "_law_tape" s_law_tape f fd) (Y : Env1 T) : FnS T.P T.w T.K T.mg T.base (L2.CX T.P T.w) 1 f fd ["script", "first"] (spF ⟨T.K, T.cl⟩ 2 F_law_tape) := by
  obtain ⟨hB, hS, hX, hE, hE0, hI⟩ := Y
  have nd := sc_law_tape.nd
  refine def_ok (k := 0) (N := N_law_tape) (den := den_law_tape) F sc_law_tape rfl fun cdv A outer s H E hgd hr => ?_
  have hu := hr.units
  have hu1 := Nat.lt_of_le_of_lt (Nat.add_le_add_left (by decide : 1 ≤ 64) _) hu
  exact (ess_cons (es_set (i := 2) nd rfl (by first | exact Or.inl rfl | exact Or.inr rfl) (eo_add (ER.of _ ed_int) (ER.of _ (ED.fr (eo_mul (er_var (i := 1) rfl (by first | exact Or.inl rfl | exact Or.inr (Or.inl rfl) | exact Or.inr (Or.inr rfl))) (ER.of _ ed_int))))))
      (ess_cons (es_for own_fn rfl (ei_list (ed_var (i := 0) rfl (by first | exact Or.inl rfl | exact Or.inr (Or.inl rfl) | exact Or.inr (Or.inr rfl)))) (pg_name (i := 3) nd rfl (by first | exact Or.inl rfl | exact Or.inr rfl)) (ess_one (es_set (i := 2) nd rfl (by first | exact Or.inl rfl | exact Or.inr rfl) (eo_add (ER.of _ (ed_mod (ER.of _ (c_int rfl (hB "int" (by decide)) (ea_cons (ER.of _ (ed_pow (ER.of _ (ED.fr (eo_add (ER.of _ (ED.fr (eo_add (ER.of _ (ED.fr (eo_mul (er_var (i := 2) rfl (by first | exact Or.inl rfl | exact Or.inr (Or.inl rfl) | exact Or.inr (Or.inr rfl))) (ER.of _ ed_int)))) (ER.of _ (ED.fr (eo_mul (er_var (i := 3) rfl (by first | exact Or.inl rfl | exact Or.inr (Or.inl rfl) | exact Or.inr (Or.inr rfl))) (er_var (i := 3) rfl (by first | exact Or.inl rfl | exact Or.inr (Or.inl rfl) | exact Or.inr (Or.inr rfl))))))))) (ER.of _ ed_int)))) (ER.of _ ed_int))) ea_nil))) (ER.of _ ed_int))) (ER.of _ ed_int)))))
      (ess_cons (es_set (i := 4) nd rfl (by first | exact Or.inl rfl | exact Or.inr rfl) (EO.of _ (ex_if rD_back (et_w (ew_and (t_lt (nomark _) (er_var (i := 1) rfl (by first | exact Or.inl rfl | exact Or.inr (Or.inl rfl) | exact Or.inr (Or.inr rfl))) (ER.of _ (c_len rfl (hB "len" (by decide)) (ea_cons (er_var (i := 0) rfl (by first | exact Or.inl rfl | exact Or.inr (Or.inl rfl) | exact Or.inr (Or.inr rfl))) ea_nil)))) (ew_and1 (t_ge (nomark _) (ER.of _ (ed_ix (er_var (i := 0) rfl (by first | exact Or.inl rfl | exact Or.inr (Or.inl rfl) | exact Or.inr (Or.inr rfl))) (er_var (i := 1) rfl (by first | exact Or.inl rfl | exact Or.inr (Or.inl rfl) | exact Or.inr (Or.inr rfl))) (fun _ _ => rfl))) (ER.of _ (ed_pow (ER.of _ ed_int) (ER.of _ ed_int))))))) (ed_sub (ER.of _ (ed_ix (er_var (i := 0) rfl (by first | exact Or.inl rfl | exact Or.inr (Or.inl rfl) | exact Or.inr (Or.inr rfl))) (er_var (i := 1) rfl (by first | exact Or.inl rfl | exact Or.inr (Or.inl rfl) | exact Or.inr (Or.inr rfl))) (fun _ _ => rfl))) (ER.of _ (ed_pow (ER.of _ ed_int) (ER.of _ ed_int)))) ed_int)))
      (ess_one (es_ret (eo_dict (ps := [((eC (.str "digits")), (eVar 4)), ((eC (.str "mixed")), (eVar 2))]) (pps_cons ed_str (ed_var (i := 4) rfl (by first | exact Or.inl rfl | exact Or.inr (Or.inl rfl) | exact Or.inr (Or.inr rfl))) (pps_cons ed_str (ed_var (i := 2) rfl (by first | exact Or.inl rfl | exact Or.inr (Or.inl rfl) | exact Or.inr (Or.inr rfl))) pps_nil)) rfl rfl (by simp) (by decide)))))))

abbrev s_law_pick : Stmt := top 23
def N_law_pick : List Str := ["tape", "many", "found", "once"]
def den_law_pick : S := (sSeq (sIf (eT (eBinD fGe (M.map Rf.d (eBinD fDGet (rVar 0) (M.map Rf.d (eC (.str "digits"))))) (rVar 1))) (sSeq (sSet 2 2 (M.map O.dat (eBinD fMod (M.map Rf.d (eFun fInt (aCons (M.map Rf.d (eBinD fDGet (rVar 0) (M.map Rf.d (eC (.str "digits"))))) aNil))) (rVar 1))))
    (sSeq (sDPutS (rVar 0) (M.map Rf.d (eC (.str "digits"))) (eBinD fDiv (M.map Rf.d (eBinD fDGet (rVar 0) (M.map Rf.d (eC (.str "digits"))))) (rVar 1)))
    (sRet (M.map O.dat (eVar 2))))) sPass)
    (sSeq (sDPutS (rVar 0) (M.map Rf.d (eC (.str "mixed"))) (eBinD fMod (M.map Rf.d (eFun fInt (aCons (M.map Rf.d (eBin fAdd (M.map Rf.d (eBin fMul (M.map Rf.d (eBinD fDGet (rVar 0) (M.map Rf.d (eC (.str "mixed"))))) (M.map Rf.d (eC (.int 40014)))).fr) (M.map Rf.d (eC (.int 1031)))).fr) aNil))) (M.map Rf.d (eC (.int 2147483563)))))
    (sSeq (sSet 2 3 (M.map O.dat (eBinD fMod (M.map Rf.d (eFun fInt (aCons (M.map Rf.d (eBinD fPow (M.map Rf.d (eBinD fDGet (rVar 0) (M.map Rf.d (eC (.str "mixed"))))) (M.map Rf.d (eC (.int 2))))) aNil))) (M.map Rf.d (eC (.int 2147483399))))))
    (sRet (M.map O.dat (eBinD fMod (M.map Rf.d (eFun fInt (aCons (M.map Rf.d (eBinD fDiv (M.map Rf.d (eBinD fMod (M.map Rf.d (eFun fInt (aCons (M.map Rf.d (eBinD fPow (rVar 3) (M.map Rf.d (eC (.int 3))))) aNil))) (M.map Rf.d (eC (.int 998244353))))) (M.map Rf.d (eC (.int 13))))) aNil))) (rVar 1)))))))
def F_law_pick : Fx := defF 4 den_law_pick
theorem sc_law_pick : FnScope N_law_pick ["tape", "many"] (defScope s_law_pick) := ⟨rfl, rfl, rfl, by decide +kernel, rfl, by decide +kernel, by decide +kernel⟩
theorem ok_law_pick {f : Addr} {fd : FuncData} (F : L2.Fun T.K "_law_pick" "_law_pick" s_law_pick f fd) (Y : Env1 T) : FnS T.P T.w T.K T.mg T.base (L2.CX T.P T.w) 1 f fd ["tape", "many"] (spF ⟨T.K, T.cl⟩ 2 F_law_pick) := by
  obtain ⟨hB, hS, hX, hE, hE0, hI⟩ := Y
  have nd := sc_law_pick.nd
  refine def_ok (k := 0) (N := N_law_pick) (den := den_law_pick) F sc_law_pick rfl fun cdv A outer s H E hgd hr => ?_
  have hu := hr.units
  have hu1 := Nat.lt_of_le_of_lt (Nat.add_le_add_left (by decide : 1 ≤ 64) _) hu
  exact (ess_cons (es_if (t_ge (nomark _) (ER.of _ (ed_dget hu1 (er_var (i := 0) rfl (by first | exact Or.inl rfl | exact Or.inr (Or.inl rfl) | exact Or.inr (Or.inr rfl))) (ER.of _ ed_str) (fun _ _ => rfl))) (er_var (i := 1) rfl (by first | exact Or.inl rfl | exact Or.inr (Or.inl rfl) | exact Or.inr (Or.inr rfl)))) (ess_cons (es_set (i := 2) nd rfl (by first | exact Or.inl rfl | exact Or.inr rfl) (EO.of _ (ed_mod (ER.of _ (c_int rfl (hB "int" (by decide)) (ea_cons (ER.of _ (ed_dget hu1 (er_var (i := 0) rfl (by first | exact Or.inl rfl | exact Or.inr (Or.inl rfl) | exact Or.inr (Or.inr rfl))) (ER.of _ ed_str) (fun _ _ => rfl))) ea_nil))) (er_var (i := 1) rfl (by first | exact Or.inl rfl | exact Or.inr (Or.inl rfl) | exact Or.inr (Or.inr rfl))))))
      (ess_cons (es_dput hu1 (er_var (i := 0) rfl (by first | exact Or.inl rfl | exact Or.inr (Or.inl rfl) | exact Or.inr (Or.inr rfl))) (ER.of _ ed_str) (ed_div (ER.of _ (ed_dget hu1 (er_var (i := 0) rfl (by first | exact Or.inl rfl | exact Or.inr (Or.inl rfl) | exact Or.inr (Or.inr rfl))) (ER.of _ ed_str) (fun _ _ => rfl))) (er_var (i := 1) rfl (by first | exact Or.inl rfl | exact Or.inr (Or.inl rfl) | exact Or.inr (Or.inr rfl)))))
      (ess_one (es_ret (EO.of _ (ed_var (i := 2) rfl (by first | exact Or.inl rfl | exact Or.inr (Or.inl rfl) | exact Or.inr (Or.inr rfl)))))))) ess_nil)
      (ess_cons (es_dput hu1 (er_var (i := 0) rfl (by first | exact Or.inl rfl | exact Or.inr (Or.inl rfl) | exact Or.inr (Or.inr rfl))) (ER.of _ ed_str) (ed_mod (ER.of _ (c_int rfl (hB "int" (by decide)) (ea_cons (ER.of _ (ED.fr (eo_add (ER.of _ (ED.fr (eo_mul (ER.of _ (ed_dget hu1 (er_var (i := 0) rfl (by first | exact Or.inl rfl | exact Or.inr (Or.inl rfl) | exact Or.inr (Or.inr rfl))) (ER.of _ ed_str) (fun _ _ => rfl))) (ER.of _ ed_int)))) (ER.of _ ed_int)))) ea_nil))) (ER.of _ ed_int)))
      (ess_cons (es_set (i := 3) nd rfl (by first | exact Or.inl rfl | exact Or.inr rfl) (EO.of _ (ed_mod (ER.of _ (c_int rfl (hB "int" (by decide)) (ea_cons (ER.of _ (ed_pow (ER.of _ (ed_dget hu1 (er_var (i := 0) rfl (by first | exact Or.inl rfl | exact Or.inr (Or.inl rfl) | exact Or.inr (Or.inr rfl))) (ER.of _ ed_str) (fun _ _ => rfl))) (ER.of _ ed_int))) ea_nil))) (ER.of _ ed_int))))
      (ess_one (es_ret (EO.of _ (ed_mod (ER.of _ (c_int rfl (hB "int" (by decide)) (ea_cons (ER.of _ (ed_div (ER.of _ (ed_mod (ER.of _ (c_int rfl (hB "int" (by decide)) (ea_cons (ER.of _ (ed_pow (er_var (i := 3) rfl (by first | exact Or.inl rfl | exact Or.inr (Or.inl rfl) | exact Or.inr (Or.inr rfl))) (ER.of _ ed_int))) ea_nil))) (ER.of _ ed_int))) (ER.of _ ed_int))) ea_nil))) (er_var (i := 1) rfl (by first | exact Or.inl rfl | exact Or.inr (Or.inl rfl) | exact Or.inr (Or.inr rfl))))))))))

abbrev s_law_one_of : Stmt := top 24
def N_law_one_of : List Str := ["tape", "things"]
def den_law_one_of : S := (sRet (M.map O.dat (eBinD fIx (rVar 1) (M.map Rf.d (eCall F_law_pick (aCons (rVar 0) (aCons (M.map Rf.d (eFun fLen (aCons (rVar 1) aNil))) aNil))).fr))))
def F_law_one_of : Fx := defF 2 den_law_one_of
theorem sc_law_one_of : FnScope N_law_one_of ["tape", "things"] (defScope s_law_one_of) := ⟨rfl, rfl, rfl, by decide +kernel, rfl, by decide +kernel, by decide +kernel⟩
theorem ok_law_one_of {f : Addr} {fd : FuncData} (F : L2.Fun T.K "_law_one_of" "_law_one_of" s_law_one_of f fd) (Y : Env1 T) (c_law_pick : Cal T 1 2 "_law_pick" F_law_pick) : FnS T.P T.w T.K T.mg T.base (L2.CX T.P T.w) 2 f fd ["tape", "things"] (spF ⟨T.K, T.cl⟩ 2 F_law_one_of) := by
  obtain ⟨hB, hS, hX, hE, hE0, hI⟩ := Y
  have nd := sc_law_one_of.nd
  refine def_ok (k := 1) (N := N_law_one_of) (den := den_law_one_of) F sc_law_one_of rfl fun cdv A outer s H E hgd hr => ?_
  have hu := hr.units
  have hu1 := Nat.lt_of_le_of_lt (Nat.add_le_add_left (by decide : 1 ≤ 64) _) hu
  exact (ess_one (es_ret (EO.of _ (ed_ix (er_var (i := 1) rfl (by first | exact Or.inl rfl | exact Or.inr (Or.inl rfl) | exact Or.inr (Or.inr rfl))) (ER.of _ (ED.fr (c_call c_law_pick thru_fn hgd (hr.mono (by decide)) rfl (ea_cons (er_var (i := 0) rfl (by first | exact Or.inl rfl | exact Or.inr (Or.inl rfl) | exact Or.inr (Or.inr rfl))) (ea_cons (ER.of _ (c_len rfl (hB "len" (by decide)) (ea_cons (er_var (i := 1) rfl (by first | exact Or.inl rfl | exact Or.inr (Or.inl rfl) | exact Or.inr (Or.inr rfl))) ea_nil))) ea_nil)) (alen1 (alen1 alen0))))) (fun _ _ => rfl)))))

abbrev s_law_any : Stmt := top 25
def N_law_any : List Str := ["tape", "some"]
def den_law_any : S := (sSeq (sSet 1 1 (eLst (lCons (eC .non) (lCons (eC (.bl true)) (lCons (eC (.bl false)) (lCons (eC (.int 0)) (lCons (eC (.int 1)) (lCons (eC (.int 2)) (lCons (eC (.int 7)) (lCons (eBinD fSub (M.map Rf.d (eC (.int 0))) (M.map Rf.d (eC (.int 1)))) (lCons (eBinD fPow (M.map Rf.d (eC (.int 10))) (M.map Rf.d (eC (.int 39)))) (lCons (eC (.str "")) (lCons (eC (.str "a")) (lCons (eC (.str "ann")) (lCons (eC (.str "A")) (lCons (eC (.str "a b")) (lCons (eTup lNil) (lCons (eLst lNil).fr (lCons eDict0.fr (lCons (eTup (lCons (eC (.int 0)) lNil)) (lCons (eLst (lCons (eC (.int 0)) lNil)).fr (lCons (eDict [((eC (.str "a")), (eC (.int 1)))]).fr (lCons (eTup (lCons (eC (.str "a")) lNil)) (lCons (eTup (lCons (eC (.str "a")) (lCons (eC (.str "b")) lNil))) (lCons (eTup (lCons (eC (.str "ann")) (lCons (eC (.str "bob")) lNil))) lNil)))))))))))))))))))))))))
    (sSeq (sSet 1 1 (eBin fAdd (rVar 1) (M.map Rf.d (eLst (lCons (eLst (lCons (eC (.str "a")) lNil)).fr (lCons (eLst (lCons (eC .non) lNil)).fr (lCons (eLst (lCons (eC (.str "ann")) lNil)).fr (lCons (eTup (lCons (eC (.str "size")) lNil)) (lCons (eTup (lCons (eC (.str "chance")) (lCons (eTup (lCons (eC (.str "a")) lNil)) lNil))) (lCons (eTup (lCons (eC (.str "sure")) (lCons (eTup lNil) lNil))) (lCons (eTup (lCons (eTup (lCons (eC (.str "a")) lNil)) lNil)) (lCons (eTup (lCons (eTup (lCons (eC (.int 1)) (lCons (eC (.int 2)) lNil))) (lCons (eTup (lCons (eC (.str "a")) lNil)) lNil))) (lCons (eLst (lCons (eTup (lCons (eC (.str "ann")) (lCons (eC (.str "a")) lNil))) lNil)).fr (lCons (eLst (lCons (eTup (lCons (eC (.str "ann")) (lCons (eC (.str "bob")) lNil))) lNil)).fr lNil))))))))))).fr)))
    (sRet (eCall F_law_one_of (aCons (rVar 0) (aCons (M.map Rf.d (eBin fAdd (rVar 1) (M.map Rf.d (eLst (lCons (eTup (lCons (eC (.str "ann")) (lCons (eTup (lCons (eTup (lCons (eC (.str "a")) lNil)) lNil)) lNil))) (lCons (eTup (lCons (eTup (lCons (eC (.str "a")) lNil)) (lCons (eTup (lCons (eC (.str "b")) lNil)) lNil))) (lCons (eTup (lCons (eC (.str "say")) (lCons (eC (.str "ann")) (lCons (eTup (lCons (eC (.str "size")) lNil)) lNil)))) (lCons (eC (.str "worlds a")) (lCons (eDict [((eC (.str "ann")), (eLst (lCons (eTup (lCons (eC (.str "a")) lNil)) lNil)).fr)]).fr (lCons (eTup (lCons (eC (.str "b")) (lCons (eC (.str "a")) lNil))) (lCons (eTup (lCons (eC .non) lNil)) (lCons (eLst (lCons (eLst lNil).fr lNil)).fr lNil))))))))).fr)).fr) aNil))))))
def F_law_any : Fx := defF 2 den_law_any
theorem sc_law_any : FnScope N_law_any ["tape"] (defScope s_law_any) := ⟨rfl, rfl, rfl, by decide +kernel, rfl, by decide +kernel, by decide +kernel⟩
theorem ok_law_any {f : Addr} {fd : FuncData} (F : L2.Fun T.K "_law_any" "_law_any" s_law_any f fd) (Y : Env1 T) (c_law_one_of : Cal T 2 2 "_law_one_of" F_law_one_of) : FnS T.P T.w T.K T.mg T.base (L2.CX T.P T.w) 3 f fd ["tape"] (spF ⟨T.K, T.cl⟩ 1 F_law_any) := by
  obtain ⟨hB, hS, hX, hE, hE0, hI⟩ := Y
  have nd := sc_law_any.nd
  refine def_ok (k := 2) (N := N_law_any) (den := den_law_any) F sc_law_any rfl fun cdv A outer s H E hgd hr => ?_
  have hu := hr.units
  have hu1 := Nat.lt_of_le_of_lt (Nat.add_le_add_left (by decide : 1 ≤ 64) _) hu
  exact (ess_cons (es_set (i := 1) nd rfl (by first | exact Or.inl rfl | exact Or.inr rfl) (eo_lst (el_cons ed_non (el_cons ed_bl (el_cons ed_bl (el_cons ed_int (el_cons ed_int (el_cons ed_int (el_cons ed_int (el_cons (ed_sub (ER.of _ ed_int) (ER.of _ ed_int)) (el_cons (ed_pow (ER.of _ ed_int) (ER.of _ ed_int)) (el_cons ed_str (el_cons ed_str (el_cons ed_str (el_cons ed_str (el_cons ed_str (el_cons (ed_tup el_nil) (el_cons (ED.fr (eo_lst el_nil)) (el_cons (ED.fr eo_dict0) (el_cons (ed_tup (el_cons ed_int el_nil)) (el_cons (ED.fr (eo_lst (el_cons ed_int el_nil))) (el_cons (ED.fr (eo_dict (ps := [((eC (.str "a")), (eC (.int 1)))]) (pps_cons ed_str ed_int pps_nil) rfl rfl (by simp) (by decide))) (el_cons (ed_tup (el_cons ed_str el_nil)) (el_cons (ed_tup (el_cons ed_str (el_cons ed_str el_nil))) (el_cons (ed_tup (el_cons ed_str (el_cons ed_str el_nil))) el_nil)))))))))))))))))))))))))
      (ess_cons (es_set (i := 1) nd rfl (by first | exact Or.inl rfl | exact Or.inr rfl) (eo_add (er_var (i := 1) rfl (by first | exact Or.inl rfl | exact Or.inr (Or.inl rfl) | exact Or.inr (Or.inr rfl))) (ER.of _ (ED.fr (eo_lst (el_cons (ED.fr (eo_lst (el_cons ed_str el_nil))) (el_cons (ED.fr (eo_lst (el_cons ed_non el_nil))) (el_cons (ED.fr (eo_lst (el_cons ed_str el_nil))) (el_cons (ed_tup (el_cons ed_str el_nil)) (el_cons (ed_tup (el_cons ed_str (el_cons (ed_tup (el_cons ed_str el_nil)) el_nil))) (el_cons (ed_tup (el_cons ed_str (el_cons (ed_tup el_nil) el_nil))) (el_cons (ed_tup (el_cons (ed_tup (el_cons ed_str el_nil)) el_nil)) (el_cons (ed_tup (el_cons (ed_tup (el_cons ed_int (el_cons ed_int el_nil))) (el_cons (ed_tup (el_cons ed_str el_nil)) el_nil))) (el_cons (ED.fr (eo_lst (el_cons (ed_tup (el_cons ed_str (el_cons ed_str el_nil))) el_nil))) (el_cons (ED.fr (eo_lst (el_cons (ed_tup (el_cons ed_str (el_cons ed_str el_nil))) el_nil))) el_nil)))))))))))))))
      (ess_one (es_ret (c_call c_law_one_of thru_fn hgd (hr.mono (by decide)) rfl (ea_cons (er_var (i := 0) rfl (by first | exact Or.inl rfl | exact Or.inr (Or.inl rfl) | exact Or.inr (Or.inr rfl))) (ea_cons (ER.of _ (ED.fr (eo_add (er_var (i := 1) rfl (by first | exact Or.inl rfl | exact Or.inr (Or.inl rfl) | exact Or.inr (Or.inr rfl))) (ER.of _ (ED.fr (eo_lst (el_cons (ed_tup (el_cons ed_str (el_cons (ed_tup (el_cons (ed_tup (el_cons ed_str el_nil)) el_nil)) el_nil))) (el_cons (ed_tup (el_cons (ed_tup (el_cons ed_str el_nil)) (el_cons (ed_tup (el_cons ed_str el_nil)) el_nil))) (el_cons (ed_tup (el_cons ed_str (el_cons ed_str (el_cons (ed_tup (el_cons ed_str el_nil)) el_nil)))) (el_cons ed_str (el_cons (ED.fr (eo_dict (ps := [((eC (.str "ann")), (eLst (lCons (eTup (lCons (eC (.str "a")) lNil)) lNil)).fr)]) (pps_cons ed_str (ED.fr (eo_lst (el_cons (ed_tup (el_cons ed_str el_nil)) el_nil))) pps_nil) rfl rfl (by simp) (by decide))) (el_cons (ed_tup (el_cons ed_str (el_cons ed_str el_nil))) (el_cons (ed_tup (el_cons ed_non el_nil)) (el_cons (ED.fr (eo_lst (el_cons (ED.fr (eo_lst el_nil)) el_nil))) el_nil)))))))))))))) ea_nil)) (alen1 (alen1 alen0)))))))

abbrev s_law_of_values : Stmt := top 26
def N_law_of_values : List Str := ["thing", "found"]
def den_law_of_values : S := (sSeq (sSet 1 1 (eLst (lCons (eEx "BadWorlds" "value" (eVar 0)) (lCons (eEx "BadWorlds" "value" (eVar 0)) (lCons (eEx "BadWeights" "value" (eVar 0)) (lCons (eEx "BadWeights" "value" (eVar 0)) (lCons (eEx "BadPeople" "value" (eVar 0)) (lCons (eEx "BadPeople" "value" (eVar 0)) lNil))))))))
    (sSeq (sSet 1 1 (eBin fAdd (rVar 1) (M.map Rf.d (eLst (lCons (eEx "NoPerson" "value" (eVar 0)) (lCons (eEx "NoPerson" "value" (eVar 0)) (lCons (eEx "NoWorld" "value" (eVar 0)) (lCons (eEx "NoWorld" "value" (eVar 0)) (lCons (eEx "NoSet" "value" (eVar 0)) (lCons (eEx "NoSet" "value" (eVar 0)) lNil))))))).fr)))
    (sSeq (sSet 1 1 (eBin fAdd (rVar 1) (M.map Rf.d (eLst (lCons (eEx "BadEvent" "value" (eVar 0)) (lCons (eEx "BadEvent" "value" (eVar 0)) (lCons (eEx "BadRule" "value" (eVar 0)) (lCons (eEx "BadRule" "value" (eVar 0)) (lCons (eEx "BadOrder" "value" (eVar 0)) (lCons (eEx "BadOrder" "value" (eVar 0)) lNil))))))).fr)))
    (sSeq (sSet 1 1 (eBin fAdd (rVar 1) (M.map Rf.d (eLst (lCons (eEx "BadWeb" "value" (eVar 0)) (lCons (eEx "BadWeb" "value" (eVar 0)) (lCons (eEx "BadNumber" "value" (eVar 0)) (lCons (eEx "BadNumber" "value" (eVar 0)) (lCons (eEx "BadCells" "value" (eVar 0)) (lCons (eEx "BadCells" "value" (eVar 0)) lNil))))))).fr)))
    (sRet (eBin fAdd (rVar 1) (M.map Rf.d (eLst (lCons (eEx "BadName" "value" (eVar 0)) (lCons (eEx "BadName" "value" (eVar 0)) lNil))).fr)))))))
def F_law_of_values : Fx := defF 2 den_law_of_values
theorem sc_law_of_values : FnScope N_law_of_values ["thing"] (defScope s_law_of_values) := ⟨rfl, rfl, rfl, by decide +kernel, rfl, by decide +kernel, by decide +kernel⟩
theorem ok_law_of_values {f : Addr} {fd : FuncData} (F : L2.Fun T.K "_law_of_values" "_law_of_values" s_law_of_values f fd) (Y : Env1 T) : FnS T.P T.w T.K T.mg T.base (L2.CX T.P T.w) 3 f fd ["thing"] (spF ⟨T.K, T.cl⟩ 1 F_law_of_values) := by
  obtain ⟨hB, hS, hX, hE, hE0, hI⟩ := Y
  have nd := sc_law_of_values.nd
  refine def_ok (k := 2) (N := N_law_of_values) (den := den_law_of_values) F sc_law_of_values rfl fun cdv A outer s H E hgd hr => ?_
  have hu := hr.units
  have hu1 := Nat.lt_of_le_of_lt (Nat.add_le_add_left (by decide : 1 ≤ 64) _) hu
  exact (ess_cons (es_set (i := 1) nd rfl (by first | exact Or.inl rfl | exact Or.inr rfl) (eo_lst (el_cons (c_exK (hE "BadWorlds" "value" (by decide)) (hr.mono (by decide)) hgd rfl (ed_var (i := 0) rfl (by first | exact Or.inl rfl | exact Or.inr (Or.inl rfl) | exact Or.inr (Or.inr rfl)))) (el_cons (c_exV (hE "BadWorlds" "value" (by decide)) (hr.mono (by decide)) hgd rfl (ed_var (i := 0) rfl (by first | exact Or.inl rfl | exact Or.inr (Or.inl rfl) | exact Or.inr (Or.inr rfl)))) (el_cons (c_exK (hE "BadWeights" "value" (by decide)) (hr.mono (by decide)) hgd rfl (ed_var (i := 0) rfl (by first | exact Or.inl rfl | exact Or.inr (Or.inl rfl) | exact Or.inr (Or.inr rfl)))) (el_cons (c_exV (hE "BadWeights" "value" (by decide)) (hr.mono (by decide)) hgd rfl (ed_var (i := 0) rfl (by first | exact Or.inl rfl | exact Or.inr (Or.inl rfl) | exact Or.inr (Or.inr rfl)))) (el_cons (c_exK (hE "BadPeople" "value" (by decide)) (hr.mono (by decide)) hgd rfl (ed_var (i := 0) rfl (by first | exact Or.inl rfl | exact Or.inr (Or.inl rfl) | exact Or.inr (Or.inr rfl)))) (el_cons (c_exV (hE "BadPeople" "value" (by decide)) (hr.mono (by decide)) hgd rfl (ed_var (i := 0) rfl (by first | exact Or.inl rfl | exact Or.inr (Or.inl rfl) | exact Or.inr (Or.inr rfl)))) el_nil))))))))
      (ess_cons (es_set (i := 1) nd rfl (by first | exact Or.inl rfl | exact Or.inr rfl) (eo_add (er_var (i := 1) rfl (by first | exact Or.inl rfl | exact Or.inr (Or.inl rfl) | exact Or.inr (Or.inr rfl))) (ER.of _ (ED.fr (eo_lst (el_cons (c_exK (hE "NoPerson" "value" (by decide)) (hr.mono (by decide)) hgd rfl (ed_var (i := 0) rfl (by first | exact Or.inl rfl | exact Or.inr (Or.inl rfl) | exact Or.inr (Or.inr rfl)))) (el_cons (c_exV (hE "NoPerson" "value" (by decide)) (hr.mono (by decide)) hgd rfl (ed_var (i := 0) rfl (by first | exact Or.inl rfl | exact Or.inr (Or.inl rfl) | exact Or.inr (Or.inr rfl)))) (el_cons (c_exK (hE "NoWorld" "value" (by decide)) (hr.mono (by decide)) hgd rfl (ed_var (i := 0) rfl (by first | exact Or.inl rfl | exact Or.inr (Or.inl rfl) | exact Or.inr (Or.inr rfl)))) (el_cons (c_exV (hE "NoWorld" "value" (by decide)) (hr.mono (by decide)) hgd rfl (ed_var (i := 0) rfl (by first | exact Or.inl rfl | exact Or.inr (Or.inl rfl) | exact Or.inr (Or.inr rfl)))) (el_cons (c_exK (hE "NoSet" "value" (by decide)) (hr.mono (by decide)) hgd rfl (ed_var (i := 0) rfl (by first | exact Or.inl rfl | exact Or.inr (Or.inl rfl) | exact Or.inr (Or.inr rfl)))) (el_cons (c_exV (hE "NoSet" "value" (by decide)) (hr.mono (by decide)) hgd rfl (ed_var (i := 0) rfl (by first | exact Or.inl rfl | exact Or.inr (Or.inl rfl) | exact Or.inr (Or.inr rfl)))) el_nil)))))))))))
      (ess_cons (es_set (i := 1) nd rfl (by first | exact Or.inl rfl | exact Or.inr rfl) (eo_add (er_var (i := 1) rfl (by first | exact Or.inl rfl | exact Or.inr (Or.inl rfl) | exact Or.inr (Or.inr rfl))) (ER.of _ (ED.fr (eo_lst (el_cons (c_exK (hE "BadEvent" "value" (by decide)) (hr.mono (by decide)) hgd rfl (ed_var (i := 0) rfl (by first | exact Or.inl rfl | exact Or.inr (Or.inl rfl) | exact Or.inr (Or.inr rfl)))) (el_cons (c_exV (hE "BadEvent" "value" (by decide)) (hr.mono (by decide)) hgd rfl (ed_var (i := 0) rfl (by first | exact Or.inl rfl | exact Or.inr (Or.inl rfl) | exact Or.inr (Or.inr rfl)))) (el_cons (c_exK (hE "BadRule" "value" (by decide)) (hr.mono (by decide)) hgd rfl (ed_var (i := 0) rfl (by first | exact Or.inl rfl | exact Or.inr (Or.inl rfl) | exact Or.inr (Or.inr rfl)))) (el_cons (c_exV (hE "BadRule" "value" (by decide)) (hr.mono (by decide)) hgd rfl (ed_var (i := 0) rfl (by first | exact Or.inl rfl | exact Or.inr (Or.inl rfl) | exact Or.inr (Or.inr rfl)))) (el_cons (c_exK (hE "BadOrder" "value" (by decide)) (hr.mono (by decide)) hgd rfl (ed_var (i := 0) rfl (by first | exact Or.inl rfl | exact Or.inr (Or.inl rfl) | exact Or.inr (Or.inr rfl)))) (el_cons (c_exV (hE "BadOrder" "value" (by decide)) (hr.mono (by decide)) hgd rfl (ed_var (i := 0) rfl (by first | exact Or.inl rfl | exact Or.inr (Or.inl rfl) | exact Or.inr (Or.inr rfl)))) el_nil)))))))))))
      (ess_cons (es_set (i := 1) nd rfl (by first | exact Or.inl rfl | exact Or.inr rfl) (eo_add (er_var (i := 1) rfl (by first | exact Or.inl rfl | exact Or.inr (Or.inl rfl) | exact Or.inr (Or.inr rfl))) (ER.of _ (ED.fr (eo_lst (el_cons (c_exK (hE "BadWeb" "value" (by decide)) (hr.mono (by decide)) hgd rfl (ed_var (i := 0) rfl (by first | exact Or.inl rfl | exact Or.inr (Or.inl rfl) | exact Or.inr (Or.inr rfl)))) (el_cons (c_exV (hE "BadWeb" "value" (by decide)) (hr.mono (by decide)) hgd rfl (ed_var (i := 0) rfl (by first | exact Or.inl rfl | exact Or.inr (Or.inl rfl) | exact Or.inr (Or.inr rfl)))) (el_cons (c_exK (hE "BadNumber" "value" (by decide)) (hr.mono (by decide)) hgd rfl (ed_var (i := 0) rfl (by first | exact Or.inl rfl | exact Or.inr (Or.inl rfl) | exact Or.inr (Or.inr rfl)))) (el_cons (c_exV (hE "BadNumber" "value" (by decide)) (hr.mono (by decide)) hgd rfl (ed_var (i := 0) rfl (by first | exact Or.inl rfl | exact Or.inr (Or.inl rfl) | exact Or.inr (Or.inr rfl)))) (el_cons (c_exK (hE "BadCells" "value" (by decide)) (hr.mono (by decide)) hgd rfl (ed_var (i := 0) rfl (by first | exact Or.inl rfl | exact Or.inr (Or.inl rfl) | exact Or.inr (Or.inr rfl)))) (el_cons (c_exV (hE "BadCells" "value" (by decide)) (hr.mono (by decide)) hgd rfl (ed_var (i := 0) rfl (by first | exact Or.inl rfl | exact Or.inr (Or.inl rfl) | exact Or.inr (Or.inr rfl)))) el_nil)))))))))))
      (ess_one (es_ret (eo_add (er_var (i := 1) rfl (by first | exact Or.inl rfl | exact Or.inr (Or.inl rfl) | exact Or.inr (Or.inr rfl))) (ER.of _ (ED.fr (eo_lst (el_cons (c_exK (hE "BadName" "value" (by decide)) (hr.mono (by decide)) hgd rfl (ed_var (i := 0) rfl (by first | exact Or.inl rfl | exact Or.inr (Or.inl rfl) | exact Or.inr (Or.inr rfl)))) (el_cons (c_exV (hE "BadName" "value" (by decide)) (hr.mono (by decide)) hgd rfl (ed_var (i := 0) rfl (by first | exact Or.inl rfl | exact Or.inr (Or.inl rfl) | exact Or.inr (Or.inr rfl)))) el_nil))))))))))))

abbrev s_law_of_others : Stmt := top 27
def N_law_of_others : List Str := ["thing"]
def den_law_of_others : S := (sRet (eLst (lCons (eEx "BadPerson" "number" (eVar 0)) (lCons (eEx "BadPerson" "number" (eVar 0)) (lCons (eEx "NamedTwice" "name" (eVar 0)) (lCons (eEx "NamedTwice" "name" (eVar 0)) (lCons (eEx "BadLine" "line" (eVar 0)) (lCons (eEx "BadLine" "line" (eVar 0)) lNil))))))))
def F_law_of_others : Fx := defF 1 den_law_of_others
theorem sc_law_of_others : FnScope N_law_of_others ["thing"] (defScope s_law_of_others) := ⟨rfl, rfl, rfl, by decide +kernel, rfl, by decide +kernel, by decide +kernel⟩
theorem ok_law_of_others {f : Addr} {fd : FuncData} (F : L2.Fun T.K "_law_of_others" "_law_of_others" s_law_of_others f fd) (Y : Env1 T) : FnS T.P T.w T.K T.mg T.base (L2.CX T.P T.w) 3 f fd ["thing"] (spF ⟨T.K, T.cl⟩ 1 F_law_of_others) := by
  obtain ⟨hB, hS, hX, hE, hE0, hI⟩ := Y
  have nd := sc_law_of_others.nd
  refine def_ok (k := 2) (N := N_law_of_others) (den := den_law_of_others) F sc_law_of_others rfl fun cdv A outer s H E hgd hr => ?_
  have hu := hr.units
  have hu1 := Nat.lt_of_le_of_lt (Nat.add_le_add_left (by decide : 1 ≤ 64) _) hu
  exact (ess_one (es_ret (eo_lst (el_cons (c_exK (hE "BadPerson" "number" (by decide)) (hr.mono (by decide)) hgd rfl (ed_var (i := 0) rfl (by first | exact Or.inl rfl | exact Or.inr (Or.inl rfl) | exact Or.inr (Or.inr rfl)))) (el_cons (c_exV (hE "BadPerson" "number" (by decide)) (hr.mono (by decide)) hgd rfl (ed_var (i := 0) rfl (by first | exact Or.inl rfl | exact Or.inr (Or.inl rfl) | exact Or.inr (Or.inr rfl)))) (el_cons (c_exK (hE "NamedTwice" "name" (by decide)) (hr.mono (by decide)) hgd rfl (ed_var (i := 0) rfl (by first | exact Or.inl rfl | exact Or.inr (Or.inl rfl) | exact Or.inr (Or.inr rfl)))) (el_cons (c_exV (hE "NamedTwice" "name" (by decide)) (hr.mono (by decide)) hgd rfl (ed_var (i := 0) rfl (by first | exact Or.inl rfl | exact Or.inr (Or.inl rfl) | exact Or.inr (Or.inr rfl)))) (el_cons (c_exK (hE "BadLine" "line" (by decide)) (hr.mono (by decide)) hgd rfl (ed_var (i := 0) rfl (by first | exact Or.inl rfl | exact Or.inr (Or.inl rfl) | exact Or.inr (Or.inr rfl)))) (el_cons (c_exV (hE "BadLine" "line" (by decide)) (hr.mono (by decide)) hgd rfl (ed_var (i := 0) rfl (by first | exact Or.inl rfl | exact Or.inr (Or.inl rfl) | exact Or.inr (Or.inr rfl)))) el_nil)))))))))

abbrev s_law_kinds : Stmt := top 28
def N_law_kinds : List Str := ["error", "found"]
def den_law_kinds : S := (sSeq (sSet 1 1 (eLst (lCons (eIsi (sub "BadWorlds") (rVar 0)) (lCons (eIsi (sub "BadWeights") (rVar 0)) (lCons (eIsi (sub "BadPeople") (rVar 0)) (lCons (eIsi (sub "NoPerson") (rVar 0)) lNil))))))
    (sSeq (sSet 1 1 (eBin fAdd (rVar 1) (M.map Rf.d (eLst (lCons (eIsi (sub "NoWorld") (rVar 0)) (lCons (eIsi (sub "NoSet") (rVar 0)) (lCons (eIsi (sub "BadEvent") (rVar 0)) (lCons (eIsi (sub "BadRule") (rVar 0)) lNil))))).fr)))
    (sSeq (sSet 1 1 (eBin fAdd (rVar 1) (M.map Rf.d (eLst (lCons (eIsi (sub "BadOrder") (rVar 0)) (lCons (eIsi (sub "BadWeb") (rVar 0)) (lCons (eIsi (sub "BadNumber") (rVar 0)) (lCons (eIsi (sub "BadCells") (rVar 0)) lNil))))).fr)))
    (sSeq (sSet 1 1 (eBin fAdd (rVar 1) (M.map Rf.d (eLst (lCons (eIsi (sub "BadName") (rVar 0)) (lCons (eIsi (sub "BadPerson") (rVar 0)) (lCons (eIsi (sub "NamedTwice") (rVar 0)) (lCons (eIsi (sub "BadLine") (rVar 0)) lNil))))).fr)))
    (sRet (eBin fAdd (rVar 1) (M.map Rf.d (eLst (lCons (eIsi (sub "NotSettled") (rVar 0)) (lCons (eIsi (sub "LastOne") (rVar 0)) (lCons (eIsi (sub "Nothing") (rVar 0)) lNil)))).fr)))))))
def F_law_kinds : Fx := defF 2 den_law_kinds
theorem sc_law_kinds : FnScope N_law_kinds ["error"] (defScope s_law_kinds) := ⟨rfl, rfl, rfl, by decide +kernel, rfl, by decide +kernel, by decide +kernel⟩
theorem ok_law_kinds {f : Addr} {fd : FuncData} (F : L2.Fun T.K "_law_kinds" "_law_kinds" s_law_kinds f fd) (Y : Env1 T) : FnS T.P T.w T.K T.mg T.base (L2.CX T.P T.w) 1 f fd ["error"] (spF ⟨T.K, T.cl⟩ 1 F_law_kinds) := by
  obtain ⟨hB, hS, hX, hE, hE0, hI⟩ := Y
  have nd := sc_law_kinds.nd
  refine def_ok (k := 0) (N := N_law_kinds) (den := den_law_kinds) F sc_law_kinds rfl fun cdv A outer s H E hgd hr => ?_
  have hu := hr.units
  have hu1 := Nat.lt_of_le_of_lt (Nat.add_le_add_left (by decide : 1 ≤ 64) _) hu
  exact (ess_cons (es_set (i := 1) nd rfl (by first | exact Or.inl rfl | exact Or.inr rfl) (eo_lst (el_cons (c_isi (hI "BadWorlds" (by decide)) hX (er_var (i := 0) rfl (by first | exact Or.inl rfl | exact Or.inr (Or.inl rfl) | exact Or.inr (Or.inr rfl))) rfl (hB "isinstance" (by decide)) rfl) (el_cons (c_isi (hI "BadWeights" (by decide)) hX (er_var (i := 0) rfl (by first | exact Or.inl rfl | exact Or.inr (Or.inl rfl) | exact Or.inr (Or.inr rfl))) rfl (hB "isinstance" (by decide)) rfl) (el_cons (c_isi (hI "BadPeople" (by decide)) hX (er_var (i := 0) rfl (by first | exact Or.inl rfl | exact Or.inr (Or.inl rfl) | exact Or.inr (Or.inr rfl))) rfl (hB "isinstance" (by decide)) rfl) (el_cons (c_isi (hI "NoPerson" (by decide)) hX (er_var (i := 0) rfl (by first | exact Or.inl rfl | exact Or.inr (Or.inl rfl) | exact Or.inr (Or.inr rfl))) rfl (hB "isinstance" (by decide)) rfl) el_nil))))))
      (ess_cons (es_set (i := 1) nd rfl (by first | exact Or.inl rfl | exact Or.inr rfl) (eo_add (er_var (i := 1) rfl (by first | exact Or.inl rfl | exact Or.inr (Or.inl rfl) | exact Or.inr (Or.inr rfl))) (ER.of _ (ED.fr (eo_lst (el_cons (c_isi (hI "NoWorld" (by decide)) hX (er_var (i := 0) rfl (by first | exact Or.inl rfl | exact Or.inr (Or.inl rfl) | exact Or.inr (Or.inr rfl))) rfl (hB "isinstance" (by decide)) rfl) (el_cons (c_isi (hI "NoSet" (by decide)) hX (er_var (i := 0) rfl (by first | exact Or.inl rfl | exact Or.inr (Or.inl rfl) | exact Or.inr (Or.inr rfl))) rfl (hB "isinstance" (by decide)) rfl) (el_cons (c_isi (hI "BadEvent" (by decide)) hX (er_var (i := 0) rfl (by first | exact Or.inl rfl | exact Or.inr (Or.inl rfl) | exact Or.inr (Or.inr rfl))) rfl (hB "isinstance" (by decide)) rfl) (el_cons (c_isi (hI "BadRule" (by decide)) hX (er_var (i := 0) rfl (by first | exact Or.inl rfl | exact Or.inr (Or.inl rfl) | exact Or.inr (Or.inr rfl))) rfl (hB "isinstance" (by decide)) rfl) el_nil)))))))))
      (ess_cons (es_set (i := 1) nd rfl (by first | exact Or.inl rfl | exact Or.inr rfl) (eo_add (er_var (i := 1) rfl (by first | exact Or.inl rfl | exact Or.inr (Or.inl rfl) | exact Or.inr (Or.inr rfl))) (ER.of _ (ED.fr (eo_lst (el_cons (c_isi (hI "BadOrder" (by decide)) hX (er_var (i := 0) rfl (by first | exact Or.inl rfl | exact Or.inr (Or.inl rfl) | exact Or.inr (Or.inr rfl))) rfl (hB "isinstance" (by decide)) rfl) (el_cons (c_isi (hI "BadWeb" (by decide)) hX (er_var (i := 0) rfl (by first | exact Or.inl rfl | exact Or.inr (Or.inl rfl) | exact Or.inr (Or.inr rfl))) rfl (hB "isinstance" (by decide)) rfl) (el_cons (c_isi (hI "BadNumber" (by decide)) hX (er_var (i := 0) rfl (by first | exact Or.inl rfl | exact Or.inr (Or.inl rfl) | exact Or.inr (Or.inr rfl))) rfl (hB "isinstance" (by decide)) rfl) (el_cons (c_isi (hI "BadCells" (by decide)) hX (er_var (i := 0) rfl (by first | exact Or.inl rfl | exact Or.inr (Or.inl rfl) | exact Or.inr (Or.inr rfl))) rfl (hB "isinstance" (by decide)) rfl) el_nil)))))))))
      (ess_cons (es_set (i := 1) nd rfl (by first | exact Or.inl rfl | exact Or.inr rfl) (eo_add (er_var (i := 1) rfl (by first | exact Or.inl rfl | exact Or.inr (Or.inl rfl) | exact Or.inr (Or.inr rfl))) (ER.of _ (ED.fr (eo_lst (el_cons (c_isi (hI "BadName" (by decide)) hX (er_var (i := 0) rfl (by first | exact Or.inl rfl | exact Or.inr (Or.inl rfl) | exact Or.inr (Or.inr rfl))) rfl (hB "isinstance" (by decide)) rfl) (el_cons (c_isi (hI "BadPerson" (by decide)) hX (er_var (i := 0) rfl (by first | exact Or.inl rfl | exact Or.inr (Or.inl rfl) | exact Or.inr (Or.inr rfl))) rfl (hB "isinstance" (by decide)) rfl) (el_cons (c_isi (hI "NamedTwice" (by decide)) hX (er_var (i := 0) rfl (by first | exact Or.inl rfl | exact Or.inr (Or.inl rfl) | exact Or.inr (Or.inr rfl))) rfl (hB "isinstance" (by decide)) rfl) (el_cons (c_isi (hI "BadLine" (by decide)) hX (er_var (i := 0) rfl (by first | exact Or.inl rfl | exact Or.inr (Or.inl rfl) | exact Or.inr (Or.inr rfl))) rfl (hB "isinstance" (by decide)) rfl) el_nil)))))))))
      (ess_one (es_ret (eo_add (er_var (i := 1) rfl (by first | exact Or.inl rfl | exact Or.inr (Or.inl rfl) | exact Or.inr (Or.inr rfl))) (ER.of _ (ED.fr (eo_lst (el_cons (c_isi (hI "NotSettled" (by decide)) hX (er_var (i := 0) rfl (by first | exact Or.inl rfl | exact Or.inr (Or.inl rfl) | exact Or.inr (Or.inr rfl))) rfl (hB "isinstance" (by decide)) rfl) (el_cons (c_isi (hI "LastOne" (by decide)) hX (er_var (i := 0) rfl (by first | exact Or.inl rfl | exact Or.inr (Or.inl rfl) | exact Or.inr (Or.inr rfl))) rfl (hB "isinstance" (by decide)) rfl) (el_cons (c_isi (hI "Nothing" (by decide)) hX (er_var (i := 0) rfl (by first | exact Or.inl rfl | exact Or.inr (Or.inl rfl) | exact Or.inr (Or.inr rfl))) rfl (hB "isinstance" (by decide)) rfl) el_nil)))))))))))))

abbrev s_law : Stmt := top 29
def N_law : List Str := ["script", "start", "tape", "thing", "seen", "valued", "others", "one", "fields", "some", "at", "place"]
def den_law : S := (sSeq (sFor 1 (.n 1) (iRange1 (aCons (M.map Rf.d (eFun fMax2 (aCons (M.map Rf.d (eC (.int 1))) (aCons (M.map Rf.d (eFun fMin2 (aCons (M.map Rf.d (eC (.int 3))) (aCons (M.map Rf.d (eFun fLen (aCons (rVar 0) aNil))) aNil)))) aNil)))) aNil)) (sSeq (sSet 1 2 (eCall F_law_tape (aCons (rVar 0) (aCons (rVar 1) aNil))))
    (sSeq (sSet 1 3 (eCall F_law_any (aCons (rVar 2) aNil)))
    (sSeq (sPar 1 [4, 5, 6] (lCons (eFun fRepr (aCons (rVar 3) aNil)) (lCons (eCall F_law_of_values (aCons (rVar 3) aNil)).fr (lCons (eCall F_law_of_others (aCons (rVar 3) aNil)).fr lNil))))
    (sSeq (sIf (mOr (eT (eBinD fNe (M.map Rf.d (eComp [7] (.n 7) (iSeq (eVar 5)) mYes (eFun fRepr (aCons (M.map Rf.d (eAttr "value" (eVar 7))) aNil))).fr) (M.map Rf.d (eBin fMul (M.map Rf.d (eLst (lCons (eVar 4) lNil)).fr) (M.map Rf.d (eC (.int 26)))).fr))) (eT (eBinD fNe (M.map Rf.d (eFun fRepr (aCons (rVar 3) aNil))) (rVar 4)))) (sRet (M.map O.dat (eC (.bl false)))) sPass)
    (sSeq (sSet 1 8 (eBin fAdd (M.map Rf.d (eBin fAdd (M.map Rf.d (eComp [7] (.n 7) (iSeq (eSlice (rVar 6) pNone (pInt (eC (.int 2)))).fr) mYes (eAttr "number" (eVar 7))).fr) (M.map Rf.d (eComp [7] (.n 7) (iSeq (eSlice (rVar 6) (pInt (eC (.int 2))) (pInt (eC (.int 4)))).fr) mYes (eAttr "name" (eVar 7))).fr)).fr) (M.map Rf.d (eComp [7] (.n 7) (iSeq (eSlice (rVar 6) (pInt (eC (.int 4))) pNone).fr) mYes (eAttr "line" (eVar 7))).fr)))
    (sSeq (sIf (eT (eBinD fNe (M.map Rf.d (eComp [7] (.n 7) (iSeq (eVar 8)) mYes (eFun fRepr (aCons (rVar 7) aNil))).fr) (M.map Rf.d (eBin fMul (M.map Rf.d (eLst (lCons (eVar 4) lNil)).fr) (M.map Rf.d (eC (.int 6)))).fr))) (sRet (M.map O.dat (eC (.bl false)))) sPass)
    (sSeq (sSet 1 9 (eBin fAdd (M.map Rf.d (eBin fAdd (M.map Rf.d (ePick (rVar 5) pNone pNone (pInt (eC (.int 2)))).fr) (M.map Rf.d (ePick (rVar 6) pNone pNone (pInt (eC (.int 2)))).fr)).fr) (M.map Rf.d (eLst (lCons (eEx0 "NotSettled") (lCons (eEx0 "LastOne") (lCons (eEx0 "Nothing") lNil)))).fr)))
    (sSeq (sIf (eT (eBinD fNe (M.map Rf.d (eComp [7] (.n 7) (iSeq (eVar 9)) mYes (eCall F_law_kinds (aCons (rVar 7) aNil)).fr).fr) (M.map Rf.d (eComp [11] (.n 11) (iRange1 (aCons (M.map Rf.d (eC (.int 19))) aNil)) mYes (eComp [10] (.n 10) (iRange1 (aCons (M.map Rf.d (eC (.int 19))) aNil)) mYes (eBinD fEq (rVar 10) (rVar 11))).fr).fr))) (sRet (M.map O.dat (eC (.bl false)))) sPass)
    (sIf (eT (eBinD fNe (M.map Rf.d (eComp [7] (.n 7) (iSeq (eVar 9)) mYes (vAnd (eIsi (sub "TalkError") (rVar 7)) (eIsi (sub "ValueError") (rVar 7)))).fr) (M.map Rf.d (eBin fMul (M.map Rf.d (eLst (lCons (eC (.bl true)) lNil)).fr) (M.map Rf.d (eC (.int 19)))).fr))) (sRet (M.map O.dat (eC (.bl false)))) sPass))))))))))
    (sRet (M.map O.dat (eC (.bl true)))))
def F_law : Fx := defF 12 den_law
theorem sc_law : FnScope N_law ["script"] (defScope s_law) := ⟨rfl, rfl, rfl, by decide +kernel, rfl, by decide +kernel, by decide +kernel⟩
theorem ok_law {f : Addr} {fd : FuncData} (F : L2.Fun T.K "law" "law" s_law f fd) (Y : Env1 T) (c_law_tape : Cal T 1 2 "_law_tape" F_law_tape) (c_law_any : Cal T 3 1 "_law_any" F_law_any) (c_law_of_others : Cal T 3 1 "_law_of_others" F_law_of_others) (c_law_of_values : Cal T 3 1 "_law_of_values" F_law_of_values) (c_law_kinds : Cal T 1 1 "_law_kinds" F_law_kinds) : FnS T.P T.w T.K T.mg T.base (L2.CX T.P T.w) 4 f fd ["script"] (spF ⟨T.K, T.cl⟩ 1 F_law) := by
  obtain ⟨hB, hS, hX, hE, hE0, hI⟩ := Y
  have nd := sc_law.nd
  refine def_ok (k := 3) (N := N_law) (den := den_law) F sc_law rfl fun cdv A outer s H E hgd hr => ?_
  have hu := hr.units
  have hu1 := Nat.lt_of_le_of_lt (Nat.add_le_add_left (by decide : 1 ≤ 64) _) hu
  exact (ess_cons (es_for own_fn rfl (ei_range1 rfl (hB "range" (by decide)) (ea_cons (ER.of _ (c_max2 rfl rfl (hB "max" (by decide)) (ea_cons (ER.of _ ed_int) (ea_cons (ER.of _ (c_min2 rfl rfl (hB "min" (by decide)) (ea_cons (ER.of _ ed_int) (ea_cons (ER.of _ (c_len rfl (hB "len" (by decide)) (ea_cons (er_var (i := 0) rfl (by first | exact Or.inl rfl | exact Or.inr (Or.inl rfl) | exact Or.inr (Or.inr rfl))) ea_nil))) ea_nil)))) ea_nil)))) ea_nil)) (pg_name (i := 1) nd rfl (by first | exact Or.inl rfl | exact Or.inr rfl)) (ess_cons (es_set (i := 2) nd rfl (by first | exact Or.inl rfl | exact Or.inr rfl) (c_call c_law_tape thru_fn hgd (hr.mono (by decide)) rfl (ea_cons (er_var (i := 0) rfl (by first | exact Or.inl rfl | exact Or.inr (Or.inl rfl) | exact Or.inr (Or.inr rfl))) (ea_cons (er_var (i := 1) rfl (by first | exact Or.inl rfl | exact Or.inr (Or.inl rfl) | exact Or.inr (Or.inr rfl))) ea_nil)) (alen1 (alen1 alen0))))
      (ess_cons (es_set (i := 3) nd rfl (by first | exact Or.inl rfl | exact Or.inr rfl) (c_call c_law_any thru_fn hgd (hr.mono (by decide)) rfl (ea_cons (er_var (i := 2) rfl (by first | exact Or.inl rfl | exact Or.inr (Or.inl rfl) | exact Or.inr (Or.inr rfl))) ea_nil) (alen1 alen0)))
      (ess_cons (es_par3 (i := 4) (j := 5) (l := 6) rfl nd rfl rfl rfl (by decide) (by decide) (by decide) rfl rfl rfl (el_cons (c_repr hS hgd hu rfl (hB "repr" (by decide)) (ea_cons (er_var (i := 3) rfl (by first | exact Or.inl rfl | exact Or.inr (Or.inl rfl) | exact Or.inr (Or.inr rfl))) ea_nil)) (el_cons (ED.fr (c_call c_law_of_values thru_fn hgd (hr.mono (by decide)) rfl (ea_cons (er_var (i := 3) rfl (by first | exact Or.inl rfl | exact Or.inr (Or.inl rfl) | exact Or.inr (Or.inr rfl))) ea_nil) (alen1 alen0))) (el_cons (ED.fr (c_call c_law_of_others thru_fn hgd (hr.mono (by decide)) rfl (ea_cons (er_var (i := 3) rfl (by first | exact Or.inl rfl | exact Or.inr (Or.inl rfl) | exact Or.inr (Or.inr rfl))) ea_nil) (alen1 alen0))) el_nil))) (by kernel_rfl))
      (ess_cons (es_if (et_w (ew_or (t_ne hS hu (nomark _) (ER.of _ (ED.fr (eo_comp (own := [("one", 7)]) rfl nd (ei_list (ed_var (i := 5) rfl (by first | exact Or.inl rfl | exact Or.inr (Or.inl rfl) | exact Or.inr (Or.inr rfl)))) (blkOk_by (by kernel_rfl)) (fun _ _ _ _ _ => (pg_name (i := 7) nd rfl (by first | exact Or.inl rfl | exact Or.inr rfl))) (fun _ _ _ _ _ => ets_nil) (fun _ _ _ _ _ => (c_repr hS hgd hu rfl (hB "repr" (by decide)) (ea_cons (ER.of _ (ed_attr hX (by decide) (ed_var (i := 7) rfl (by first | exact Or.inl rfl | exact Or.inr (Or.inl rfl) | exact Or.inr (Or.inr rfl))))) ea_nil))) (by decide)))) (ER.of _ (ED.fr (eo_mul (ER.of _ (ED.fr (eo_lst (el_cons (ed_var (i := 4) rfl (by first | exact Or.inl rfl | exact Or.inr (Or.inl rfl) | exact Or.inr (Or.inr rfl))) el_nil)))) (ER.of _ ed_int))))) (ew_or1 (t_ne hS hu (nomark _) (ER.of _ (c_repr hS hgd hu rfl (hB "repr" (by decide)) (ea_cons (er_var (i := 3) rfl (by first | exact Or.inl rfl | exact Or.inr (Or.inl rfl) | exact Or.inr (Or.inr rfl))) ea_nil))) (er_var (i := 4) rfl (by first | exact Or.inl rfl | exact Or.inr (Or.inl rfl) | exact Or.inr (Or.inr rfl))))))) (ess_one (es_ret (EO.of _ ed_bl))) ess_nil)
      (ess_cons (es_set (i := 8) nd rfl (by first | exact Or.inl rfl | exact Or.inr rfl) (eo_add (ER.of _ (ED.fr (eo_add (ER.of _ (ED.fr (eo_comp (own := [("one", 7)]) rfl nd (ei_list (ED.fr (eo_slice (er_var (i := 6) rfl (by first | exact Or.inl rfl | exact Or.inr (Or.inl rfl) | exact Or.inr (Or.inr rfl))) ep_none (ep_some ed_int)))) (blkOk_by (by kernel_rfl)) (fun _ _ _ _ _ => (pg_name (i := 7) nd rfl (by first | exact Or.inl rfl | exact Or.inr rfl))) (fun _ _ _ _ _ => ets_nil) (fun _ _ _ _ _ => (ed_attr hX (by decide) (ed_var (i := 7) rfl (by first | exact Or.inl rfl | exact Or.inr (Or.inl rfl) | exact Or.inr (Or.inr rfl))))) (by decide)))) (ER.of _ (ED.fr (eo_comp (own := [("one", 7)]) rfl nd (ei_list (ED.fr (eo_slice (er_var (i := 6) rfl (by first | exact Or.inl rfl | exact Or.inr (Or.inl rfl) | exact Or.inr (Or.inr rfl))) (ep_some ed_int) (ep_some ed_int)))) (blkOk_by (by kernel_rfl)) (fun _ _ _ _ _ => (pg_name (i := 7) nd rfl (by first | exact Or.inl rfl | exact Or.inr rfl))) (fun _ _ _ _ _ => ets_nil) (fun _ _ _ _ _ => (ed_attr hX (by decide) (ed_var (i := 7) rfl (by first | exact Or.inl rfl | exact Or.inr (Or.inl rfl) | exact Or.inr (Or.inr rfl))))) (by decide))))))) (ER.of _ (ED.fr (eo_comp (own := [("one", 7)]) rfl nd (ei_list (ED.fr (eo_slice (er_var (i := 6) rfl (by first | exact Or.inl rfl | exact Or.inr (Or.inl rfl) | exact Or.inr (Or.inr rfl))) (ep_some ed_int) ep_none))) (blkOk_by (by kernel_rfl)) (fun _ _ _ _ _ => (pg_name (i := 7) nd rfl (by first | exact Or.inl rfl | exact Or.inr rfl))) (fun _ _ _ _ _ => ets_nil) (fun _ _ _ _ _ => (ed_attr hX (by decide) (ed_var (i := 7) rfl (by first | exact Or.inl rfl | exact Or.inr (Or.inl rfl) | exact Or.inr (Or.inr rfl))))) (by decide))))))
      (ess_cons (es_if (t_ne hS hu (nomark _) (ER.of _ (ED.fr (eo_comp (own := [("one", 7)]) rfl nd (ei_list (ed_var (i := 8) rfl (by first | exact Or.inl rfl | exact Or.inr (Or.inl rfl) | exact Or.inr (Or.inr rfl)))) (blkOk_by (by kernel_rfl)) (fun _ _ _ _ _ => (pg_name (i := 7) nd rfl (by first | exact Or.inl rfl | exact Or.inr rfl))) (fun _ _ _ _ _ => ets_nil) (fun _ _ _ _ _ => (c_repr hS hgd hu rfl (hB "repr" (by decide)) (ea_cons (er_var (i := 7) rfl (by first | exact Or.inl rfl | exact Or.inr (Or.inl rfl) | exact Or.inr (Or.inr rfl))) ea_nil))) (by decide)))) (ER.of _ (ED.fr (eo_mul (ER.of _ (ED.fr (eo_lst (el_cons (ed_var (i := 4) rfl (by first | exact Or.inl rfl | exact Or.inr (Or.inl rfl) | exact Or.inr (Or.inr rfl))) el_nil)))) (ER.of _ ed_int))))) (ess_one (es_ret (EO.of _ ed_bl))) ess_nil)
      (ess_cons (es_set (i := 9) nd rfl (by first | exact Or.inl rfl | exact Or.inr rfl) (eo_add (ER.of _ (ED.fr (eo_add (ER.of _ (ED.fr (eo_pick (er_var (i := 5) rfl (by first | exact Or.inl rfl | exact Or.inr (Or.inl rfl) | exact Or.inr (Or.inr rfl))) ep_none ep_none (ep_some ed_int)))) (ER.of _ (ED.fr (eo_pick (er_var (i := 6) rfl (by first | exact Or.inl rfl | exact Or.inr (Or.inl rfl) | exact Or.inr (Or.inr rfl))) ep_none ep_none (ep_some ed_int))))))) (ER.of _ (ED.fr (eo_lst (el_cons (c_ex0 (hE0 "NotSettled" (by decide)) rfl) (el_cons (c_ex0 (hE0 "LastOne" (by decide)) rfl) (el_cons (c_ex0 (hE0 "Nothing" (by decide)) rfl) el_nil))))))))
      (ess_cons (es_if (t_ne hS hu (nomark _) (ER.of _ (ED.fr (eo_comp (own := [("one", 7)]) rfl nd (ei_list (ed_var (i := 9) rfl (by first | exact Or.inl rfl | exact Or.inr (Or.inl rfl) | exact Or.inr (Or.inr rfl)))) (blkOk_by (by kernel_rfl)) (fun _ _ _ _ _ => (pg_name (i := 7) nd rfl (by first | exact Or.inl rfl | exact Or.inr rfl))) (fun _ _ _ _ _ => ets_nil) (fun _ _ _ _ _ => (ED.fr (c_call c_law_kinds thru_blk hgd (hr.mono (by decide)) rfl (ea_cons (er_var (i := 7) rfl (by first | exact Or.inl rfl | exact Or.inr (Or.inl rfl) | exact Or.inr (Or.inr rfl))) ea_nil) (alen1 alen0)))) (by decide)))) (ER.of _ (ED.fr (eo_comp (own := [("place", 11)]) rfl nd (ei_range1 rfl (hB "range" (by decide)) (ea_cons (ER.of _ ed_int) ea_nil)) (blkOk_by (by kernel_rfl)) (fun _ _ _ _ _ => (pg_name (i := 11) nd rfl (by first | exact Or.inl rfl | exact Or.inr rfl))) (fun _ _ _ _ _ => ets_nil) (fun _ _ _ _ _ => (ED.fr (eo_comp (own := [("at", 10)]) rfl nd (ei_range1 rfl (hB "range" (by decide)) (ea_cons (ER.of _ ed_int) ea_nil)) (blkOk_by (by kernel_rfl)) (fun _ _ _ _ _ => (pg_name (i := 10) nd rfl (by first | exact Or.inl rfl | exact Or.inr rfl))) (fun _ _ _ _ _ => ets_nil) (fun _ _ _ _ _ => (c_eq hS hu (nomark _) (er_var (i := 10) rfl (by first | exact Or.inl rfl | exact Or.inr (Or.inl rfl) | exact Or.inr (Or.inr rfl))) (er_var (i := 11) rfl (by first | exact Or.inl rfl | exact Or.inr (Or.inl rfl) | exact Or.inr (Or.inr rfl))))) (by decide)))) (by decide))))) (ess_one (es_ret (EO.of _ ed_bl))) ess_nil)
      (ess_one (es_if (t_ne hS hu (nomark _) (ER.of _ (ED.fr (eo_comp (own := [("one", 7)]) rfl nd (ei_list (ed_var (i := 9) rfl (by first | exact Or.inl rfl | exact Or.inr (Or.inl rfl) | exact Or.inr (Or.inr rfl)))) (blkOk_by (by kernel_rfl)) (fun _ _ _ _ _ => (pg_name (i := 7) nd rfl (by first | exact Or.inl rfl | exact Or.inr rfl))) (fun _ _ _ _ _ => ets_nil) (fun _ _ _ _ _ => (ed_and (c_isi (hI "TalkError" (by decide)) hX (er_var (i := 7) rfl (by first | exact Or.inl rfl | exact Or.inr (Or.inl rfl) | exact Or.inr (Or.inr rfl))) rfl (hB "isinstance" (by decide)) rfl) (ed_one (c_isi (hI "ValueError" (by decide)) hX (er_var (i := 7) rfl (by first | exact Or.inl rfl | exact Or.inr (Or.inl rfl) | exact Or.inr (Or.inr rfl))) rfl (hB "isinstance" (by decide)) rfl)))) (by decide)))) (ER.of _ (ED.fr (eo_mul (ER.of _ (ED.fr (eo_lst (el_cons ed_bl el_nil)))) (ER.of _ ed_int))))) (ess_one (es_ret (EO.of _ ed_bl))) ess_nil)))))))))))
      (ess_one (es_ret (EO.of _ ed_bl))))

end Law

set_option maxRecDepth 100000
set_option maxHeartbeats 4000000
namespace Law
open PySem PySem.Spec PyProof.Rows L2 Fn

abbrev tks : List Key := [.inr "digits", .inr "mixed"]
abbrev tp (dg mx : Int) : O := .dk tks [.int dg, .int mx]
theorem dg_get (a b : D) : dLook tks [a, b] (.inr "digits") = some a := by kernel_rfl
theorem mx_get (a b : D) : dLook tks [a, b] (.inr "mixed") = some b := by kernel_rfl
theorem dg_put (a b c : D) : dPut tks [a, b] (.inr "digits") c = [c, b] := by kernel_rfl
theorem mx_put (a b c : D) : dPut tks [a, b] (.inr "mixed") c = [a, c] := by kernel_rfl
theorem dg_has : hasK tks (.inr "digits") = true := by kernel_rfl
theorem mx_has : hasK tks (.inr "mixed") = true := by kernel_rfl
theorem tks_nd : tks.Nodup := by decide +kernel
theorem dne : ¬ Str.ofString "digits" = Str.ofString "mixed" := by decide +kernel

section
variable {dg mx many : Int} {ρ : En}
/-- tape['digits'], tape['mixed'] -/
theorem e_dg (h : ρ[0]? = some (some (tp dg mx))) : eBinD fDGet (rVar 0) (M.map Rf.d (eC (.str "digits"))) ρ = some (.ok (.int dg), ρ) := by
  simp [eBinD, M.bind, M.map, M.ret, M.lift, rVar, eC, h, Rf.get, getS, O.d, fDGet, asKey, dg_get]
theorem e_mx (h : ρ[0]? = some (some (tp dg mx))) : eBinD fDGet (rVar 0) (M.map Rf.d (eC (.str "mixed"))) ρ = some (.ok (.int mx), ρ) := by
  simp [eBinD, M.bind, M.map, M.ret, M.lift, rVar, eC, h, Rf.get, getS, O.d, fDGet, asKey, mx_get]
/-- operands that are data -/
theorem e_bin {f : D → D → Option D} {a b : M D} {x y z : D} {ρ1 ρ2 : En} (ha : a ρ = some (.ok x, ρ1)) (hb : b ρ1 = some (.ok y, ρ2)) (hf : f x y = some z) : eBinD f (M.map Rf.d a) (M.map Rf.d b) ρ = some (.ok z, ρ2) := by
  unfold eBinD
  rw [bind_at (map_at ha), bind_at (map_at hb)]
  simp [M.bind, M.ret, Rf.get, M.lift, hf]
theorem e_binO {f : D → D → Option O} {a b : M D} {x y : D} {z : O} {ρ1 ρ2 : En} (ha : a ρ = some (.ok x, ρ1)) (hb : b ρ1 = some (.ok y, ρ2)) (hf : f x y = some z) : eBin f (M.map Rf.d a) (M.map Rf.d b) ρ = some (.ok z, ρ2) := by
  unfold eBin
  rw [bind_at (map_at ha), bind_at (map_at hb)]
  simp [M.bind, M.ret, Rf.get, M.lift, hf]
/-- the second a variable -/
theorem e_binV {f : D → D → Option D} {a : M D} {i : Nat} {x z : D} {o : O} {ρ1 : En} (ha : a ρ = some (.ok x, ρ1)) (hv : ρ1[i]? = some (some o)) (hf : f x o.d = some z) : eBinD f (M.map Rf.d a) (rVar i) ρ = some (.ok z, ρ1) := by
  unfold eBinD
  rw [bind_at (map_at ha)]
  simp [M.bind, M.ret, Rf.get, M.lift, hf, rVar, hv, getS]
theorem e_vbin {f : D → D → Option D} {b : M D} {i : Nat} {y z : D} {o : O} (hv : ρ[i]? = some (some o)) (hb : b ρ = some (.ok y, ρ)) (hf : f o.d y = some z) : eBinD f (rVar i) (M.map Rf.d b) ρ = some (.ok z, ρ) := by
  unfold eBinD
  rw [bind_at (show rVar i ρ = some (.ok (.s i), ρ) from by simp [rVar, hv]), bind_at (map_at hb)]
  simp [M.bind, M.ret, Rf.get, M.lift, hf, rVar, hv, getS, map_at hb]
theorem e_c (d : D) : eC d ρ = some (.ok d, ρ) := rfl
theorem e_fr {m : M O} {o : O} {ρ1 : En} (h : m ρ = some (.ok o, ρ1)) : m.fr ρ = some (.ok o.d, ρ1) := by
  unfold M.fr
  rw [bind_at h]
  rfl
theorem e_int {a : M D} {i : Int} {ρ1 : En} (h : a ρ = some (.ok (.int i), ρ1)) : eFun fInt (aCons (M.map Rf.d a) aNil) ρ = some (.ok (.int i), ρ1) := by
  simp [eFun, aCons, aNil, M.bind, map_at h, M.ret, getL, Rf.get, M.lift, fInt]
theorem e_var {i : Nat} {d : D} (h : ρ[i]? = some (some (.dat d))) : eVar i ρ = some (.ok d, ρ) := by
  simp [eVar, h, O.own, O.d]
theorem m_mod {i j : Int} (h : 0 < j) : fMod (.int i) (.int j) = some (.int (i % j)) := if_pos h
theorem m_div {i j : Int} (h : 0 < j) (hb : bits j ≤ 9000) : fDiv (.int i) (.int j) = some (.int (i / j)) := if_pos ⟨h, hb⟩
theorem m_pow {i : Int} {n : Nat} (hb : bits i * n ≤ 100000000) : fPow (.int i) (.int (n : Int)) = some (.int (i ^ n)) := by
  have e : ((bits i : Int) * (n : Int)) = ((bits i * n : Nat) : Int) := (Int.natCast_mul _ _).symm
  have h : 0 ≤ (n : Int) ∧ (bits i : Int) * (n : Int) ≤ 100000000 := ⟨Int.natCast_nonneg n, by rw [e]; exact Int.ofNat_le.mpr hb⟩
  have z : fPow (.int i) (.int (n : Int)) = if 0 ≤ (n : Int) ∧ (bits i : Int) * (n : Int) ≤ 100000000 then some (.int (i ^ (n : Int).toNat)) else none := rfl
  rw [z, if_pos h, Int.toNat_natCast]
theorem m_mul {i j : Int} (hb : bits i + bits j ≤ 100000000) : fMul (.int i) (.int j) = some (.dat (.int (i * j))) := if_pos hb
/-- tape[..] = v -/
theorem s_dg {m : M D} {v : Int} (h : m ρ = some (.ok (.int v), ρ)) (h0 : ρ[0]? = some (some (tp dg mx))) : sDPutS (rVar 0) (M.map Rf.d (eC (.str "digits"))) m ρ = some (.nx, ρ.set 0 (some (tp v mx))) := by
  unfold sDPutS
  rw [then_at h]
  rw [then_at (show rVar 0 ρ = some (.ok (.s 0), ρ) from by simp [rVar, h0])]
  rw [then_at (show M.map Rf.d (eC (.str "digits")) ρ = some (.ok (.d (.str "digits")), ρ) from rfl)]
  rw [then_at (show (Rf.d (.str "digits")).get ρ = some (.ok (.str "digits"), ρ) from rfl)]
  simp [dputAt, h0, asKey, dg_has, dne, dg_put, lim]
theorem s_mx {m : M D} {v : Int} (h : m ρ = some (.ok (.int v), ρ)) (h0 : ρ[0]? = some (some (tp dg mx))) : sDPutS (rVar 0) (M.map Rf.d (eC (.str "mixed"))) m ρ = some (.nx, ρ.set 0 (some (tp dg v))) := by
  unfold sDPutS
  rw [then_at h]
  rw [then_at (show rVar 0 ρ = some (.ok (.s 0), ρ) from by simp [rVar, h0])]
  rw [then_at (show M.map Rf.d (eC (.str "mixed")) ρ = some (.ok (.d (.str "mixed")), ρ) from rfl)]
  rw [then_at (show (Rf.d (.str "mixed")).get ρ = some (.ok (.str "mixed"), ρ) from rfl)]
  simp [dputAt, h0, asKey, mx_has, dne, mx_put, lim]
end
end Law

set_option maxRecDepth 100000
set_option maxHeartbeats 4000000
namespace Law
open PySem PySem.Spec PyProof.Rows L2 Fn

theorem e_frD {m : M O} {d : D} {ρ ρ1 : En} (h : m ρ = some (.ok (.dat d), ρ1)) : m.fr ρ = some (.ok d, ρ1) := e_fr h
theorem m_add (i j : Int) : fAdd (.int i) (.int j) = some (.dat (.int (i + j))) := rfl
theorem m_pow2 {i : Int} (hb : bits i ≤ 3000000) : fPow (.int i) (.int 2) = some (.int (i ^ 2)) := m_pow (n := 2) (by omega)
theorem m_pow3 {i : Int} (hb : bits i ≤ 3000000) : fPow (.int i) (.int 3) = some (.int (i ^ 3)) := m_pow (n := 3) (by omega)
theorem b_mx {x : Int} (h0 : 0 ≤ x) (h1 : x < 2147483565) : bits x ≤ 32 := bits_small h0 (Int.lt_trans h1 (by decide)) (by decide)
theorem b_c1 : bits 40014 ≤ 16 := by decide +kernel
theorem b_c2 : bits 13 ≤ 9000 := by decide +kernel

/-- _law_pick -/
theorem pick_is {dg mx many : Int} (h1 : 0 ≤ dg) (h2 : 0 ≤ mx) (h3 : mx < 2147483565) (h4 : 0 < many) (h5 : bits many ≤ 9000) :
    ∃ r dg' mx', 0 ≤ r ∧ r < many ∧ 0 ≤ dg' ∧ 0 ≤ mx' ∧ mx' < 2147483565 ∧ F_law_pick [tp dg mx, .dat (.int many)] = some (.ok (.dat (.int r)), [tp dg' mx', .dat (.int many)]) := by
  by_cases q : many ≤ dg
  · refine ⟨dg % many, dg / many, mx, Int.emod_nonneg _ (by omega), Int.emod_lt_of_pos _ h4, Int.ediv_nonneg h1 (by omega), h2, h3, ?_⟩
    have d : den_law_pick [some (tp dg mx), some (.dat (.int many)), none, none] = some (.rt (.dat (.int (dg % many))), [some (tp (dg / many) mx), some (.dat (.int many)), some (.dat (.int (dg % many))), none]) := by
      unfold den_law_pick
      refine seq_rt ?_
      rw [if_at (b := true) (ρ1 := [some (tp dg mx), some (.dat (.int many)), none, none]) ?t]
      case t =>
        unfold eT
        rw [bind_at (e_binV (e_dg rfl) rfl (z := .bl true) (by show fGe (.int dg) (.int many) = _; simp [fGe, q]))]
        rfl
      rw [if_pos rfl]
      rw [seq_at (set_at (map_at (e_binV (e_int (e_dg rfl)) rfl (m_mod h4))) (by simp) (fun z => absurd z.1 (by decide)))]
      rw [seq_at (s_dg (e_binV (e_dg rfl) rfl (m_div h4 h5)) rfl)]
      exact ret_at (map_at (e_var rfl))
    show defF 4 den_law_pick _ = _
    unfold defF
    rw [show ([tp dg mx, O.dat (.int many)].map some ++ List.replicate (4 - [tp dg mx, O.dat (.int many)].length) none : En) = [some (tp dg mx), some (.dat (.int many)), none, none] from rfl, d]
    rfl
  · obtain ⟨m1, e1⟩ : ∃ m1, m1 = (mx * 40014 + 1031) % 2147483563 := ⟨_, rfl⟩
    obtain ⟨o1, e2⟩ : ∃ o1, o1 = (m1 ^ 2) % 2147483399 := ⟨_, rfl⟩
    have g1 : 0 ≤ m1 := by rw [e1]; exact Int.emod_nonneg _ (by decide)
    have g2 : m1 < 2147483563 := by rw [e1]; exact Int.emod_lt_of_pos _ (by decide)
    have g3 : 0 ≤ o1 := by rw [e2]; exact Int.emod_nonneg _ (by decide)
    have g4 : o1 < 2147483399 := by rw [e2]; exact Int.emod_lt_of_pos _ (by decide)
    have bm := b_mx h2 h3
    have b1 := b_mx g1 (by omega)
    have b2 := b_mx g3 (by omega)
    have bc := b_c1
    refine ⟨((o1 ^ 3) % 998244353 / 13) % many, dg, m1, Int.emod_nonneg _ (by omega), Int.emod_lt_of_pos _ h4, h1, g1, by omega, ?_⟩
    have d : den_law_pick [some (tp dg mx), some (.dat (.int many)), none, none] = some (.rt (.dat (.int (((o1 ^ 3) % 998244353 / 13) % many))), [some (tp dg m1), some (.dat (.int many)), none, some (.dat (.int o1))]) := by
      unfold den_law_pick
      rw [seq_at (ρ1 := [some (tp dg mx), some (.dat (.int many)), none, none]) ?t]
      case t =>
        rw [if_at (b := false) (ρ1 := [some (tp dg mx), some (.dat (.int many)), none, none]) ?u]
        · rfl
        case u =>
          unfold eT
          rw [bind_at (e_binV (e_dg rfl) rfl (z := .bl false) (by show fGe (.int dg) (.int many) = _; simp [fGe, q]))]
          rfl
      rw [seq_at (s_mx (v := m1) (e_bin (e_int (e_frD (e_binO (e_frD (e_binO (e_mx rfl) (e_c _) (m_mul (i := mx) (j := 40014) (by omega)))) (e_c _) (m_add _ _)))) (e_c _) (by rw [e1]; exact m_mod (by decide))) rfl)]
      rw [seq_at (set_at (map_at (e_bin (z := .int o1) (e_int (e_bin (e_mx rfl) (e_c _) (m_pow2 (i := m1) (by omega)))) (e_c _) (by rw [e2]; exact m_mod (by decide)))) (by simp) (fun z => absurd z.1 (by decide)))]
      refine ret_at (map_at (e_binV (e_int (e_bin (e_bin (e_int (e_vbin (o := .dat (.int o1)) rfl (e_c _) (m_pow3 (i := o1) (by omega)))) (e_c _) (m_mod (by decide))) (e_c _) (m_div (by decide) b_c2))) rfl (m_mod h4)))
    show defF 4 den_law_pick _ = _
    unfold defF
    rw [show ([tp dg mx, O.dat (.int many)].map some ++ List.replicate (4 - [tp dg mx, O.dat (.int many)].length) none : En) = [some (tp dg mx), some (.dat (.int many)), none, none] from rfl, d]
    rfl
end Law

set_option maxRecDepth 100000
set_option maxHeartbeats 4000000
namespace Law
open PySem PySem.Spec PyProof.Rows L2 Fn

section
variable {ρ : En}
theorem e_vbinO {f : D → D → Option O} {b : M D} {i : Nat} {y : D} {z o : O} (hv : ρ[i]? = some (some o)) (hb : b ρ = some (.ok y, ρ)) (hf : f o.d y = some z) : eBin f (rVar i) (M.map Rf.d b) ρ = some (.ok z, ρ) := by
  unfold eBin
  rw [bind_at (show rVar i ρ = some (.ok (.s i), ρ) from by simp [rVar, hv]), bind_at (map_at hb)]
  simp [M.bind, M.ret, Rf.get, M.lift, hf, rVar, hv, getS]
theorem e_vvO {f : D → D → Option O} {i j : Nat} {z o p : O} (hv : ρ[i]? = some (some o)) (hw : ρ[j]? = some (some p)) (hf : f o.d p.d = some z) : eBin f (rVar i) (rVar j) ρ = some (.ok z, ρ) := by
  unfold eBin
  rw [bind_at (show rVar i ρ = some (.ok (.s i), ρ) from by simp [rVar, hv]), bind_at (show rVar j ρ = some (.ok (.s j), ρ) from by simp [rVar, hw])]
  simp [M.bind, M.ret, Rf.get, M.lift, hf, hv, hw, getS]
theorem e_vv {f : D → D → Option D} {i j : Nat} {z : D} {o p : O} (hv : ρ[i]? = some (some o)) (hw : ρ[j]? = some (some p)) (hf : f o.d p.d = some z) : eBinD f (rVar i) (rVar j) ρ = some (.ok z, ρ) := by
  unfold eBinD
  rw [bind_at (show rVar i ρ = some (.ok (.s i), ρ) from by simp [rVar, hv]), bind_at (show rVar j ρ = some (.ok (.s j), ρ) from by simp [rVar, hw])]
  simp [M.bind, M.ret, Rf.get, M.lift, hf, hv, hw, getS]
theorem e_fun1v {f : List D → Option D} {i : Nat} {o : O} {z : D} (hv : ρ[i]? = some (some o)) (hf : f [o.d] = some z) : eFun f (aCons (rVar i) aNil) ρ = some (.ok z, ρ) := by
  unfold eFun aCons
  simp [M.bind, rVar, hv, aNil, M.ret, getL, Rf.get, getS, M.lift, hf]
theorem e_t {m : M D} {b : Bool} {ρ1 : En} (h : m ρ = some (.ok (.bl b), ρ1)) : eT m ρ = some (.ok b, ρ1) := by
  unfold eT
  rw [bind_at h]
  rfl
theorem e_if {α : Type} {t : M Bool} {x y : M α} {b : Bool} {ρ1 : En} (h : t ρ = some (.ok b, ρ1)) : eIf t x y ρ = if b = true then x ρ1 else y ρ1 := by
  unfold eIf
  rw [bind_at h]
  cases b <;> rfl
theorem e_and0 {a b : M Bool} {ρ1 : En} (h : a ρ = some (.ok false, ρ1)) : mAnd a b ρ = some (.ok false, ρ1) := by
  unfold mAnd
  rw [bind_at h]
  rfl
theorem e_and1 {a b : M Bool} {ρ1 : En} (h : a ρ = some (.ok true, ρ1)) : mAnd a b ρ = b ρ1 := by
  unfold mAnd
  rw [bind_at h]
  rfl
theorem e_tape {a b : M D} {x y : D} (ha : a ρ = some (.ok x, ρ)) (hb : b ρ = some (.ok y, ρ)) : eDict [((eC (.str "digits")), a), ((eC (.str "mixed")), b)] ρ = some (.ok (.dk tks [x, y]), ρ) := by
  unfold eDict
  have p : pairsM [((eC (.str "digits")), a), ((eC (.str "mixed")), b)] ρ = some (.ok [(.inr "digits", x), (.inr "mixed", y)], ρ) := by
    simp [pairsM, M.bind, eC, M.ret, M.lift, asKey, ha, hb]
  rw [bind_at p]
  have q : decide ((([(.inr "digits", x), (.inr "mixed", y)] : List (Key × D)).map (·.1)).Nodup ∧ ([(.inr "digits", x), (.inr "mixed", y)] : List (Key × D)).length ≤ 15) = true := decide_eq_true ⟨tks_nd, by simp⟩
  rw [q]
  rfl
end
theorem b_53 : bits 53 ≤ 16 := by decide +kernel
theorem b_30029 : bits 30029 ≤ 16 := by decide +kernel
theorem b_10 : bits 10 * 18 ≤ 100000000 := by decide +kernel
/-- what is squared -/
theorem b_step {m c : Int} {k : Nat} (h0 : 0 ≤ m) (h1 : m < 2147483565) (hc : bits c ≤ k) (hk : 23 < k) : bits (m * 30029 + c * c + 13) ≤ 2 * k + 1 := by
  have cn := of_bits hc
  refine bits_le ?_ (by omega)
  have e1 : (m * 30029 + c * c + 13).natAbs ≤ (m * 30029).natAbs + (c * c).natAbs + 13 := by
    have a := Int.natAbs_add_le (m * 30029 + c * c) 13
    have b := Int.natAbs_add_le (m * 30029) (c * c)
    have d : (13 : Int).natAbs = 13 := rfl
    omega
  have e2 : (m * 30029).natAbs < 2 ^ 47 := by
    have : (m * 30029).natAbs = m.natAbs * 30029 := Int.natAbs_mul m 30029
    have : (m.natAbs : Int) = m := Int.natAbs_of_nonneg h0
    have p : (2 : Nat) ^ 47 = 140737488355328 := by decide
    omega
  have e3 : (c * c).natAbs + 1 ≤ 2 ^ (2 * k) - 1 + 1 := by
    have a : (c * c).natAbs = c.natAbs * c.natAbs := Int.natAbs_mul c c
    have b : c.natAbs * c.natAbs < 2 ^ k * 2 ^ k := Nat.mul_self_lt_mul_self cn
    rw [← Nat.pow_add, ← Nat.two_mul] at b
    have : 0 < 2 ^ (2 * k) := Nat.two_pow_pos _
    omega
  have e4 : (2 : Nat) ^ 48 ≤ 2 ^ (2 * k) := Nat.pow_le_pow_right (by decide) (by omega)
  have p1 : (2 : Nat) ^ 47 = 140737488355328 := by decide
  have p2 : (2 : Nat) ^ 48 = 281474976710656 := by decide
  have e5 : (2 : Nat) ^ (2 * k + 1) = 2 * 2 ^ (2 * k) := by rw [Nat.pow_succ, Nat.mul_comm]
  rw [e5]
  omega
abbrev tbody : S := sSet 2 2 (eBin fAdd (M.map Rf.d (eBinD fMod (M.map Rf.d (eFun fInt (aCons (M.map Rf.d (eBinD fPow (M.map Rf.d (eBin fAdd (M.map Rf.d (eBin fAdd (M.map Rf.d (eBin fMul (rVar 2) (M.map Rf.d (eC (.int 30029)))).fr) (M.map Rf.d (eBin fMul (rVar 3) (rVar 3)).fr)).fr) (M.map Rf.d (eC (.int 13)))).fr) (M.map Rf.d (eC (.int 2))))) aNil))) (M.map Rf.d (eC (.int 2147483563))))) (M.map Rf.d (eC (.int 2))))
theorem tloop {x0 x1 x4 : Option O} : ∀ (ns : List Int) (m : Int) (x3 : Option O), (∀ z ∈ ns, bits z ≤ 1048576) → 0 ≤ m → m < 2147483565 →
    ∃ m' x3', 0 ≤ m' ∧ m' < 2147483565 ∧ forGo 2 (.n 3) tbody (ns.map .int) [x0, x1, some (.dat (.int m)), x3, x4] = some (.nx, [x0, x1, some (.dat (.int m')), x3', x4])
  | [], m, x3, _, h0, h1 => ⟨m, x3, h0, h1, rfl⟩
  | c :: ns, m, x3, hb, h0, h1 => by
    have bc := hb c List.mem_cons_self
    have bm := b_mx h0 h1
    have b3 := b_30029
    obtain ⟨m2, e2⟩ : ∃ m2, m2 = ((m * 30029 + c * c + 13) ^ 2) % 2147483563 + 2 := ⟨_, rfl⟩
    have g1 : 0 ≤ ((m * 30029 + c * c + 13) ^ 2) % 2147483563 := Int.emod_nonneg _ (by decide)
    have g2 : ((m * 30029 + c * c + 13) ^ 2) % 2147483563 < 2147483563 := Int.emod_lt_of_pos _ (by decide)
    obtain ⟨m', x3', q0, q1, q2⟩ := tloop (x0 := x0) (x1 := x1) (x4 := x4) ns m2 (some (.dat (.int c))) (fun z hz => hb z (List.mem_cons_of_mem _ hz)) (by omega) (by omega)
    refine ⟨m', x3', q0, q1, ?_⟩
    have bs := b_step h0 h1 bc (by decide)
    have st : tbody [x0, x1, some (.dat (.int m)), some (.dat (.int c)), x4] = some (.nx, [x0, x1, some (.dat (.int m2)), some (.dat (.int c)), x4]) := by
      unfold tbody
      rw [set_at (o := .dat (.int m2)) (e_binO (e_bin (e_int (e_bin (e_frD (e_binO (e_frD (e_binO (e_frD (e_vbinO (o := .dat (.int m)) rfl (e_c _) (m_mul (i := m) (j := 30029) (by omega)))) (e_frD (e_vvO (o := .dat (.int c)) (p := .dat (.int c)) rfl rfl (m_mul (i := c) (j := c) (by omega)))) (m_add _ _))) (e_c _) (m_add _ _))) (e_c _) (m_pow2 (i := m * 30029 + c * c + 13) (by omega)))) (e_c _) (m_mod (by decide))) (e_c _) (by rw [e2]; exact m_add _ _)) (by simp) (fun z => absurd z.1 (by decide))]
      rfl
    exact (forGo_cons (ρ1 := [x0, x1, some (.dat (.int m)), some (.dat (.int c)), x4]) rfl rfl st).trans q2
end Law

set_option maxRecDepth 100000
set_option maxHeartbeats 4000000
namespace Law
open PySem PySem.Spec PyProof.Rows L2 Fn

theorem atI_map {ns : List Int} {i : Int} (h0 : 0 ≤ i) (h1 : i < ns.length) : ∃ c, atI (ns.map D.int) i = some (.int c) := by
  have hl : i.toNat < ns.length := by omega
  refine ⟨ns[i.toNat], ?_⟩
  unfold atI ixN
  rw [if_pos h0, List.length_map, if_pos h1]
  simp [hl]
theorem atI_mem {α : Type} {xs : List α} {i : Int} (h0 : 0 ≤ i) (h1 : i < xs.length) : ∃ c, c ∈ xs ∧ atI xs i = some c := by
  have hl : i.toNat < xs.length := by omega
  refine ⟨xs[i.toNat], List.getElem_mem hl, ?_⟩
  unfold atI ixN
  rw [if_pos h0, if_pos h1]
  simp [hl]
abbrev sc (ns : List Int) : O := .dat (.ro (ns.map D.int))
/-- _law_tape -/
theorem tape_is {ns : List Int} {i : Int} (hb : ∀ z ∈ ns, bits z ≤ 1048576) (h0 : 0 ≤ i) (h1 : i < 3) :
    ∃ dg mx, 0 ≤ dg ∧ 0 ≤ mx ∧ mx < 2147483565 ∧ F_law_tape [sc ns, .dat (.int i)] = some (.ok (tp dg mx), [sc ns, .dat (.int i)]) := by
  have bi : bits i ≤ 2 := bits_small h0 (by omega) (by decide)
  have b5 := b_53
  obtain ⟨mx, x3, m0, m1, lp⟩ := tloop (x0 := some (sc ns)) (x1 := some (.dat (.int i))) (x4 := none) ns (101 + i * 53) none hb (by omega) (by omega)
  have key : ∃ dg, 0 ≤ dg ∧ eIf (mAnd (eT (eBinD fLt (rVar 1) (M.map Rf.d (eFun fLen (aCons (rVar 0) aNil))))) (eT (eBinD fGe (M.map Rf.d (eBinD fIx (rVar 0) (rVar 1))) (M.map Rf.d (eBinD fPow (M.map Rf.d (eC (.int 10))) (M.map Rf.d (eC (.int 18)))))))) (eBinD fSub (M.map Rf.d (eBinD fIx (rVar 0) (rVar 1))) (M.map Rf.d (eBinD fPow (M.map Rf.d (eC (.int 10))) (M.map Rf.d (eC (.int 18)))))) (eC (.int 0))
      [some (sc ns), some (.dat (.int i)), some (.dat (.int mx)), x3, none] = some (.ok (.int dg), [some (sc ns), some (.dat (.int i)), some (.dat (.int mx)), x3, none]) := by
    generalize hρ : ([some (sc ns), some (.dat (.int i)), some (.dat (.int mx)), x3, none] : En) = ρ
    have g0 : ρ[0]? = some (some (sc ns)) := by rw [← hρ]; rfl
    have g1 : ρ[1]? = some (some (.dat (.int i))) := by rw [← hρ]; rfl
    have ln : eFun fLen (aCons (rVar 0) aNil) ρ = some (.ok (.int ns.length), ρ) := e_fun1v g0 (by show some (D.int ((ns.map D.int).length : Int)) = _; rw [List.length_map])
    have t1 : eT (eBinD fLt (rVar 1) (M.map Rf.d (eFun fLen (aCons (rVar 0) aNil)))) ρ = some (.ok (decide (i < ns.length)), ρ) := e_t (e_vbin g1 ln rfl)
    have pw : eBinD fPow (M.map Rf.d (eC (.int 10))) (M.map Rf.d (eC (.int 18))) ρ = some (.ok (.int (10 ^ 18)), ρ) := e_bin (e_c _) (e_c _) (m_pow (n := 18) b_10)
    by_cases q : i < ns.length
    · obtain ⟨c, hc⟩ := atI_map (ns := ns) h0 q
      have ix : eBinD fIx (rVar 0) (rVar 1) ρ = some (.ok (.int c), ρ) := e_vv g0 g1 hc
      have t2 : eT (eBinD fGe (M.map Rf.d (eBinD fIx (rVar 0) (rVar 1))) (M.map Rf.d (eBinD fPow (M.map Rf.d (eC (.int 10))) (M.map Rf.d (eC (.int 18)))))) ρ = some (.ok (decide ((10 : Int) ^ 18 ≤ c)), ρ) := e_t (e_bin ix pw rfl)
      rw [decide_eq_true q] at t1
      by_cases q2 : (10 : Int) ^ 18 ≤ c
      · rw [decide_eq_true q2] at t2
        refine ⟨c - 10 ^ 18, by omega, ?_⟩
        rw [e_if ((e_and1 t1).trans t2), if_pos rfl]
        exact e_bin ix pw rfl
      · rw [decide_eq_false q2] at t2
        refine ⟨0, Int.le_refl 0, ?_⟩
        rw [e_if ((e_and1 t1).trans t2), if_neg Bool.false_ne_true]
        rfl
    · rw [decide_eq_false q] at t1
      refine ⟨0, Int.le_refl 0, ?_⟩
      rw [e_if (e_and0 t1), if_neg Bool.false_ne_true]
      rfl
  obtain ⟨dg, d0, hk⟩ := key
  refine ⟨dg, mx, d0, m0, m1, ?_⟩
  have d : den_law_tape [some (sc ns), some (.dat (.int i)), none, none, none] = some (.rt (tp dg mx), [some (sc ns), some (.dat (.int i)), some (.dat (.int mx)), x3, some (.dat (.int dg))]) := by
    unfold den_law_tape
    rw [seq_at (set_at (o := .dat (.int (101 + i * 53))) (e_bin0 i bi b5) (by simp) (fun z => absurd z.1 (by decide)))]
    rw [seq_at (ρ1 := [some (sc ns), some (.dat (.int i)), some (.dat (.int mx)), x3, none]) ?t]
    case t =>
      unfold sFor
      rw [then_at (a := ns.map D.int) (ρ1 := [some (sc ns), some (.dat (.int i)), some (.dat (.int (101 + i * 53))), none, none]) ?u]
      · exact lp
      case u =>
        unfold iSeq
        rw [bind_at (e_var (d := .ro (ns.map D.int)) rfl)]
        rfl
    rw [seq_at (set_at (map_at hk) (by simp) (fun z => absurd z.1 (by decide)))]
    exact ret_at (e_tape (e_var rfl) (e_var rfl))
  show defF 5 den_law_tape _ = _
  unfold defF
  rw [show ([sc ns, O.dat (.int i)].map some ++ List.replicate (5 - [sc ns, O.dat (.int i)].length) none : En) = [some (sc ns), some (.dat (.int i)), none, none, none] from rfl, d]
  rfl
where
  e_bin0 {ns : List Int} (i : Int) (bi : bits i ≤ 2) (b5 : bits 53 ≤ 16) : eBin fAdd (M.map Rf.d (eC (.int 101))) (M.map Rf.d (eBin fMul (rVar 1) (M.map Rf.d (eC (.int 53)))).fr) [some (sc ns), some (.dat (.int i)), none, none, none] = some (.ok (.dat (.int (101 + i * 53))), [some (sc ns), some (.dat (.int i)), none, none, none]) :=
    e_binO (e_c _) (e_frD (e_vbinO (o := .dat (.int i)) rfl (e_c _) (m_mul (i := i) (j := 53) (by omega)))) (m_add _ _)

/-- _law_one_of -/
theorem one_of {dg mx : Int} {things : List D} (h1 : 0 ≤ dg) (h2 : 0 ≤ mx) (h3 : mx < 2147483565) (h4 : things ≠ []) (h5 : things.length < 1000) :
    ∃ d dg' mx', d ∈ things ∧ 0 ≤ dg' ∧ 0 ≤ mx' ∧ mx' < 2147483565 ∧ F_law_one_of [tp dg mx, .dat (.lst things)] = some (.ok (.dat d), [tp dg' mx', .dat (.lst things)]) := by
  have hl : 0 < things.length := List.length_pos_iff.mpr h4
  have bl : bits (things.length : Int) ≤ 9000 := Nat.le_trans (bits_small (k := 10) (by omega) (by omega) (by decide)) (by decide)
  obtain ⟨r, dg', mx', r0, r1, q0, q1, q2, hp⟩ := pick_is (many := things.length) h1 h2 h3 (by omega) bl
  obtain ⟨d, hd, hx⟩ := atI_mem (xs := things) r0 r1
  refine ⟨d, dg', mx', hd, q0, q1, q2, ?_⟩
  have ar : aCons (rVar 0) (aCons (M.map Rf.d (eFun fLen (aCons (rVar 1) aNil))) aNil) [some (tp dg mx), some (.dat (.lst things))] = some (.ok [.s 0, .d (.int things.length)], [some (tp dg mx), some (.dat (.lst things))]) := rfl
  have cl : eCall F_law_pick (aCons (rVar 0) (aCons (M.map Rf.d (eFun fLen (aCons (rVar 1) aNil))) aNil)) [some (tp dg mx), some (.dat (.lst things))] = some (.ok (.dat (.int r)), [some (tp dg' mx'), some (.dat (.lst things))]) := (call_at ar rfl (by show ([0] : List Nat).Nodup; decide) hp rfl rfl).trans rfl
  have d2 : den_law_one_of [some (tp dg mx), some (.dat (.lst things))] = some (.rt (.dat d), [some (tp dg' mx'), some (.dat (.lst things))]) := by
    unfold den_law_one_of
    refine ret_at (map_at ?_)
    unfold eBinD
    rw [bind_at (show rVar 1 [some (tp dg mx), some (.dat (.lst things))] = some (.ok (.s 1), [some (tp dg mx), some (.dat (.lst things))]) from rfl), bind_at (map_at (e_frD cl))]
    simp [M.bind, M.ret, Rf.get, M.lift, getS, O.d, fIx, hx]
  show defF 2 den_law_one_of _ = _
  unfold defF
  rw [show ([tp dg mx, O.dat (.lst things)].map some ++ List.replicate (2 - [tp dg mx, O.dat (.lst things)].length) none : En) = [some (tp dg mx), some (.dat (.lst things))] from rfl, d2]
  rfl
end Law

set_option maxRecDepth 100000
set_option maxHeartbeats 0
namespace Law
open PySem PySem.Spec PyProof.Rows L2 Fn

abbrev menu1 : List D := [.non, .bl true, .bl false, .int (0), .int (1), .int (2), .int (7), .int (-1), .int (1000000000000000000000000000000000000000), .str "", .str "a", .str "ann", .str "A", .str "a b", .tup [], .lst [], .dk [] [], .tup [.int (0)], .lst [.int (0)], .dk [.inr "a"] [.int (1)], .tup [.str "a"], .tup [.str "a", .str "b"], .tup [.str "ann", .str "bob"]]
abbrev menu2 : List D := [.lst [.str "a"], .lst [.non], .lst [.str "ann"], .tup [.str "size"], .tup [.str "chance", .tup [.str "a"]], .tup [.str "sure", .tup []], .tup [.tup [.str "a"]], .tup [.tup [.int (1), .int (2)], .tup [.str "a"]], .lst [.tup [.str "ann", .str "a"]], .lst [.tup [.str "ann", .str "bob"]]]
abbrev menu3 : List D := [.tup [.str "ann", .tup [.tup [.str "a"]]], .tup [.tup [.str "a"], .tup [.str "b"]], .tup [.str "say", .str "ann", .tup [.str "size"]], .str "worlds a", .dk [.inr "ann"] [.lst [.tup [.str "a"]]], .tup [.str "b", .str "a"], .tup [.non], .lst [.lst []]]
abbrev menu : List D := [.non, .bl true, .bl false, .int (0), .int (1), .int (2), .int (7), .int (-1), .int (1000000000000000000000000000000000000000), .str "", .str "a", .str "ann", .str "A", .str "a b", .tup [], .lst [], .dk [] [], .tup [.int (0)], .lst [.int (0)], .dk [.inr "a"] [.int (1)], .tup [.str "a"], .tup [.str "a", .str "b"], .tup [.str "ann", .str "bob"], .lst [.str "a"], .lst [.non], .lst [.str "ann"], .tup [.str "size"], .tup [.str "chance", .tup [.str "a"]], .tup [.str "sure", .tup []], .tup [.tup [.str "a"]], .tup [.tup [.int (1), .int (2)], .tup [.str "a"]], .lst [.tup [.str "ann", .str "a"]], .lst [.tup [.str "ann", .str "bob"]], .tup [.str "ann", .tup [.tup [.str "a"]]], .tup [.tup [.str "a"], .tup [.str "b"]], .tup [.str "say", .str "ann", .tup [.str "size"]], .str "worlds a", .dk [.inr "ann"] [.lst [.tup [.str "a"]]], .tup [.str "b", .str "a"], .tup [.non], .lst [.lst []]]

def l_src : M (List D) := (iRange1 (aCons (M.map Rf.d (eFun fMax2 (aCons (M.map Rf.d (eC (.int 1))) (aCons (M.map Rf.d (eFun fMin2 (aCons (M.map Rf.d (eC (.int 3))) (aCons (M.map Rf.d (eFun fLen (aCons (rVar 0) aNil))) aNil)))) aNil)))) aNil))
def l_tape : S := (sSet 1 2 (eCall F_law_tape (aCons (rVar 0) (aCons (rVar 1) aNil))))
def l_thing : S := (sSet 1 3 (eCall F_law_any (aCons (rVar 2) aNil)))
def l_rest : S := (sSeq (sPar 1 [4, 5, 6] (lCons (eFun fRepr (aCons (rVar 3) aNil)) (lCons (eCall F_law_of_values (aCons (rVar 3) aNil)).fr (lCons (eCall F_law_of_others (aCons (rVar 3) aNil)).fr lNil))))
    (sSeq (sIf (mOr (eT (eBinD fNe (M.map Rf.d (eComp [7] (.n 7) (iSeq (eVar 5)) mYes (eFun fRepr (aCons (M.map Rf.d (eAttr "value" (eVar 7))) aNil))).fr) (M.map Rf.d (eBin fMul (M.map Rf.d (eLst (lCons (eVar 4) lNil)).fr) (M.map Rf.d (eC (.int 26)))).fr))) (eT (eBinD fNe (M.map Rf.d (eFun fRepr (aCons (rVar 3) aNil))) (rVar 4)))) (sRet (M.map O.dat (eC (.bl false)))) sPass)
    (sSeq (sSet 1 8 (eBin fAdd (M.map Rf.d (eBin fAdd (M.map Rf.d (eComp [7] (.n 7) (iSeq (eSlice (rVar 6) pNone (pInt (eC (.int 2)))).fr) mYes (eAttr "number" (eVar 7))).fr) (M.map Rf.d (eComp [7] (.n 7) (iSeq (eSlice (rVar 6) (pInt (eC (.int 2))) (pInt (eC (.int 4)))).fr) mYes (eAttr "name" (eVar 7))).fr)).fr) (M.map Rf.d (eComp [7] (.n 7) (iSeq (eSlice (rVar 6) (pInt (eC (.int 4))) pNone).fr) mYes (eAttr "line" (eVar 7))).fr)))
    (sSeq (sIf (eT (eBinD fNe (M.map Rf.d (eComp [7] (.n 7) (iSeq (eVar 8)) mYes (eFun fRepr (aCons (rVar 7) aNil))).fr) (M.map Rf.d (eBin fMul (M.map Rf.d (eLst (lCons (eVar 4) lNil)).fr) (M.map Rf.d (eC (.int 6)))).fr))) (sRet (M.map O.dat (eC (.bl false)))) sPass)
    (sSeq (sSet 1 9 (eBin fAdd (M.map Rf.d (eBin fAdd (M.map Rf.d (ePick (rVar 5) pNone pNone (pInt (eC (.int 2)))).fr) (M.map Rf.d (ePick (rVar 6) pNone pNone (pInt (eC (.int 2)))).fr)).fr) (M.map Rf.d (eLst (lCons (eEx0 "NotSettled") (lCons (eEx0 "LastOne") (lCons (eEx0 "Nothing") lNil)))).fr)))
    (sSeq (sIf (eT (eBinD fNe (M.map Rf.d (eComp [7] (.n 7) (iSeq (eVar 9)) mYes (eCall F_law_kinds (aCons (rVar 7) aNil)).fr).fr) (M.map Rf.d (eComp [11] (.n 11) (iRange1 (aCons (M.map Rf.d (eC (.int 19))) aNil)) mYes (eComp [10] (.n 10) (iRange1 (aCons (M.map Rf.d (eC (.int 19))) aNil)) mYes (eBinD fEq (rVar 10) (rVar 11))).fr).fr))) (sRet (M.map O.dat (eC (.bl false)))) sPass)
    (sIf (eT (eBinD fNe (M.map Rf.d (eComp [7] (.n 7) (iSeq (eVar 9)) mYes (vAnd (eIsi (sub "TalkError") (rVar 7)) (eIsi (sub "ValueError") (rVar 7)))).fr) (M.map Rf.d (eBin fMul (M.map Rf.d (eLst (lCons (eC (.bl true)) lNil)).fr) (M.map Rf.d (eC (.int 19)))).fr))) (sRet (M.map O.dat (eC (.bl false)))) sPass)))))))
theorem den_law_is : den_law = sSeq (sFor 1 (.n 1) l_src (sSeq l_tape (sSeq l_thing l_rest))) (sRet (M.map O.dat (eC (.bl true)))) := rfl


/-- _law_any -/
theorem any_is {dg mx : Int} (h1 : 0 ≤ dg) (h2 : 0 ≤ mx) (h3 : mx < 2147483565) : ∃ d dg' mx', d ∈ menu ∧ F_law_any [tp dg mx] = some (.ok (.dat d), [tp dg' mx']) := by
  obtain ⟨d, dg', mx', hd, _, _, _, hp⟩ := one_of (things := menu) h1 h2 h3 (by simp) (by decide)
  refine ⟨d, dg', mx', hd, ?_⟩
  have q : den_law_any [some (tp dg mx), none] = some (.rt (.dat d), [some (tp dg' mx'), some (.lst (menu1 ++ menu2))]) := by
    unfold den_law_any
    rw [seq_at (ρ1 := [some (tp dg mx), some (.lst menu1)]) (by kernel_rfl)]
    rw [seq_at (ρ1 := [some (tp dg mx), some (.lst (menu1 ++ menu2))]) (by kernel_rfl)]
    exact ret_at ((call_at (ρ1 := [some (tp dg mx), some (.lst (menu1 ++ menu2))]) (rs := [.s 0, .d (.lst menu)]) (os := [tp dg mx, .dat (.lst menu)]) (by kernel_rfl) rfl (by show ([0] : List Nat).Nodup; decide) hp rfl rfl).trans rfl)
  show defF 2 den_law_any _ = _
  unfold defF
  rw [show ([tp dg mx].map some ++ List.replicate (2 - [tp dg mx].length) none : En) = [some (tp dg mx), none] from rfl, q]
  rfl
def flNx : Fl → Bool | .nx => true | _ => false
def sees (r : Option (Fl × En)) : Option (Bool × Nat × Option (Option O)) := r.map fun p => (flNx p.1, p.2.length, p.2[0]?)
/-- what is done with a thing comes to no end ahead of its end -/
def Goes (d : D) : Prop := ∀ x0 x1 x2 x4 x5 x6 x7 x8 x9 x10 x11 : Option O, sees (l_rest [x0, x1, x2, some (.dat d), x4, x5, x6, x7, x8, x9, x10, x11]) = some (true, 12, some x0)

theorem goes0 : Goes (.non) := by
  intro x0 x1 x2 x4 x5 x6 x7 x8 x9 x10 x11
  kernel_rfl
theorem goes1 : Goes (.bl true) := by
  intro x0 x1 x2 x4 x5 x6 x7 x8 x9 x10 x11
  kernel_rfl
theorem goes2 : Goes (.bl false) := by
  intro x0 x1 x2 x4 x5 x6 x7 x8 x9 x10 x11
  kernel_rfl
theorem goes3 : Goes (.int (0)) := by
  intro x0 x1 x2 x4 x5 x6 x7 x8 x9 x10 x11
  kernel_rfl
theorem goes4 : Goes (.int (1)) := by
  intro x0 x1 x2 x4 x5 x6 x7 x8 x9 x10 x11
  kernel_rfl
theorem goes5 : Goes (.int (2)) := by
  intro x0 x1 x2 x4 x5 x6 x7 x8 x9 x10 x11
  kernel_rfl
theorem goes6 : Goes (.int (7)) := by
  intro x0 x1 x2 x4 x5 x6 x7 x8 x9 x10 x11
  kernel_rfl
theorem goes7 : Goes (.int (-1)) := by
  intro x0 x1 x2 x4 x5 x6 x7 x8 x9 x10 x11
  kernel_rfl
theorem goes8 : Goes (.int (1000000000000000000000000000000000000000)) := by
  intro x0 x1 x2 x4 x5 x6 x7 x8 x9 x10 x11
  kernel_rfl
theorem goes9 : Goes (.str "") := by
  intro x0 x1 x2 x4 x5 x6 x7 x8 x9 x10 x11
  kernel_rfl
theorem goes10 : Goes (.str "a") := by
  intro x0 x1 x2 x4 x5 x6 x7 x8 x9 x10 x11
  kernel_rfl
theorem goes11 : Goes (.str "ann") := by
  intro x0 x1 x2 x4 x5 x6 x7 x8 x9 x10 x11
  kernel_rfl
theorem goes12 : Goes (.str "A") := by
  intro x0 x1 x2 x4 x5 x6 x7 x8 x9 x10 x11
  kernel_rfl
theorem goes13 : Goes (.str "a b") := by
  intro x0 x1 x2 x4 x5 x6 x7 x8 x9 x10 x11
  kernel_rfl
theorem goes14 : Goes (.tup []) := by
  intro x0 x1 x2 x4 x5 x6 x7 x8 x9 x10 x11
  kernel_rfl
theorem goes15 : Goes (.lst []) := by
  intro x0 x1 x2 x4 x5 x6 x7 x8 x9 x10 x11
  kernel_rfl
theorem goes16 : Goes (.dk [] []) := by
  intro x0 x1 x2 x4 x5 x6 x7 x8 x9 x10 x11
  kernel_rfl
theorem goes17 : Goes (.tup [.int (0)]) := by
  intro x0 x1 x2 x4 x5 x6 x7 x8 x9 x10 x11
  kernel_rfl
theorem goes18 : Goes (.lst [.int (0)]) := by
  intro x0 x1 x2 x4 x5 x6 x7 x8 x9 x10 x11
  kernel_rfl
theorem goes19 : Goes (.dk [.inr "a"] [.int (1)]) := by
  intro x0 x1 x2 x4 x5 x6 x7 x8 x9 x10 x11
  kernel_rfl
theorem goes20 : Goes (.tup [.str "a"]) := by
  intro x0 x1 x2 x4 x5 x6 x7 x8 x9 x10 x11
  kernel_rfl
theorem goes21 : Goes (.tup [.str "a", .str "b"]) := by
  intro x0 x1 x2 x4 x5 x6 x7 x8 x9 x10 x11
  kernel_rfl
theorem goes22 : Goes (.tup [.str "ann", .str "bob"]) := by
  intro x0 x1 x2 x4 x5 x6 x7 x8 x9 x10 x11
  kernel_rfl
theorem goes23 : Goes (.lst [.str "a"]) := by
  intro x0 x1 x2 x4 x5 x6 x7 x8 x9 x10 x11
  kernel_rfl
theorem goes24 : Goes (.lst [.non]) := by
  intro x0 x1 x2 x4 x5 x6 x7 x8 x9 x10 x11
  kernel_rfl
theorem goes25 : Goes (.lst [.str "ann"]) := by
  intro x0 x1 x2 x4 x5 x6 x7 x8 x9 x10 x11
  kernel_rfl
theorem goes26 : Goes (.tup [.str "size"]) := by
  intro x0 x1 x2 x4 x5 x6 x7 x8 x9 x10 x11
  kernel_rfl
theorem goes27 : Goes (.tup [.str "chance", .tup [.str "a"]]) := by
  intro x0 x1 x2 x4 x5 x6 x7 x8 x9 x10 x11
  kernel_rfl
theorem goes28 : Goes (.tup [.str "sure", .tup []]) := by
  intro x0 x1 x2 x4 x5 x6 x7 x8 x9 x10 x11
  kernel_rfl
theorem goes29 : Goes (.tup [.tup [.str "a"]]) := by
  intro x0 x1 x2 x4 x5 x6 x7 x8 x9 x10 x11
  kernel_rfl
theorem goes30 : Goes (.tup [.tup [.int (1), .int (2)], .tup [.str "a"]]) := by
  intro x0 x1 x2 x4 x5 x6 x7 x8 x9 x10 x11
  kernel_rfl
theorem goes31 : Goes (.lst [.tup [.str "ann", .str "a"]]) := by
  intro x0 x1 x2 x4 x5 x6 x7 x8 x9 x10 x11
  kernel_rfl
theorem goes32 : Goes (.lst [.tup [.str "ann", .str "bob"]]) := by
  intro x0 x1 x2 x4 x5 x6 x7 x8 x9 x10 x11
  kernel_rfl
theorem goes33 : Goes (.tup [.str "ann", .tup [.tup [.str "a"]]]) := by
  intro x0 x1 x2 x4 x5 x6 x7 x8 x9 x10 x11
  kernel_rfl
theorem goes34 : Goes (.tup [.tup [.str "a"], .tup [.str "b"]]) := by
  intro x0 x1 x2 x4 x5 x6 x7 x8 x9 x10 x11
  kernel_rfl
theorem goes35 : Goes (.tup [.str "say", .str "ann", .tup [.str "size"]]) := by
  intro x0 x1 x2 x4 x5 x6 x7 x8 x9 x10 x11
  kernel_rfl
theorem goes36 : Goes (.str "worlds a") := by
  intro x0 x1 x2 x4 x5 x6 x7 x8 x9 x10 x11
  kernel_rfl
theorem goes37 : Goes (.dk [.inr "ann"] [.lst [.tup [.str "a"]]]) := by
  intro x0 x1 x2 x4 x5 x6 x7 x8 x9 x10 x11
  kernel_rfl
theorem goes38 : Goes (.tup [.str "b", .str "a"]) := by
  intro x0 x1 x2 x4 x5 x6 x7 x8 x9 x10 x11
  kernel_rfl
theorem goes39 : Goes (.tup [.non]) := by
  intro x0 x1 x2 x4 x5 x6 x7 x8 x9 x10 x11
  kernel_rfl
theorem goes40 : Goes (.lst [.lst []]) := by
  intro x0 x1 x2 x4 x5 x6 x7 x8 x9 x10 x11
  kernel_rfl
theorem goes_all : ∀ d ∈ menu, Goes d := List.forall_mem_cons.mpr ⟨goes0, List.forall_mem_cons.mpr ⟨goes1, List.forall_mem_cons.mpr ⟨goes2, List.forall_mem_cons.mpr ⟨goes3, List.forall_mem_cons.mpr ⟨goes4, List.forall_mem_cons.mpr ⟨goes5, List.forall_mem_cons.mpr ⟨goes6, List.forall_mem_cons.mpr ⟨goes7, List.forall_mem_cons.mpr ⟨goes8, List.forall_mem_cons.mpr ⟨goes9, List.forall_mem_cons.mpr ⟨goes10, List.forall_mem_cons.mpr ⟨goes11, List.forall_mem_cons.mpr ⟨goes12, List.forall_mem_cons.mpr ⟨goes13, List.forall_mem_cons.mpr ⟨goes14, List.forall_mem_cons.mpr ⟨goes15, List.forall_mem_cons.mpr ⟨goes16, List.forall_mem_cons.mpr ⟨goes17, List.forall_mem_cons.mpr ⟨goes18, List.forall_mem_cons.mpr ⟨goes19, List.forall_mem_cons.mpr ⟨goes20, List.forall_mem_cons.mpr ⟨goes21, List.forall_mem_cons.mpr ⟨goes22, List.forall_mem_cons.mpr ⟨goes23, List.forall_mem_cons.mpr ⟨goes24, List.forall_mem_cons.mpr ⟨goes25, List.forall_mem_cons.mpr ⟨goes26, List.forall_mem_cons.mpr ⟨goes27, List.forall_mem_cons.mpr ⟨goes28, List.forall_mem_cons.mpr ⟨goes29, List.forall_mem_cons.mpr ⟨goes30, List.forall_mem_cons.mpr ⟨goes31, List.forall_mem_cons.mpr ⟨goes32, List.forall_mem_cons.mpr ⟨goes33, List.forall_mem_cons.mpr ⟨goes34, List.forall_mem_cons.mpr ⟨goes35, List.forall_mem_cons.mpr ⟨goes36, List.forall_mem_cons.mpr ⟨goes37, List.forall_mem_cons.mpr ⟨goes38, List.forall_mem_cons.mpr ⟨goes39, List.forall_mem_cons.mpr ⟨goes40, List.forall_mem_nil _⟩⟩⟩⟩⟩⟩⟩⟩⟩⟩⟩⟩⟩⟩⟩⟩⟩⟩⟩⟩⟩⟩⟩⟩⟩⟩⟩⟩⟩⟩⟩⟩⟩⟩⟩⟩⟩⟩⟩⟩⟩
end Law

set_option maxRecDepth 100000
set_option maxHeartbeats 4000000
namespace Law
open PySem PySem.Spec PyProof.Rows L2 Fn

theorem sees_some {r : Option (Fl × En)} {x : Option O} (h : sees r = some (true, 12, some x)) : ∃ ρ', r = some (.nx, ρ') ∧ ρ'.length = 12 ∧ ρ'[0]? = some x := by
  cases r with
  | none => cases h
  | some p =>
    obtain ⟨fl, ρ'⟩ := p
    have h' : (flNx fl, ρ'.length, ρ'[0]?) = (true, 12, some x) := Option.some.inj h
    obtain ⟨h1, h2⟩ := Prod.mk.inj h'
    obtain ⟨h2, h3⟩ := Prod.mk.inj h2
    cases fl with
    | nx => exact ⟨ρ', rfl, h2, h3⟩
    | _ => cases h1
theorem list12 {α : Type} : ∀ {xs : List α}, xs.length = 12 → ∃ a b c d e f g h i j k l, xs = [a, b, c, d, e, f, g, h, i, j, k, l]
  | [a, b, c, d, e, f, g, h, i, j, k, l], _ => ⟨a, b, c, d, e, f, g, h, i, j, k, l, rfl⟩
theorem e_fun2 {f : List D → Option D} {a b : M D} {x y z : D} {ρ : En} (ha : a ρ = some (.ok x, ρ)) (hb : b ρ = some (.ok y, ρ)) (hf : f [x, y] = some z) : eFun f (aCons (M.map Rf.d a) (aCons (M.map Rf.d b) aNil)) ρ = some (.ok z, ρ) := by
  unfold eFun aCons
  simp [M.bind, map_at ha, map_at hb, aNil, M.ret, getL, Rf.get, M.lift, hf]
theorem e_args1 {a : M D} {x : D} {ρ : En} (ha : a ρ = some (.ok x, ρ)) : aCons (M.map Rf.d a) aNil ρ = some (.ok [.d x], ρ) := by
  unfold aCons
  rw [bind_at (map_at ha)]
  rfl
/-- one turn -/
theorem turn {ns : List Int} {i : Int} (hb : ∀ z ∈ ns, bits z ≤ 1048576) (h0 : 0 ≤ i) (h1 : i < 3) (x2 x3 x4 x5 x6 x7 x8 x9 x10 x11 : Option O) :
    ∃ ρ', sSeq l_tape (sSeq l_thing l_rest) [some (sc ns), some (.dat (.int i)), x2, x3, x4, x5, x6, x7, x8, x9, x10, x11] = some (.nx, ρ') ∧ ρ'.length = 12 ∧ ρ'[0]? = some (some (sc ns)) := by
  obtain ⟨dg, mx, d0, m0, m1, ht⟩ := tape_is hb h0 h1
  obtain ⟨d, dg', mx', hd, ha⟩ := any_is d0 m0 m1
  rw [seq_at (ρ1 := [some (sc ns), some (.dat (.int i)), some (tp dg mx), x3, x4, x5, x6, x7, x8, x9, x10, x11]) ?t]
  case t =>
    exact set_at (o := tp dg mx) (ρ1 := [some (sc ns), some (.dat (.int i)), x2, x3, x4, x5, x6, x7, x8, x9, x10, x11]) ((call_at (ρ1 := [some (sc ns), some (.dat (.int i)), x2, x3, x4, x5, x6, x7, x8, x9, x10, x11]) (rs := [.s 0, .s 1]) (os := [sc ns, .dat (.int i)]) rfl rfl (by show ([] : List Nat).Nodup; decide) ht rfl rfl).trans rfl) (by simp) (fun z => absurd z.1 (by decide))
  rw [seq_at (ρ1 := [some (sc ns), some (.dat (.int i)), some (tp dg' mx'), some (.dat d), x4, x5, x6, x7, x8, x9, x10, x11]) ?u]
  case u =>
    exact set_at (o := .dat d) (ρ1 := [some (sc ns), some (.dat (.int i)), some (tp dg' mx'), x3, x4, x5, x6, x7, x8, x9, x10, x11]) ((call_at (ρ1 := [some (sc ns), some (.dat (.int i)), some (tp dg mx), x3, x4, x5, x6, x7, x8, x9, x10, x11]) (rs := [.s 2]) (os := [tp dg mx]) rfl rfl (by show ([2] : List Nat).Nodup; decide) ha rfl rfl).trans rfl) (by simp) (fun z => absurd z.1 (by decide))
  exact sees_some (goes_all d hd _ _ _ _ _ _ _ _ _ _ _)
theorem turns {ns : List Int} (hb : ∀ z ∈ ns, bits z ≤ 1048576) : ∀ (ds : List D) (ρ : En), (∀ d ∈ ds, ∃ i : Int, d = .int i ∧ 0 ≤ i ∧ i < 3) → ρ.length = 12 → ρ[0]? = some (some (sc ns)) →
    ∃ ρ', forGo 1 (.n 1) (sSeq l_tape (sSeq l_thing l_rest)) ds ρ = some (.nx, ρ')
  | [], ρ, _, _, _ => ⟨ρ, rfl⟩
  | d :: ds, ρ, hd, hl, h0 => by
    obtain ⟨i, rfl, i0, i1⟩ := hd d List.mem_cons_self
    obtain ⟨x0, x1, x2, x3, x4, x5, x6, x7, x8, x9, x10, x11, rfl⟩ := list12 hl
    have e0 : x0 = some (sc ns) := by simpa using h0
    subst e0
    obtain ⟨ρ2, t1, t2, t3⟩ := turn hb i0 i1 x2 x3 x4 x5 x6 x7 x8 x9 x10 x11
    obtain ⟨ρ', r⟩ := turns hb ds ρ2 (fun z hz => hd z (List.mem_cons_of_mem _ hz)) t2 t3
    exact ⟨ρ', (forGo_cons (ρ1 := [some (sc ns), some (.dat (.int i)), x2, x3, x4, x5, x6, x7, x8, x9, x10, x11]) rfl rfl t1).trans r⟩
/-- the law -/
theorem law_is {ns : List Int} (hb : ∀ z ∈ ns, bits z ≤ 1048576) (hl : ns.length ≤ 63) : F_law [sc ns] = some (.ok (.dat (.bl true)), [sc ns]) := by
  obtain ⟨j, hj, j3⟩ : ∃ j : Int, (if (if (ns.length : Int) < 3 then (ns.length : Int) else 3) > 1 then (if (ns.length : Int) < 3 then (ns.length : Int) else 3) else 1) = j ∧ j ≤ 3 ∧ 1 ≤ j := ⟨_, rfl, by split <;> split <;> omega⟩
  obtain ⟨ρ', ht⟩ := turns hb (rangeD 0 j.toNat) [some (sc ns), none, none, none, none, none, none, none, none, none, none, none] (fun d hd => by
    unfold rangeD at hd
    obtain ⟨k, hk, rfl⟩ := List.mem_map.mp hd
    rw [List.mem_range] at hk
    exact ⟨_, rfl, by omega, by omega⟩) rfl rfl
  have d : den_law [some (sc ns), none, none, none, none, none, none, none, none, none, none, none] = some (.rt (.dat (.bl true)), ρ') := by
    rw [den_law_is]
    rw [seq_at (ρ1 := ρ') ?t]
    · rfl
    case t =>
      unfold sFor
      rw [then_at (a := rangeD 0 j.toNat) (ρ1 := [some (sc ns), none, none, none, none, none, none, none, none, none, none, none]) ?u]
      · exact ht
      case u =>
        have e1 : eFun fLen (aCons (rVar 0) aNil) [some (sc ns), none, none, none, none, none, none, none, none, none, none, none] = some (.ok (.int ns.length), [some (sc ns), none, none, none, none, none, none, none, none, none, none, none]) := e_fun1v (o := sc ns) rfl (by show some (D.int ((ns.map D.int).length : Int)) = _; rw [List.length_map])
        have e2 := e_fun2 (f := fMin2) (e_c (ρ := [some (sc ns), none, none, none, none, none, none, none, none, none, none, none]) (.int 3)) e1 rfl
        have e3 := e_fun2 (f := fMax2) (e_c (ρ := [some (sc ns), none, none, none, none, none, none, none, none, none, none, none]) (.int 1)) e2 (z := .int j) (by rw [← hj]; rfl)
        unfold l_src iRange1
        rw [bind_at (a := [.d (.int j)]) (ρ1 := [some (sc ns), none, none, none, none, none, none, none, none, none, none, none]) ?v]
        case v =>
          exact e_args1 e3
        have c : decide (-1000000000 ≤ j ∧ j ≤ 1000000000) = true := decide_eq_true ⟨by omega, by omega⟩
        show M.bind (M.chk (decide (-1000000000 ≤ j ∧ j ≤ 1000000000))) (fun _ => M.ret (rangeD 0 j.toNat)) _ = _
        rw [c]
        rfl
  show defF 12 den_law _ = _
  unfold defF
  rw [show ([sc ns].map some ++ List.replicate (12 - [sc ns].length) none : En) = [some (sc ns), none, none, none, none, none, none, none, none, none, none, none] from rfl, d]
  rfl
theorem ints_rep {T : Cs} {G : Hp} : ∀ ns : List Int, RepL T G (ns.map D.int) (ns.map V.int)
  | [] => rfl
  | n :: ns => ⟨_, _, rfl, rfl, ints_rep ns⟩
/-- what the law's def promises is what is asked -/
theorem law_sp {K : PySem.W.Frag} {cl : Str → Option Addr} {H : Hp} {a : Addr} {ns : List Int} (hb : ∀ z ∈ ns, bits z ≤ 1048576) (hl : ns.length ≤ 63) (hS : SqL K H a (ns.map V.int)) :
    spF ⟨K, cl⟩ 1 F_law [.ref a] H (fun v _ => v = .bl true) fun _ _ _ => False := by
  refine ⟨rfl, H, [sc ns], _, _, ⟨Ex.refl _, rfl, fun i o h => ?_, fun i j o o' b h1 h2 p1 p2 s1 s2 => ?_⟩, law_is hb hl, rfl, fun v G' H' n k r => ?_⟩
  · cases i with
    | zero =>
      cases h
      exact ⟨.ref a, rfl, a, _, rfl, hS, ints_rep ns⟩
    | succ i => simp at h
  · cases i with
    | zero =>
      cases h1
      cases p1
    | succ i => simp at h1
  · exact r.1
end Law

set_option maxRecDepth 100000
set_option maxHeartbeats 4000000
namespace Law
open PySem PySem.Spec PyProof.Rows L2 Fn

theorem walk {l : PySem.W.OpenLaw} {q : Program} {loose : List Str} {XP : (Str → Option Value) → Heap → Prop} {YP : World → Heap → Prop} {d : DefRec} {K : Params → PySem.W.Frag} (cl : Str → Option Addr) (hn : l.most = some 63) (hdf : d.params.defaults = [])
    (hY : ∀ (w : World) (h : Heap), YP w h → (K w.params).In h)
    (F : ∀ (w : World) (mg : Str → Option Value) (fa : Addr) (h : Heap), (K w.params).In h → h.Ns mainGlobals mg → mg d.name = some (.ref fa) →
      ∃ fd : FuncData, (∀ (s : Shared) (u : Value), BindsTo s fd ⟨[u], []⟩ [("script", u)]) ∧ ∀ base : Heap, (K w.params).In base → base.Ns mainGlobals mg → FnS l.prog w (K w.params) mg base (L2.CX l.prog w) 4 fa fd ["script"] (spF ⟨K w.params, cl⟩ 1 F_law)) :
    PySem.W.WalkO q loose XP YP l.row.toRowW d [] (fun f vs => PySem.call f vs) :=
  end_walk (n := 63) (k := 4) (x := "script") (CX := fun w => L2.CX l.prog w) (sp := fun w => spF ⟨K w.params, cl⟩ 1 F_law) hn (by decide) hdf ⟨rfl, by decide, by decide⟩ hY F (fun _ _ _ _ hl hb hS => law_sp hb hl hS) fun w H s e s' c => by
    obtain ⟨a, B, H', cls, d, _, _, _, _, _, _, _, z⟩ := c
    exact z.elim
end Law

set_option maxRecDepth 100000
set_option maxHeartbeats 4000000
namespace Law
open PySem PySem.Spec PyProof.Rows L2 Fn

def clsL : List (Str × Addr) := [("BadWorlds", 44), ("BadWeights", 63), ("BadPeople", 82), ("BadPerson", 101), ("NamedTwice", 120), ("NoPerson", 139), ("NoWorld", 158), ("NoSet", 177), ("BadEvent", 196), ("BadRule", 215), ("BadOrder", 234), ("BadWeb", 253), ("BadNumber", 272), ("NotSettled", 284), ("BadCells", 303), ("BadName", 322), ("LastOne", 334), ("Nothing", 346), ("BadLine", 365)]
def cl (c : Str) : Option Addr := clsL.lookup c
def askL : List (Str × Value) := clsL.map (fun p => (p.1, Value.ref p.2)) ++ ([(("TalkError" : Str), Value.ref 24), (("ValueError" : Str), Value.type "ValueError")] : List (Str × Value))
def iniL : List (Str × Str × Nat × Addr) := [("BadWorlds", "BadWorlds.__init__", 2, 41), ("BadWeights", "BadWeights.__init__", 3, 60), ("BadPeople", "BadPeople.__init__", 4, 79), ("BadPerson", "BadPerson.__init__", 5, 98), ("NamedTwice", "NamedTwice.__init__", 6, 117), ("NoPerson", "NoPerson.__init__", 7, 136), ("NoWorld", "NoWorld.__init__", 8, 155), ("NoSet", "NoSet.__init__", 9, 174), ("BadEvent", "BadEvent.__init__", 10, 193), ("BadRule", "BadRule.__init__", 11, 212), ("BadOrder", "BadOrder.__init__", 12, 231), ("BadWeb", "BadWeb.__init__", 13, 250), ("BadNumber", "BadNumber.__init__", 14, 269), ("BadCells", "BadCells.__init__", 16, 300), ("BadName", "BadName.__init__", 17, 319), ("BadLine", "BadLine.__init__", 20, 362)]

/-- what the top has written -/
structure Wr (K : PySem.W.Frag) : Prop where
  d0 : FnAt K "_law_tape" s_law_tape 374
  d1 : FnAt K "_law_pick" s_law_pick 381
  d2 : FnAt K "_law_one_of" s_law_one_of 388
  d3 : FnAt K "_law_any" s_law_any 395
  d4 : FnAt K "_law_of_values" s_law_of_values 402
  d5 : FnAt K "_law_of_others" s_law_of_others 409
  d6 : FnAt K "_law_kinds" s_law_kinds 416
  d7 : FnAt K "law" s_law 421
  te : PySem.W.nsIn K mainGlobals "TalkError" = some (some (.ref 24))
  ve : PySem.W.nsIn K mainGlobals "ValueError" = some none
  cs : ∀ p ∈ clsL, XcAt K p.1 p.2
  is : ∀ p ∈ iniL, ∃ C, cl p.1 = some C ∧ InAt K p.2.1 (L2.inClass (top p.2.2.1) 0) C p.2.2.2
  ck : (clsL.all fun p => xck K p.2 flds) = true
  ex : (bare.all fun c => match cl c with | some C => PySem.W.excIn K C PySem.HandSPX.veTail "ValueError.__new__" | none => false) = true
  ty : (iniL.all fun p => decide (PySem.W.typeIn K (.ref p.2.2.2) = some (.type "function"))) = true
  kd : (askL.all fun q => clsL.all fun p => decide (PySem.W.kitOne K (.ref p.2) q.2 = some (decide (p.1 = q.1 ∨ q.1 = "TalkError" ∨ q.1 = "ValueError")))) = true
  bl : (blts.all fun x => decide (PySem.W.nsIn K mainGlobals x = some none)) = true
  sy : SysK K

theorem ini_BadWorlds : IniSt (L2.inClass (top 2) 0) "value" := ⟨_, _, _, _, ⟨rfl, rfl, rfl, by decide +kernel, rfl, by decide +kernel, by decide +kernel⟩, rfl, Or.inl rfl, Or.inl rfl, by decide +kernel, by decide +kernel, fun _ _ _ _ _ _ _ _ _ => rfl, fun _ _ _ _ _ _ _ _ _ => rfl⟩
theorem ini_BadWeights : IniSt (L2.inClass (top 3) 0) "value" := ⟨_, _, _, _, ⟨rfl, rfl, rfl, by decide +kernel, rfl, by decide +kernel, by decide +kernel⟩, rfl, Or.inl rfl, Or.inl rfl, by decide +kernel, by decide +kernel, fun _ _ _ _ _ _ _ _ _ => rfl, fun _ _ _ _ _ _ _ _ _ => rfl⟩
theorem ini_BadPeople : IniSt (L2.inClass (top 4) 0) "value" := ⟨_, _, _, _, ⟨rfl, rfl, rfl, by decide +kernel, rfl, by decide +kernel, by decide +kernel⟩, rfl, Or.inl rfl, Or.inl rfl, by decide +kernel, by decide +kernel, fun _ _ _ _ _ _ _ _ _ => rfl, fun _ _ _ _ _ _ _ _ _ => rfl⟩
theorem ini_BadPerson : IniSt (L2.inClass (top 5) 0) "number" := ⟨_, _, _, _, ⟨rfl, rfl, rfl, by decide +kernel, rfl, by decide +kernel, by decide +kernel⟩, rfl, Or.inl rfl, Or.inl rfl, by decide +kernel, by decide +kernel, fun _ _ _ _ _ _ _ _ _ => rfl, fun _ _ _ _ _ _ _ _ _ => rfl⟩
theorem ini_NamedTwice : IniSt (L2.inClass (top 6) 0) "name" := ⟨_, _, _, _, ⟨rfl, rfl, rfl, by decide +kernel, rfl, by decide +kernel, by decide +kernel⟩, rfl, Or.inl rfl, Or.inl rfl, by decide +kernel, by decide +kernel, fun _ _ _ _ _ _ _ _ _ => rfl, fun _ _ _ _ _ _ _ _ _ => rfl⟩
theorem ini_NoPerson : IniSt (L2.inClass (top 7) 0) "value" := ⟨_, _, _, _, ⟨rfl, rfl, rfl, by decide +kernel, rfl, by decide +kernel, by decide +kernel⟩, rfl, Or.inl rfl, Or.inl rfl, by decide +kernel, by decide +kernel, fun _ _ _ _ _ _ _ _ _ => rfl, fun _ _ _ _ _ _ _ _ _ => rfl⟩
theorem ini_NoWorld : IniSt (L2.inClass (top 8) 0) "value" := ⟨_, _, _, _, ⟨rfl, rfl, rfl, by decide +kernel, rfl, by decide +kernel, by decide +kernel⟩, rfl, Or.inl rfl, Or.inl rfl, by decide +kernel, by decide +kernel, fun _ _ _ _ _ _ _ _ _ => rfl, fun _ _ _ _ _ _ _ _ _ => rfl⟩
theorem ini_NoSet : IniSt (L2.inClass (top 9) 0) "value" := ⟨_, _, _, _, ⟨rfl, rfl, rfl, by decide +kernel, rfl, by decide +kernel, by decide +kernel⟩, rfl, Or.inl rfl, Or.inl rfl, by decide +kernel, by decide +kernel, fun _ _ _ _ _ _ _ _ _ => rfl, fun _ _ _ _ _ _ _ _ _ => rfl⟩
theorem ini_BadEvent : IniSt (L2.inClass (top 10) 0) "value" := ⟨_, _, _, _, ⟨rfl, rfl, rfl, by decide +kernel, rfl, by decide +kernel, by decide +kernel⟩, rfl, Or.inl rfl, Or.inl rfl, by decide +kernel, by decide +kernel, fun _ _ _ _ _ _ _ _ _ => rfl, fun _ _ _ _ _ _ _ _ _ => rfl⟩
theorem ini_BadRule : IniSt (L2.inClass (top 11) 0) "value" := ⟨_, _, _, _, ⟨rfl, rfl, rfl, by decide +kernel, rfl, by decide +kernel, by decide +kernel⟩, rfl, Or.inl rfl, Or.inl rfl, by decide +kernel, by decide +kernel, fun _ _ _ _ _ _ _ _ _ => rfl, fun _ _ _ _ _ _ _ _ _ => rfl⟩
theorem ini_BadOrder : IniSt (L2.inClass (top 12) 0) "value" := ⟨_, _, _, _, ⟨rfl, rfl, rfl, by decide +kernel, rfl, by decide +kernel, by decide +kernel⟩, rfl, Or.inl rfl, Or.inl rfl, by decide +kernel, by decide +kernel, fun _ _ _ _ _ _ _ _ _ => rfl, fun _ _ _ _ _ _ _ _ _ => rfl⟩
theorem ini_BadWeb : IniSt (L2.inClass (top 13) 0) "value" := ⟨_, _, _, _, ⟨rfl, rfl, rfl, by decide +kernel, rfl, by decide +kernel, by decide +kernel⟩, rfl, Or.inl rfl, Or.inl rfl, by decide +kernel, by decide +kernel, fun _ _ _ _ _ _ _ _ _ => rfl, fun _ _ _ _ _ _ _ _ _ => rfl⟩
theorem ini_BadNumber : IniSt (L2.inClass (top 14) 0) "value" := ⟨_, _, _, _, ⟨rfl, rfl, rfl, by decide +kernel, rfl, by decide +kernel, by decide +kernel⟩, rfl, Or.inl rfl, Or.inl rfl, by decide +kernel, by decide +kernel, fun _ _ _ _ _ _ _ _ _ => rfl, fun _ _ _ _ _ _ _ _ _ => rfl⟩
theorem ini_BadCells : IniSt (L2.inClass (top 16) 0) "value" := ⟨_, _, _, _, ⟨rfl, rfl, rfl, by decide +kernel, rfl, by decide +kernel, by decide +kernel⟩, rfl, Or.inl rfl, Or.inl rfl, by decide +kernel, by decide +kernel, fun _ _ _ _ _ _ _ _ _ => rfl, fun _ _ _ _ _ _ _ _ _ => rfl⟩
theorem ini_BadName : IniSt (L2.inClass (top 17) 0) "value" := ⟨_, _, _, _, ⟨rfl, rfl, rfl, by decide +kernel, rfl, by decide +kernel, by decide +kernel⟩, rfl, Or.inl rfl, Or.inl rfl, by decide +kernel, by decide +kernel, fun _ _ _ _ _ _ _ _ _ => rfl, fun _ _ _ _ _ _ _ _ _ => rfl⟩
theorem ini_BadLine : IniSt (L2.inClass (top 20) 0) "line" := ⟨_, _, _, _, ⟨rfl, rfl, rfl, by decide +kernel, rfl, by decide +kernel, by decide +kernel⟩, rfl, Or.inl rfl, Or.inl rfl, by decide +kernel, by decide +kernel, fun _ _ _ _ _ _ _ _ _ => rfl, fun _ _ _ _ _ _ _ _ _ => rfl⟩

theorem cl_mem {c : Str} {C : Addr} (h : cl c = some C) : (c, C) ∈ clsL := PySem.mem_of_lookup h
theorem cl_all : (clsL.all fun p => decide (cl p.1 = some p.2)) = true := by kernel_rfl
theorem mem_cl {p : Str × Addr} (h : p ∈ clsL) : cl p.1 = some p.2 := of_decide_eq_true (List.all_eq_true.mp cl_all p h)
theorem names_cl : (allC.all fun c => (cl c).isSome) = true := by kernel_rfl
theorem withF_ini : (withF.all fun q => iniL.any fun p => decide (p.1 = q.1)) = true := by kernel_rfl
theorem flds_all : (withF.all fun q => decide (q.2 ∈ flds)) = true := by kernel_rfl
theorem asked_in : (asked.all fun c => (askL.lookup c).isSome) = true := by kernel_rfl
theorem ini_st : ∀ p ∈ iniL, ∀ f, (p.1, f) ∈ withF → IniSt (L2.inClass (top p.2.2.1) 0) f := by
  have key : ∀ p ∈ iniL, ∃ f, (withF.lookup p.1 = some f) ∧ IniSt (L2.inClass (top p.2.2.1) 0) f := by
    unfold iniL
    refine List.forall_mem_cons.mpr ⟨⟨_, by kernel_rfl, ini_BadWorlds⟩, List.forall_mem_cons.mpr ⟨⟨_, by kernel_rfl, ini_BadWeights⟩, List.forall_mem_cons.mpr ⟨⟨_, by kernel_rfl, ini_BadPeople⟩, List.forall_mem_cons.mpr ⟨⟨_, by kernel_rfl, ini_BadPerson⟩, List.forall_mem_cons.mpr ⟨⟨_, by kernel_rfl, ini_NamedTwice⟩, List.forall_mem_cons.mpr ⟨⟨_, by kernel_rfl, ini_NoPerson⟩, List.forall_mem_cons.mpr ⟨⟨_, by kernel_rfl, ini_NoWorld⟩, List.forall_mem_cons.mpr ⟨⟨_, by kernel_rfl, ini_NoSet⟩, List.forall_mem_cons.mpr ⟨⟨_, by kernel_rfl, ini_BadEvent⟩, List.forall_mem_cons.mpr ⟨⟨_, by kernel_rfl, ini_BadRule⟩, List.forall_mem_cons.mpr ⟨⟨_, by kernel_rfl, ini_BadOrder⟩, List.forall_mem_cons.mpr ⟨⟨_, by kernel_rfl, ini_BadWeb⟩, List.forall_mem_cons.mpr ⟨⟨_, by kernel_rfl, ini_BadNumber⟩, List.forall_mem_cons.mpr ⟨⟨_, by kernel_rfl, ini_BadCells⟩, List.forall_mem_cons.mpr ⟨⟨_, by kernel_rfl, ini_BadName⟩, List.forall_mem_cons.mpr ⟨⟨_, by kernel_rfl, ini_BadLine⟩, List.forall_mem_nil _⟩⟩⟩⟩⟩⟩⟩⟩⟩⟩⟩⟩⟩⟩⟩⟩
  intro p hp f hf
  obtain ⟨g, h1, h2⟩ := key p hp
  have e : ∀ q ∈ withF, withF.lookup q.1 = some q.2 := by
    have z : (withF.all fun q => decide (withF.lookup q.1 = some q.2)) = true := by kernel_rfl
    exact fun q hq => of_decide_eq_true (List.all_eq_true.mp z q hq)
  have e2 := e _ hf
  rw [h1] at e2
  cases e2
  exact h2


theorem env1 {P : Program} {w : World} {K : PySem.W.Frag} {mg : Str → Option Value} {h : Heap} (X : K.In h) (G : h.Ns mainGlobals mg) (A : Wr K) (base : Heap) : Env1 ⟨P, w, K, mg, base, cl⟩ where
  hB := fun x hx => PySem.W.mg_none_of X G (of_decide_eq_true (List.all_eq_true.mp A.bl x hx))
  hS := A.sy
  hX := ⟨fun c C hc => (xck_ok (A.cs _ (cl_mem hc)) (List.all_eq_true.mp A.ck _ (cl_mem hc))).1, fun c C hc => (xck_ok (A.cs _ (cl_mem hc)) (List.all_eq_true.mp A.ck _ (cl_mem hc))).2⟩
  hE := fun c f hf => by
    obtain ⟨p, hp, e⟩ := List.any_eq_true.mp (List.all_eq_true.mp withF_ini _ hf)
    have e : p.1 = c := of_decide_eq_true e
    obtain ⟨C, hc, I⟩ := A.is p hp
    rw [e] at hc
    have st := ini_st p hp f (by rw [e]; exact hf)
    exact calX_of (T := ⟨P, w, K, mg, base, cl⟩) X G hc (A.cs _ (cl_mem hc)) (List.all_eq_true.mp A.ck _ (cl_mem hc)) (of_decide_eq_true (List.all_eq_true.mp flds_all _ hf)) I (of_decide_eq_true (List.all_eq_true.mp A.ty p hp)) st
  hE0 := fun c hc => by
    have q := List.all_eq_true.mp A.ex c hc
    cases e : cl c with
    | none =>
      rw [e] at q
      cases q
    | some C =>
      rw [e] at q
      exact calX0_of (T := ⟨P, w, K, mg, base, cl⟩) X G e (A.cs _ (cl_mem e)) (List.all_eq_true.mp A.ck _ (cl_mem e)) q
  hI := fun c hc => by
    obtain ⟨u, hu⟩ := Option.isSome_iff_exists.mp (List.all_eq_true.mp asked_in c hc)
    have mu : (c, u) ∈ askL := PySem.mem_of_lookup hu
    have sb : SubOk K cl u (sub c) := ⟨fun n b e => (by cases e), fun d C b hd e => by
      have md := cl_mem hd
      have z := of_decide_eq_true (List.all_eq_true.mp (List.all_eq_true.mp A.kd _ mu) _ md)
      have e' : (if d ∈ allC then some (decide (d = c ∨ c = "TalkError" ∨ c = "ValueError")) else none) = some b := e
      split at e'
      · rw [Option.some.inj e'] at z
        exact z
      · cases e'⟩
    rcases List.mem_append.mp mu with m | m
    · obtain ⟨p, hp, e⟩ := List.mem_map.mp m
      obtain ⟨e1, e2⟩ := Prod.mk.inj e
      subst e1
      subst e2
      obtain ⟨nm, q, N, bs, bm, sn, sub, ab, col, dd, k0, k1, k2, k3, k5, ha, _, _⟩ := A.cs p hp
      exact .own p.2 (PySem.W.mg_of X G ha) sb
    · rcases List.mem_cons.mp m with m | m
      · obtain ⟨e1, e2⟩ := Prod.mk.inj m
        subst e1
        subst e2
        exact .own _ (PySem.W.mg_of X G A.te) sb
      · obtain ⟨e1, e2⟩ := Prod.mk.inj (List.mem_singleton.mp m)
        subst e1
        subst e2
        exact .ty _ (PySem.W.mg_none_of X G A.ve) (by decide +kernel) (by decide) sb
theorem all_mk {P : Program} {w : World} {K : PySem.W.Frag} {mg : Str → Option Value} {h : Heap} {fa : Addr} (X : K.In h) (G : h.Ns mainGlobals mg) (hfa : mg "law" = some (.ref fa)) (A : Wr K) :
    ∃ fd : FuncData, (∀ (s : Shared) (u : Value), BindsTo s fd ⟨[u], []⟩ [("script", u)]) ∧ ∀ base : Heap, K.In base → base.Ns mainGlobals mg → FnS P w K mg base (L2.CX P w) 4 fa fd ["script"] (spF ⟨K, cl⟩ 1 F_law) := by
  obtain ⟨oc, od, an, kV, dc, pm, cd, ct, sl, a1, a2, a3, a4⟩ := A.d7
  have e := hfa.symm.trans (PySem.W.mg_of X G a1)
  cases e
  refine ⟨PySem.W.fnOf "law" "law" (defArgs s_law) (defBody s_law) (defScope s_law) .none kV dc pm an cd ct, fun s u => .of_eq rfl, fun base X0 G0 => ?_⟩
  have Y : Env1 ⟨P, w, K, mg, base, cl⟩ := env1 X G A base
  have c0 : Cal ⟨P, w, K, mg, base, cl⟩ 1 2 "_law_tape" F_law_tape := cal_of X G A.d0 (fun fd F => ok_law_tape F Y) fun _ _ _ _ _ _ us hl => match us, hl with | [_, _], _ => rfl
  have c1 : Cal ⟨P, w, K, mg, base, cl⟩ 1 2 "_law_pick" F_law_pick := cal_of X G A.d1 (fun fd F => ok_law_pick F Y) fun _ _ _ _ _ _ us hl => match us, hl with | [_, _], _ => rfl
  have c2 : Cal ⟨P, w, K, mg, base, cl⟩ 2 2 "_law_one_of" F_law_one_of := cal_of X G A.d2 (fun fd F => ok_law_one_of F Y c1) fun _ _ _ _ _ _ us hl => match us, hl with | [_, _], _ => rfl
  have c3 : Cal ⟨P, w, K, mg, base, cl⟩ 3 1 "_law_any" F_law_any := cal_of X G A.d3 (fun fd F => ok_law_any F Y c2) fun _ _ _ _ _ _ us hl => match us, hl with | [_], _ => rfl
  have c4 : Cal ⟨P, w, K, mg, base, cl⟩ 3 1 "_law_of_values" F_law_of_values := cal_of X G A.d4 (fun fd F => ok_law_of_values F Y) fun _ _ _ _ _ _ us hl => match us, hl with | [_], _ => rfl
  have c5 : Cal ⟨P, w, K, mg, base, cl⟩ 3 1 "_law_of_others" F_law_of_others := cal_of X G A.d5 (fun fd F => ok_law_of_others F Y) fun _ _ _ _ _ _ us hl => match us, hl with | [_], _ => rfl
  have c6 : Cal ⟨P, w, K, mg, base, cl⟩ 1 1 "_law_kinds" F_law_kinds := cal_of X G A.d6 (fun fd F => ok_law_kinds F Y) fun _ _ _ _ _ _ us hl => match us, hl with | [_], _ => rfl
  exact ok_law (T := ⟨P, w, K, mg, base, cl⟩) (fun_mk a2 a3 a4) Y (c_law_tape := c0) (c_law_any := c3) (c_law_of_values := c4) (c_law_of_others := c5) (c_law_kinds := c6)
end Law

set_option maxRecDepth 100000
set_option maxHeartbeats 0
open PySem PySem.W PyProof.Rows
theorem PySem.Challenge.cw_talkedalike_k01_errors_made_holds : PySem.Challenge.rw_talkedalike_k01_errors_made.Holds := by
  w_on; o_law; x_head; (case hw => w_witness2)
  k_fill
  refine Law.walk (l := PySem.Challenge.rw_talkedalike_k01_errors_made) Law.cl rfl rfl (fun w h Y => PySem.W.kIn_of Y) ?F
  case F =>
    intro w mg fa h KX G hmg
    refine Law.all_mk KX G hmg ?A
    refine Law.Wr.mk ?d0 ?d1 ?d2 ?d3 ?d4 ?d5 ?d6 ?d7 ?te ?ve ?cs ?is ?ck ?ex ?ty ?kd ?bl ?sy
    (case d0 => (refine' Fn.fnAt_mk ?a ?l ?c ?k; (case a => k_is); (case l => k_is); (case c => k_is); (case k => k_is))); (case d1 => (refine' Fn.fnAt_mk ?a ?l ?c ?k; (case a => k_is); (case l => k_is); (case c => k_is); (case k => k_is))); (case d2 => (refine' Fn.fnAt_mk ?a ?l ?c ?k; (case a => k_is); (case l => k_is); (case c => k_is); (case k => k_is))); (case d3 => (refine' Fn.fnAt_mk ?a ?l ?c ?k; (case a => k_is); (case l => k_is); (case c => k_is); (case k => k_is))); (case d4 => (refine' Fn.fnAt_mk ?a ?l ?c ?k; (case a => k_is); (case l => k_is); (case c => k_is); (case k => k_is))); (case d5 => (refine' Fn.fnAt_mk ?a ?l ?c ?k; (case a => k_is); (case l => k_is); (case c => k_is); (case k => k_is))); (case d6 => (refine' Fn.fnAt_mk ?a ?l ?c ?k; (case a => k_is); (case l => k_is); (case c => k_is); (case k => k_is))); (case d7 => (refine' Fn.fnAt_mk ?a ?l ?c ?k; (case a => k_is); (case l => k_is); (case c => k_is); (case k => k_is)))
    (case te => k_is); (case ve => k_is)
    (case cs => unfold Law.clsL; exact List.forall_mem_cons.mpr ⟨by (refine' Fn.xcAt_mk ?a ?l ?r; (case a => k_is); (case l => k_is); (case r => kernel_rfl)), List.forall_mem_cons.mpr ⟨by (refine' Fn.xcAt_mk ?a ?l ?r; (case a => k_is); (case l => k_is); (case r => kernel_rfl)), List.forall_mem_cons.mpr ⟨by (refine' Fn.xcAt_mk ?a ?l ?r; (case a => k_is); (case l => k_is); (case r => kernel_rfl)), List.forall_mem_cons.mpr ⟨by (refine' Fn.xcAt_mk ?a ?l ?r; (case a => k_is); (case l => k_is); (case r => kernel_rfl)), List.forall_mem_cons.mpr ⟨by (refine' Fn.xcAt_mk ?a ?l ?r; (case a => k_is); (case l => k_is); (case r => kernel_rfl)), List.forall_mem_cons.mpr ⟨by (refine' Fn.xcAt_mk ?a ?l ?r; (case a => k_is); (case l => k_is); (case r => kernel_rfl)), List.forall_mem_cons.mpr ⟨by (refine' Fn.xcAt_mk ?a ?l ?r; (case a => k_is); (case l => k_is); (case r => kernel_rfl)), List.forall_mem_cons.mpr ⟨by (refine' Fn.xcAt_mk ?a ?l ?r; (case a => k_is); (case l => k_is); (case r => kernel_rfl)), List.forall_mem_cons.mpr ⟨by (refine' Fn.xcAt_mk ?a ?l ?r; (case a => k_is); (case l => k_is); (case r => kernel_rfl)), List.forall_mem_cons.mpr ⟨by (refine' Fn.xcAt_mk ?a ?l ?r; (case a => k_is); (case l => k_is); (case r => kernel_rfl)), List.forall_mem_cons.mpr ⟨by (refine' Fn.xcAt_mk ?a ?l ?r; (case a => k_is); (case l => k_is); (case r => kernel_rfl)), List.forall_mem_cons.mpr ⟨by (refine' Fn.xcAt_mk ?a ?l ?r; (case a => k_is); (case l => k_is); (case r => kernel_rfl)), List.forall_mem_cons.mpr ⟨by (refine' Fn.xcAt_mk ?a ?l ?r; (case a => k_is); (case l => k_is); (case r => kernel_rfl)), List.forall_mem_cons.mpr ⟨by (refine' Fn.xcAt_mk ?a ?l ?r; (case a => k_is); (case l => k_is); (case r => kernel_rfl)), List.forall_mem_cons.mpr ⟨by (refine' Fn.xcAt_mk ?a ?l ?r; (case a => k_is); (case l => k_is); (case r => kernel_rfl)), List.forall_mem_cons.mpr ⟨by (refine' Fn.xcAt_mk ?a ?l ?r; (case a => k_is); (case l => k_is); (case r => kernel_rfl)), List.forall_mem_cons.mpr ⟨by (refine' Fn.xcAt_mk ?a ?l ?r; (case a => k_is); (case l => k_is); (case r => kernel_rfl)), List.forall_mem_cons.mpr ⟨by (refine' Fn.xcAt_mk ?a ?l ?r; (case a => k_is); (case l => k_is); (case r => kernel_rfl)), List.forall_mem_cons.mpr ⟨by (refine' Fn.xcAt_mk ?a ?l ?r; (case a => k_is); (case l => k_is); (case r => kernel_rfl)), List.forall_mem_nil _⟩⟩⟩⟩⟩⟩⟩⟩⟩⟩⟩⟩⟩⟩⟩⟩⟩⟩⟩)
    (case is => unfold Law.iniL; exact List.forall_mem_cons.mpr ⟨⟨44, by kernel_rfl, by (refine' Fn.inAt_mk ?a ?l ?c ?k; (case a => k_is); (case l => k_is); (case c => k_is); (case k => k_is))⟩, List.forall_mem_cons.mpr ⟨⟨63, by kernel_rfl, by (refine' Fn.inAt_mk ?a ?l ?c ?k; (case a => k_is); (case l => k_is); (case c => k_is); (case k => k_is))⟩, List.forall_mem_cons.mpr ⟨⟨82, by kernel_rfl, by (refine' Fn.inAt_mk ?a ?l ?c ?k; (case a => k_is); (case l => k_is); (case c => k_is); (case k => k_is))⟩, List.forall_mem_cons.mpr ⟨⟨101, by kernel_rfl, by (refine' Fn.inAt_mk ?a ?l ?c ?k; (case a => k_is); (case l => k_is); (case c => k_is); (case k => k_is))⟩, List.forall_mem_cons.mpr ⟨⟨120, by kernel_rfl, by (refine' Fn.inAt_mk ?a ?l ?c ?k; (case a => k_is); (case l => k_is); (case c => k_is); (case k => k_is))⟩, List.forall_mem_cons.mpr ⟨⟨139, by kernel_rfl, by (refine' Fn.inAt_mk ?a ?l ?c ?k; (case a => k_is); (case l => k_is); (case c => k_is); (case k => k_is))⟩, List.forall_mem_cons.mpr ⟨⟨158, by kernel_rfl, by (refine' Fn.inAt_mk ?a ?l ?c ?k; (case a => k_is); (case l => k_is); (case c => k_is); (case k => k_is))⟩, List.forall_mem_cons.mpr ⟨⟨177, by kernel_rfl, by (refine' Fn.inAt_mk ?a ?l ?c ?k; (case a => k_is); (case l => k_is); (case c => k_is); (case k => k_is))⟩, List.forall_mem_cons.mpr ⟨⟨196, by kernel_rfl, by (refine' Fn.inAt_mk ?a ?l ?c ?k; (case a => k_is); (case l => k_is); (case c => k_is); (case k => k_is))⟩, List.forall_mem_cons.mpr ⟨⟨215, by kernel_rfl, by (refine' Fn.inAt_mk ?a ?l ?c ?k; (case a => k_is); (case l => k_is); (case c => k_is); (case k => k_is))⟩, List.forall_mem_cons.mpr ⟨⟨234, by kernel_rfl, by (refine' Fn.inAt_mk ?a ?l ?c ?k; (case a => k_is); (case l => k_is); (case c => k_is); (case k => k_is))⟩, List.forall_mem_cons.mpr ⟨⟨253, by kernel_rfl, by (refine' Fn.inAt_mk ?a ?l ?c ?k; (case a => k_is); (case l => k_is); (case c => k_is); (case k => k_is))⟩, List.forall_mem_cons.mpr ⟨⟨272, by kernel_rfl, by (refine' Fn.inAt_mk ?a ?l ?c ?k; (case a => k_is); (case l => k_is); (case c => k_is); (case k => k_is))⟩, List.forall_mem_cons.mpr ⟨⟨303, by kernel_rfl, by (refine' Fn.inAt_mk ?a ?l ?c ?k; (case a => k_is); (case l => k_is); (case c => k_is); (case k => k_is))⟩, List.forall_mem_cons.mpr ⟨⟨322, by kernel_rfl, by (refine' Fn.inAt_mk ?a ?l ?c ?k; (case a => k_is); (case l => k_is); (case c => k_is); (case k => k_is))⟩, List.forall_mem_cons.mpr ⟨⟨365, by kernel_rfl, by (refine' Fn.inAt_mk ?a ?l ?c ?k; (case a => k_is); (case l => k_is); (case c => k_is); (case k => k_is))⟩, List.forall_mem_nil _⟩⟩⟩⟩⟩⟩⟩⟩⟩⟩⟩⟩⟩⟩⟩⟩)
    (case ck => kernel_rfl); (case ex => kernel_rfl); (case ty => kernel_rfl); (case kd => kernel_rfl); (case bl => kernel_rfl)
    (case sy => (refine' Fn.sysK_mk ?l ?c; (case l => k_is); (case c => exact fun z => absurd (Value.type.inj z) (by decide))))
