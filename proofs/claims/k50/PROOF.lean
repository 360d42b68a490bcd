import PyProof.Rows.All
import Wide.All
import OpenK.AllK
import Wide.FinOn
import PySem.Challenge.RW_talkedalike_k50_forms_by_hand
import HandS.ForMost
import HandS.ForExc
import HandS.ExcInit
import HandS.EndBits
import HandS.SetKeys
import HandS.Property
import HandS.DictComp
import HandS.Gcd
import HandS.Flow
import HandS.Zip
import HandS.Strs
import HandS.Conv
import HandS.Codes
import HandS.CallLocal
import HandS.IsInst
import HandS.DictTup
import KE.SortData
import KE.DataCmp
import KE.DataAny
import KE.DataFind
import KE.DataMinMax
import HandS.TupAny
import HandS.Wide
import PyProof.ReprReads
import HandS.Style
import KE.KExcIs
import HandS.Defaults
import HandS.ExcIs
import HandS.ExcOwn
import HandS.ExcValue
import HandS.ExcField
import HandS.Words
import HandS.Ends
import PyProof.Rows.SetFrom
import KE.KDictZip
import KE.KTurns
import KE.GoesMore
import HandS.StrMore
import HandS.Rev
import HandS.Deep
import HandS.TryOnly
import OpenK.XHead
set_option Elab.async false
set_option linter.all false
set_option maxRecDepth 100000
set_option maxHeartbeats 4000000
/-! Fn: Python's own data as a Lean type; environments; what a state says of them; expressions and statements as functions of an environment. -/
namespace Fn
open PySem PySem.Spec PyProof.Rows L2

/-- data -/
inductive D where
  | non | bl (b : Bool) | int (i : Int) | str (x : Str)
  | lst (xs : List D) | tup (xs : List D)
  | dk (ks : List Key) (vs : List D)
  | exc (c : Str) (ns : List Str) (vs : List D)
  | ro (xs : List D)
  | obj (c : Str) (ns : List Str) (vs : List D)
  | fn (x : Str)
  | set (ks : List Key)
  | dt (ks : List (List Key)) (vs : List D)
  | rk (ks : List Key) (vs : List D)
/-- what a variable holds: data; data that was its own list once; a list, a dict of its own -/
inductive O where
  | dat (d : D) | fz (d : D) | lst (xs : List D) | dk (ks : List Key) (vs : List D)
  | set (ks : List Key) | obj (c : Str) (ns : List Str) (vs : List D)
abbrev En := List (Option O)
def O.own : O → Bool
  | .lst _ => true | .dk _ _ => true | .set _ => true | .obj _ _ _ => true | _ => false
def O.d : O → D
  | .dat d => d | .fz d => d | .lst xs => .lst xs | .dk ks vs => .dk ks vs | .set ks => .set ks | .obj c ns vs => .obj c ns vs

abbrev Ex (H H' : Hp) : Prop := ∀ a o, H a = some o → H' a = some o
theorem Ex.refl (H : Hp) : Ex H H := fun _ _ h => h
theorem Ex.trans {H H1 H2 : Hp} (a : Ex H H1) (b : Ex H1 H2) : Ex H H2 := fun x o h => b x o (a x o h)
theorem ex_rd {H H' : Hp} {a : Addr} {u : HO} (e : Ex H H') (h : Rd H a u) : Rd H' a u := by
  rcases h with h | ⟨o, h⟩
  · exact .inl (e a _ h)
  · exact .inr ⟨o, e a _ h⟩
theorem ex_l {K : PySem.W.Frag} {H H' : Hp} {a : Addr} {xs : List V} (e : Ex H H') (h : SqL K H a xs) : SqL K H' a xs := by
  rcases h with h | h
  · exact .inl (ex_rd e h)
  · exact .inr h
theorem ex_t {K : PySem.W.Frag} {H H' : Hp} {a : Addr} {xs : List V} (e : Ex H H') (h : SqT K H a xs) : SqT K H' a xs := by
  rcases h with h | h
  · exact .inl (ex_rd e h)
  · exact .inr h

/-- where the exception classes, the classes of objects, the defs stand -/
structure Nms where
  e : Str → Option Addr
  o : Str → Option Addr
  f : Str → Option Addr
instance : CoeFun Nms (fun _ => Str → Option Addr) := ⟨Nms.e⟩
structure Cs where
  K : PySem.W.Frag
  cls : Nms
  P : Program
  w : World
abbrev csX (X : Cx) (cl : Nms) : Cs := ⟨X.K, cl, X.prog, X.w⟩
/-- a set of keys, as the heap has it -/
abbrev setO (T : Cs) (a : Addr) (ks : List Key) : HO := SetK T.P T.w a (fun k => ks.any fun x => decide (x = k)) ks.length

mutual
/-- v is d, over the heap G -/
def Rep (T : Cs) (G : Hp) : D → V → Prop
  | .non, v => v = .non
  | .bl b, v => v = .bl b
  | .int i, v => v = .int i
  | .str x, v => v = .str x
  | .lst ds, v => ∃ a xs, v = .ref a ∧ G a = some (.lst xs) ∧ RepL T G ds xs
  | .ro ds, v => ∃ a xs, v = .ref a ∧ SqL T.K G a xs ∧ RepL T G ds xs
  | .tup ds, v => ∃ a xs, v = .ref a ∧ SqT T.K G a xs ∧ RepL T G ds xs
  | .dk ks ds, v => ∃ a kvs, v = .ref a ∧ Rd G a (.dK kvs) ∧ kvs.map (·.1) = ks ∧ RepL T G ds (kvs.map (·.2))
  | .exc c ns ds, v => ∃ a C, v = .ref a ∧ T.cls c = some C ∧
      ((ns = [] ∧ ds = [] ∧ G a = some (exo a C none)) ∨ ∃ dx fs, G a = some (exo a C (some dx)) ∧ G dx = some (exd dx fs) ∧ fs.map (·.1) = ns ∧ RepL T G ds (fs.map (·.2)))
  | .obj c ns ds, v => ∃ a C dx fs, v = .ref a ∧ T.cls.o c = some C ∧ G a = some (.ins C dx fs) ∧ fs.map (·.1) = ns ∧ RepL T G ds (fs.map (·.2))
  | .fn x, v => ∃ f, T.cls.f x = some f ∧ v = .ref f
  | .set ks, v => ∃ a, v = .ref a ∧ G a = some (setO T a ks)
  | .dt ks ds, v => ∃ a kvs, v = .ref a ∧ G a = some (.dT kvs) ∧ kvs.map (·.1) = ks ∧ RepL T G ds (kvs.map (·.2))
  | .rk ks ds, v => ∃ a o kvs, v = .ref a ∧ G a = some (.frz o (.dK kvs)) ∧ kvs.map (·.1) = ks ∧ RepL T G ds (kvs.map (·.2))
def RepL (T : Cs) (G : Hp) : List D → List V → Prop
  | [], vs => vs = []
  | d :: ds, vs => ∃ v r, vs = v :: r ∧ Rep T G d v ∧ RepL T G ds r
end

mutual
theorem Rep.mono {T : Cs} {G G' : Hp} (e : Ex G G') : ∀ (d : D) (v : V), Rep T G d v → Rep T G' d v
  | .non, v, h => h
  | .bl b, v, h => h
  | .int i, v, h => h
  | .str x, v, h => h
  | .lst ds, v, h => by
    obtain ⟨a, xs, h1, h2, h3⟩ := h
    exact ⟨a, xs, h1, e _ _ h2, RepL.mono e ds xs h3⟩
  | .ro ds, v, h => by
    obtain ⟨a, xs, h1, h2, h3⟩ := h
    exact ⟨a, xs, h1, ex_l e h2, RepL.mono e ds xs h3⟩
  | .tup ds, v, h => by
    obtain ⟨a, xs, h1, h2, h3⟩ := h
    exact ⟨a, xs, h1, ex_t e h2, RepL.mono e ds xs h3⟩
  | .dk ks ds, v, h => by
    obtain ⟨a, kvs, h1, h2, h3, h4⟩ := h
    exact ⟨a, kvs, h1, ex_rd e h2, h3, RepL.mono e ds _ h4⟩
  | .exc c ns ds, v, h => by
    obtain ⟨a, C, h1, h2, h3⟩ := h
    refine ⟨a, C, h1, h2, ?_⟩
    rcases h3 with ⟨h3, h4, h5⟩ | ⟨dx, fs, h3, h4, h5, h6⟩
    · exact .inl ⟨h3, h4, e _ _ h5⟩
    · exact .inr ⟨dx, fs, e _ _ h3, e _ _ h4, h5, RepL.mono e ds _ h6⟩
  | .obj c ns ds, v, h => by
    obtain ⟨a, C, dx, fs, h1, h2, h3, h4, h5⟩ := h
    exact ⟨a, C, dx, fs, h1, h2, e _ _ h3, h4, RepL.mono e ds _ h5⟩
  | .fn x, v, h => h
  | .set ks, v, h => by
    obtain ⟨a, h1, h2⟩ := h
    exact ⟨a, h1, e _ _ h2⟩
  | .dt ks ds, v, h => by
    obtain ⟨a, kvs, h1, h2, h3, h4⟩ := h
    exact ⟨a, kvs, h1, e _ _ h2, h3, RepL.mono e ds _ h4⟩
  | .rk ks ds, v, h => by
    obtain ⟨a, o, kvs, h1, h2, h3, h4⟩ := h
    exact ⟨a, o, kvs, h1, e _ _ h2, h3, RepL.mono e ds _ h4⟩
theorem RepL.mono {T : Cs} {G G' : Hp} (e : Ex G G') : ∀ (ds : List D) (vs : List V), RepL T G ds vs → RepL T G' ds vs
  | [], vs, h => h
  | d :: ds, vs, h => by
    obtain ⟨v, r, h1, h2, h3⟩ := h
    exact ⟨v, r, h1, Rep.mono e d v h2, RepL.mono e ds r h3⟩
end
section
variable {T : Cs} {G : Hp}
theorem RepL.length : ∀ {ds : List D} {vs : List V}, RepL T G ds vs → vs.length = ds.length
  | [], vs, h => by
    obtain rfl : vs = [] := h
    rfl
  | d :: ds, vs, h => by
    obtain ⟨v, r, rfl, _, h3⟩ := h
    rw [List.length_cons, List.length_cons, RepL.length h3]
theorem RepL.nil : RepL T G [] [] := rfl
theorem RepL.cons {d : D} {ds : List D} {v : V} {r : List V} (h : Rep T G d v) (h' : RepL T G ds r) : RepL T G (d :: ds) (v :: r) := ⟨v, r, rfl, h, h'⟩
theorem RepL.append : ∀ {ds es : List D} {vs ws : List V}, RepL T G ds vs → RepL T G es ws → RepL T G (ds ++ es) (vs ++ ws)
  | [], es, vs, ws, h, h' => by
    obtain rfl : vs = [] := h
    exact h'
  | d :: ds, es, vs, ws, h, h' => by
    obtain ⟨v, r, rfl, h2, h3⟩ := h
    exact ⟨v, r ++ ws, rfl, h2, RepL.append h3 h'⟩
theorem RepL.get : ∀ {ds : List D} {vs : List V} {i : Nat} {d : D}, RepL T G ds vs → ds[i]? = some d → ∃ v, vs[i]? = some v ∧ Rep T G d v
  | [], _, _, _, _, e => by simp at e
  | d :: ds, vs, 0, d', h, e => by
    obtain ⟨v, r, rfl, h2, h3⟩ := h
    simp at e
    subst e
    exact ⟨v, rfl, h2⟩
  | d :: ds, vs, i + 1, d', h, e => by
    obtain ⟨v, r, rfl, h2, h3⟩ := h
    obtain ⟨w, h4, h5⟩ := RepL.get (i := i) h3 (by simpa using e)
    exact ⟨w, by simpa using h4, h5⟩
theorem RepL.get' : ∀ {ds : List D} {vs : List V} {i : Nat} {v : V}, RepL T G ds vs → vs[i]? = some v → ∃ d, ds[i]? = some d ∧ Rep T G d v
  | [], vs, _, _, h, e => by
    obtain rfl : vs = [] := h
    simp at e
  | d :: ds, vs, 0, v', h, e => by
    obtain ⟨v, r, rfl, h2, h3⟩ := h
    simp at e
    subst e
    exact ⟨d, rfl, h2⟩
  | d :: ds, vs, i + 1, v', h, e => by
    obtain ⟨v, r, rfl, h2, h3⟩ := h
    obtain ⟨w, h4, h5⟩ := RepL.get' (i := i) h3 (by simpa using e)
    exact ⟨w, by simpa using h4, h5⟩
theorem RepL.take : ∀ {ds : List D} {vs : List V} (n : Nat), RepL T G ds vs → RepL T G (ds.take n) (vs.take n)
  | _, _, 0, _ => by
    rw [List.take_zero, List.take_zero]
    rfl
  | [], vs, n + 1, h => by
    obtain rfl : vs = [] := h
    rfl
  | d :: ds, vs, n + 1, h => by
    obtain ⟨v, r, rfl, h2, h3⟩ := h
    exact ⟨v, r.take n, rfl, h2, RepL.take n h3⟩
theorem RepL.drop : ∀ {ds : List D} {vs : List V} (n : Nat), RepL T G ds vs → RepL T G (ds.drop n) (vs.drop n)
  | _, _, 0, h => h
  | [], vs, n + 1, h => by
    obtain rfl : vs = [] := h
    rfl
  | d :: ds, vs, n + 1, h => by
    obtain ⟨v, r, rfl, h2, h3⟩ := h
    exact RepL.drop n h3
end

/-- what a variable's object is, over G (what is frozen) and H -/
def RepO (T : Cs) (G H : Hp) : O → V → Prop
  | .dat d, v => Rep T G d v
  | .fz d, v => Rep T G d v
  | .lst ds, v => ∃ a xs, v = .ref a ∧ H a = some (.lst xs) ∧ G a = none ∧ RepL T G ds xs
  | .dk ks ds, v => ∃ a kvs, v = .ref a ∧ H a = some (.dK kvs) ∧ G a = none ∧ kvs.map (·.1) = ks ∧ RepL T G ds (kvs.map (·.2))
  | .set ks, v => ∃ a, v = .ref a ∧ H a = some (setO T a ks) ∧ G a = none
  | .obj c ns ds, v => ∃ a C dx fs, v = .ref a ∧ T.cls.o c = some C ∧ H a = some (.ins C dx fs) ∧ G a = none ∧ fs.map (·.1) = ns ∧ RepL T G ds (fs.map (·.2))
theorem RepO.there {T : Cs} {G H : Hp} {o : O} {v : V} (h : RepO T G H o v) (p : o.own = true) : ∃ a u, v = .ref a ∧ H a = some u ∧ G a = none := by
  cases o with
  | lst ds =>
    obtain ⟨a, xs, h1, h2, h3, _⟩ := h
    exact ⟨a, _, h1, h2, h3⟩
  | dk ks ds =>
    obtain ⟨a, xs, h1, h2, h3, _⟩ := h
    exact ⟨a, _, h1, h2, h3⟩
  | set ks =>
    obtain ⟨a, h1, h2, h3⟩ := h
    exact ⟨a, _, h1, h2, h3⟩
  | obj c ns ds =>
    obtain ⟨a, C, dx, fs, h1, _, h2, h3, _⟩ := h
    exact ⟨a, _, h1, h2, h3⟩
  | dat d => cases p
  | fz d => cases p
/-- a is a variable's own object -/
def Owns (σ : L2.St) (ρ : En) (a : Addr) : Prop := ∃ (i : Nat) (o : O), ρ[i]? = some (some o) ∧ o.own = true ∧ σ[i]? = some (some (.ref a))

structure Ok (T : Cs) (G H : Hp) (σ : L2.St) (ρ : En) : Prop where
  sub : Ex G H
  len : ρ.length = σ.length
  rep : ∀ (i : Nat) (o : O), ρ[i]? = some (some o) → ∃ v, σ[i]? = some (some v) ∧ RepO T G H o v
  dis : ∀ (i j : Nat) (o o' : O) (a : Addr), ρ[i]? = some (some o) → ρ[j]? = some (some o') → o.own = true → o'.own = true → σ[i]? = some (some (.ref a)) → σ[j]? = some (some (.ref a)) → i = j
/-- from (G, H), with the own objects S, to (G', H'), with S' -/
structure Nx (G H : Hp) (S : Addr → Prop) (G' H' : Hp) (S' : Addr → Prop) : Prop where
  g : Ex G G'
  new : ∀ a, G a = none → G' a ≠ none → H a = none ∨ S a
  keep : ∀ a o, H a = some o → ¬ S a → H' a = some o
  there : ∀ a, H' a = none → H a = none
  own : ∀ a, S' a → S a ∨ H a = none
theorem Nx.refl (G H : Hp) (S : Addr → Prop) : Nx G H S G H S := ⟨Ex.refl _, fun _ h h' => absurd h h', fun _ _ h _ => h, fun _ h => h, fun _ h => .inl h⟩
theorem Nx.trans {G H G1 H1 G2 H2 : Hp} {S S1 S2 : Addr → Prop} (a : Nx G H S G1 H1 S1) (b : Nx G1 H1 S1 G2 H2 S2) : Nx G H S G2 H2 S2 where
  g := Ex.trans a.g b.g
  new := fun x h h' => by
    by_cases q : G1 x = none
    · rcases b.new x q h' with z | z
      · exact .inl (a.there x z)
      · exact (a.own x z).symm
    · exact a.new x h q
  keep := fun x o h n => b.keep x o (a.keep x o h n) fun z => by
    rcases a.own x z with y | y
    · exact n y
    · rw [h] at y
      cases y
  there := fun x h => a.there x (b.there x h)
  own := fun x h => by
    rcases b.own x h with z | z
    · exact a.own x z
    · exact .inr (a.there x z)
/-- a thing of its own that no variable holds -/
def Fresh (H : Hp) (S : Addr → Prop) (o : O) (v : V) : Prop := o.own = true → ∀ a, v = .ref a → H a = none ∧ ¬ S a
section
variable {T : Cs} {G H G1 H1 : Hp} {S S1 : Addr → Prop} {o : O} {v : V}
/-- what is held by no variable stays -/
theorem RepO.keep (n : Nx G H S G1 H1 S1) (h : RepO T G H o v) (f : o.own = true → ∀ a, v = .ref a → ¬ S a) : RepO T G1 H1 o v := by
  cases o with
  | dat d => exact Rep.mono n.g d v h
  | fz d => exact Rep.mono n.g d v h
  | lst ds =>
    obtain ⟨a, xs, h1, h2, h3, h4⟩ := h
    have na := f rfl a h1
    refine ⟨a, xs, h1, n.keep a _ h2 na, ?_, RepL.mono n.g _ _ h4⟩
    by_cases q : G1 a = none
    · exact q
    · rcases n.new a h3 q with z | z
      · rw [h2] at z
        cases z
      · exact absurd z na
  | dk ks ds =>
    obtain ⟨a, xs, h1, h2, h3, h4, h5⟩ := h
    have na := f rfl a h1
    refine ⟨a, xs, h1, n.keep a _ h2 na, ?_, h4, RepL.mono n.g _ _ h5⟩
    by_cases q : G1 a = none
    · exact q
    · rcases n.new a h3 q with z | z
      · rw [h2] at z
        cases z
      · exact absurd z na
  | set ks =>
    obtain ⟨a, h1, h2, h3⟩ := h
    have na := f rfl a h1
    refine ⟨a, h1, n.keep a _ h2 na, ?_⟩
    by_cases q : G1 a = none
    · exact q
    · rcases n.new a h3 q with z | z
      · rw [h2] at z
        cases z
      · exact absurd z na
  | obj c ns ds =>
    obtain ⟨a, C, dx, fs, h1, hc, h2, h3, h4, h5⟩ := h
    have na := f rfl a h1
    refine ⟨a, C, dx, fs, h1, hc, n.keep a _ h2 na, ?_, h4, RepL.mono n.g _ _ h5⟩
    by_cases q : G1 a = none
    · exact q
    · rcases n.new a h3 q with z | z
      · rw [h2] at z
        cases z
      · exact absurd z na
theorem Fresh.keep {H0 : Hp} {S0 : Addr → Prop} (n : Nx G H S G1 H1 S1) (h : RepO T G H o v) (f : Fresh H0 S o v) : Fresh H0 S1 o v := fun p a e => by
  obtain ⟨f1, f2⟩ := f p a e
  refine ⟨f1, fun z => ?_⟩
  rcases n.own a z with y | y
  · exact f2 y
  · obtain ⟨b, u, e1, e2, _⟩ := h.there p
    rw [e1] at e
    cases e
    rw [e2] at y
    cases y
theorem Fresh.back {H0 : Hp} (n : ∀ a, H a = none → H0 a = none) (f : Fresh H S o v) : Fresh H0 S o v := fun p a e => ⟨n a (f p a e).1, (f p a e).2⟩
theorem Fresh.dat {d : D} : Fresh H S (.dat d) v := fun p => by cases p
/-- the heap G with what H has at a -/
def frz (G H : Hp) (a : Addr) : Hp := fun b => if b = a then H a else G b
theorem frz_same {a : Addr} : frz G H a a = H a := if_pos rfl
theorem frz_ne {a b : Addr} (h : b ≠ a) : frz G H a b = G b := if_neg h
theorem frz_ex {a : Addr} (h : G a = none) : Ex G (frz G H a) := fun b o e => by
  rw [frz_ne (ne_of_none e h)]
  exact e
theorem frz_sub {a : Addr} (h : Ex G H) : Ex (frz G H a) H := fun b o e => by
  by_cases q : b = a
  · subst q
    rw [frz_same] at e
    exact e
  · rw [frz_ne q] at e
    exact h b o e
/-- another's own object is not touched by a freezing -/
theorem RepO.frz {a : Addr} (ga : G a = none) (h : RepO T G H o v) (f : o.own = true → v ≠ .ref a) : RepO T (frz G H a) H o v := by
  have e := frz_ex (G := G) (H := H) ga
  cases o with
  | dat d => exact Rep.mono e d v h
  | fz d => exact Rep.mono e d v h
  | lst ds =>
    obtain ⟨b, xs, h1, h2, h3, h4⟩ := h
    refine ⟨b, xs, h1, h2, ?_, RepL.mono e _ _ h4⟩
    rw [frz_ne (fun z => f rfl (by rw [h1, z]))]
    exact h3
  | dk ks ds =>
    obtain ⟨b, xs, h1, h2, h3, h4, h5⟩ := h
    refine ⟨b, xs, h1, h2, ?_, h4, RepL.mono e _ _ h5⟩
    rw [frz_ne (fun z => f rfl (by rw [h1, z]))]
    exact h3
  | set ks =>
    obtain ⟨b, h1, h2, h3⟩ := h
    refine ⟨b, h1, h2, ?_⟩
    rw [frz_ne (fun z => f rfl (by rw [h1, z]))]
    exact h3
  | obj c ns ds =>
    obtain ⟨b, C, dx, fs, h1, hc, h2, h3, h4, h5⟩ := h
    refine ⟨b, C, dx, fs, h1, hc, h2, ?_, h4, RepL.mono e _ _ h5⟩
    rw [frz_ne (fun z => f rfl (by rw [h1, z]))]
    exact h3
/-- an own object, frozen, is data -/
theorem RepO.froze {a : Addr} (h : RepO T G H o v) (p : o.own = true) (e : v = .ref a) : Rep T (Fn.frz G H a) o.d v := by
  cases o with
  | dat d => cases p
  | fz d => cases p
  | lst ds =>
    obtain ⟨b, xs, h1, h2, h3, h4⟩ := h
    have eb : a = b := by
      rw [h1] at e
      cases e
      rfl
    subst eb
    exact ⟨a, xs, h1, by rw [frz_same]; exact h2, RepL.mono (frz_ex h3) _ _ h4⟩
  | dk ks ds =>
    obtain ⟨b, xs, h1, h2, h3, h4, h5⟩ := h
    have eb : a = b := by
      rw [h1] at e
      cases e
      rfl
    subst eb
    exact ⟨a, xs, h1, .inl (by rw [frz_same]; exact h2), h4, RepL.mono (frz_ex h3) _ _ h5⟩
  | set ks =>
    obtain ⟨b, h1, h2, h3⟩ := h
    have eb : a = b := by
      rw [h1] at e
      cases e
      rfl
    subst eb
    exact ⟨a, h1, by rw [frz_same]; exact h2⟩
  | obj c ns ds =>
    obtain ⟨b, C, dx, fs, h1, hc, h2, h3, h4, h5⟩ := h
    have eb : a = b := by
      rw [h1] at e
      cases e
      rfl
    subst eb
    exact ⟨a, C, dx, fs, h1, hc, by rw [frz_same]; exact h2, h4, RepL.mono (frz_ex h3) _ _ h5⟩
end

/-- a fresh own object, held by no variable, becomes data -/
theorem freeze_tmp {T : Cs} {G H : Hp} {σ : L2.St} {ρ : En} {o : O} {v : V} (k : Ok T G H σ ρ) (h : RepO T G H o v) (f : o.own = true → ∀ a, v = .ref a → ¬ Owns σ ρ a) :
    ∃ G', (Ex G G' ∧ ∀ a, G a = none → G' a ≠ none → o.own = true ∧ v = .ref a) ∧ Ok T G' H σ ρ ∧ Rep T G' o.d v := by
  by_cases p : o.own = true
  · obtain ⟨a, u, e1, e2, e3⟩ := h.there p
    have na := f p a e1
    refine ⟨frz G H a, ⟨frz_ex e3, fun b hb hb' => ⟨p, ?_⟩⟩, ⟨frz_sub k.sub, k.len, fun i o' hi => ?_, k.dis⟩, h.froze p e1⟩
    · by_cases q : b = a
      · rw [q]
        exact e1
      · rw [frz_ne q] at hb'
        exact absurd hb hb'
    · obtain ⟨w, h1, h2⟩ := k.rep i o' hi
      exact ⟨w, h1, h2.frz e3 fun p' z => na ⟨i, o', hi, p', by rw [h1, z]⟩⟩
  · have p' : o.own = false := by simpa using p
    refine ⟨G, ⟨Ex.refl _, fun a h h' => absurd h h'⟩, k, ?_⟩
    cases o with
    | dat d => exact h
    | fz d => exact h
    | lst _ => cases p'
    | dk _ _ => cases p'
    | set _ => cases p'
    | obj _ _ _ => cases p'

/-! ### outcomes -/
inductive Res (α : Type) where
  | ok (a : α) | er (c : Str) (ns : List Str) (vs : List D)
abbrev M (α : Type) := En → Option (Res α × En)
def M.ret {α : Type} (a : α) : M α := fun ρ => some (.ok a, ρ)
def M.stuck {α : Type} : M α := fun _ => none
def M.bind {α β : Type} (m : M α) (f : α → M β) : M β := fun ρ => match m ρ with
  | some (.ok a, ρ') => f a ρ'
  | some (.er c ns vs, ρ') => some (.er c ns vs, ρ')
  | none => none
def M.map {α β : Type} (f : α → β) (m : M α) : M β := M.bind m fun a => M.ret (f a)
def M.lift {α : Type} (o : Option α) : M α := match o with
  | some a => M.ret a
  | none => M.stuck
end Fn

set_option maxRecDepth 100000
set_option maxHeartbeats 4000000
namespace Fn
open PySem PySem.Spec PyProof.Rows L2

/-- how a result lies: over the heap ahead H0, the variables behind, G and H behind -/
abbrev RelT (α β : Type) := Cs → Hp → L2.St → En → Hp → Hp → α → β → Prop
abbrev Wi (β : Type) := β → Hp → Prop
/-- an operand: data, or a variable read where the operation is done -/
inductive Rf where
  | d (d : D) | s (i : Nat)
def rD : RelT D V := fun T _ _ _ G _ d v => Rep T G d v
def rO : RelT O V := fun T H0 σ ρ G H o v => RepO T G H o v ∧ Fresh H0 (Owns σ ρ) o v
def rR : RelT Rf V := fun T _ σ ρ G _ r v => match r with
  | .d d => Rep T G d v
  | .s i => σ[i]? = some (some v)
def Back {α β : Type} (R : RelT α β) : Prop := ∀ T H0 H1 σ ρ G H a v, (∀ x, H1 x = none → H0 x = none) → R T H1 σ ρ G H a v → R T H0 σ ρ G H a v
theorem rD_back : Back rD := fun _ _ _ _ _ _ _ _ _ _ h => h
theorem rO_back : Back rO := fun _ _ _ _ _ _ _ _ _ n h => ⟨h.1, h.2.back n⟩
theorem rR_back : Back rR := fun _ _ _ _ _ _ _ r _ _ h => h

/-- of which kind a variable's content is -/
def kd : Option (Option O) → Nat
  | none => 0
  | some none => 1
  | some (some (.dat _)) => 2
  | some (some _) => 3
/-- .. with the variables' kinds -/
structure Nk (G H : Hp) (σ : L2.St) (ρ : En) (G' H' : Hp) (ρ' : En) : Prop extends Nx G H (Owns σ ρ) G' H' (Owns σ ρ') where
  kp : ∀ i : Nat, kd ρ'[i]? = kd ρ[i]?
theorem Nk.refl (G H : Hp) (σ : L2.St) (ρ : En) : Nk G H σ ρ G H ρ := { Nx.refl G H _ with kp := fun _ => rfl }
theorem Nk.trans {G H G1 H1 G2 H2 : Hp} {σ : L2.St} {ρ ρ1 ρ2 : En} (a : Nk G H σ ρ G1 H1 ρ1) (b : Nk G1 H1 σ ρ1 G2 H2 ρ2) : Nk G H σ ρ G2 H2 ρ2 :=
  { a.toNx.trans b.toNx with kp := fun i => (b.kp i).trans (a.kp i) }
/-- an exception that leaves -/
def ErW (T : Cs) (W : WX) (G H : Hp) (σ : L2.St) (ρ ρ' : En) (c : Str) (ns : List Str) (vs : List D) : Prop :=
  ∀ G' H' C, T.cls c = some C → Nk G H σ ρ G' H' ρ' → Ok T G' H' σ ρ' →
    ((ns = [] → vs = [] → W (.ref C) none σ H') ∧ ∀ d fs, H' d = some (.xd fs) → fs.map (·.1) = ns → RepL T G' vs (fs.map (·.2)) → W (.ref C) (some d) σ H')
def Out {α β : Type} (R : RelT α β) (T : Cs) (W : WX) (G H : Hp) (σ : L2.St) (ρ : En) (r : Res α) (ρ' : En) (Q : Wi β) : Prop :=
  match r with
  | .ok a => ∀ v G' H', Nk G H σ ρ G' H' ρ' → Ok T G' H' σ ρ' → R T H σ ρ' G' H' a v → Q v H'
  | .er c ns vs => ErW T W G H σ ρ ρ' c ns vs
def At {α β : Type} (R : RelT α β) (T : Cs) (W : WX) (m : M α) (G : Hp) (ρ : En) : L2.St → Hp → Wi β → Prop := fun σ H Q => ∃ r ρ', m ρ = some (r, ρ') ∧ Out R T W G H σ ρ r ρ' Q
def tX {α β : Type} (R : RelT α β) (T : Cs) (W : WX) (m : M α) : L2.St → Hp → Wi β → Prop := fun σ H Q => ∃ G ρ, Ok T G H σ ρ ∧ At R T W m G ρ σ H Q

section
variable {α β γ δ : Type} {Ra : RelT α γ} {Rb : RelT β δ} {T : Cs} {W : WX} {G H G1 H1 : Hp} {σ : L2.St} {ρ ρ1 ρ' : En} {Q : Wi δ} {Q' Qa : Wi γ} {m : M α} {f : α → M β} {r : Res α} {a : α} {v : γ}
theorem ErW.shift {c : Str} {ns : List Str} {vs : List D} (n : Nk G H σ ρ G1 H1 ρ1) (h : ErW T W G H σ ρ ρ' c ns vs) : ErW T W G1 H1 σ ρ1 ρ' c ns vs :=
  fun G' H' C hc n' k => h G' H' C hc (n.trans n') k
theorem Out.shift (hb : Back Ra) (n : Nk G H σ ρ G1 H1 ρ1) (h : Out Ra T W G H σ ρ r ρ' Qa) : Out Ra T W G1 H1 σ ρ1 r ρ' Qa := by
  cases r with
  | ok a => exact fun v G' H' n' k q => h v G' H' (n.trans n') k (hb _ _ _ _ _ _ _ _ _ n.there q)
  | er c ns vs => exact ErW.shift n h
theorem At.bind (hb : Back Rb) (h : At Rb T W (M.bind m f) G ρ σ H Q)
    (k : ∀ a ρ1 v G1 H1, Nk G H σ ρ G1 H1 ρ1 → Ok T G1 H1 σ ρ1 → Ra T H σ ρ1 G1 H1 a v → At Rb T W (f a) G1 ρ1 σ H1 Q → Q' v H1) : At Ra T W m G ρ σ H Q' := by
  obtain ⟨r, ρ', e, o⟩ := h
  unfold M.bind at e
  cases q : m ρ with
  | none =>
    rw [q] at e
    cases e
  | some p =>
    obtain ⟨r1, ρ1⟩ := p
    rw [q] at e
    cases r1 with
    | ok a => exact ⟨_, ρ1, q, fun v G1 H1 n ok1 ra => k a ρ1 v G1 H1 n ok1 ra ⟨r, ρ', e, o.shift hb n⟩⟩
    | er c ns vs =>
      cases e
      exact ⟨_, _, q, o⟩
theorem At.ret (h : At Ra T W (M.ret a) G ρ σ H Qa) (k : Ok T G H σ ρ) (hv : Ra T H σ ρ G H a v) : Qa v H := by
  obtain ⟨r, ρ', e, o⟩ := h
  cases e
  exact o v G H (Nk.refl ..) k hv
/-- the end of an operation that changes the heap -/
theorem At.done {G' H' : Hp} (h : At Ra T W (M.ret a) G ρ σ H Qa) (n : Nk G H σ ρ G' H' ρ) (k : Ok T G' H' σ ρ) (hv : Ra T H σ ρ G' H' a v) : Qa v H' := by
  obtain ⟨r, ρ', e, o⟩ := h
  cases e
  exact o v G' H' n k hv
theorem At.lift {o : Option α} (h : At Ra T W (M.lift o) G ρ σ H Qa) : ∃ a, o = some a ∧ At Ra T W (M.ret a) G ρ σ H Qa := by
  cases o with
  | none =>
    obtain ⟨r, ρ', e, _⟩ := h
    cases e
  | some a => exact ⟨a, rfl, h⟩
/-- a new object, both in G and in H -/
theorem new_nx {p : Addr} {o : HO} (hp : H p = none) (k : Ok T G H σ ρ) : Nk G H σ ρ (upd G p o) (upd H p o) ρ ∧ Ok T (upd G p o) (upd H p o) σ ρ := by
  have gp : G p = none := by
    cases q : G p with
    | none => rfl
    | some u => rw [k.sub p u q] at hp; cases hp
  have ex : ∀ {F : Hp}, F p = none → Ex F (upd F p o) := fun {F} hf b u e => by
    rw [upd_ne (ne_of_none e hf)]
    exact e
  refine ⟨⟨⟨ex gp, fun b h1 h2 => ?_, fun b u h1 _ => ex hp b u h1, fun b h1 => ?_, fun _ h => .inl h⟩, fun _ => rfl⟩, ⟨fun b u e => ?_, k.len, fun i o' hi => ?_, k.dis⟩⟩
  · by_cases q : b = p
    · rw [q]
      exact .inl hp
    · rw [upd_ne q] at h2
      exact absurd h1 h2
  · by_cases q : b = p
    · rw [q]
      exact hp
    · rw [upd_ne q] at h1
      exact h1
  · by_cases q : b = p
    · subst q
      rw [upd_same] at e ⊢
      exact e
    · rw [upd_ne q] at e ⊢
      exact k.sub b u e
  · obtain ⟨w, h1, h2⟩ := k.rep i o' hi
    refine ⟨w, h1, ?_⟩
    have n : Nx G H (fun _ => False) (upd G p o) (upd H p o) (fun _ => False) := ⟨ex gp, fun b h1 h2 => by
      by_cases q : b = p
      · rw [q]
        exact .inl hp
      · rw [upd_ne q] at h2
        exact absurd h1 h2, fun b u h1 _ => ex hp b u h1, fun b h1 => by
      by_cases q : b = p
      · rw [q]
        exact hp
      · rw [upd_ne q] at h1
        exact h1, fun _ h => h.elim⟩
    exact h2.keep n fun _ _ _ z => z
/-- a new object in H alone: nobody's as yet -/
theorem new_own {p : Addr} {o : HO} (hp : H p = none) (k : Ok T G H σ ρ) : Nk G H σ ρ G (upd H p o) ρ ∧ Ok T G (upd H p o) σ ρ ∧ G p = none ∧ ¬ Owns σ ρ p := by
  have gp : G p = none := by
    cases q : G p with
    | none => rfl
    | some u => rw [k.sub p u q] at hp; cases hp
  have ex : Ex H (upd H p o) := fun b u e => by
    rw [upd_ne (ne_of_none e hp)]
    exact e
  have n : ∀ S, Nx G H S G (upd H p o) S := fun S => ⟨Ex.refl _, fun b h1 h2 => absurd h1 h2, fun b u h1 _ => ex b u h1, fun b h1 => by
    by_cases q : b = p
    · rw [q]
      exact hp
    · rw [upd_ne q] at h1
      exact h1, fun _ h => .inl h⟩
  refine ⟨⟨n _, fun _ => rfl⟩, ⟨fun b u e => ex b u (k.sub b u e), k.len, fun i o' hi => ?_, k.dis⟩, gp, ?_⟩
  · obtain ⟨w, h1, h2⟩ := k.rep i o' hi
    exact ⟨w, h1, h2.keep (n fun _ => False) fun _ _ _ z => z⟩
  · rintro ⟨i, o', h1, h2, h3⟩
    obtain ⟨w, h4, h5⟩ := k.rep i o' h1
    obtain ⟨b, u, e1, e2, _⟩ := h5.there h2
    rw [h3] at h4
    cases h4
    cases e1
    rw [e2] at hp
    cases hp
end

theorem _root_.L2.PE.imp {X : Cx} {e : Expr} {t t' : TE} (h : PE X e t) (i : ∀ σ H Q, t' σ H Q → t σ H Q) : PE X e t' := ⟨fun pins s σ H Q I hw => h.run pins s σ H Q I (i σ H Q hw)⟩
theorem _root_.L2.PT.imp {X : Cx} {e : Expr} {t t' : TT} (h : PT X e t) (i : ∀ σ H Q, t' σ H Q → t σ H Q) : PT X e t' := ⟨fun pins s σ H Q I hw => h.run pins s σ H Q I (i σ H Q hw)⟩
theorem _root_.L2.PA.imp {X : Cx} {es : List Expr} {t t' : TA} (h : PA X es t) (i : ∀ σ H Q, t' σ H Q → t σ H Q) : PA X es t' := ⟨fun pos pins s σ H Q I hw => h.run pos pins s σ H Q I (i σ H Q hw)⟩

/-! ### the judgements -/
section
variable (cl : Nms) (X : Cx) (W : WX)
abbrev EX {α : Type} (R : RelT α V) (e : Expr) (m : M α) : Prop := PE X e (tX R (csX X cl) W m)
abbrev ED (e : Expr) (m : M D) : Prop := EX cl X W rD e m
abbrev EO (e : Expr) (m : M O) : Prop := EX cl X W rO e m
abbrev ER (e : Expr) (m : M Rf) : Prop := EX cl X W rR e m
end

section
variable {cl : Nms} {X : Cx} {W : WX} {e : Expr}
/-- what a rule gives is what is asked -/
theorem EX.by {α : Type} {R : RelT α V} {m : M α} {t : TE} (h : PE X e t) (i : ∀ G ρ σ H Q, Ok (csX X cl) G H σ ρ → At R (csX X cl) W m G ρ σ H Q → t σ H Q) : EX cl X W R e m :=
  h.imp fun σ H Q ⟨G, ρ, k, a⟩ => i G ρ σ H Q k a
theorem at_tX {α β : Type} {R : RelT α β} {T : Cs} {m : M α} {G : Hp} {ρ : En} {σ : L2.St} {H : Hp} {Q : Wi β} (k : Ok T G H σ ρ) (a : At R T W m G ρ σ H Q) : tX R T W m σ H Q := ⟨G, ρ, k, a⟩
/-- a thing of its own, taken as data -/
def M.fr (m : M O) : M D := M.bind m fun o => M.ret o.d
theorem ED.fr {m : M O} (h : EO cl X W e m) : ED cl X W e m.fr := by
  refine EX.by h fun G ρ σ H Q k ⟨r, ρ', e, o⟩ => at_tX k ?_
  unfold M.fr M.bind at e
  cases q : m ρ with
  | none =>
    rw [q] at e
    cases e
  | some p =>
    obtain ⟨r1, ρ1⟩ := p
    rw [q] at e
    cases r1 with
    | er c ns vs =>
      cases e
      exact ⟨_, _, q, o⟩
    | ok a =>
      cases e
      refine ⟨_, _, q, fun v G1 H1 n k1 ro => ?_⟩
      obtain ⟨G2, ⟨x1, x2⟩, k2, r2⟩ := freeze_tmp k1 ro.1 fun p b eb => (ro.2 p b eb).2
      refine o v G2 H1 ⟨⟨Ex.trans n.g x1, fun b h1 h2 => ?_, n.keep, n.there, n.own⟩, n.kp⟩ k2 r2
      by_cases z : G1 b = none
      · obtain ⟨p, eb⟩ := x2 b z h2
        exact .inl (ro.2 p b eb).1
      · exact n.new b h1 z
theorem EO.of (m : M D) (h : ED cl X W e m) : EO cl X W e (M.map O.dat m) := EX.by h fun G ρ σ H Q k a => at_tX k (At.bind (Ra := rD) rO_back a fun d ρ1 v G1 H1 n k1 rd a1 => a1.ret k1 ⟨rd, Fresh.dat⟩)
theorem ER.of (m : M D) (h : ED cl X W e m) : ER cl X W e (M.map Rf.d m) := EX.by h fun G ρ σ H Q k a => at_tX k (At.bind (Ra := rD) rR_back a fun d ρ1 v G1 H1 n k1 rd a1 => a1.ret k1 rd)
end
end Fn

set_option maxRecDepth 100000
set_option maxHeartbeats 4000000
namespace Fn
open PySem PySem.Spec PyProof.Rows L2

/-! ### names -/
/-- the variable's value goes on: its own object is shared from now on -/
def eVar (i : Nat) : M D := fun ρ => match ρ[i]? with
  | some (some o) => if o.own = true then some (.ok o.d, ρ.set i (some (.fz o.d))) else some (.ok o.d, ρ)
  | _ => none
/-- the variable as an operand -/
def rVar (i : Nat) : M Rf := fun ρ => match ρ[i]? with
  | some (some _) => some (.ok (.s i), ρ)
  | _ => none
def getS (i : Nat) : M D := fun ρ => match ρ[i]? with
  | some (some o) => some (.ok o.d, ρ)
  | _ => none
def Rf.get : Rf → M D
  | .d x => M.ret x
  | .s i => getS i
/-- data that is read, be it a variable's own -/
def RepT (T : Cs) (G H : Hp) (d : D) (v : V) : Prop := Rep T G d v ∨ ∃ o : O, o.own = true ∧ o.d = d ∧ RepO T G H o v

section
variable {cl : Nms} {X : Cx} {W : WX} {T : Cs} {G H : Hp} {σ : L2.St} {ρ : En} {pos : Pos}
theorem Ok.at_ {i : Nat} {o : O} {v : V} (k : Ok T G H σ ρ) (h : ρ[i]? = some (some o)) (hv : σ[i]? = some (some v)) : RepO T G H o v := by
  obtain ⟨w, h1, h2⟩ := k.rep i o h
  rw [hv] at h1
  cases h1
  exact h2
theorem owns_set {i : Nat} {o : O} {a : Addr} (hn : o.own = false) (h : Owns σ (ρ.set i (some o)) a) : Owns σ ρ a := by
  obtain ⟨j, o', h1, h2, h3⟩ := h
  by_cases e : i = j
  · subst e
    by_cases hl : i < ρ.length
    · rw [List.getElem?_set_self hl] at h1
      cases h1
      rw [hn] at h2
      cases h2
    · rw [List.getElem?_eq_none (by rw [List.length_set]; omega)] at h1
      cases h1
  · rw [List.getElem?_set_ne e] at h1
    exact ⟨j, o', h1, h2, h3⟩
/-- an own variable is frozen -/
theorem Ok.frz {i : Nat} {o : O} {a : Addr} (k : Ok T G H σ ρ) (h : ρ[i]? = some (some o)) (p : o.own = true) (hv : σ[i]? = some (some (.ref a))) :
    Nk G H σ ρ (Fn.frz G H a) H (ρ.set i (some (.fz o.d))) ∧ Ok T (Fn.frz G H a) H σ (ρ.set i (some (.fz o.d))) ∧ Rep T (Fn.frz G H a) o.d (.ref a) := by
  have r := k.at_ h hv
  obtain ⟨b, u, e1, e2, e3⟩ := r.there p
  cases e1
  have hi : i < ρ.length := (List.getElem?_eq_some_iff.mp h).1
  have fr := r.froze p rfl
  refine ⟨⟨⟨frz_ex e3, fun b h1 h2 => ?_, fun _ _ h _ => h, fun _ h => h, fun b hb => .inl (owns_set rfl hb)⟩, fun j => ?_⟩, ⟨frz_sub k.sub, by rw [List.length_set]; exact k.len, fun j o' hj => ?_, fun j j' o1 o2 b h1 h2 p1 p2 => ?_⟩, fr⟩
  · by_cases q : b = a
    · subst q
      exact .inr ⟨i, o, h, p, hv⟩
    · rw [frz_ne q] at h2
      exact absurd h1 h2
  · by_cases e : i = j
    · subst e
      rw [List.getElem?_set_self hi, h]
      cases o with
      | dat _ => cases p
      | fz _ => cases p
      | lst _ => rfl
      | dk _ _ => rfl
      | set _ => rfl
      | obj _ _ _ => rfl
    · rw [List.getElem?_set_ne e]
  · by_cases e : i = j
    · subst e
      rw [List.getElem?_set_self hi] at hj
      cases hj
      exact ⟨_, hv, fr⟩
    · rw [List.getElem?_set_ne e] at hj
      obtain ⟨w, h1, h2⟩ := k.rep j o' hj
      exact ⟨w, h1, h2.frz e3 fun p' z => e (k.dis i j o o' a h hj p p' hv (by rw [h1, z]))⟩
  · have ne : ∀ {j : Nat} {o1 : O}, (ρ.set i (some (.fz o.d)))[j]? = some (some o1) → o1.own = true → ρ[j]? = some (some o1) := fun {j o1} h1 p1 => by
      by_cases e : i = j
      · subst e
        rw [List.getElem?_set_self hi] at h1
        cases h1
        cases p1
      · rw [List.getElem?_set_ne e] at h1
        exact h1
    exact k.dis j j' o1 o2 b (ne h1 p1) (ne h2 p2) p1 p2
theorem ed_var {i : Nat} {x : Str} (hN : X.N[i]? = some x) (hv : Vis X.env.scope x) (hd : (x == ("__debug__" : Str)) = false := by decide) (hcd : (x == ("__classdict__" : Str)) = false := by decide) : ED cl X W (.Name x pos) (eVar i) :=
  EX.by (pe_var hN hv hd hcd) fun G ρ σ H Q k ⟨r, ρ', e, o⟩ => by
    unfold eVar at e
    cases q : ρ[i]? with
    | none =>
      rw [q] at e
      cases e
    | some z =>
      cases z with
      | none =>
        rw [q] at e
        cases e
      | some u =>
        rw [q] at e
        obtain ⟨v, h1, h2⟩ := k.rep i u q
        refine ⟨v, h1, ?_⟩
        by_cases p : u.own = true
        · have e' : (if u.own = true then some (Res.ok u.d, ρ.set i (some (.fz u.d))) else some (.ok u.d, ρ)) = some (r, ρ') := e
          rw [if_pos p] at e'
          cases e'
          obtain ⟨a, _, ea, _, _⟩ := h2.there p
          subst ea
          obtain ⟨n, k', fr⟩ := k.frz q p h1
          exact o _ _ _ n k' fr
        · have e' : (if u.own = true then some (Res.ok u.d, ρ.set i (some (.fz u.d))) else some (.ok u.d, ρ)) = some (r, ρ') := e
          rw [if_neg p] at e'
          cases e'
          refine o _ _ _ (Nk.refl ..) k ?_
          cases u with
          | dat d => exact h2
          | fz d => exact h2
          | lst _ => exact absurd rfl p
          | dk _ _ => exact absurd rfl p
          | set _ => exact absurd rfl p
          | obj _ _ _ => exact absurd rfl p
theorem er_var {i : Nat} {x : Str} (hN : X.N[i]? = some x) (hv : Vis X.env.scope x) (hd : (x == ("__debug__" : Str)) = false := by decide) (hcd : (x == ("__classdict__" : Str)) = false := by decide) : ER cl X W (.Name x pos) (rVar i) :=
  EX.by (pe_var hN hv hd hcd) fun G ρ σ H Q k ⟨r, ρ', e, o⟩ => by
    unfold rVar at e
    cases q : ρ[i]? with
    | none =>
      rw [q] at e
      cases e
    | some z =>
      cases z with
      | none =>
        rw [q] at e
        cases e
      | some u =>
        rw [q] at e
        cases e
        obtain ⟨v, h1, h2⟩ := k.rep i u q
        exact ⟨v, h1, o _ _ _ (Nk.refl ..) k h1⟩
/-- an operand at the operation -/
theorem At.get {β δ : Type} {Rb : RelT β δ} {f : D → M β} {r : Rf} {v : V} {Q : Wi δ} {H0 : Hp} (h : At Rb T W (M.bind r.get f) G ρ σ H Q) (k : Ok T G H σ ρ) (hr : rR T H0 σ ρ G H r v) :
    ∃ d, RepT T G H d v ∧ At Rb T W (f d) G ρ σ H Q := by
  obtain ⟨r', ρ', e, o⟩ := h
  cases r with
  | d x => exact ⟨x, .inl hr, r', ρ', e, o⟩
  | s i =>
    unfold M.bind Rf.get getS at e
    cases q : ρ[i]? with
    | none =>
      simp only [q] at e
      cases e
    | some z =>
      cases z with
      | none =>
        simp only [q] at e
        cases e
      | some u =>
        simp only [q] at e
        refine ⟨u.d, ?_, r', ρ', e, o⟩
        have q2 := k.at_ q hr
        cases u with
        | dat d => exact .inl q2
        | fz d => exact .inl q2
        | lst xs => exact .inr ⟨.lst xs, rfl, rfl, q2⟩
        | dk ks vs => exact .inr ⟨.dk ks vs, rfl, rfl, q2⟩
        | set ks => exact .inr ⟨.set ks, rfl, rfl, q2⟩
        | obj c ns vs => exact .inr ⟨.obj c ns vs, rfl, rfl, q2⟩
/-- an operand while others are worked out -/
theorem rR_keep {r : Rf} {v : V} {G1 H1 H0 : Hp} {ρ1 : En} (n : Nk G H σ ρ G1 H1 ρ1) (hr : rR T H0 σ ρ G H r v) : rR T H0 σ ρ1 G1 H1 r v := by
  cases r with
  | d x => exact Rep.mono n.g x v hr
  | s i => exact hr

/-! ### operators -/
def eBin (f : D → D → Option O) (a b : M Rf) : M O := M.bind a fun x => M.bind b fun y => M.bind x.get fun d1 => M.bind y.get fun d2 => M.lift (f d1 d2)
theorem eo_bin {op : Operator} {r : R2} {f : D → D → Option O} {a b : Expr} {ma mb : M Rf} (ho : OpR X (binaryOp op) r)
    (hf : ∀ G H σ ρ d1 d2 o v1 v2 Q, Ok (csX X cl) G H σ ρ → f d1 d2 = some o → RepT (csX X cl) G H d1 v1 → RepT (csX X cl) G H d2 v2 → At rO (csX X cl) W (M.ret o) G ρ σ H Q → r v1 v2 H Q)
    (ha : ER cl X W a ma) (hb : ER cl X W b mb) : EO cl X W (.BinOp a op b pos) (eBin f ma mb) :=
  EX.by (pe_op ho ha hb) fun G ρ σ H Q k h => at_tX k (At.bind (Ra := rR) rO_back h fun x ρ1 v1 G1 H1 n1 k1 r1 h1 => at_tX k1 (At.bind (Ra := rR) rO_back h1 fun y ρ2 v2 G2 H2 n2 k2 r2 h2 => by
    obtain ⟨d1, q1, h3⟩ := At.get h2 k2 (rR_keep n2 r1)
    obtain ⟨d2, q2, h4⟩ := At.get h3 k2 r2
    obtain ⟨o, e, h5⟩ := h4.lift
    exact hf _ _ _ _ _ _ _ _ _ _ k2 e q1 q2 h5))
/-- the same, as data: no new thing of its own -/
def eBinD (f : D → D → Option D) (a b : M Rf) : M D := M.bind a fun x => M.bind b fun y => M.bind x.get fun d1 => M.bind y.get fun d2 => M.lift (f d1 d2)
theorem ed_bin {op : Operator} {r : R2} {f : D → D → Option D} {a b : Expr} {ma mb : M Rf} (ho : OpR X (binaryOp op) r)
    (hf : ∀ G H σ ρ d1 d2 o v1 v2 Q, Ok (csX X cl) G H σ ρ → f d1 d2 = some o → RepT (csX X cl) G H d1 v1 → RepT (csX X cl) G H d2 v2 → At rD (csX X cl) W (M.ret o) G ρ σ H Q → r v1 v2 H Q)
    (ha : ER cl X W a ma) (hb : ER cl X W b mb) : ED cl X W (.BinOp a op b pos) (eBinD f ma mb) :=
  EX.by (pe_op ho ha hb) fun G ρ σ H Q k h => at_tX k (At.bind (Ra := rR) rD_back h fun x ρ1 v1 G1 H1 n1 k1 r1 h1 => at_tX k1 (At.bind (Ra := rR) rD_back h1 fun y ρ2 v2 G2 H2 n2 k2 r2 h2 => by
    obtain ⟨d1, q1, h3⟩ := At.get h2 k2 (rR_keep n2 r1)
    obtain ⟨d2, q2, h4⟩ := At.get h3 k2 r2
    obtain ⟨o, e, h5⟩ := h4.lift
    exact hf _ _ _ _ _ _ _ _ _ _ k2 e q1 q2 h5))
/-- a comparison -/
theorem ed_cmp {op : CmpOp} {r : R2} {f : D → D → Option D} {a b : Expr} {ma mb : M Rf} (ho : OpR X (compareOp op) r)
    (hf : ∀ G H σ ρ d1 d2 o v1 v2 Q, Ok (csX X cl) G H σ ρ → f d1 d2 = some o → RepT (csX X cl) G H d1 v1 → RepT (csX X cl) G H d2 v2 → At rD (csX X cl) W (M.ret o) G ρ σ H Q → r v1 v2 H Q)
    (hm : behindInMarks op b = false) (ha : ER cl X W a ma) (hb : ER cl X W b mb) : ED cl X W (.Compare a [op] [b] pos) (eBinD f ma mb) :=
  EX.by (pe_cmpR ho ha hb hm) fun G ρ σ H Q k h => at_tX k (At.bind (Ra := rR) rD_back h fun x ρ1 v1 G1 H1 n1 k1 r1 h1 => at_tX k1 (At.bind (Ra := rR) rD_back h1 fun y ρ2 v2 G2 H2 n2 k2 r2 h2 => by
    obtain ⟨d1, q1, h3⟩ := At.get h2 k2 (rR_keep n2 r1)
    obtain ⟨d2, q2, h4⟩ := At.get h3 k2 r2
    obtain ⟨o, e, h5⟩ := h4.lift
    exact hf _ _ _ _ _ _ _ _ _ _ k2 e q1 q2 h5))
end
end Fn

set_option maxRecDepth 100000
set_option maxHeartbeats 4000000
namespace Fn
open PySem PySem.Spec PyProof.Rows L2

/-! ### what a datum read tells -/
section
variable {T : Cs} {G H H0 : Hp} {σ : L2.St} {ρ : En} {v : V}
theorem RepT.flat {d : D} {u : V} (h : RepT T G H d v) (hd : ∀ w, Rep T G d w → w = u) (hn : ∀ o : O, o.own = true → o.d ≠ d) : v = u := by
  rcases h with h | ⟨o, p, e, _⟩
  · exact hd v h
  · exact absurd e (hn o p)
theorem own_d {o : O} (p : o.own = true) : (∃ xs, o.d = .lst xs) ∨ (∃ ks vs, o.d = .dk ks vs) ∨ (∃ ks, o.d = .set ks) ∨ ∃ c ns vs, o.d = .obj c ns vs := by
  cases o with
  | lst xs => exact .inl ⟨xs, rfl⟩
  | dk ks vs => exact .inr (.inl ⟨ks, vs, rfl⟩)
  | set ks => exact .inr (.inr (.inl ⟨ks, rfl⟩))
  | obj c ns vs => exact .inr (.inr (.inr ⟨c, ns, vs, rfl⟩))
  | dat _ => cases p
  | fz _ => cases p
theorem RepT.int {i : Int} (h : RepT T G H (.int i) v) : v = .int i := h.flat (fun _ q => q) fun o p e => by
  rcases own_d p with ⟨xs, q⟩ | ⟨ks, vs, q⟩ | ⟨ks, q⟩ | ⟨c, ns, vs, q⟩ <;> (rw [q] at e; cases e)
theorem RepT.str {x : Str} (h : RepT T G H (.str x) v) : v = .str x := h.flat (fun _ q => q) fun o p e => by
  rcases own_d p with ⟨xs, q⟩ | ⟨ks, vs, q⟩ | ⟨ks, q⟩ | ⟨c, ns, vs, q⟩ <;> (rw [q] at e; cases e)
theorem RepT.bl {b : Bool} (h : RepT T G H (.bl b) v) : v = .bl b := h.flat (fun _ q => q) fun o p e => by
  rcases own_d p with ⟨xs, q⟩ | ⟨ks, vs, q⟩ | ⟨ks, q⟩ | ⟨c, ns, vs, q⟩ <;> (rw [q] at e; cases e)
theorem RepT.non (h : RepT T G H .non v) : v = .non := h.flat (fun _ q => q) fun o p e => by
  rcases own_d p with ⟨xs, q⟩ | ⟨ks, vs, q⟩ | ⟨ks, q⟩ | ⟨c, ns, vs, q⟩ <;> (rw [q] at e; cases e)
theorem RepT.lst {ds : List D} (h : RepT T G H (.lst ds) v) (k : Ok T G H σ ρ) : ∃ a xs, v = .ref a ∧ H a = some (.lst xs) ∧ RepL T G ds xs := by
  rcases h with h | ⟨o, p, e, q⟩
  · obtain ⟨a, xs, h1, h2, h3⟩ := h
    exact ⟨a, xs, h1, k.sub _ _ h2, h3⟩
  · cases o with
    | lst xs =>
      cases e
      obtain ⟨a, ys, h1, h2, h3, h4⟩ := q
      exact ⟨a, ys, h1, h2, h4⟩
    | dk ks vs => cases e
    | set ks => cases e
    | obj _ _ _ => cases e
    | dat _ => cases p
    | fz _ => cases p
theorem RepT.ro {ds : List D} (h : RepT T G H (.ro ds) v) (k : Ok T G H σ ρ) : ∃ a xs, v = .ref a ∧ SqL T.K H a xs ∧ RepL T G ds xs := by
  rcases h with h | ⟨o, p, e, q⟩
  · obtain ⟨a, xs, h1, h2, h3⟩ := h
    exact ⟨a, xs, h1, ex_l k.sub h2, h3⟩
  · rcases own_d p with ⟨xs, q⟩ | ⟨ks, vs, q⟩ | ⟨ks, q⟩ | ⟨c, ns, vs, q⟩ <;> (rw [q] at e; cases e)
theorem RepT.tup {ds : List D} (h : RepT T G H (.tup ds) v) (k : Ok T G H σ ρ) : ∃ a xs, v = .ref a ∧ SqT T.K H a xs ∧ RepL T G ds xs ∧ Rep T G (.tup ds) v := by
  rcases h with h | ⟨o, p, e, q⟩
  · obtain ⟨a, xs, h1, h2, h3⟩ := id h
    exact ⟨a, xs, h1, ex_t k.sub h2, h3, h⟩
  · rcases own_d p with ⟨xs, q⟩ | ⟨ks, vs, q⟩ | ⟨ks, q⟩ | ⟨c, ns, vs, q⟩ <;> (rw [q] at e; cases e)
theorem RepT.dk {ks : List Key} {ds : List D} (h : RepT T G H (.dk ks ds) v) (k : Ok T G H σ ρ) : ∃ a kvs, v = .ref a ∧ Rd H a (.dK kvs) ∧ kvs.map (·.1) = ks ∧ RepL T G ds (kvs.map (·.2)) := by
  rcases h with h | ⟨o, p, e, q⟩
  · obtain ⟨a, kvs, h1, h2, h3, h4⟩ := h
    exact ⟨a, kvs, h1, ex_rd k.sub h2, h3, h4⟩
  · cases o with
    | dk ks vs =>
      cases e
      obtain ⟨a, kvs, h1, h2, h3, h4, h5⟩ := q
      exact ⟨a, kvs, h1, .inl h2, h4, h5⟩
    | lst _ => cases e
    | set ks => cases e
    | obj _ _ _ => cases e
    | dat _ => cases p
    | fz _ => cases p
theorem RepT.set {ks : List Key} (h : RepT T G H (.set ks) v) (k : Ok T G H σ ρ) : ∃ a, v = .ref a ∧ H a = some (setO T a ks) := by
  rcases h with h | ⟨o, p, e, q⟩
  · obtain ⟨a, h1, h2⟩ := h
    exact ⟨a, h1, k.sub _ _ h2⟩
  · cases o with
    | set ks =>
      cases e
      obtain ⟨a, h1, h2, h3⟩ := q
      exact ⟨a, h1, h2⟩
    | dk _ _ => cases e
    | lst _ => cases e
    | obj _ _ _ => cases e
    | dat _ => cases p
    | fz _ => cases p
theorem RepT.obj {c : Str} {ns : List Str} {ds : List D} (h : RepT T G H (.obj c ns ds) v) (k : Ok T G H σ ρ) : ∃ a C dx fs, v = .ref a ∧ T.cls.o c = some C ∧ H a = some (.ins C dx fs) ∧ fs.map (·.1) = ns ∧ RepL T G ds (fs.map (·.2)) := by
  rcases h with h | ⟨o, p, e, q⟩
  · obtain ⟨a, C, dx, fs, h1, h2, h3, h4, h5⟩ := h
    exact ⟨a, C, dx, fs, h1, h2, k.sub _ _ h3, h4, h5⟩
  · cases o with
    | obj _ _ _ =>
      cases e
      obtain ⟨a, C, dx, fs, h1, h2, h3, h4, h5, h6⟩ := q
      exact ⟨a, C, dx, fs, h1, h2, h3, h5, h6⟩
    | dk _ _ => cases e
    | lst _ => cases e
    | set _ => cases e
    | dat _ => cases p
    | fz _ => cases p
theorem RepT.rk {ks : List Key} {ds : List D} (h : RepT T G H (.rk ks ds) v) (k : Ok T G H σ ρ) : ∃ a o kvs, v = .ref a ∧ H a = some (.frz o (.dK kvs)) ∧ kvs.map (·.1) = ks ∧ RepL T G ds (kvs.map (·.2)) := by
  rcases h with h | ⟨o, p, e, q⟩
  · obtain ⟨a, o, kvs, h1, h2, h3, h4⟩ := h
    exact ⟨a, o, kvs, h1, k.sub _ _ h2, h3, h4⟩
  · rcases own_d p with ⟨xs, q⟩ | ⟨ks, vs, q⟩ | ⟨ks, q⟩ | ⟨c, ns, vs, q⟩ <;> (rw [q] at e; cases e)
theorem RepT.fn {x : Str} (h : RepT T G H (.fn x) v) : ∃ f, T.cls.f x = some f ∧ v = .ref f := by
  rcases h with h | ⟨o, p, e, q⟩
  · exact h
  · rcases own_d p with ⟨xs, q⟩ | ⟨ks, vs, q⟩ | ⟨ks, q⟩ | ⟨c, ns, vs, q⟩ <;> (rw [q] at e; cases e)
theorem RepT.dt {ks : List (List Key)} {ds : List D} (h : RepT T G H (.dt ks ds) v) (k : Ok T G H σ ρ) : ∃ a kvs, v = .ref a ∧ H a = some (.dT kvs) ∧ kvs.map (·.1) = ks ∧ RepL T G ds (kvs.map (·.2)) := by
  rcases h with h | ⟨o, p, e, q⟩
  · obtain ⟨a, kvs, h1, h2, h3, h4⟩ := h
    exact ⟨a, kvs, h1, k.sub _ _ h2, h3, h4⟩
  · rcases own_d p with ⟨xs, q⟩ | ⟨ks, vs, q⟩ | ⟨ks, q⟩ | ⟨c, ns, vs, q⟩ <;> (rw [q] at e; cases e)
end

def lim : Nat := 1000000
theorem lim_le {n : Nat} (h : n ≤ lim) : n ≤ sizeLine := by
  have : lim = 1000000 := rfl
  rw [sizeLine_eq]
  omega
theorem lim_lt {n : Nat} (h : n < lim) : n < sizeLine := by
  have : lim = 1000000 := rfl
  rw [sizeLine_eq]
  omega

/-! ### + -/
def fAdd : D → D → Option O
  | .int i, .int j => some (.dat (.int (i + j)))
  | .str x, .str y => if x.length + y.length ≤ lim then some (.dat (.str (x ++ y))) else none
  | .lst xs, .lst ys => if xs.length + ys.length ≤ lim then some (.lst (xs ++ ys)) else none
  | .tup xs, .tup ys => if xs.length + ys.length ≤ lim then some (.dat (.tup (xs ++ ys))) else none
  | _, _ => none
def rAddA (K : PySem.W.Frag) : R2 := fun x y H Q => (rI0 (fun i j => .int (i + j)) x y H Q ∨ (∃ i j, x = .str i ∧ y = .str j ∧ i.length + j.length ≤ sizeLine ∧ Q (.str (i ++ j)) H)) ∨ rCat x y H Q ∨ rCatA K x y H Q
theorem op_addA {X : Cx} : OpR X (binaryOp .Add) (rAddA X.K) := OpR.or (OpR.or op_add op_add_str) (OpR.or op_cat op_catA)
section
variable {cl : Nms} {X : Cx} {W : WX} {pos : Pos} {a b : Expr} {ma mb : M Rf} {G H : Hp} {σ : L2.St} {ρ : En} {T : Cs} {Q : VK}
/-- a plain value comes out -/
theorem At.flat {d : D} {v : V} (h : At rO T W (M.ret (.dat d)) G ρ σ H Q) (k : Ok T G H σ ρ) (hv : Rep T G d v) : Q v H := h.ret k ⟨hv, Fresh.dat⟩
theorem At.newL {ds : List D} {xs : List V} (h : At rO T W (M.ret (.lst ds)) G ρ σ H Q) (k : Ok T G H σ ρ) (hv : RepL T G ds xs) : ∀ p, H p = none → Q (.ref p) (upd H p (.lst xs)) := fun p hp => by
  obtain ⟨n, k', gp, np⟩ := new_own (o := .lst xs) hp k
  exact h.done n k' ⟨⟨p, xs, rfl, upd_same, gp, hv⟩, fun _ a e => by
    cases e
    exact ⟨hp, np⟩⟩
theorem At.newT {ds : List D} {xs : List V} (h : At rO T W (M.ret (.dat (.tup ds))) G ρ σ H Q) (k : Ok T G H σ ρ) (hv : RepL T G ds xs) : ∀ p, H p = none → Q (.ref p) (upd H p (.tup xs)) := fun p hp => by
  obtain ⟨n, k'⟩ := new_nx (o := .tup xs) hp k
  exact h.done n k' ⟨⟨p, xs, rfl, SqT.of upd_same, RepL.mono n.g _ _ hv⟩, Fresh.dat⟩
theorem eo_add (ha : ER cl X W a ma) (hb : ER cl X W b mb) : EO cl X W (.BinOp a .Add b pos) (eBin fAdd ma mb) := eo_bin op_addA (fun G H σ ρ d1 d2 o v1 v2 Q k e q1 q2 h => by
  unfold fAdd at e
  split at e
  · cases e
    obtain rfl := q1.int
    obtain rfl := q2.int
    exact .inl (.inl ⟨_, _, rfl, rfl, h.flat k rfl⟩)
  · split at e
    · cases e
      obtain rfl := q1.str
      obtain rfl := q2.str
      exact .inl (.inr ⟨_, _, rfl, rfl, lim_le (by assumption), h.flat k rfl⟩)
    · cases e
  · split at e
    · rename_i hl
      cases e
      obtain ⟨p, xs, rfl, h1, r1⟩ := q1.lst k
      obtain ⟨q, ys, rfl, h2, r2⟩ := q2.lst k
      exact .inr (.inl ⟨p, q, xs, ys, rfl, rfl, h1, h2, lim_le (by rw [r1.length, r2.length]; exact hl), h.newL k (r1.append r2)⟩)
    · cases e
  · split at e
    · rename_i hl
      cases e
      obtain ⟨p, xs, rfl, h1, r1, g1⟩ := q1.tup k
      obtain ⟨q, ys, rfl, h2, r2, g2⟩ := q2.tup k
      refine .inr (.inr ⟨p, q, xs, ys, rfl, rfl, h1, h2, lim_le (by rw [r1.length, r2.length]; exact hl), fun ex => ?_, fun _ ey => ?_, fun _ _ => h.newT k (r1.append r2)⟩)
      · have z : xs.length = 0 := by rw [ex]; rfl
        rw [r1.length] at z
        rw [List.length_eq_zero_iff.mp z] at h
        exact h.flat k g2
      · have z : ys.length = 0 := by rw [ey]; rfl
        rw [r2.length] at z
        rw [List.length_eq_zero_iff.mp z, List.append_nil] at h
        exact h.flat k g1
    · cases e
  · cases e) ha hb
end
end Fn

set_option maxRecDepth 100000
set_option maxHeartbeats 4000000
namespace Fn
open PySem PySem.Spec PyProof.Rows L2

def rB : RelT Bool Bool := fun _ _ _ _ _ _ a b => a = b
theorem rB_back : Back rB := fun _ _ _ _ _ _ _ _ _ _ h => h
/-- operands, one after another -/
def RL (T : Cs) (H0 : Hp) (σ : L2.St) (ρ : En) (G H : Hp) : List Rf → List V → Prop
  | [], vs => vs = []
  | r :: rs, vs => ∃ v w, vs = v :: w ∧ rR T H0 σ ρ G H r v ∧ RL T H0 σ ρ G H rs w
def rA : RelT (List Rf) (List V) := RL
theorem RL_any {T : Cs} {H0 H0' : Hp} {σ : L2.St} {ρ ρ' : En} {G G' H H' : Hp} (e : Ex G G') : ∀ (rs : List Rf) (vs : List V), RL T H0 σ ρ G H rs vs → RL T H0' σ ρ' G' H' rs vs
  | [], vs, h => h
  | r :: rs, vs, h => by
    obtain ⟨v, w, h1, h2, h3⟩ := h
    refine ⟨v, w, h1, ?_, RL_any e rs w h3⟩
    cases r with
    | d x => exact Rep.mono e x v h2
    | s i => exact h2
theorem rA_back : Back rA := fun _ _ _ _ _ _ _ rs vs _ h => RL_any (Ex.refl _) rs vs h
def rLs : RelT (List D) (List V) := fun T _ _ _ G _ ds vs => RepL T G ds vs
theorem rLs_back : Back rLs := fun _ _ _ _ _ _ _ _ _ _ h => h

section
variable (cl : Nms) (X : Cx) (W : WX)
abbrev ET (e : Expr) (m : M Bool) : Prop := PT X e (tX rB (csX X cl) W m)
abbrev EW (e : Expr) (m : M Bool) : Prop := PW X e (tX rB (csX X cl) W m)
abbrev EA (es : List Expr) (m : M (List Rf)) : Prop := PA X es (tX rA (csX X cl) W m)
abbrev EL (es : List Expr) (m : M (List D)) : Prop := PA X es (tX rLs (csX X cl) W m)
end
theorem _root_.L2.PW.imp {X : Cx} {e : Expr} {t t' : TT} (h : PW X e t) (i : ∀ σ H Q, t' σ H Q → t σ H Q) : PW X e t' := ⟨fun wh pins s σ H Q I hw => h.run wh pins s σ H Q I (i σ H Q hw)⟩

section
variable {cl : Nms} {X : Cx} {W : WX} {pos : Pos} {a b e : Expr} {es : List Expr} {ma mb : M Bool} {G H : Hp} {σ : L2.St} {ρ : En} {T : Cs} {Q : VK}
theorem ET.by {m : M Bool} {t : TT} (h : PT X e t) (i : ∀ G ρ σ H Q, Ok (csX X cl) G H σ ρ → At rB (csX X cl) W m G ρ σ H Q → t σ H Q) : ET cl X W e m := h.imp fun σ H Q ⟨G, ρ, k, a⟩ => i G ρ σ H Q k a
theorem EW.by {m : M Bool} {t : TT} (h : PW X e t) (i : ∀ G ρ σ H Q, Ok (csX X cl) G H σ ρ → At rB (csX X cl) W m G ρ σ H Q → t σ H Q) : EW cl X W e m := h.imp fun σ H Q ⟨G, ρ, k, a⟩ => i G ρ σ H Q k a
theorem EA.by {m : M (List Rf)} {t : TA} (h : PA X es t) (i : ∀ G ρ σ H Q, Ok (csX X cl) G H σ ρ → At rA (csX X cl) W m G ρ σ H Q → t σ H Q) : EA cl X W es m := h.imp fun σ H Q ⟨G, ρ, k, a⟩ => i G ρ σ H Q k a
theorem EL.by {m : M (List D)} {t : TA} (h : PA X es t) (i : ∀ G ρ σ H Q, Ok (csX X cl) G H σ ρ → At rLs (csX X cl) W m G ρ σ H Q → t σ H Q) : EL cl X W es m := h.imp fun σ H Q ⟨G, ρ, k, a⟩ => i G ρ σ H Q k a

/-! ### constants -/
def eC (d : D) : M D := M.ret d
theorem ed_int {i : Int} {j} : ED cl X W (.Constant (.int i) j pos) (eC (.int i)) := EX.by pe_int fun G ρ σ H Q k h => h.ret k rfl
theorem ed_bl {i : Bool} {j} : ED cl X W (.Constant (.bool i) j pos) (eC (.bl i)) := EX.by pe_bl fun G ρ σ H Q k h => h.ret k rfl
theorem ed_non {j} : ED cl X W (.Constant .none j pos) (eC .non) := EX.by pe_non fun G ρ σ H Q k h => h.ret k rfl
theorem ed_str {i : Str} {j} : ED cl X W (.Constant (.str i) j pos) (eC (.str i)) := EX.by pe_str fun G ρ σ H Q k h => h.ret k rfl

/-! ### arguments, displays -/
def aNil : M (List Rf) := M.ret []
def aCons (m : M Rf) (r : M (List Rf)) : M (List Rf) := M.bind m fun x => M.bind r fun xs => M.ret (x :: xs)
theorem ea_nil : EA cl X W [] aNil := EA.by pa_nil fun G ρ σ H Q k h => h.ret k rfl
theorem ea_cons {m : M Rf} {r : M (List Rf)} (he : ER cl X W e m) (hr : EA cl X W es r) (hs : starEach (e :: es) X.env = (false, eval e X.env) :: starEach es X.env := by rfl) : EA cl X W (e :: es) (aCons m r) :=
  EA.by (pa_cons he hr hs) fun G ρ σ H Q k h => at_tX k (At.bind (Ra := rR) rA_back h fun x ρ1 v1 G1 H1 n1 k1 r1 h1 => at_tX k1 (At.bind (Ra := rA) rA_back h1 fun xs ρ2 vs G2 H2 n2 k2 r2 h2 =>
    h2.ret k2 ⟨v1, vs, rfl, rR_keep n2 r1, RL_any (Ex.refl _) xs vs r2⟩))
def lNil : M (List D) := M.ret []
def lCons (m : M D) (r : M (List D)) : M (List D) := M.bind m fun x => M.bind r fun xs => M.ret (x :: xs)
theorem el_nil : EL cl X W [] lNil := EL.by pa_nil fun G ρ σ H Q k h => h.ret k rfl
theorem el_cons {m : M D} {r : M (List D)} (he : ED cl X W e m) (hr : EL cl X W es r) (hs : starEach (e :: es) X.env = (false, eval e X.env) :: starEach es X.env := by rfl) : EL cl X W (e :: es) (lCons m r) :=
  EL.by (pa_cons he hr hs) fun G ρ σ H Q k h => at_tX k (At.bind (Ra := rD) rLs_back h fun x ρ1 v1 G1 H1 n1 k1 r1 h1 => at_tX k1 (At.bind (Ra := rLs) rLs_back h1 fun xs ρ2 vs G2 H2 n2 k2 r2 h2 =>
    h2.ret k2 ⟨v1, vs, rfl, Rep.mono n2.g x v1 r1, r2⟩))
def M.chk (p : Bool) : M Unit := if p = true then M.ret () else M.stuck
theorem At.chk {α δ : Type} {R : RelT α δ} {p : Bool} {f : Unit → M α} {Q : Wi δ} (h : At R T W (M.bind (M.chk p) f) G ρ σ H Q) : p = true ∧ At R T W (f ()) G ρ σ H Q := by
  cases p with
  | true => exact ⟨rfl, h⟩
  | false =>
    obtain ⟨r, ρ', e, _⟩ := h
    cases e
def eLst (m : M (List D)) : M O := M.bind m fun ds => M.bind (M.chk (decide (ds.length ≤ lim))) fun _ => M.ret (.lst ds)
def eTup (m : M (List D)) : M D := M.bind m fun ds => M.bind (M.chk (decide (ds.length ≤ lim))) fun _ => M.ret (.tup ds)
theorem eo_lst {m : M (List D)} (h : EL cl X W es m) : EO cl X W (.List es pos) (eLst m) := EX.by (pe_lst h) fun G ρ σ H Q k a => at_tX k (At.bind (Ra := rLs) rO_back a fun ds ρ1 vs G1 H1 n1 k1 r1 a1 => by
  obtain ⟨p, a2⟩ := a1.chk
  exact ⟨lim_le (by rw [r1.length]; exact of_decide_eq_true p), a2.newL k1 r1⟩)
theorem ed_tup {m : M (List D)} {x1} (h : EL cl X W es m) : ED cl X W (.Tuple es x1 pos) (eTup m) := EX.by (pe_tup h) fun G ρ σ H Q k a => at_tX k (At.bind (Ra := rLs) rD_back a fun ds ρ1 vs G1 H1 n1 k1 r1 a1 => by
  obtain ⟨p, a2⟩ := a1.chk
  refine ⟨lim_le (by rw [r1.length]; exact of_decide_eq_true p), fun q hq => ?_⟩
  obtain ⟨n, k'⟩ := new_nx (o := .tup vs) hq k1
  exact a2.done n k' ⟨q, vs, rfl, SqT.of upd_same, RepL.mono n.g _ _ r1⟩)

/-! ### tests -/
def eT (m : M D) : M Bool := M.bind m fun d => match d with | .bl b => M.ret b | _ => M.stuck
/-- an expression that is a bool, as a test -/
theorem et_val {m : M D} (h : ED cl X W e m) (he : ∀ whole, isTrue e X.env whole = (do let v ← whole; standAt e.pos; holding [v] (truthy v)) := by intro _; rfl) : ET cl X W e (eT m) :=
  ET.by (pt_val h he) fun G ρ σ H Q k a => at_tX k (At.bind (Ra := rD) rB_back a fun d ρ1 v G1 H1 n1 k1 r1 a1 => by
    cases d with
    | bl b =>
      obtain rfl : v = .bl b := r1
      exact ⟨b, rfl, a1.ret k1 rfl⟩
    | _ =>
      obtain ⟨r, ρ', e, _⟩ := a1
      cases e)
theorem et_cmp {op : CmpOp} {r : R2} {f : D → D → Option D} {xa xb : M Rf} (ho : OpR X (compareOp op) r)
    (hf : ∀ G H σ ρ d1 d2 o v1 v2 Q, Ok (csX X cl) G H σ ρ → f d1 d2 = some o → RepT (csX X cl) G H d1 v1 → RepT (csX X cl) G H d2 v2 → At rD (csX X cl) W (M.ret o) G ρ σ H Q → r v1 v2 H Q)
    (hm : behindInMarks op b = false) (ha : ER cl X W a xa) (hb : ER cl X W b xb) : ET cl X W (.Compare a [op] [b] pos) (eT (eBinD f xa xb)) :=
  ET.by (pt_cmpR ho ha hb hm) fun G ρ σ H Q k h => by
    -- the comparison's value, then its truth
    have key : At rD (csX X cl) W (eBinD f xa xb) G ρ σ H fun x H' => ∃ c, x = .bl c ∧ Q c H' := At.bind (Ra := rD) rB_back h fun d ρ1 v G1 H1 n1 k1 r1 a1 => by
      cases d with
      | bl b =>
        obtain rfl : v = .bl b := r1
        exact ⟨b, rfl, a1.ret k1 rfl⟩
      | _ =>
        obtain ⟨r, ρ', e, _⟩ := a1
        cases e
    exact at_tX k (At.bind (Ra := rR) rD_back key fun x ρ1 v1 G1 H1 n1 k1 r1 h1 => at_tX k1 (At.bind (Ra := rR) rD_back h1 fun y ρ2 v2 G2 H2 n2 k2 r2 h2 => by
      obtain ⟨d1, q1, h3⟩ := At.get h2 k2 (rR_keep n2 r1)
      obtain ⟨d2, q2, h4⟩ := At.get h3 k2 r2
      obtain ⟨o, e, h5⟩ := h4.lift
      exact hf _ _ _ _ _ _ _ _ _ _ k2 e q1 q2 h5))
def mAnd (a b : M Bool) : M Bool := M.bind a fun c => if c = true then b else M.ret false
def mOr (a b : M Bool) : M Bool := M.bind a fun c => if c = true then M.ret true else b
def mNot (a : M Bool) : M Bool := M.bind a fun c => M.ret (!c)
theorem ew_and1 (h : ET cl X W a ma) : EW cl X W (.BoolOp .And [a] pos) ma := pw_and1 h
theorem ew_or1 (h : ET cl X W a ma) : EW cl X W (.BoolOp .Or [a] pos) ma := pw_or1 h
theorem ew_and {rest : List Expr} (h : ET cl X W a ma) (h' : EW cl X W (.BoolOp .And (b :: rest) pos) mb) : EW cl X W (.BoolOp .And (a :: b :: rest) pos) (mAnd ma mb) :=
  EW.by (pw_and h h') fun G ρ σ H Q k x => at_tX k (At.bind (Ra := rB) rB_back x fun c ρ1 c' G1 H1 n1 k1 r1 a1 => by
    obtain rfl : c = c' := r1
    cases c with
    | true => exact at_tX k1 a1
    | false => exact a1.ret k1 rfl)
theorem ew_or {rest : List Expr} (h : ET cl X W a ma) (h' : EW cl X W (.BoolOp .Or (b :: rest) pos) mb) : EW cl X W (.BoolOp .Or (a :: b :: rest) pos) (mOr ma mb) :=
  EW.by (pw_or h h') fun G ρ σ H Q k x => at_tX k (At.bind (Ra := rB) rB_back x fun c ρ1 c' G1 H1 n1 k1 r1 a1 => by
    obtain rfl : c = c' := r1
    cases c with
    | true => exact a1.ret k1 rfl
    | false => exact at_tX k1 a1)
theorem et_w (h : EW cl X W e ma) : ET cl X W e ma := h.pt
theorem et_not (h : ET cl X W a ma) : ET cl X W (.UnaryOp .Not a pos) (mNot ma) := ET.by (pt_not h) fun G ρ σ H Q k x => at_tX k (At.bind (Ra := rB) rB_back x fun c ρ1 c' G1 H1 n1 k1 r1 a1 => by
  obtain rfl : c = c' := r1
  exact a1.ret k1 rfl)
/-- and, or, not of bools as values -/
def vAnd (a b : M D) : M D := M.bind a fun d => match d with | .bl true => b | .bl false => M.ret (.bl false) | _ => M.stuck
def vOr (a b : M D) : M D := M.bind a fun d => match d with | .bl true => M.ret (.bl true) | .bl false => b | _ => M.stuck
def vNot (a : M D) : M D := M.bind a fun d => match d with | .bl b => M.ret (.bl (!b)) | _ => M.stuck
theorem ed_one {op} {m : M D} (h : ED cl X W a m) : ED cl X W (.BoolOp op [a] pos) m := pe_one h
theorem ed_and {rest : List Expr} {m m' : M D} (h : ED cl X W a m) (h' : ED cl X W (.BoolOp .And (b :: rest) pos) m') : ED cl X W (.BoolOp .And (a :: b :: rest) pos) (vAnd m m') :=
  EX.by (pe_and h h') fun G ρ σ H Q k x => at_tX k (At.bind (Ra := rD) rD_back x fun d ρ1 v G1 H1 n1 k1 r1 a1 => by
    cases d with
    | bl c =>
      obtain rfl : v = .bl c := r1
      refine ⟨c, rfl, ?_⟩
      cases c with
      | true => exact at_tX k1 a1
      | false => exact a1.ret k1 rfl
    | _ =>
      obtain ⟨r, ρ', e, _⟩ := a1
      cases e)
theorem ed_or {rest : List Expr} {m m' : M D} (h : ED cl X W a m) (h' : ED cl X W (.BoolOp .Or (b :: rest) pos) m') : ED cl X W (.BoolOp .Or (a :: b :: rest) pos) (vOr m m') :=
  EX.by (pe_or h h') fun G ρ σ H Q k x => at_tX k (At.bind (Ra := rD) rD_back x fun d ρ1 v G1 H1 n1 k1 r1 a1 => by
    cases d with
    | bl c =>
      obtain rfl : v = .bl c := r1
      refine ⟨c, rfl, ?_⟩
      cases c with
      | true => exact a1.ret k1 rfl
      | false => exact at_tX k1 a1
    | _ =>
      obtain ⟨r, ρ', e, _⟩ := a1
      cases e)
theorem ed_not {m : M D} (h : ED cl X W a m) : ED cl X W (.UnaryOp .Not a pos) (vNot m) := EX.by (pe_not h) fun G ρ σ H Q k x => at_tX k (At.bind (Ra := rD) rD_back x fun d ρ1 v G1 H1 n1 k1 r1 a1 => by
  cases d with
  | bl c =>
    obtain rfl : v = .bl c := r1
    exact ⟨c, rfl, a1.ret k1 rfl⟩
  | _ =>
    obtain ⟨r, ρ', e, _⟩ := a1
    cases e)
/-- a if t else b -/
def eIf {α : Type} (t : M Bool) (x y : M α) : M α := M.bind t fun c => if c = true then x else y
theorem ex_if {α : Type} {R : RelT α V} (hb : Back R) {c : Expr} {x y : M α} (hc : ET cl X W c ma) (ha : EX cl X W R a x) (hb' : EX cl X W R b y) : EX cl X W R (.IfExp c a b pos) (eIf ma x y) :=
  EX.by (pe_ifExp hc ha hb') fun G ρ σ H Q k z => at_tX k (At.bind (Ra := rB) hb z fun c ρ1 c' G1 H1 n1 k1 r1 a1 => by
    obtain rfl : c = c' := r1
    cases c with
    | true => exact at_tX k1 a1
    | false => exact at_tX k1 a1)
end
end Fn

set_option maxRecDepth 100000
set_option maxHeartbeats 4000000
namespace Fn
open PySem PySem.Spec PyProof.Rows L2

/-! ### whole numbers -/
def bits (i : Int) : Nat := Builtin.Int.intBits i
def fSub : D → D → Option D
  | .int i, .int j => some (.int (i - j))
  | _, _ => none
def fMod : D → D → Option D
  | .int i, .int j => if 0 < j then some (.int (i % j)) else none
  | _, _ => none
def fDiv : D → D → Option D
  | .int i, .int j => if 0 < j ∧ bits j ≤ 9000 then some (.int (i / j)) else none
  | _, _ => none
def fPow : D → D → Option D
  | .int i, .int j => if 0 ≤ j ∧ (bits i : Int) * j ≤ 100000000 then some (.int (i ^ j.toNat)) else none
  | _, _ => none
/-- ints; a list so many times -/
def fMul : D → D → Option O
  | .int i, .int j => if bits i + bits j ≤ 100000000 then some (.dat (.int (i * j))) else none
  | .lst xs, .int k => if xs.length * k.toNat ≤ lim ∧ -1000000 ≤ k ∧ k ≤ 1000000 then some (.lst (List.replicate k.toNat xs).flatten) else none
  | _, _ => none
def CPowB (i j : Int) : Prop := 0 ≤ j ∧ (bits i : Int) * j ≤ 100000000
theorem op_powB {X : Cx} : OpR X (binaryOp .Pow) (rI CPowB fun i j => .int (i ^ j.toNat)) := opI fun _ _ _ _ _ _ _ hc q => pow_int hc.1 (Int.le_trans hc.2 (by decide)) q
def CMulB (i j : Int) : Prop := bits i + bits j ≤ 100000000
theorem CMulB.fits {i j : Int} (h : CMulB i j) : IntMulOk i j := by
  have h' : Builtin.Int.intBits i + Builtin.Int.intBits j ≤ 100000000 := h
  have e : bitsLine = 134217728 := by decide
  intro z
  have z2 := (Bool.and_eq_true_iff.mp z).2
  unfold Builtin.Int.intTooBig at z2
  have z3 := of_decide_eq_true z2
  rw [e] at z3
  omega
theorem op_mulB {X : Cx} : OpR X (binaryOp .Mult) (rI CMulB fun i j => .int (i * j)) := opI fun _ _ _ _ _ _ _ hc q => mul_int q hc.fits

section
variable {cl : Nms} {X : Cx} {W : WX} {pos : Pos} {a b : Expr} {ma mb : M Rf} {G H : Hp} {σ : L2.St} {ρ : En} {T : Cs} {Q : VK}
theorem ed_sub (ha : ER cl X W a ma) (hb : ER cl X W b mb) : ED cl X W (.BinOp a .Sub b pos) (eBinD fSub ma mb) := ed_bin op_sub (fun G H σ ρ d1 d2 o v1 v2 Q k e q1 q2 h => by
  unfold fSub at e
  split at e
  · cases e
    obtain rfl := q1.int
    obtain rfl := q2.int
    exact ⟨_, _, rfl, rfl, h.ret k rfl⟩
  · cases e) ha hb
theorem ed_mod (ha : ER cl X W a ma) (hb : ER cl X W b mb) : ED cl X W (.BinOp a .Mod b pos) (eBinD fMod ma mb) := ed_bin op_mod (fun G H σ ρ d1 d2 o v1 v2 Q k e q1 q2 h => by
  unfold fMod at e
  split at e
  · split at e
    · rename_i hp
      cases e
      obtain rfl := q1.int
      obtain rfl := q2.int
      exact ⟨_, _, rfl, rfl, hp, h.ret k rfl⟩
    · cases e
  · cases e) ha hb
theorem bits_log {j : Int} {n : Nat} (h : bits j ≤ n) (h0 : 0 < n) : j.natAbs.log2 < n := by
  unfold bits Builtin.Int.intBits at h
  by_cases z : (j == 0) = true
  · have z' : j = 0 := by simpa using z
    subst z'
    exact (by show Nat.log2 0 < n; rw [show Nat.log2 0 = 0 from by decide]; exact h0)
  · rw [if_neg z] at h
    omega
theorem ed_div (ha : ER cl X W a ma) (hb : ER cl X W b mb) : ED cl X W (.BinOp a .FloorDiv b pos) (eBinD fDiv ma mb) := ed_bin op_fdivW (fun G H σ ρ d1 d2 o v1 v2 Q k e q1 q2 h => by
  unfold fDiv at e
  split at e
  · split at e
    · rename_i hp
      cases e
      obtain rfl := q1.int
      obtain rfl := q2.int
      exact ⟨_, _, rfl, rfl, ⟨hp.1, bits_log hp.2 (by decide)⟩, h.ret k rfl⟩
    · cases e
  · cases e) ha hb
theorem ed_pow (ha : ER cl X W a ma) (hb : ER cl X W b mb) : ED cl X W (.BinOp a .Pow b pos) (eBinD fPow ma mb) := ed_bin op_powB (fun G H σ ρ d1 d2 o v1 v2 Q k e q1 q2 h => by
  unfold fPow at e
  split at e
  · split at e
    · rename_i hp
      cases e
      obtain rfl := q1.int
      obtain rfl := q2.int
      exact ⟨_, _, rfl, rfl, hp, h.ret k rfl⟩
    · cases e
  · cases e) ha hb
theorem RepL.rep {ds : List D} {xs : List V} (h : RepL T G ds xs) : ∀ n : Nat, RepL T G (List.replicate n ds).flatten (List.replicate n xs).flatten
  | 0 => rfl
  | n + 1 => by
    rw [List.replicate_succ, List.replicate_succ, List.flatten_cons, List.flatten_cons]
    exact h.append (RepL.rep h n)
theorem eo_mul (ha : ER cl X W a ma) (hb : ER cl X W b mb) : EO cl X W (.BinOp a .Mult b pos) (eBin fMul ma mb) := eo_bin (OpR.or op_mulB op_rep) (fun G H σ ρ d1 d2 o v1 v2 Q k e q1 q2 h => by
  unfold fMul at e
  split at e
  · split at e
    · rename_i hp
      cases e
      obtain rfl := q1.int
      obtain rfl := q2.int
      exact .inl ⟨_, _, rfl, rfl, hp, h.flat k rfl⟩
    · cases e
  · split at e
    · rename_i hp
      cases e
      obtain ⟨p, xs, rfl, h1, r1⟩ := q1.lst k
      obtain rfl := q2.int
      obtain ⟨hl, h2, h3⟩ := hp
      refine .inr ⟨p, _, xs, rfl, rfl, h1, by omega, by omega, lim_le (by rw [r1.length]; exact hl), h.newL k (r1.rep _)⟩
    · cases e
  · cases e) ha hb
/-- less, at most, .. of ints and of texts -/
def fLt : D → D → Option D
  | .int i, .int j => some (.bl (decide (i < j)))
  | .str x, .str y => some (.bl (decide (x.cps.toList < y.cps.toList)))
  | _, _ => none
def fLe : D → D → Option D
  | .int i, .int j => some (.bl (decide (i ≤ j)))
  | .str x, .str y => some (.bl (!decide (y.cps.toList < x.cps.toList)))
  | _, _ => none
def fGt : D → D → Option D
  | .int i, .int j => some (.bl (decide (j < i)))
  | .str x, .str y => some (.bl (decide (y.cps.toList < x.cps.toList)))
  | _, _ => none
def fGe : D → D → Option D
  | .int i, .int j => some (.bl (decide (j ≤ i)))
  | .str x, .str y => some (.bl (!decide (x.cps.toList < y.cps.toList)))
  | _, _ => none
abbrev HopD (cl : Nms) (X : Cx) (W : WX) (f : D → D → Option D) (r : R2) : Prop :=
  ∀ (G H : Hp) (σ : L2.St) (ρ : En) (d1 d2 o : D) (v1 v2 : V) (Q : VK), Ok (csX X cl) G H σ ρ → f d1 d2 = some o → RepT (csX X cl) G H d1 v1 → RepT (csX X cl) G H d2 v2 → At rD (csX X cl) W (M.ret o) G ρ σ H Q → r v1 v2 H Q
def opLt {X : Cx} := OpR.or (X := X) op_lt op_lt_str
def opLe {X : Cx} := OpR.or (X := X) op_le op_le_str
def opGt {X : Cx} := OpR.or (X := X) op_gt op_gt_str
def opGe {X : Cx} := OpR.or (X := X) op_ge op_ge_str
theorem hop_lt : HopD cl X W fLt (fun x y H Q => rI0 (fun i j => .bl (decide (i < j))) x y H Q ∨ ∃ i j, x = .str i ∧ y = .str j ∧ Q (.bl (decide (i.cps.toList < j.cps.toList))) H) := fun G H σ ρ d1 d2 o v1 v2 Q k e q1 q2 h => by
  unfold fLt at e
  split at e
  · cases e
    obtain rfl := q1.int
    obtain rfl := q2.int
    exact .inl ⟨_, _, rfl, rfl, h.ret k rfl⟩
  · cases e
    obtain rfl := q1.str
    obtain rfl := q2.str
    exact .inr ⟨_, _, rfl, rfl, h.ret k rfl⟩
  · cases e
theorem hop_le : HopD cl X W fLe (fun x y H Q => rI0 (fun i j => .bl (decide (i ≤ j))) x y H Q ∨ ∃ i j, x = .str i ∧ y = .str j ∧ Q (.bl (!decide (j.cps.toList < i.cps.toList))) H) := fun G H σ ρ d1 d2 o v1 v2 Q k e q1 q2 h => by
  unfold fLe at e
  split at e
  · cases e
    obtain rfl := q1.int
    obtain rfl := q2.int
    exact .inl ⟨_, _, rfl, rfl, h.ret k rfl⟩
  · cases e
    obtain rfl := q1.str
    obtain rfl := q2.str
    exact .inr ⟨_, _, rfl, rfl, h.ret k rfl⟩
  · cases e
theorem hop_gt : HopD cl X W fGt (fun x y H Q => rI0 (fun i j => .bl (decide (j < i))) x y H Q ∨ ∃ i j, x = .str i ∧ y = .str j ∧ Q (.bl (decide (j.cps.toList < i.cps.toList))) H) := fun G H σ ρ d1 d2 o v1 v2 Q k e q1 q2 h => by
  unfold fGt at e
  split at e
  · cases e
    obtain rfl := q1.int
    obtain rfl := q2.int
    exact .inl ⟨_, _, rfl, rfl, h.ret k rfl⟩
  · cases e
    obtain rfl := q1.str
    obtain rfl := q2.str
    exact .inr ⟨_, _, rfl, rfl, h.ret k rfl⟩
  · cases e
theorem hop_ge : HopD cl X W fGe (fun x y H Q => rI0 (fun i j => .bl (decide (j ≤ i))) x y H Q ∨ ∃ i j, x = .str i ∧ y = .str j ∧ Q (.bl (!decide (i.cps.toList < j.cps.toList))) H) := fun G H σ ρ d1 d2 o v1 v2 Q k e q1 q2 h => by
  unfold fGe at e
  split at e
  · cases e
    obtain rfl := q1.int
    obtain rfl := q2.int
    exact .inl ⟨_, _, rfl, rfl, h.ret k rfl⟩
  · cases e
    obtain rfl := q1.str
    obtain rfl := q2.str
    exact .inr ⟨_, _, rfl, rfl, h.ret k rfl⟩
  · cases e

/-! ### == of data -/
mutual
def toPy : D → Option PyData
  | .non => some .none
  | .bl b => some (.bool b)
  | .int i => some (.int i)
  | .str x => some (.str x)
  | .lst ds => (toPyL ds).map .list
  | .ro ds => (toPyL ds).map .list
  | .tup ds => (toPyL ds).map .tuple
  | .dk ks ds => (toPyL ds).map fun ps => .dict ((ks.map fun k => match k with | .inl i => PyData.int i | .inr x => PyData.str x).zip ps)
  | .exc _ _ _ => none
  | .obj _ _ _ => none
  | .fn _ => none
  | .set _ => none
  | .dt _ _ => none
  | .rk _ _ => none
def toPyL : List D → Option (List PyData)
  | [] => some []
  | d :: ds => (toPy d).bind fun p => (toPyL ds).map fun ps => p :: ps
end
theorem RepT.inH {d : D} {v : V} (k : Ok T G H σ ρ) (h : RepT T G H d v) : Rep T H d v := by
  rcases h with h | ⟨o, p, e, q⟩
  · exact Rep.mono k.sub d v h
  · cases o with
    | lst xs =>
      cases e
      obtain ⟨a, ys, h1, h2, h3, h4⟩ := q
      exact ⟨a, ys, h1, h2, RepL.mono k.sub _ _ h4⟩
    | dk ks vs =>
      cases e
      obtain ⟨a, kvs, h1, h2, h3, h4, h5⟩ := q
      exact ⟨a, kvs, h1, .inl h2, h4, RepL.mono k.sub _ _ h5⟩
    | set ks =>
      cases e
      obtain ⟨a, h1, h2, h3⟩ := q
      exact ⟨a, h1, h2⟩
    | obj _ _ _ =>
      cases e
      obtain ⟨a, C, dx, fs, h1, h2, h3, h4, h5, h6⟩ := q
      exact ⟨a, C, dx, fs, h1, h2, h3, h5, RepL.mono k.sub _ _ h6⟩
    | dat _ => cases p
    | fz _ => cases p
end
end Fn

set_option maxRecDepth 100000
set_option maxHeartbeats 4000000
namespace Fn
open PySem PySem.Spec PyProof.Rows L2

def keyPy : Key → PyData
  | .inl i => .int i
  | .inr x => .str x
theorem pairs_keys {P : Program} {w : World} {h : Heap} {es : List DictEntry} {vs : List (Key × Value)} (r : Pairs (mixKind P w) es vs) : ReadsAll h (es.map (·.key)) (vs.map fun p => keyPy p.1) [] ∧ es.map (·.val) = vs.map (·.2) := by
  induction r with
  | nil => exact ⟨.nil, rfl⟩
  | @cons e kv es kvs h1 h2 _ ih =>
    obtain ⟨i1, i2⟩ := ih
    refine ⟨?_, by rw [List.map_cons, List.map_cons, h2, i2]⟩
    rw [List.map_cons, List.map_cons]
    have rk : Reads h e.key (keyPy kv.1) [] := by
      rcases keyIs_shape (k := kv.1) (v := e.key) h1 with ⟨i, t, e1, e2⟩ | ⟨x, t, e1, e2⟩
      · rw [e1, e2]
        exact .int i t
      · rw [e1, e2]
        exact .str x t
    exact .cons (as := []) (bs := []) rk i1
theorem toPyL_length : ∀ {ds : List D} {ps : List PyData}, toPyL ds = some ps → ps.length = ds.length
  | [], ps, e => by
    cases e
    rfl
  | d :: ds, ps, e => by
    have e' : ((toPy d).bind fun p => (toPyL ds).map fun ps => p :: ps) = some ps := e
    cases h1 : toPy d with
    | none =>
      rw [h1] at e'
      cases e'
    | some p =>
      cases h2 : toPyL ds with
      | none =>
        rw [h1, h2] at e'
        cases e'
      | some qs =>
        rw [h1, h2] at e'
        cases e'
        rw [List.length_cons, List.length_cons, toPyL_length h2]
theorem map_zip_fst {α β : Type} : ∀ {xs : List α} {ys : List β}, ys.length = xs.length → (xs.zip ys).map (·.1) = xs ∧ (xs.zip ys).map (·.2) = ys
  | [], [], _ => ⟨rfl, rfl⟩
  | x :: xs, y :: ys, h => by
    obtain ⟨i1, i2⟩ := map_zip_fst (xs := xs) (ys := ys) (by simpa using h)
    rw [List.zip_cons_cons, List.map_cons, List.map_cons, i1, i2]
    exact ⟨rfl, rfl⟩
/-- no list stands where sys.modules stands -/
def NoSys (K : PySem.W.Frag) (H : Hp) : Prop := ∀ xs, ¬ SqL K H sysModules xs
section
variable {cls : Nms} {X : Cx} {pins : List (Addr × Obj)} {σ : L2.St} {H : Hp} {s : Shared}
theorem vals_snd : ∀ {kvs : List (Key × V)} {vs : List (Key × Value)}, KV kvs vs → Vals (kvs.map (·.2)) (vs.map (·.2)) ∧ kvs.map (·.1) = vs.map (·.1)
  | _, _, .nil => ⟨.nil, rfl⟩
  | _, _, .cons r t => by
    obtain ⟨i1, i2⟩ := vals_snd t
    rw [List.map_cons, List.map_cons, List.map_cons, List.map_cons, i2, r.1]
    exact ⟨.cons r.2 i1, rfl⟩
mutual
theorem Rep.reads (I : Inv X pins σ H s) (hS : NoSys X.K H) : ∀ (d : D) (v : V) (u : Value) (p : PyData), Rep (csX X cls) H d v → toPy d = some p → RelV v u → ∃ as, Reads s.heap u p as ∧ sysModules ∉ as
  | .non, v, u, p, h, e, r => by
    cases e
    obtain rfl : v = .non := h
    cases r
    exact ⟨[], .none, List.not_mem_nil⟩
  | .bl b, v, u, p, h, e, r => by
    cases e
    obtain rfl : v = .bl b := h
    cases r
    exact ⟨[], .bool b, List.not_mem_nil⟩
  | .int i, v, u, p, h, e, r => by
    cases e
    obtain rfl : v = .int i := h
    obtain ⟨t, rfl⟩ := r
    exact ⟨[], .int i t, List.not_mem_nil⟩
  | .str x, v, u, p, h, e, r => by
    cases e
    obtain rfl : v = .str x := h
    obtain ⟨t, rfl⟩ := r
    exact ⟨[], .str x t, List.not_mem_nil⟩
  | .lst ds, v, u, p, h, e, r => by
    obtain ⟨a, xs, rfl, h1, h2⟩ := h
    cases r
    obtain ⟨ps, e1, rfl⟩ := Option.map_eq_some_iff.mp (show (toPyL ds).map PyData.list = some p from e)
    obtain ⟨its, rv, ⟨o, n, ho, hc, _, hd⟩, _⟩ := I.list (SqL.of h1)
    obtain ⟨as, r1, r2⟩ := RepL.reads I hS ds xs its ps h2 e1 rv
    refine ⟨a :: as, .list ho hc hd r1, fun z => ?_⟩
    rcases List.mem_cons.mp z with z | z
    · subst z
      exact hS xs (SqL.of h1)
    · exact r2 z
  | .ro ds, v, u, p, h, e, r => by
    obtain ⟨a, xs, rfl, h1, h2⟩ := h
    cases r
    obtain ⟨ps, e1, rfl⟩ := Option.map_eq_some_iff.mp (show (toPyL ds).map PyData.list = some p from e)
    obtain ⟨its, rv, ⟨o, n, ho, hc, _, hd⟩, _⟩ := I.list h1
    obtain ⟨as, r1, r2⟩ := RepL.reads I hS ds xs its ps h2 e1 rv
    refine ⟨a :: as, .list ho hc hd r1, fun z => ?_⟩
    rcases List.mem_cons.mp z with z | z
    · subst z
      exact hS xs h1
    · exact r2 z
  | .tup ds, v, u, p, h, e, r => by
    obtain ⟨a, xs, rfl, h1, h2⟩ := h
    cases r
    obtain ⟨ps, e1, rfl⟩ := Option.map_eq_some_iff.mp (show (toPyL ds).map PyData.tuple = some p from e)
    obtain ⟨its, rv, ⟨o, ho, hc, n, hd⟩, _⟩ := I.tuple h1
    obtain ⟨as, r1, r2⟩ := RepL.reads I hS ds xs its ps h2 e1 rv
    exact ⟨as, .tuple ho hc hd r1, r2⟩
  | .dk ks ds, v, u, p, h, e, r => by
    obtain ⟨a, kvs, rfl, h1, h2, h3⟩ := h
    cases r
    obtain ⟨ps, e1, e2⟩ := Option.map_eq_some_iff.mp (show (toPyL ds).map (fun ps => PyData.dict ((ks.map fun k => match k with | .inl i => PyData.int i | .inr x => PyData.str x).zip ps)) = some p from e)
    obtain ⟨_, hs, vs, rv, o, es, ep, ho, hx, hd, _, hp, _⟩ := dk_rd I.hok h1
    obtain ⟨r1, r2⟩ := vals_snd rv
    obtain ⟨as, r3, r4⟩ := RepL.reads I hS ds _ _ ps h3 e1 r1
    obtain ⟨k1, k2⟩ := pairs_keys (h := s.heap) hp
    have hl : ps.length = (ks.map fun k => match k with | .inl i => PyData.int i | .inr x => PyData.str x).length := by
      rw [List.length_map, toPyL_length e1, ← h2, List.length_map, ← h3.length, List.length_map]
    obtain ⟨z1, z2⟩ := map_zip_fst hl
    have ek : (ks.map fun k => match k with | .inl i => PyData.int i | .inr x => PyData.str x) = vs.map fun p => keyPy p.1 := by
      rw [← h2, r2, List.map_map]
      refine List.map_congr_left fun q _ => ?_
      cases q with
      | mk k w => cases k <;> rfl
    subst e2
    refine ⟨a :: [] ++ as, .dict ho hx.1 hd ?_ ?_, fun z => ?_⟩
    · rw [z1, ek]
      exact k1
    · rw [z2, k2]
      exact r3
    · rcases List.mem_append.mp z with z | z
      · have z' : sysModules = a := by simpa using z
        rw [← z'] at hs
        simp at hs
      · exact r4 z
  | .exc _ _ _, v, u, p, h, e, r => by cases e
  | .obj _ _ _, v, u, p, h, e, r => by cases e
  | .fn _, v, u, p, h, e, r => by cases e
  | .set _, v, u, p, h, e, r => by cases e
  | .dt _ _, v, u, p, h, e, r => by cases e
  | .rk _ _, v, u, p, h, e, r => by cases e
theorem RepL.reads (I : Inv X pins σ H s) (hS : NoSys X.K H) : ∀ (ds : List D) (vs : List V) (us : List Value) (ps : List PyData), RepL (csX X cls) H ds vs → toPyL ds = some ps → Vals vs us → ∃ as, ReadsAll s.heap us ps as ∧ sysModules ∉ as
  | [], vs, us, ps, h, e, r => by
    cases e
    obtain rfl : vs = [] := h
    cases r
    exact ⟨[], .nil, List.not_mem_nil⟩
  | d :: ds, vs, us, ps, h, e, r => by
    obtain ⟨v, w, rfl, h2, h3⟩ := h
    have e' : ((toPy d).bind fun p => (toPyL ds).map fun ps => p :: ps) = some ps := e
    cases r with
    | cons r1 r2 =>
      cases q1 : toPy d with
      | none =>
        rw [q1] at e'
        cases e'
      | some p =>
        cases q2 : toPyL ds with
        | none =>
          rw [q1, q2] at e'
          cases e'
        | some qs =>
          rw [q1, q2] at e'
          cases e'
          obtain ⟨as, a1, a2⟩ := Rep.reads I hS d v _ p h2 q1 r1
          obtain ⟨bs, b1, b2⟩ := RepL.reads I hS ds w _ qs h3 q2 r2
          exact ⟨as ++ bs, .cons a1 b1, fun z => (List.mem_append.mp z).elim a2 b2⟩
end
/-- what the written part tells of sys.modules -/
def SysK (K : PySem.W.Frag) : Prop := ∃ o, K.lookup sysModules = some o ∧ o.cls ≠ .type "list"
theorem noSys (I : Inv X pins σ H s) (hk : SysK X.K) : NoSys X.K H := fun xs h => by
  obtain ⟨o, e, c⟩ := hk
  have z := (I.bs _ _ (I.mod.kin _ _ e)).2
  rcases h with (h | ⟨_, h⟩) | ⟨o', its, n, h1, h2, _⟩
  · rw [z] at h
    cases h
  · rw [z] at h
    cases h
  · rw [e] at h1
    cases h1
    exact c h2
end

/-! ### == and != -/
def dEq (a b : D) : Option Bool := match toPy a, toPy b with
  | some p, some q => if SeqAt.shaped p = true ∧ SeqAt.shaped q = true then some (PyData.eqv p q) else none
  | _, _ => none
def fEq (a b : D) : Option D := (dEq a b).map D.bl
def fNe (a b : D) : Option D := (dEq a b).map fun c => D.bl (!c)
def rEqT (T : Cs) (f : Bool → Bool) : R2 := fun x y H Q => ∃ d e c, Rep T H d x ∧ Rep T H e y ∧ dEq d e = some c ∧ Q (.bl (f c)) H
theorem dEq_some {a b : D} {c : Bool} (h : dEq a b = some c) : ∃ p q, toPy a = some p ∧ toPy b = some q ∧ SeqAt.shaped p = true ∧ SeqAt.shaped q = true ∧ c = PyData.eqv p q := by
  unfold dEq at h
  split at h
  · rename_i p q h1 h2
    split at h
    · rename_i hs
      cases h
      exact ⟨p, q, h1, h2, hs.1, hs.2, rfl⟩
    · cases h
  · cases h
section
variable {cl : Nms} {X : Cx} {W : WX}
theorem op_eqT (hk : SysK X.K) (hu : X.A.units + 64 < cLine) : OpR X (compareOp .Eq) (rEqT (csX X cl) id) := by
  intro pins s σ H x y v u Q I rx ry h
  obtain ⟨d, e, c, hd, he, hc, q⟩ := h
  obtain ⟨p, r, e1, e2, s1, s2, rfl⟩ := dEq_some hc
  obtain ⟨as, r1, _⟩ := Rep.reads I (noSys I hk) d x v p hd e1 rx
  obtain ⟨bs, r2, _⟩ := Rep.reads I (noSys I hk) e y u r he e2 ry
  exact SeqAt.compareEq_shaped r1 r2 s1 s2 hu ⟨.bl (PyData.eqv p r), H, I, rfl, q⟩
theorem op_neT (hk : SysK X.K) (hu : X.A.units + 64 < cLine) : OpR X (compareOp .NotEq) (rEqT (csX X cl) (!·)) := by
  intro pins s σ H x y v u Q I rx ry h
  obtain ⟨d, e, c, hd, he, hc, q⟩ := h
  obtain ⟨p, r, e1, e2, s1, s2, rfl⟩ := dEq_some hc
  obtain ⟨as, r1, _⟩ := Rep.reads I (noSys I hk) d x v p hd e1 rx
  obtain ⟨bs, r2, _⟩ := Rep.reads I (noSys I hk) e y u r he e2 ry
  exact SeqAt.compareNe_shaped r1 r2 s1 s2 hu ⟨.bl (!PyData.eqv p r), H, I, rfl, q⟩
theorem hop_eq : HopD cl X W fEq (rEqT (csX X cl) id) := fun G H σ ρ d1 d2 o v1 v2 Q k e q1 q2 h => by
  obtain ⟨c, e1, rfl⟩ := Option.map_eq_some_iff.mp (show (dEq d1 d2).map D.bl = some o from e)
  exact ⟨d1, d2, c, q1.inH k, q2.inH k, e1, h.ret k rfl⟩
theorem hop_ne : HopD cl X W fNe (rEqT (csX X cl) (!·)) := fun G H σ ρ d1 d2 o v1 v2 Q k e q1 q2 h => by
  obtain ⟨c, e1, rfl⟩ := Option.map_eq_some_iff.mp (show (dEq d1 d2).map (fun c => D.bl (!c)) = some o from e)
  exact ⟨d1, d2, c, q1.inH k, q2.inH k, e1, h.ret k rfl⟩
end
end Fn

set_option maxRecDepth 100000
set_option maxHeartbeats 4000000
namespace Fn
open PySem PySem.Spec PyProof.Rows L2

/-! ### what a def promises, where nothing is being shown -/
structure FnS (P : Program) (w : World) (K : PySem.W.Frag) (mg : Str → Option Value) (base : Heap) (CX : CXT) (k : Nat) (f : Addr) (fd : FuncData) (ps : List Str) (sp : Sp) : Prop where
  len : ∀ vs H Q E, sp vs H Q E → vs.length = ps.length
  go : ∀ (A : Around) (outer : List Env) (s : Shared) (H : Hp) (args : Args) (us : List Value) (vs : List V) (Q : VK) (E : XK), A.guards = some [] → Room k A → Env0 P w K mg base A outer s H →
    BindsTo s fd args (ps.zip us) → Vals vs us → sp vs H Q E → codeAny (model P w) A (.call (.ref f) args) (CR CX outer P w H s Q E) s
section
variable {P : Program} {w : World} {K : PySem.W.Frag} {mg : Str → Option Value} {base : Heap} {CX : CXT}
theorem FnS.mono {j k : Nat} {f : Addr} {fd : FuncData} {ps : List Str} {sp : Sp} (F : FnS P w K mg base CX j f fd ps sp) (h : j ≤ k) : FnS P w K mg base CX k f fd ps sp where
  len := F.len
  go := fun A outer s H args us vs Q E hg hr => F.go A outer s H args us vs Q E hg (hr.mono h)
theorem FnS.imp {k : Nat} {f : Addr} {fd : FuncData} {ps : List Str} {sp sp' : Sp} (F : FnS P w K mg base CX k f fd ps sp) (h : ∀ vs H Q E, sp' vs H Q E → sp vs H Q E) : FnS P w K mg base CX k f fd ps sp' where
  len := fun vs H Q E q => F.len vs H Q E (h _ _ _ _ q)
  go := fun A outer s H args us vs Q E hg hr he hb hv hs => F.go A outer s H args us vs Q E hg hr he hb hv (h _ _ _ _ hs)
/-- a def by its body, nothing being shown -/
theorem fnS_of {k : Nat} {f : Addr} {x qual : Str} {st : Stmt} {fd : FuncData} {N ps : List Str} {sp : Sp} (F : Fun K x qual st f fd) (S : FnScope N ps (defScope st))
    (len : ∀ vs H Q E, sp vs H Q E → vs.length = ps.length)
    (body : ∀ (cdv : Value) (A : Around) (outer : List Env) (s : Shared) (H : Hp) (vs : List V) (Q : VK) (E : XK), A.guards = some [] → Room k (A.deeper (envOfC qual (defScope st) s.heap.objs.size f cdv)) → sp vs H Q E →
      ∃ t, PSs (cxOf CX P w K mg base N qual (defScope st) f cdv A outer s H E) (defBody st) t ∧ t { nx := fun _ H' => Q .non H', rt := Q } (start N vs) H) :
    FnS P w K mg base CX (k + 1) f fd ps sp := by
  obtain ⟨oc, od, kV, doc, pm, an, cdv, ct, osl, e, lk, hcd⟩ := F.ex
  subst e
  constructor
  · exact len
  intro A outer s H args us vs Q E hgd hr e0 hb r hsp
  have inH : K.In s.heap := e0.mod.kin.keeps fun b o z => (e0.bs b o z).1
  have noL : s.heap.NoLimit := e0.mod.nolimit.keeps fun b o z => (e0.bs b o z).1
  have kinds : ∀ y ∈ ps.zip us, (defScope st).names.lookup y.1 = some .local ∨ ((defScope st).names.lookup y.1 = some .cell ∧ ((cellsFrom (s.heap.objs.size + 1) (defScope st).names []).lookup y.1).isSome = true) := by
    rintro ⟨n, v⟩ hy
    rcases S.par n (List.of_mem_zip hy).1 with q | q
    · exact Or.inl q
    · exact Or.inr (And.intro q (PySem.W.cellsFrom_some _ _ _ (Or.inl q)))
  apply codeAny_call_function hr.depth (inH _ _ lk) rfl S.co S.gen rfl (PySem.W.codeRec_of inH hcd)
  apply hb
  apply wpAny_newFunctionEnv_cells S.kind kinds
  intro env he s1 x
  subst he
  constructor
  · exact noL.keeps x.toInCall.keep
  apply codeAny_func
  obtain ⟨t, ht, hq⟩ := body cdv A outer s H vs Q E hgd (hr.deeper _) hsp
  have I := inv_start (CX := CX) (E := E) S hr.hd e0 (len _ _ _ _ hsp) r x
  refine wpAny_mono (ht.run [] s1 (start N vs) H _ I hq) ?_ (fun _ _ z => z)
  intro fl s' hs
  cases fl with
  | ret u =>
    obtain ⟨v, σ', H', J, rv, q⟩ := hs
    exact ⟨v, H', J.os, J.bare, J.base, J.hok, rv, q⟩
  | next =>
    obtain ⟨σ', H', J, q⟩ := hs
    exact ⟨V.non, H', J.os, J.bare, J.base, J.hok, rfl, q⟩
  | brk =>
    obtain ⟨_, _, _, q⟩ := hs
    cases q
  | cont =>
    obtain ⟨_, _, _, q⟩ := hs
    cases q
end
section
variable {X : Cx} {CX : CXT} {k : Nat} {f C : Addr} {fd : FuncData} {ps : List Str} {sp : Sp} {dvs : List V} {ds : List Value} {E : XK} {x m : Str} {p pos apos : Pos} {e o : Expr} {es : List Expr} {ta : TE} {t : TA}
theorem runS {pins : List (Addr × Obj)} {σ : L2.St} {H : Hp} {s : Shared} {Q : VK} {us : List Value} {vs : List V} (F : FnS X.prog X.w X.K X.mg X.base CX k f fd ps sp) (hg : X.A.guards = some []) (hr : Room k X.A) (hb : Binds X.K fd ps ds) (hd : Vals dvs ds) (hx : Passes CX X E)
    (I : Inv X pins σ H s) (r : Vals vs us) (h : sp (vs ++ dvs) H Q E) : wpAny (model X.prog X.w) X.A (call (.ref f) us) (EP X pins σ Q) X.xe s := by
  have r2 := r.append hd
  have hl : (us ++ ds).length = ps.length := r2.length.symm.trans (F.len _ _ _ _ h)
  apply wpAny_call
  refine codeAny_mono (F.go X.A X.stack s H ⟨us, []⟩ (us ++ ds) (vs ++ dvs) Q E hg hr I.env0 (hb s us I.kIn hl) r2 h) ?_
  intro r s' hq
  match r, hq with
  | .error e, hq => exact hx pins σ H s e s' I hq
  | .ok (.ret u), hq => exact I.after hq
/-- a call of a def -/
theorem pe_callS1 (F : FnS X.prog X.w X.K X.mg X.base CX k f fd ps sp) (hgd : X.A.guards = some []) (hr : Room k X.A) (hg : Gl X x) (hm : X.mg x = some (.ref f)) (hk : PySem.W.keepIn X.K (.ref f) = true) (hb : Binds X.K fd ps ds) (hd : Vals dvs ds) (hx : Passes CX X E)
    (ha : PA X (e :: es) t) (hdb : (x == ("__debug__" : Str)) = false := by decide) (he : starEach (e :: es) X.env = (false, eval e X.env) :: starEach es X.env := by rfl) (hpl : (backTo pos (starEach es X.env)).any (·.1) = false := by rfl) :
    PE X (.Call (.Name x p) (e :: es) [] pos) (tCall sp dvs E t) := by
  constructor
  intro pins s σ H Q I h
  apply wpAny_Call_Name_kw
  apply ld_glob I hg hm _ hdb
  refine PySem.W.callWith_K (h₀ := X.base) I.ok.mod.kin hk (thn (ha.run pos pins s σ H _ I h) ?_) he hpl
  rintro us s1 ⟨vs, H1, I1, r, q⟩
  exact And.intro I1.kIn (runS F hgd hr hb hd hx I1 r q)
theorem pe_callS0 (F : FnS X.prog X.w X.K X.mg X.base CX k f fd ps sp) (hgd : X.A.guards = some []) (hr : Room k X.A) (hg : Gl X x) (hm : X.mg x = some (.ref f)) (hk : PySem.W.keepIn X.K (.ref f) = true) (hb : Binds X.K fd ps ds) (hd : Vals dvs ds) (hx : Passes CX X E)
    (hdb : (x == ("__debug__" : Str)) = false := by decide) : PE X (.Call (.Name x p) [] [] pos) (tCall sp dvs E tNil) := by
  constructor
  intro pins s σ H Q I h
  apply wpAny_Call_Name_kw
  apply ld_glob I hg hm _ hdb
  exact PySem.W.callWith_K0 I.kIn hk (runS (us := []) F hgd hr hb hd hx I .nil h)
end

/-! ### repr -/
def dRepr (d : D) : Option Str := match toPy d with
  | some p => if p.showable = true ∧ p.shown.length ≤ lim ∧ p.depth ≤ 60 then some p.shown else none
  | none => none
theorem dRepr_some {d : D} {x : Str} (h : dRepr d = some x) : ∃ p, toPy d = some p ∧ p.showable = true ∧ p.shown.length ≤ lim ∧ p.depth ≤ 60 ∧ x = p.shown := by
  unfold dRepr at h
  split at h
  · rename_i p e
    split at h
    · rename_i hs
      cases h
      exact ⟨p, e, hs.1, hs.2.1, hs.2.2, rfl⟩
    · cases h
  · cases h
section
variable {cl : Nms} {X : Cx} {W : WX}
theorem call_reprT (hk : SysK X.K) (hg : X.A.guards = some []) (hu : X.A.units + 64 < cLine) : CallR X (.builtin "repr") (fun xs H Q => ∃ x d t, xs = [x] ∧ Rep (csX X cl) H d x ∧ dRepr d = some t ∧ Q (.str t) H) := by
  intro pins s σ H xs us Q I r h
  obtain ⟨x, d, t, rfl, hd, ht, q⟩ := h
  obtain ⟨u, rfl, rx⟩ := vals1 r
  obtain ⟨p, e1, s1, s2, s3, rfl⟩ := dRepr_some ht
  obtain ⟨as, rd, na⟩ := Rep.reads I (noSys I hk) d x u p hd e1 rx
  have fin : ∀ h' v tk, (∀ b o, s.heap.get? b = some o → h'.get? b = some o) → EP X pins σ Q (.str p.shown v) { s with heap := h', toks := tk } := fun h' v tk k => ⟨.str p.shown, H, I.kept k, ⟨_, rfl⟩, q⟩
  have go : ∀ a, u = .ref a → wpAny (model X.prog X.w) X.A (call (.builtin "repr") [u]) (EP X pins σ Q) X.xe s := fun a ea => by
    subst ea
    exact repr_of_reads' rd s1 (fun _ => na) hg (by omega) (fun _ _ z => z) fin (lim_le s2)
  cases x with
  | ref a => exact go a rx
  | non =>
    cases rx
    cases rd
    exact P.repr_of_none (fin s.heap _ _ fun _ _ z => z)
  | bl b =>
    cases rx
    cases rd
    exact P.repr_of_bool (fin s.heap _ _ fun _ _ z => z)
  | int i =>
    obtain ⟨t, rfl⟩ := rx
    cases rd
    exact P.repr_of_int (of_decide_eq_true (by simpa only [PyData.showable] using s1)) (fin s.heap _ _ fun _ _ z => z)
  | str y =>
    obtain ⟨t, rfl⟩ := rx
    cases rd
    exact P.repr_of_str (fin s.heap _ _ fun _ _ z => z) (lim_le (by simpa only [PyData.shown] using s2))
  | byt b =>
    obtain ⟨t, rfl⟩ := rx
    cases rd
  | flt b =>
    obtain ⟨t, rfl⟩ := rx
    cases rd
  | ty n =>
    cases rx
    cases rd
end
end Fn

set_option maxRecDepth 100000
set_option maxHeartbeats 4000000
namespace Fn
open PySem PySem.Spec PyProof.Rows L2

/-! ### built-in functions -/
def getL : List Rf → M (List D)
  | [] => M.ret []
  | r :: rs => M.bind r.get fun d => M.bind (getL rs) fun ds => M.ret (d :: ds)
def RepTL (T : Cs) (G H : Hp) : List D → List V → Prop
  | [], vs => vs = []
  | d :: ds, vs => ∃ v w, vs = v :: w ∧ RepT T G H d v ∧ RepTL T G H ds w
section
variable {cl : Nms} {X : Cx} {W : WX} {T : Cs} {G H : Hp} {σ : L2.St} {ρ : En} {pos p : Pos} {e : Expr} {es : List Expr}
theorem At.bind_assoc {α β γ δ : Type} {R : RelT γ δ} {m : M α} {f : α → M β} {g : β → M γ} {Q : Wi δ} (h : At R T W (M.bind (M.bind m f) g) G ρ σ H Q) : At R T W (M.bind m fun a => M.bind (f a) g) G ρ σ H Q := by
  obtain ⟨r, ρ', e, o⟩ := h
  refine ⟨r, ρ', ?_, o⟩
  unfold M.bind at e ⊢
  cases q : m ρ with
  | none =>
    simp only [q] at e
    cases e
  | some x =>
    obtain ⟨r1, ρ1⟩ := x
    simp only [q] at e
    cases r1 with
    | ok a => exact e
    | er c ns vs => exact e
theorem At.getL {β δ : Type} {Rb : RelT β δ} {Q : Wi δ} {H0 : Hp} : ∀ {rs : List Rf} {vs : List V} {f : List D → M β}, At Rb T W (M.bind (Fn.getL rs) f) G ρ σ H Q → Ok T G H σ ρ → RL T H0 σ ρ G H rs vs →
    ∃ ds, RepTL T G H ds vs ∧ At Rb T W (f ds) G ρ σ H Q
  | [], vs, f, h, k, hr => ⟨[], hr, h⟩
  | r :: rs, vs, f, h, k, hr => by
    obtain ⟨v, w, rfl, h1, h2⟩ := hr
    obtain ⟨d, q1, a1⟩ := At.get (At.bind_assoc h) k h1
    obtain ⟨ds, q2, a2⟩ := At.getL (f := fun ds => M.bind (M.ret (d :: ds)) f) (At.bind_assoc a1) k h2
    exact ⟨d :: ds, ⟨v, w, rfl, q1, q2⟩, a2⟩
def eFun (f : List D → Option D) (as : M (List Rf)) : M D := M.bind as fun rs => M.bind (getL rs) fun ds => M.lift (f ds)
def eFunO (f : List D → Option O) (as : M (List Rf)) : M O := M.bind as fun rs => M.bind (getL rs) fun ds => M.lift (f ds)
abbrev HopF {α : Type} (R : RelT α V) (cl : Nms) (X : Cx) (W : WX) (f : List D → Option α) (r : List V → Hp → VK → Prop) : Prop :=
  ∀ (G H : Hp) (σ : L2.St) (ρ : En) (ds : List D) (o : α) (vs : List V) (Q : VK), Ok (csX X cl) G H σ ρ → f ds = some o → RepTL (csX X cl) G H ds vs → At R (csX X cl) W (M.ret o) G ρ σ H Q → r vs H Q
theorem ex_fun {α : Type} {R : RelT α V} (hb : Back R) {f : List D → Option α} {as : M (List Rf)} {r : List V → Hp → VK → Prop} {c : Expr} {t : TA} (hf : HopF R cl X W f r) (hc : PE X c (tCB r (tX rA (csX X cl) W as))) :
    EX cl X W R c (M.bind as fun rs => M.bind (getL rs) fun ds => M.lift (f ds)) := EX.by hc fun G ρ σ H Q k a => at_tX k (At.bind (Ra := rA) hb a fun rs ρ1 vs G1 H1 n1 k1 r1 a1 => by
  obtain ⟨ds, q1, a2⟩ := At.getL a1 k1 r1
  obtain ⟨o, e, a3⟩ := a2.lift
  exact hf _ _ _ _ _ _ _ _ k1 e q1 a3)
/-- a built-in function's call; a built-in class's -/
theorem ed_blt {id : String} {x : Str} {f : List D → Option D} {as : M (List Rf)} {r : List V → Hp → VK → Prop} (hc : CallR X (.builtin id) r) (hf : HopF rD cl X W f r) (hg : Gl X x) (hm : X.mg x = none) (hv : bootBuiltins x = some (.builtin id)) (ha : EA cl X W (e :: es) as)
    (hn : x ≠ "__name__" := by decide) (hdb : (x == ("__debug__" : Str)) = false := by decide) (he : starEach (e :: es) X.env = (false, eval e X.env) :: starEach es X.env := by rfl) (hpl : (backTo pos (starEach es X.env)).any (·.1) = false := by rfl) :
    ED cl X W (.Call (.Name x p) (e :: es) [] pos) (eFun f as) := ex_fun (t := tNil) rD_back hf (pe_callB hc hg hm hv ha hn hdb he hpl)
theorem eo_blt {id : String} {x : Str} {f : List D → Option O} {as : M (List Rf)} {r : List V → Hp → VK → Prop} (hc : CallR X (.builtin id) r) (hf : HopF rO cl X W f r) (hg : Gl X x) (hm : X.mg x = none) (hv : bootBuiltins x = some (.builtin id)) (ha : EA cl X W (e :: es) as)
    (hn : x ≠ "__name__" := by decide) (hdb : (x == ("__debug__" : Str)) = false := by decide) (he : starEach (e :: es) X.env = (false, eval e X.env) :: starEach es X.env := by rfl) (hpl : (backTo pos (starEach es X.env)).any (·.1) = false := by rfl) :
    EO cl X W (.Call (.Name x p) (e :: es) [] pos) (eFunO f as) := ex_fun (t := tNil) rO_back hf (pe_callB hc hg hm hv ha hn hdb he hpl)
theorem ed_ty {T : String} {x : Str} {f : List D → Option D} {as : M (List Rf)} {r : List V → Hp → VK → Prop} (hc : CallR X (.type T) r) (hf : HopF rD cl X W f r) (hg : Gl X x) (hm : X.mg x = none) (hv : bootBuiltins x = some (.type T)) (ha : EA cl X W (e :: es) as)
    (hn : x ≠ "__name__" := by decide) (hdb : (x == ("__debug__" : Str)) = false := by decide) (he : starEach (e :: es) X.env = (false, eval e X.env) :: starEach es X.env := by rfl) (hpl : (backTo pos (starEach es X.env)).any (·.1) = false := by rfl) :
    ED cl X W (.Call (.Name x p) (e :: es) [] pos) (eFun f as) := ex_fun (t := tNil) rD_back hf (pe_callTy hc hg hm hv ha hn hdb he hpl)
theorem eo_ty {T : String} {x : Str} {f : List D → Option O} {as : M (List Rf)} {r : List V → Hp → VK → Prop} (hc : CallR X (.type T) r) (hf : HopF rO cl X W f r) (hg : Gl X x) (hm : X.mg x = none) (hv : bootBuiltins x = some (.type T)) (ha : EA cl X W (e :: es) as)
    (hn : x ≠ "__name__" := by decide) (hdb : (x == ("__debug__" : Str)) = false := by decide) (he : starEach (e :: es) X.env = (false, eval e X.env) :: starEach es X.env := by rfl) (hpl : (backTo pos (starEach es X.env)).any (·.1) = false := by rfl) :
    EO cl X W (.Call (.Name x p) (e :: es) [] pos) (eFunO f as) := ex_fun (t := tNil) rO_back hf (pe_callTy hc hg hm hv ha hn hdb he hpl)

def fInt : List D → Option D
  | [.int i] => some (.int i)
  | [.bl b] => some (.int (if b then 1 else 0))
  | _ => none
theorem RepTL.one {d : D} {vs : List V} (h : RepTL T G H [d] vs) : ∃ v, vs = [v] ∧ RepT T G H d v := by
  obtain ⟨v, w, rfl, h1, h2⟩ := h
  obtain rfl : w = [] := h2
  exact ⟨v, rfl, h1⟩
theorem RepTL.two {d e : D} {vs : List V} (h : RepTL T G H [d, e] vs) : ∃ v w, vs = [v, w] ∧ RepT T G H d v ∧ RepT T G H e w := by
  obtain ⟨v, r, rfl, h1, h2⟩ := h
  obtain ⟨w, rfl, h3⟩ := RepTL.one h2
  exact ⟨v, w, rfl, h1, h3⟩
theorem hop_int : HopF rD cl X W fInt (fun xs H Q => (∃ i, xs = [.int i] ∧ Q (.int i) H) ∨ ∃ k, xs = [.bl k] ∧ Q (.int (if k then 1 else 0)) H) := fun G H σ ρ ds o vs Q k e q h => by
  unfold fInt at e
  split at e
  · cases e
    obtain ⟨v, rfl, r⟩ := q.one
    obtain rfl := r.int
    exact .inl ⟨_, rfl, h.ret k rfl⟩
  · cases e
    obtain ⟨v, rfl, r⟩ := q.one
    obtain rfl := r.bl
    exact .inr ⟨_, rfl, h.ret k rfl⟩
  · cases e
def fRepr : List D → Option D
  | [d] => (dRepr d).map .str
  | _ => none
theorem hop_repr : HopF rD cl X W fRepr (fun xs H Q => ∃ x d t, xs = [x] ∧ Rep (csX X cl) H d x ∧ dRepr d = some t ∧ Q (.str t) H) := fun G H σ ρ ds o vs Q k e q h => by
  unfold fRepr at e
  split at e
  · rename_i d
    obtain ⟨t, e1, rfl⟩ := Option.map_eq_some_iff.mp e
    obtain ⟨v, rfl, r⟩ := q.one
    exact ⟨v, d, t, rfl, r.inH k, e1, h.ret k rfl⟩
  · cases e
/-- len of texts, lists, tuples, dicts -/
def fLen : List D → Option D
  | [.str x] => if x.length ≤ lim then some (.int x.length) else none
  | [.lst xs] => some (.int xs.length)
  | [.ro xs] => some (.int xs.length)
  | [.tup xs] => some (.int xs.length)
  | _ => none
theorem hop_len : HopF rD cl X W fLen (fun xs H Q => ∃ x n, xs = [x] ∧ LenV X.K x H n ∧ Q (.int n) H) := fun G H σ ρ ds o vs Q k e q h => by
  unfold fLen at e
  split at e
  · split at e
    · rename_i hl
      cases e
      obtain ⟨v, rfl, r⟩ := q.one
      obtain rfl := r.str
      exact ⟨_, _, rfl, ⟨lim_le hl, rfl⟩, h.ret k rfl⟩
    · cases e
  · cases e
    obtain ⟨v, rfl, r⟩ := q.one
    obtain ⟨a, xs, rfl, h1, h2⟩ := r.lst k
    exact ⟨_, _, rfl, .inl ⟨xs, SqL.of h1, rfl⟩, h.ret k (by rw [h2.length]; rfl)⟩
  · cases e
    obtain ⟨v, rfl, r⟩ := q.one
    obtain ⟨a, xs, rfl, h1, h2⟩ := r.ro k
    exact ⟨_, _, rfl, .inl ⟨xs, h1, rfl⟩, h.ret k (by rw [h2.length]; rfl)⟩
  · cases e
    obtain ⟨v, rfl, r⟩ := q.one
    obtain ⟨a, xs, rfl, h1, h2, _⟩ := r.tup k
    exact ⟨_, _, rfl, .inr ⟨xs, h1, rfl⟩, h.ret k (by rw [h2.length]; rfl)⟩
  · cases e
def fMax2 : List D → Option D
  | [.int i, .int j] => some (.int (if j > i then j else i))
  | _ => none
def fMin2 : List D → Option D
  | [.int i, .int j] => some (.int (if j < i then j else i))
  | _ => none
theorem hop_max2 : HopF rD cl X W fMax2 (fun xs H Q => ∃ i j, xs = [.int i, .int j] ∧ Q (.int (if j > i then j else i)) H) := fun G H σ ρ ds o vs Q k e q h => by
  unfold fMax2 at e
  split at e
  · cases e
    obtain ⟨v, w, rfl, r1, r2⟩ := q.two
    obtain rfl := r1.int
    obtain rfl := r2.int
    exact ⟨_, _, rfl, h.ret k rfl⟩
  · cases e
theorem hop_min2 : HopF rD cl X W fMin2 (fun xs H Q => ∃ i j, xs = [.int i, .int j] ∧ Q (.int (if j < i then j else i)) H) := fun G H σ ρ ds o vs Q k e q h => by
  unfold fMin2 at e
  split at e
  · cases e
    obtain ⟨v, w, rfl, r1, r2⟩ := q.two
    obtain rfl := r1.int
    obtain rfl := r2.int
    exact ⟨_, _, rfl, h.ret k rfl⟩
  · cases e
end

/-! ### own defs -/
/-- a def, by what it makes of its arguments: what comes out, and what the arguments' own objects are behind -/
abbrev Fx := List O → Option (Res O × List O)
/-- what an exception of a callee tells -/
def WE (E : XK) : WX := fun c d _ H => E c d H
def spF (T : Cs) (n : Nat) (F : Fx) : Sp := fun vs H Q E => vs.length = n ∧ ∃ G os r os', Ok T G H (vs.map some) (os.map some) ∧ F os = some (r, os') ∧ os'.length = os.length ∧ Out rO T (WE E) G H (vs.map some) (os.map some) r (os'.map some) Q
/-- the operands as arguments -/
def argO (ρ : En) : Rf → Option O
  | .d d => some (.dat d)
  | .s i => (ρ[i]?).bind id
def argOs (ρ : En) : List Rf → Option (List O)
  | [] => some []
  | r :: rs => (argO ρ r).bind fun o => (argOs ρ rs).map fun os => o :: os
/-- the variables whose own objects are handed in -/
def lent (ρ : En) : List Rf → List Nat
  | [] => []
  | .d _ :: rs => lent ρ rs
  | .s i :: rs => if ((ρ[i]?).bind id).any O.own = true then i :: lent ρ rs else lent ρ rs
/-- .. as they come back -/
def back (ρ : En) : List Rf → List O → En
  | .s i :: rs, o :: os => if ((ρ[i]?).bind id).any O.own = true then (back ρ rs os).set i (some o) else back ρ rs os
  | _ :: rs, _ :: os => back ρ rs os
  | _, _ => ρ
def O.sh : O → Bool
  | .dat _ => false | _ => true
/-- what came back is shared or own -/
def backOk (ρ : En) : List Rf → List O → Bool
  | .s i :: rs, o :: os => (!((ρ[i]?).bind id).any O.own || o.sh) && backOk ρ rs os
  | _ :: rs, _ :: os => backOk ρ rs os
  | _, _ => true
def callF (F : Fx) (rs : List Rf) : M O := fun ρ => match argOs ρ rs with
  | some os => if (lent ρ rs).Nodup then
      match F os with
      | some (r, os') => if backOk ρ rs os' = true ∧ os'.length = os.length then some (r, back ρ rs os') else none
      | none => none
    else none
  | none => none
end Fn

set_option maxRecDepth 100000
set_option maxHeartbeats 4000000
namespace Fn
open PySem PySem.Spec PyProof.Rows L2

def ownAt (ρ : En) (i : Nat) : Bool := ((ρ[i]?).bind id).any O.own
theorem ownAt_iff {ρ : En} {i : Nat} : ownAt ρ i = true ↔ ∃ o, ρ[i]? = some (some o) ∧ o.own = true := by
  unfold ownAt
  constructor
  · intro h
    cases e : ρ[i]? with
    | none =>
      rw [e] at h
      cases h
    | some x =>
      cases x with
      | none =>
        rw [e] at h
        cases h
      | some o =>
        rw [e] at h
        exact ⟨o, rfl, h⟩
  · rintro ⟨o, e, p⟩
    rw [e]
    exact p
theorem argOs_get {ρ : En} : ∀ {rs : List Rf} {os : List O}, argOs ρ rs = some os → os.length = rs.length ∧ ∀ (j : Nat) (r : Rf), rs[j]? = some r → ∃ o, os[j]? = some o ∧ argO ρ r = some o
  | [], os, h => by
    cases h
    exact ⟨rfl, fun j r e => by simp at e⟩
  | r :: rs, os, h => by
    have h' : ((argO ρ r).bind fun o => (argOs ρ rs).map fun os => o :: os) = some os := h
    cases e1 : argO ρ r with
    | none =>
      rw [e1] at h'
      cases h'
    | some o =>
      cases e2 : argOs ρ rs with
      | none =>
        rw [e1, e2] at h'
        cases h'
      | some os2 =>
        rw [e1, e2] at h'
        cases h'
        obtain ⟨l, g⟩ := argOs_get e2
        refine ⟨by rw [List.length_cons, List.length_cons, l], fun j r' e => ?_⟩
        cases j with
        | zero =>
          have e' : r = r' := by simpa using e
          subst e'
          exact ⟨o, rfl, e1⟩
        | succ j =>
          obtain ⟨o', g1, g2⟩ := g j r' (by simpa using e)
          exact ⟨o', by simpa using g1, g2⟩
theorem RL_get {T : Cs} {H0 : Hp} {σ : L2.St} {ρ : En} {G H : Hp} : ∀ {rs : List Rf} {vs : List V}, RL T H0 σ ρ G H rs vs → vs.length = rs.length ∧ ∀ (j : Nat) (r : Rf), rs[j]? = some r → ∃ v, vs[j]? = some v ∧ rR T H0 σ ρ G H r v
  | [], vs, h => by
    obtain rfl : vs = [] := h
    exact ⟨rfl, fun j r e => by simp at e⟩
  | r :: rs, vs, h => by
    obtain ⟨v, w, rfl, h1, h2⟩ := h
    obtain ⟨l, g⟩ := RL_get h2
    refine ⟨by rw [List.length_cons, List.length_cons, l], fun j r' e => ?_⟩
    cases j with
    | zero =>
      have e' : r = r' := by simpa using e
      subst e'
      exact ⟨v, rfl, h1⟩
    | succ j =>
      obtain ⟨v', g1, g2⟩ := g j r' (by simpa using e)
      exact ⟨v', by simpa using g1, g2⟩
theorem mem_lent {ρ : En} {i : Nat} : ∀ {rs : List Rf} {j : Nat}, rs[j]? = some (.s i) → ownAt ρ i = true → i ∈ lent ρ rs
  | [], j, e, _ => by simp at e
  | r :: rs, 0, e, p => by
    have e' : r = .s i := by simpa using e
    subst e'
    show i ∈ (if ownAt ρ i = true then i :: lent ρ rs else lent ρ rs)
    rw [if_pos p]
    exact List.mem_cons_self
  | r :: rs, j + 1, e, p => by
    have m : i ∈ lent ρ rs := mem_lent (j := j) (by simpa using e) p
    cases r with
    | d x => exact m
    | s i' =>
      show i ∈ (if ownAt ρ i' = true then i' :: lent ρ rs else lent ρ rs)
      split
      · exact List.mem_cons_of_mem _ m
      · exact m
theorem lent_nodup {ρ : En} {i : Nat} : ∀ {rs : List Rf} {j j' : Nat}, (lent ρ rs).Nodup → rs[j]? = some (.s i) → rs[j']? = some (.s i) → ownAt ρ i = true → j = j'
  | [], j, j', _, e, _, _ => by simp at e
  | r :: rs, j, j', n, e, e', p => by
    have nr : (lent ρ rs).Nodup := by
      cases r with
      | d x => exact n
      | s i' =>
        have n' : (if ownAt ρ i' = true then i' :: lent ρ rs else lent ρ rs).Nodup := n
        split at n'
        · exact (List.nodup_cons.mp n').2
        · exact n'
    have hd : ∀ (j : Nat), r = Rf.s i → rs[j]? = some (Rf.s i) → False := fun j er ej => by
      subst er
      have n' : (if ownAt ρ i = true then i :: lent ρ rs else lent ρ rs).Nodup := n
      rw [if_pos p] at n'
      exact (List.nodup_cons.mp n').1 (mem_lent ej p)
    cases j with
    | zero =>
      cases j' with
      | zero => rfl
      | succ j' => exact (hd j' (by simpa using e) (by simpa using e')).elim
    | succ j =>
      cases j' with
      | zero => exact (hd j (by simpa using e') (by simpa using e)).elim
      | succ j' => rw [lent_nodup (j := j) (j' := j') nr (by simpa using e) (by simpa using e') p]
theorem back_length {ρ : En} : ∀ (rs : List Rf) (os : List O), (back ρ rs os).length = ρ.length
  | [], os => by
    cases os <;> rfl
  | .d x :: rs, [] => rfl
  | .d x :: rs, o :: os => back_length rs os
  | .s i :: rs, [] => rfl
  | .s i :: rs, o :: os => by
    show (if ownAt ρ i = true then (back ρ rs os).set i (some o) else back ρ rs os).length = _
    split
    · rw [List.length_set, back_length rs os]
    · exact back_length rs os
theorem back_get {ρ : En} {i : Nat} : ∀ (rs : List Rf) (os : List O), os.length = rs.length →
    (∃ (j : Nat) (o : O), rs[j]? = some (.s i) ∧ ownAt ρ i = true ∧ os[j]? = some o ∧ (back ρ rs os)[i]? = some (some o)) ∨ ((back ρ rs os)[i]? = ρ[i]? ∧ ∀ j : Nat, rs[j]? = some (.s i) → ownAt ρ i = false)
  | [], os, _ => by
    refine .inr ⟨?_, fun j e => by simp at e⟩
    cases os <;> rfl
  | .d x :: rs, [], h => by simp at h
  | .s k :: rs, [], h => by simp at h
  | .d x :: rs, o :: os, h => by
    rcases back_get rs os (by simpa using h) with ⟨j, o', h1, h2, h3, h4⟩ | ⟨h1, h2⟩
    · exact .inl ⟨j + 1, o', by simpa using h1, h2, by simpa using h3, h4⟩
    · refine .inr ⟨h1, fun j e => ?_⟩
      cases j with
      | zero => simp at e
      | succ j => exact h2 j (by simpa using e)
  | .s k :: rs, o :: os, h => by
    have e0 : back ρ (.s k :: rs) (o :: os) = (if ownAt ρ k = true then (back ρ rs os).set k (some o) else back ρ rs os) := rfl
    by_cases p : ownAt ρ k = true
    · rw [e0, if_pos p]
      by_cases hk : k = i
      · subst hk
        obtain ⟨u, hu, _⟩ := ownAt_iff.mp p
        have hl : k < (back ρ rs os).length := by
          rw [back_length]
          exact (List.getElem?_eq_some_iff.mp hu).1
        exact .inl ⟨0, o, rfl, p, rfl, List.getElem?_set_self hl⟩
      · rw [List.getElem?_set_ne hk]
        rcases back_get (i := i) rs os (by simpa using h) with ⟨j, o', h1, h2, h3, h4⟩ | ⟨h1, h2⟩
        · exact .inl ⟨j + 1, o', by simpa using h1, h2, by simpa using h3, h4⟩
        · refine .inr ⟨h1, fun j e => ?_⟩
          cases j with
          | zero =>
            have e' : k = i := by simpa using e
            exact absurd e' hk
          | succ j => exact h2 j (by simpa using e)
    · rw [e0, if_neg p]
      rcases back_get (i := i) rs os (by simpa using h) with ⟨j, o', h1, h2, h3, h4⟩ | ⟨h1, h2⟩
      · exact .inl ⟨j + 1, o', by simpa using h1, h2, by simpa using h3, h4⟩
      · refine .inr ⟨h1, fun j e => ?_⟩
        cases j with
        | zero =>
          have e' : k = i := by simpa using e
          subst e'
          simpa using p
        | succ j => exact h2 j (by simpa using e)
theorem backOk_get {ρ : En} {i : Nat} : ∀ {rs : List Rf} {os : List O} {j : Nat} {o : O}, backOk ρ rs os = true → rs[j]? = some (.s i) → os[j]? = some o → ownAt ρ i = true → o.sh = true
  | [], os, j, o, _, e, _, _ => by simp at e
  | r :: rs, [], j, o, _, _, e, _ => by simp at e
  | r :: rs, u :: os, 0, o, h, e, e', p => by
    have er : r = .s i := by simpa using e
    have eu : u = o := by simpa using e'
    subst er
    subst eu
    have h' : ((!ownAt ρ i || u.sh) && backOk ρ rs os) = true := h
    rw [p] at h'
    exact (Bool.and_eq_true_iff.mp h').1
  | r :: rs, u :: os, j + 1, o, h, e, e', p => by
    refine backOk_get (rs := rs) (os := os) (j := j) ?_ (by simpa using e) (by simpa using e') p
    cases r with
    | d x => exact h
    | s k => exact (Bool.and_eq_true_iff.mp (show ((!ownAt ρ k || u.sh) && backOk ρ rs os) = true from h)).2
theorem kd_sh {o : O} : kd (some (some o)) = if o.sh = true then 3 else 2 := by
  cases o <;> rfl
theorem own_sh {o : O} (h : o.own = true) : o.sh = true := by
  cases o with
  | dat _ => cases h
  | fz _ => rfl
  | lst _ => rfl
  | dk _ _ => rfl
  | set _ => rfl
  | obj _ _ _ => rfl

section
variable {T : Cs} {W : WX} {G H : Hp} {σ : L2.St} {ρ : En} {Q : VK} {F : Fx} {rs : List Rf} {vs : List V}
theorem call_sp (k : Ok T G H σ ρ) (hr : RL T H σ ρ G H rs vs) (a : At rO T W (callF F rs) G ρ σ H Q) : spF T rs.length F vs H Q (fun c d H' => W c d σ H') := by
  obtain ⟨r, ρ', e, o⟩ := a
  unfold callF at e
  split at e
  case h_2 => cases e
  rename_i os hos
  split at e
  case isFalse => cases e
  rename_i nd
  split at e
  case h_2 => cases e
  rename_i r1 os' hF
  split at e
  case isFalse => cases e
  rename_i hb
  cases e
  obtain ⟨l1, g1⟩ := argOs_get hos
  obtain ⟨l2, g2⟩ := RL_get hr
  -- what stands at the j-th place
  have at_ : ∀ (j : Nat) (o : O), os[j]? = some o → ∃ v, vs[j]? = some v ∧ RepO T G H o v ∧ (o.own = true → ∃ i : Nat, rs[j]? = some (Rf.s i) ∧ ρ[i]? = some (some o) ∧ σ[i]? = some (some v)) := fun j o ho => by
    have hj : j < rs.length := by rw [← l1]; exact (List.getElem?_eq_some_iff.mp ho).1
    obtain ⟨o', h1, h2⟩ := g1 j rs[j] (by simp [hj])
    rw [ho] at h1
    cases h1
    obtain ⟨v, h3, h4⟩ := g2 j rs[j] (by simp [hj])
    refine ⟨v, h3, ?_⟩
    generalize hx : rs[j] = x at h2 h4
    cases x with
    | d x =>
      cases h2
      exact ⟨h4, fun p => by cases p⟩
    | s i =>
      have h2' : (ρ[i]?).bind id = some o := h2
      have e : ρ[i]? = some (some o) := by
        cases q : ρ[i]? with
        | none =>
          rw [q] at h2'
          cases h2'
        | some z =>
          rw [q] at h2'
          have z' : z = some o := h2'
          rw [z']
      exact ⟨k.at_ e h4, fun _ => ⟨i, by rw [← hx]; simp [hj], e, h4⟩⟩
  have get1 : ∀ {os : List O} {j : Nat} {o : O}, (os.map some)[j]? = some (some o) → os[j]? = some o := fun {os j o} h => by
    rw [List.getElem?_map] at h
    cases q : os[j]? with
    | none =>
      rw [q] at h
      cases h
    | some z =>
      rw [q] at h
      cases h
      rfl
  have getv : ∀ {j : Nat} {v : V}, (vs.map some)[j]? = some (some v) → vs[j]? = some v := fun {j v} h => by
    rw [List.getElem?_map] at h
    cases q : vs[j]? with
    | none =>
      rw [q] at h
      cases h
    | some z =>
      rw [q] at h
      cases h
      rfl
  have putv : ∀ {j : Nat} {v : V}, vs[j]? = some v → (vs.map some)[j]? = some (some v) := fun {j v} h => by
    rw [List.getElem?_map, h]
    rfl
  have puto : ∀ {os : List O} {j : Nat} {o : O}, os[j]? = some o → (os.map some)[j]? = some (some o) := fun {os j o} h => by
    rw [List.getElem?_map, h]
    rfl
  -- what the callee owns the caller owns
  have ownsIn : ∀ a, Owns (vs.map some) (os.map some) a → ∃ i j : Nat, rs[j]? = some (Rf.s i) ∧ ownAt ρ i = true ∧ σ[i]? = some (some (.ref a)) := fun a ⟨j, o, h1, h2, h3⟩ => by
    obtain ⟨v, h4, _, h5⟩ := at_ j o (get1 h1)
    obtain ⟨i, h6, h7, h8⟩ := h5 h2
    rw [getv h3] at h4
    cases h4
    exact ⟨i, j, h6, ownAt_iff.mpr ⟨o, h7, h2⟩, h8⟩
  have ownsUp : ∀ a, Owns (vs.map some) (os.map some) a → Owns σ ρ a := fun a h => by
    obtain ⟨i, j, h1, h2, h3⟩ := ownsIn a h
    obtain ⟨o, h4, h5⟩ := ownAt_iff.mp h2
    exact ⟨i, o, h4, h5, h3⟩
  have ok0 : Ok T G H (vs.map some) (os.map some) := by
    refine ⟨k.sub, by rw [List.length_map, List.length_map, l1, l2], fun j o h => ?_, fun j j' o o' a h1 h2 p1 p2 s1 s2 => ?_⟩
    · obtain ⟨v, h1, h2, _⟩ := at_ j o (get1 h)
      exact ⟨v, putv h1, h2⟩
    · obtain ⟨v, e1, _, f1⟩ := at_ j o (get1 h1)
      obtain ⟨v', e2, _, f2⟩ := at_ j' o' (get1 h2)
      rw [getv s1] at e1
      rw [getv s2] at e2
      cases e1
      cases e2
      obtain ⟨i, r1, r2, r3⟩ := f1 p1
      obtain ⟨i', r1', r2', r3'⟩ := f2 p2
      have ei := k.dis i i' o o' a r2 r2' p1 p2 r3 r3'
      subst ei
      exact lent_nodup nd r1 r1' (ownAt_iff.mpr ⟨o, r2, p1⟩)
  obtain ⟨hb, hlen'⟩ := hb
  have hlen : os'.length = rs.length := hlen'.trans l1
  have bget := fun i => back_get (ρ := ρ) (i := i) rs os' hlen
  -- a variable that owns behind owned ahead
  have ownsBack : ∀ (i : Nat) (o : O), (back ρ rs os')[i]? = some (some o) → o.own = true → ownAt ρ i = true := fun i o h p => by
    rcases bget i with ⟨j, o', h1, h2, h3, h4⟩ | ⟨h1, h2⟩
    · exact h2
    · rw [h1] at h
      exact ownAt_iff.mpr ⟨o, h, p⟩
  have ownsSub : ∀ a, Owns σ (back ρ rs os') a → Owns σ ρ a := fun a ⟨i, o, h1, h2, h3⟩ => by
    obtain ⟨o', h4, h5⟩ := ownAt_iff.mp (ownsBack i o h1 h2)
    exact ⟨i, o', h4, h5, h3⟩
  have hdead : ∀ a, Owns σ ρ a → H a ≠ none := fun a ⟨i, o, h1, h2, h3⟩ z => by
    obtain ⟨b, u, e1, e2, _⟩ := (k.at_ h1 h3).there h2
    cases e1
    rw [e2] at z
    cases z
  -- from the callee's end to the caller's
  have up : ∀ {G' H' : Hp}, Nk G H (vs.map some) (os.map some) G' H' (os'.map some) → Ok T G' H' (vs.map some) (os'.map some) → Nk G H σ ρ G' H' (back ρ rs os') ∧ Ok T G' H' σ (back ρ rs os') := fun {G' H'} n k' => by
    refine ⟨⟨⟨n.g, fun a h1 h2 => (n.new a h1 h2).imp id (ownsUp a), fun a u h1 h2 => n.keep a u h1 fun z => h2 (ownsUp a z), n.there, fun a h => .inl (ownsSub a h)⟩, fun i => ?_⟩, ⟨k'.sub, ?_, fun i o h => ?_, fun i i' o o' a h1 h2 p1 p2 s1 s2 => ?_⟩⟩
    · rcases bget i with ⟨j, o', h1, h2, h3, h4⟩ | ⟨h1, _⟩
      · obtain ⟨o, h5, h6⟩ := ownAt_iff.mp h2
        rw [h4, h5, kd_sh, kd_sh, own_sh h6, backOk_get hb h1 h3 h2]
      · rw [h1]
    · rw [back_length]
      exact k.len
    · rcases bget i with ⟨j, o', h1, h2, h3, h4⟩ | ⟨h1, h2⟩
      · rw [h4] at h
        cases h
        obtain ⟨v, h7, h8⟩ := k'.rep j o (puto h3)
        obtain ⟨v', h9, h10⟩ := g2 j (Rf.s i) h1
        rw [getv h7] at h9
        cases h9
        exact ⟨_, h10, h8⟩
      · rw [h1] at h
        obtain ⟨v, h3, h4⟩ := k.rep i o h
        refine ⟨v, h3, h4.keep n.toNx fun p a ea z => ?_⟩
        subst ea
        obtain ⟨i', j, q1, q2, q3⟩ := ownsIn a z
        obtain ⟨o', q4, q5⟩ := ownAt_iff.mp q2
        have ei := k.dis i i' o o' a h q4 p q5 h3 q3
        subst ei
        rw [h2 j q1] at q2
        cases q2
    · obtain ⟨u, e1, e2⟩ := ownAt_iff.mp (ownsBack i o h1 p1)
      obtain ⟨u', e3, e4⟩ := ownAt_iff.mp (ownsBack i' o' h2 p2)
      exact k.dis i i' u u' a e1 e3 e2 e4 s1 s2
  refine ⟨l2, G, os, r, os', ok0, hF, hlen', ?_⟩
  cases r with
  | ok x =>
    refine fun v G' H' n k' ro => ?_
    obtain ⟨n2, k2⟩ := up n k'
    refine o v G' H' n2 k2 ⟨ro.1, fun p a ea => ?_⟩
    obtain ⟨f1, _⟩ := ro.2 p a ea
    exact ⟨f1, fun z => hdead a (ownsSub a z) f1⟩
  | er c ns ds =>
    refine fun G' H' C hc n k' => ?_
    obtain ⟨n2, k2⟩ := up n k'
    exact o G' H' C hc n2 k2
end
end Fn

set_option maxRecDepth 100000
set_option maxHeartbeats 4000000
namespace Fn
open PySem PySem.Spec PyProof.Rows L2

/-! ### own defs called -/
def eCall (F : Fx) (as : M (List Rf)) : M O := M.bind as (callF F)
/-- an exception of a callee comes to what the caller wishes, at the caller's variables -/
def WThru (X : Cx) (CX : CXT) (W : WX) : Prop := ∀ σ pins H s e s', Inv X pins σ H s → CX X.stack H s (fun c d H' => W c d σ H') e s' → X.xe e s'
section
variable {cl : Nms} {X : Cx} {W : WX} {CX : CXT} {k n : Nat} {f : Addr} {fd : FuncData} {ps : List Str} {F : Fx} {x : Str} {p pos : Pos} {e : Expr} {es : List Expr} {as : M (List Rf)} {sp : Sp} {t : TA}
theorem pe_callW (F : FnS X.prog X.w X.K X.mg X.base CX k f fd ps sp) (hx : WThru X CX W) (hgd : X.A.guards = some []) (hr : Room k X.A) (hg : Gl X x) (hm : X.mg x = some (.ref f)) (hk : PySem.W.keepIn X.K (.ref f) = true) (hb : Binds X.K fd ps [])
    (ha : PA X (e :: es) t) (hdb : (x == ("__debug__" : Str)) = false := by decide) (he : starEach (e :: es) X.env = (false, eval e X.env) :: starEach es X.env := by rfl) (hpl : (backTo pos (starEach es X.env)).any (·.1) = false := by rfl) :
    PE X (.Call (.Name x p) (e :: es) [] pos) (fun σ H Q => t σ H fun vs H1 => sp vs H1 Q (fun c d H' => W c d σ H')) := by
  constructor
  intro pins s σ H Q I h
  apply wpAny_Call_Name_kw
  apply ld_glob I hg hm _ hdb
  refine PySem.W.callWith_K (h₀ := X.base) I.ok.mod.kin hk (thn (ha.run pos pins s σ H _ I h) ?_) he hpl
  rintro us s1 ⟨vs, H1, I1, r, q⟩
  refine And.intro I1.kIn ?_
  have hl : (us ++ []).length = ps.length := by
    rw [List.append_nil, ← r.length]
    exact F.len _ _ _ _ q
  apply wpAny_call
  have hb1 := hb s1 us I1.kIn hl
  rw [List.append_nil] at hb1
  refine codeAny_mono (F.go X.A X.stack s1 H1 ⟨us, []⟩ us vs Q _ hgd hr I1.env0 hb1 r q) ?_
  intro r s' hq
  match r, hq with
  | .error e, hq => exact hx σ pins H1 s1 e s' I1 hq
  | .ok (.ret u), hq => exact I1.after hq
/-- a call of an own def -/
theorem eo_call {as : M (List Rf)} {F : Fx} (G : FnS X.prog X.w X.K X.mg X.base CX k f fd ps (spF (csX X cl) n F)) (hx : WThru X CX W) (hgd : X.A.guards = some []) (hr : Room k X.A) (hg : Gl X x) (hm : X.mg x = some (.ref f)) (hk : PySem.W.keepIn X.K (.ref f) = true) (hb : Binds X.K fd ps [])
    (ha : EA cl X W (e :: es) as) (hn : ∀ ρ rs ρ', as ρ = some (.ok rs, ρ') → rs.length = n) (hdb : (x == ("__debug__" : Str)) = false := by decide) (he : starEach (e :: es) X.env = (false, eval e X.env) :: starEach es X.env := by rfl) (hpl : (backTo pos (starEach es X.env)).any (·.1) = false := by rfl) :
    EO cl X W (.Call (.Name x p) (e :: es) [] pos) (eCall F as) := EX.by (pe_callW G hx hgd hr hg hm hk hb ha hdb he hpl) fun G ρ σ H Q k h => by
  obtain ⟨r, ρ', e1, o⟩ := h
  refine at_tX k ?_
  unfold eCall M.bind at e1
  cases q : as ρ with
  | none =>
    rw [q] at e1
    cases e1
  | some z =>
    obtain ⟨r1, ρ1⟩ := z
    rw [q] at e1
    cases r1 with
    | er c ns vs =>
      cases e1
      exact ⟨_, _, q, o⟩
    | ok rs =>
      refine ⟨_, _, q, fun vs G1 H1 n1 k1 rl => ?_⟩
      have a2 : At rO (csX X cl) W (callF F rs) G1 ρ1 σ H1 Q := ⟨r, ρ', e1, o.shift rO_back n1⟩
      have z := call_sp k1 (RL_any (Ex.refl _) rs vs rl) a2
      rw [hn ρ rs ρ1 q] at z
      exact z
end

/-! ### statements -/
inductive Fl where
  | nx | rt (o : O) | er (c : Str) (ns : List Str) (vs : List D) | bk | ct
abbrev S := En → Option (Fl × En)
/-- from state to state; the first np variables that are shared or own stay what they are -/
structure Ns (np : Nat) (G H : Hp) (σ : L2.St) (ρ : En) (G' H' : Hp) (σ' : L2.St) (ρ' : En) : Prop extends Nx G H (Owns σ ρ) G' H' (Owns σ' ρ') where
  lk : ∀ i : Nat, i < np → kd ρ[i]? = 3 → σ'[i]? = σ[i]? ∧ kd ρ'[i]? = 3
theorem Ns.refl (np : Nat) (G H : Hp) (σ : L2.St) (ρ : En) : Ns np G H σ ρ G H σ ρ := { Nx.refl G H _ with lk := fun _ _ h => ⟨rfl, h⟩ }
theorem Ns.trans {np : Nat} {G H G1 H1 G2 H2 : Hp} {σ σ1 σ2 : L2.St} {ρ ρ1 ρ2 : En} (a : Ns np G H σ ρ G1 H1 σ1 ρ1) (b : Ns np G1 H1 σ1 ρ1 G2 H2 σ2 ρ2) : Ns np G H σ ρ G2 H2 σ2 ρ2 := by
  refine ⟨a.toNx.trans b.toNx, fun i hi h => ?_⟩
  obtain ⟨e1, h1⟩ := a.lk i hi h
  obtain ⟨e2, h2⟩ := b.lk i hi h1
  exact ⟨e2.trans e1, h2⟩
theorem Nk.ns {np : Nat} {G H G' H' : Hp} {σ : L2.St} {ρ ρ' : En} (n : Nk G H σ ρ G' H' ρ') : Ns np G H σ ρ G' H' σ ρ' := { n.toNx with lk := fun i _ h => ⟨rfl, (n.kp i).trans h⟩ }
def OutS (T : Cs) (W : WX) (np : Nat) (G H : Hp) (σ : L2.St) (ρ : En) (fl : Fl) (ρ' : En) (D : Ends) : Prop :=
  match fl with
  | .nx => ∀ G' H' σ', Ns np G H σ ρ G' H' σ' ρ' → Ok T G' H' σ' ρ' → D.nx σ' H'
  | .bk => ∀ G' H' σ', Ns np G H σ ρ G' H' σ' ρ' → Ok T G' H' σ' ρ' → D.bk σ' H'
  | .ct => ∀ G' H' σ', Ns np G H σ ρ G' H' σ' ρ' → Ok T G' H' σ' ρ' → D.ct σ' H'
  | .rt o => ∀ v G' H' σ', Ns np G H σ ρ G' H' σ' ρ' → Ok T G' H' σ' ρ' → rO T H σ' ρ' G' H' o v → D.rt v H'
  | .er c ns vs => ∀ G' H' σ' C, T.cls c = some C → Ns np G H σ ρ G' H' σ' ρ' → Ok T G' H' σ' ρ' →
      ((ns = [] → vs = [] → W (.ref C) none σ' H') ∧ ∀ d fs, H' d = some (.xd fs) → fs.map (·.1) = ns → RepL T G' vs (fs.map (·.2)) → W (.ref C) (some d) σ' H')
def AtS (T : Cs) (W : WX) (np : Nat) (f : S) (G : Hp) (ρ : En) : TS := fun D σ H => ∃ fl ρ', f ρ = some (fl, ρ') ∧ OutS T W np G H σ ρ fl ρ' D
def tS (T : Cs) (W : WX) (np : Nat) (f : S) : TS := fun D σ H => ∃ G ρ, Ok T G H σ ρ ∧ AtS T W np f G ρ D σ H
section
variable {T : Cs} {W : WX} {np : Nat} {G H G1 H1 : Hp} {σ σ1 : L2.St} {ρ ρ1 ρ' : En} {fl : Fl} {D : Ends}
theorem OutS.shift (n : Ns np G H σ ρ G1 H1 σ1 ρ1) (h : OutS T W np G H σ ρ fl ρ' D) : OutS T W np G1 H1 σ1 ρ1 fl ρ' D := by
  cases fl with
  | nx => exact fun G' H' σ' n' k => h G' H' σ' (n.trans n') k
  | bk => exact fun G' H' σ' n' k => h G' H' σ' (n.trans n') k
  | ct => exact fun G' H' σ' n' k => h G' H' σ' (n.trans n') k
  | rt o => exact fun v G' H' σ' n' k r => h v G' H' σ' (n.trans n') k ⟨r.1, r.2.back n.there⟩
  | er c ns vs => exact fun G' H' σ' C hc n' k => h G' H' σ' C hc (n.trans n') k
end
/-- a value, then a statement's end -/
def M.then_ {α : Type} (m : M α) (g : α → S) : S := fun ρ => match m ρ with
  | some (.ok a, ρ1) => g a ρ1
  | some (.er c ns vs, ρ1) => some (.er c ns vs, ρ1)
  | none => none
def sSeq (f g : S) : S := fun ρ => match f ρ with
  | some (.nx, ρ1) => g ρ1
  | r => r
def sPass : S := fun ρ => some (.nx, ρ)
def sRet (m : M O) : S := m.then_ fun o ρ => some (.rt o, ρ)
def sDrop (m : M D) : S := m.then_ fun _ ρ => some (.nx, ρ)
def sIf (c : M Bool) (f g : S) : S := c.then_ fun b => if b = true then f else g
def sSet (np i : Nat) (m : M O) : S := m.then_ fun o ρ => if i < ρ.length ∧ ¬ (i < np ∧ kd ρ[i]? = 3) then some (.nx, ρ.set i (some o)) else none
section
variable (cl : Nms) (X : Cx) (W : WX) (np : Nat)
abbrev ES (st : Stmt) (f : S) : Prop := PS X st (tS (csX X cl) W np f)
abbrev ESs (sts : List Stmt) (f : S) : Prop := PSs X sts (tS (csX X cl) W np f)
end
theorem _root_.L2.PS.imp {X : Cx} {e : Stmt} {t t' : TS} (h : PS X e t) (i : ∀ D σ H, t' D σ H → t D σ H) : PS X e t' := ⟨fun pins s σ H D I hw => h.run pins s σ H D I (i D σ H hw)⟩
theorem _root_.L2.PSs.imp {X : Cx} {e : List Stmt} {t t' : TS} (h : PSs X e t) (i : ∀ D σ H, t' D σ H → t D σ H) : PSs X e t' := ⟨fun pins s σ H D I hw => h.run pins s σ H D I (i D σ H hw)⟩
section
variable {cl : Nms} {X : Cx} {W : WX} {np : Nat} {st : Stmt} {rest sa sb : List Stmt} {f g : S} {pos : Pos} {e c : Expr} {mo : M O} {md : M D} {mb : M Bool}
theorem ES.by {t : TS} (h : PS X st t) (i : ∀ G ρ D σ H, Ok (csX X cl) G H σ ρ → AtS (csX X cl) W np f G ρ D σ H → t D σ H) : ES cl X W np st f := h.imp fun D σ H ⟨G, ρ, k, a⟩ => i G ρ D σ H k a
theorem ESs.by {sts : List Stmt} {t : TS} (h : PSs X sts t) (i : ∀ G ρ D σ H, Ok (csX X cl) G H σ ρ → AtS (csX X cl) W np f G ρ D σ H → t D σ H) : ESs cl X W np sts f := h.imp fun D σ H ⟨G, ρ, k, a⟩ => i G ρ D σ H k a
theorem atS {T : Cs} {G H : Hp} {σ : L2.St} {ρ : En} {D : Ends} (k : Ok T G H σ ρ) (a : AtS T W np f G ρ D σ H) : tS T W np f D σ H := ⟨G, ρ, k, a⟩
/-- a value ahead of a statement's end -/
theorem AtS.then0 {α β : Type} {R : RelT α β} {T : Cs} {m : M α} {g : α → S} {G H : Hp} {σ : L2.St} {ρ : En} {D : Ends} {Q : Wi β} (h : AtS T W np (m.then_ g) G ρ D σ H)
    (k : ∀ a ρ1 v G1 H1, Nk G H σ ρ G1 H1 ρ1 → Ok T G1 H1 σ ρ1 → R T H σ ρ1 G1 H1 a v → (∃ fl ρ', g a ρ1 = some (fl, ρ') ∧ OutS T W np G H σ ρ fl ρ' D) → Q v H1) : At R T W m G ρ σ H Q := by
  obtain ⟨fl, ρ', e, o⟩ := h
  unfold M.then_ at e
  cases q : m ρ with
  | none =>
    rw [q] at e
    cases e
  | some z =>
    obtain ⟨r, ρ1⟩ := z
    rw [q] at e
    cases r with
    | ok a => exact ⟨_, _, q, fun v G1 H1 n k1 r => k a ρ1 v G1 H1 n k1 r ⟨fl, ρ', e, o⟩⟩
    | er c ns vs =>
      cases e
      exact ⟨_, _, q, fun G' H' C hc n k1 => o G' H' σ C hc n.ns k1⟩
theorem AtS.then_ {α β : Type} {R : RelT α β} {T : Cs} {m : M α} {g : α → S} {G H : Hp} {σ : L2.St} {ρ : En} {D : Ends} {Q : Wi β} (h : AtS T W np (m.then_ g) G ρ D σ H)
    (k : ∀ a ρ1 v G1 H1, Nk G H σ ρ G1 H1 ρ1 → Ok T G1 H1 σ ρ1 → R T H σ ρ1 G1 H1 a v → AtS T W np (g a) G1 ρ1 D σ H1 → Q v H1) : At R T W m G ρ σ H Q :=
  h.then0 fun a ρ1 v G1 H1 n k1 r ⟨fl, ρ', e, o⟩ => k a ρ1 v G1 H1 n k1 r ⟨fl, ρ', e, o.shift n.ns⟩
theorem AtS.seq {T : Cs} {G H : Hp} {σ : L2.St} {ρ : En} {D : Ends} (h : AtS T W np (sSeq f g) G ρ D σ H) : AtS T W np f G ρ { D with nx := tS T W np g D } σ H := by
  obtain ⟨fl, ρ', e, o⟩ := h
  unfold sSeq at e
  cases q : f ρ with
  | none =>
    rw [q] at e
    cases e
  | some z =>
    obtain ⟨fl1, ρ1⟩ := z
    rw [q] at e
    cases fl1 with
    | nx => exact ⟨_, _, q, fun G1 H1 σ1 n1 k1 => ⟨G1, ρ1, k1, fl, ρ', e, o.shift n1⟩⟩
    | rt x =>
      cases e
      exact ⟨_, _, q, o⟩
    | er c ns vs =>
      cases e
      exact ⟨_, _, q, o⟩
    | bk =>
      cases e
      exact ⟨_, _, q, o⟩
    | ct =>
      cases e
      exact ⟨_, _, q, o⟩
theorem ess_cons (h : ES cl X W np st f) (h' : ESs cl X W np rest g) : ESs cl X W np (st :: rest) (sSeq f g) := ESs.by (pss_cons h h') fun G ρ D σ H k a => atS k a.seq
theorem ess_one (h : ES cl X W np st f) : ESs cl X W np [st] f := pss_one h
theorem ess_nil : ESs cl X W np [] sPass := ESs.by pss_nil fun G ρ D σ H k ⟨fl, ρ', e, o⟩ => by
  cases e
  exact o G H σ (Ns.refl ..) k
theorem es_pass : ES cl X W np (.Pass pos) sPass := ES.by ps_pass fun G ρ D σ H k ⟨fl, ρ', e, o⟩ => by
  cases e
  exact o G H σ (Ns.refl ..) k
theorem es_doc {x j p'} : ES cl X W np (.Expr (.Constant (.str x) j p') pos) sPass := ES.by ps_doc fun G ρ D σ H k ⟨fl, ρ', e, o⟩ => by
  cases e
  exact o G H σ (Ns.refl ..) k
theorem es_ret (h : EO cl X W e mo) : ES cl X W np (.Return (some e) pos) (sRet mo) := ES.by (ps_ret h) fun G ρ D σ H k a => at_tX k (a.then0 (R := rO) fun x ρ1 v G1 H1 n1 k1 r1 ⟨fl, ρ', e, o⟩ => by
  cases e
  exact o v G1 H1 σ n1.ns k1 r1)
def sRetN : S := fun ρ => some (.rt (.dat .non), ρ)
theorem es_retN : ES cl X W np (.Return none pos) sRetN := ES.by ps_retN fun G ρ D σ H k ⟨fl, ρ', e, o⟩ => by
  cases e
  exact o .non G H σ (Ns.refl ..) k ⟨rfl, Fresh.dat⟩
theorem es_drop (h : ED cl X W e md) (hs : swapsWith e none pos.line X.env = pure false := by rfl) : ES cl X W np (.Expr e pos) (sDrop md) := ES.by (ps_expr h hs) fun G ρ D σ H k a => at_tX k (a.then0 (R := rD) fun x ρ1 v G1 H1 n1 k1 r1 ⟨fl, ρ', e, o⟩ => by
  cases e
  exact o G1 H1 σ n1.ns k1)
theorem es_if (hc : ET cl X W c mb) (ha : ESs cl X W np sa f) (hb : ESs cl X W np sb g) : ES cl X W np (.If c sa sb pos) (sIf mb f g) := ES.by (ps_if hc ha hb) fun G ρ D σ H k a => at_tX k (a.then_ (R := rB) fun x ρ1 v G1 H1 n1 k1 r1 a1 => by
  obtain rfl : x = v := r1
  cases x with
  | true => exact atS k1 a1
  | false => exact atS k1 a1)
theorem Owns_set {σ : L2.St} {ρ : En} {i : Nat} {v : V} {o : O} {a : Addr} (h : Owns (σ.set i (some v)) (ρ.set i (some o)) a) : (o.own = true ∧ v = .ref a) ∨ ∃ (j : Nat) (o' : O), j ≠ i ∧ ρ[j]? = some (some o') ∧ o'.own = true ∧ σ[j]? = some (some (.ref a)) := by
  obtain ⟨j, o', h1, h2, h3⟩ := h
  by_cases e : i = j
  · subst e
    by_cases hl : i < ρ.length
    · rw [List.getElem?_set_self hl] at h1
      cases h1
      by_cases hl2 : i < σ.length
      · rw [List.getElem?_set_self hl2] at h3
        cases h3
        exact .inl ⟨h2, rfl⟩
      · rw [List.getElem?_eq_none (by rw [List.length_set]; omega)] at h3
        cases h3
    · rw [List.getElem?_eq_none (by rw [List.length_set]; omega)] at h1
      cases h1
  · rw [List.getElem?_set_ne e] at h1 h3
    exact .inr ⟨j, o', fun z => e z.symm, h1, h2, h3⟩
/-- a variable is stored -/
theorem set_ok {T : Cs} {G H G1 H1 : Hp} {σ : L2.St} {ρ ρ1 : En} {i : Nat} {o : O} {v : V} (n1 : Nk G H σ ρ G1 H1 ρ1) (k1 : Ok T G1 H1 σ ρ1) (r1 : rO T H σ ρ1 G1 H1 o v) (hi : i < ρ1.length) (hp : ¬ (i < np ∧ kd ρ1[i]? = 3)) :
    Ns np G H σ ρ G1 H1 (σ.set i (some v)) (ρ1.set i (some o)) ∧ Ok T G1 H1 (σ.set i (some v)) (ρ1.set i (some o)) := by
  have hs : i < σ.length := by rw [← k1.len]; exact hi
  refine ⟨⟨⟨n1.g, n1.new, n1.keep, n1.there, fun a h => ?_⟩, fun j hj hk => ?_⟩, ⟨k1.sub, by rw [List.length_set, List.length_set]; exact k1.len, fun j o' h => ?_, fun j j' o1 o2 a h1 h2 p1 p2 s1 s2 => ?_⟩⟩
  · rcases Owns_set h with ⟨p, e⟩ | ⟨j, o', _, h1, h2, h3⟩
    · exact .inr (r1.2 p a e).1
    · exact n1.own a ⟨j, o', h1, h2, h3⟩
  · have e : i ≠ j := fun z => by
      subst z
      exact hp ⟨hj, (n1.kp i).trans hk⟩
    rw [List.getElem?_set_ne e, List.getElem?_set_ne e]
    exact ⟨rfl, (n1.kp j).trans hk⟩
  · by_cases e : i = j
    · subst e
      rw [List.getElem?_set_self hi] at h
      cases h
      exact ⟨v, List.getElem?_set_self hs, r1.1⟩
    · rw [List.getElem?_set_ne e] at h ⊢
      exact k1.rep j o' h
  · have go : ∀ {j : Nat} {o1 : O}, (ρ1.set i (some o))[j]? = some (some o1) → o1.own = true → (σ.set i (some v))[j]? = some (some (.ref a)) → (j = i ∧ ¬ Owns σ ρ1 a) ∨ (ρ1[j]? = some (some o1) ∧ σ[j]? = some (some (.ref a))) := fun {j o1} h1 p1 s1 => by
      by_cases e : i = j
      · subst e
        rw [List.getElem?_set_self hi] at h1
        rw [List.getElem?_set_self hs] at s1
        cases h1
        cases s1
        exact .inl ⟨rfl, (r1.2 p1 a rfl).2⟩
      · rw [List.getElem?_set_ne e] at h1 s1
        exact .inr ⟨h1, s1⟩
    rcases go h1 p1 s1 with ⟨e1, n⟩ | ⟨e1, e2⟩
    · rcases go h2 p2 s2 with ⟨e3, _⟩ | ⟨e3, e4⟩
      · rw [e1, e3]
      · exact absurd ⟨j', o2, e3, p2, e4⟩ n
    · rcases go h2 p2 s2 with ⟨e3, n⟩ | ⟨e3, e4⟩
      · exact absurd ⟨j, o1, e1, p1, e2⟩ n
      · exact k1.dis j j' o1 o2 a e1 e3 p1 p2 e2 e4
theorem es_set {i : Nat} {x : Str} {pos' : Pos} (hN : X.N.Nodup) (hi : X.N[i]? = some x) (hx : Loc X.env.scope x) (h : EO cl X W e mo) (hs : swapsWith e (some (.Name x pos')) pos.line X.env = pure false := by rfl)
    (hf : X.fn x = true ∨ X.env.scope.names.lookup x = some .local := by first | exact .inl rfl | exact .inr rfl | assumption) : ES cl X W np (.Assign [.Name x pos'] e pos) (sSet np i mo) :=
  ES.by (ps_set hN hi hx h hs hf) fun G ρ D σ H k a => at_tX k (a.then0 (R := rO) fun x ρ1 v G1 H1 n1 k1 r1 ⟨fl, ρ', e, o⟩ => by
    split at e
    · rename_i hp
      cases e
      obtain ⟨n2, k2⟩ := set_ok (np := np) n1 k1 r1 hp.1 hp.2
      exact o G1 H1 _ n2 k2
    · cases e)
end
end Fn

set_option maxRecDepth 100000
set_option maxHeartbeats 4000000
namespace Fn
open PySem PySem.Spec PyProof.Rows L2

/-! ### items -/
def fIx : D → D → Option D
  | .lst xs, .int i => atI xs i
  | .ro xs, .int i => atI xs i
  | .tup xs, .int i => atI xs i
  | .str z, .int i => if z.length ≤ lim then (atI z.cps.toList i).map fun c => .str ⟨#[c]⟩ else none
  | _, _ => none
theorem atI_rep {T : Cs} {G : Hp} {ds : List D} {vs : List V} {i : Int} {d : D} (h : RepL T G ds vs) (e : atI ds i = some d) : ∃ v, atI vs i = some v ∧ Rep T G d v := by
  unfold atI at e ⊢
  rw [h.length]
  cases q : ixN ds.length i with
  | none =>
    rw [q] at e
    cases e
  | some j =>
    rw [q] at e
    obtain ⟨v, h1, h2⟩ := h.get (show ds[j]? = some d from e)
    exact ⟨v, h1, h2⟩
/-- the value of a key -/
def dLook : List Key → List D → Key → Option D
  | k' :: ks, d :: ds, k => if k' = k then some d else dLook ks ds k
  | _, _, _ => none
def dPut : List Key → List D → Key → D → List D
  | k' :: ks, d :: ds, k, x => if k' = k then x :: ds else d :: dPut ks ds k x
  | _, ds, _, _ => ds
def asKey : D → Option Key
  | .int i => some (.inl i)
  | .str x => some (.inr x)
  | _ => none
theorem asKey_rep {T : Cs} {G H : Hp} {d : D} {k : Key} {v : V} (h : asKey d = some k) (r : RepT T G H d v) : v = kV k := by
  cases d with
  | int i =>
    cases h
    exact r.int
  | str x =>
    cases h
    exact r.str
  | _ => cases h
def fDGet : D → D → Option D
  | .dk ks ds, k => (asKey k).bind fun k => dLook ks ds k
  | .rk ks ds, k => (asKey k).bind fun k => dLook ks ds k
  | _, _ => none
theorem dLook_rep {T : Cs} {G : Hp} {k : Key} {d : D} : ∀ {kvs : List (Key × V)} {ds : List D}, RepL T G ds (kvs.map (·.2)) → dLook (kvs.map (·.1)) ds k = some d → ∃ v, valV kvs k = some v ∧ Rep T G d v
  | [], ds, h, e => by cases e
  | (k', v) :: kvs, ds, h, e => by
    cases ds with
    | nil => cases e
    | cons d' ds =>
      obtain ⟨v', r, e1, h1, h2⟩ := h
      rw [List.map_cons] at e1
      obtain ⟨rfl, rfl⟩ := List.cons.inj e1
      have e' : (if k' = k then some d' else dLook (kvs.map (·.1)) ds k) = some d := e
      by_cases q : k' = k
      · rw [if_pos q] at e'
        cases e'
        exact ⟨v, by unfold valV; simp [q], h1⟩
      · rw [if_neg q] at e'
        obtain ⟨w, h3, h4⟩ := dLook_rep h2 e'
        refine ⟨w, ?_, h4⟩
        rw [← h3]
        unfold valV
        simp [q]
section
variable {cl : Nms} {X : Cx} {W : WX} {np : Nat} {pos pos' : Pos} {a b e o i : Expr} {ma mb : M Rf} {md : M D} {G H : Hp} {σ : L2.St} {ρ : En} {T : Cs} {Q : VK}
theorem ed_ix (ha : ER cl X W a ma) (hb : ER cl X W b mb) (hs : PlainIx b) : ED cl X W (.Subscript a b pos) (eBinD fIx ma mb) :=
  EX.by (pe_ix ix_seq ha hb hs) fun G ρ σ H Q k h => at_tX k (At.bind (Ra := rR) rD_back h fun x ρ1 v1 G1 H1 n1 k1 r1 h1 => at_tX k1 (At.bind (Ra := rR) rD_back h1 fun y ρ2 v2 G2 H2 n2 k2 r2 h2 => by
    obtain ⟨d1, q1, h3⟩ := At.get h2 k2 (rR_keep n2 r1)
    obtain ⟨d2, q2, h4⟩ := At.get h3 k2 r2
    obtain ⟨d3, e, h5⟩ := h4.lift
    unfold fIx at e
    split at e
    · obtain ⟨p, xs, rfl, g1, g2⟩ := q1.lst k2
      obtain rfl := q2.int
      obtain ⟨w, g3, g4⟩ := atI_rep g2 e
      exact .inl ⟨p, xs, _, w, rfl, rfl, SqL.of g1, g3, h5.ret k2 g4⟩
    · obtain ⟨p, xs, rfl, g1, g2⟩ := q1.ro k2
      obtain rfl := q2.int
      obtain ⟨w, g3, g4⟩ := atI_rep g2 e
      exact .inl ⟨p, xs, _, w, rfl, rfl, g1, g3, h5.ret k2 g4⟩
    · obtain ⟨p, xs, rfl, g1, g2, _⟩ := q1.tup k2
      obtain rfl := q2.int
      obtain ⟨w, g3, g4⟩ := atI_rep g2 e
      exact .inr (.inl ⟨p, xs, _, w, rfl, rfl, g1, g3, h5.ret k2 g4⟩)
    · split at e
      · rename_i hl
        obtain rfl := q1.str
        obtain rfl := q2.int
        obtain ⟨c, e1, rfl⟩ := Option.map_eq_some_iff.mp e
        exact .inr (.inr ⟨_, _, c, rfl, rfl, lim_le hl, e1, h5.ret k2 rfl⟩)
      · cases e
    · cases e))
/-- d[k] -/
theorem ed_dget (hu : X.A.units + 1 < cLine) (ha : ER cl X W o ma) (hb : ER cl X W i mb) (hs : NoSl i) : ED cl X W (.Subscript o i pos) (eBinD fDGet ma mb) :=
  EX.by (pe_dget hu ha hb hs) fun G ρ σ H Q k h => at_tX k (At.bind (Ra := rR) rD_back h fun x ρ1 v1 G1 H1 n1 k1 r1 h1 => at_tX k1 (At.bind (Ra := rR) rD_back h1 fun y ρ2 v2 G2 H2 n2 k2 r2 h2 => by
    obtain ⟨d1, q1, h3⟩ := At.get h2 k2 (rR_keep n2 r1)
    obtain ⟨d2, q2, h4⟩ := At.get h3 k2 r2
    obtain ⟨d3, e, h5⟩ := h4.lift
    unfold fDGet at e
    split at e
    · obtain ⟨p, kvs, rfl, g1, rfl, g2⟩ := q1.dk k2
      obtain ⟨ky, e1, e2⟩ := Option.bind_eq_some_iff.mp e
      obtain rfl := asKey_rep e1 q2
      obtain ⟨w, g3, g4⟩ := dLook_rep g2 e2
      exact ⟨p, w, rfl, .inl ⟨kvs, ky, g1, rfl, g3.symm⟩, h5.ret k2 g4⟩
    · obtain ⟨p, oo, kvs, rfl, g1, rfl, g2⟩ := q1.rk k2
      obtain ⟨ky, e1, e2⟩ := Option.bind_eq_some_iff.mp e
      obtain rfl := asKey_rep e1 q2
      obtain ⟨w, g3, g4⟩ := dLook_rep g2 e2
      exact ⟨p, w, rfl, .inl ⟨kvs, ky, .inr ⟨oo, g1⟩, rfl, g3.symm⟩, h5.ret k2 g4⟩
    · cases e))
def hasK (ks : List Key) (k : Key) : Bool := ks.any fun x => decide (x = k)
theorem hasK_mem {ks : List Key} {k : Key} (h : hasK ks k = true) : k ∈ ks := by
  obtain ⟨x, h1, h2⟩ := List.any_eq_true.mp h
  have e : x = k := by simpa using h2
  rw [← e]
  exact h1
/-- d[k] = v, d a variable's own, the key there -/
def dputAt (y : Rf) (x kd : D) : S := fun ρ => match y with
  | .s j => match ρ[j]? with
    | some (some (.dk ks ds)) => match asKey kd with
      | some k => if hasK ks k = true ∧ ks.length < lim ∧ ks.Nodup then some (.nx, ρ.set j (some (.dk ks (dPut ks ds k x)))) else none
      | none => none
    | _ => none
  | .d _ => none
def sDPutS (mo key : M Rf) (m : M D) : S := m.then_ fun x => mo.then_ fun y => key.then_ fun kr => kr.get.then_ fun kd => dputAt y x kd
theorem AtS.get {T : Cs} {G H : Hp} {σ : L2.St} {ρ : En} {D : Ends} {f : Fn.D → S} {r : Rf} {v : V} {H0 : Hp} (h : AtS T W np (r.get.then_ f) G ρ D σ H) (k : Ok T G H σ ρ) (hr : rR T H0 σ ρ G H r v) :
    ∃ d, RepT T G H d v ∧ AtS T W np (f d) G ρ D σ H := by
  obtain ⟨r', ρ', e, o⟩ := h
  cases r with
  | d x => exact ⟨x, .inl hr, r', ρ', e, o⟩
  | s i =>
    unfold M.then_ Rf.get getS at e
    cases q : ρ[i]? with
    | none =>
      simp only [q] at e
      cases e
    | some z =>
      cases z with
      | none =>
        simp only [q] at e
        cases e
      | some u =>
        simp only [q] at e
        refine ⟨u.d, ?_, r', ρ', e, o⟩
        have q2 := k.at_ q hr
        cases u with
        | dat d => exact .inl q2
        | fz d => exact .inl q2
        | lst xs => exact .inr ⟨.lst xs, rfl, rfl, q2⟩
        | dk ks vs => exact .inr ⟨.dk ks vs, rfl, rfl, q2⟩
        | set ks => exact .inr ⟨.set ks, rfl, rfl, q2⟩
        | obj c ns vs => exact .inr ⟨.obj c ns vs, rfl, rfl, q2⟩
/-- an own variable's object is changed -/
theorem upd_ok {T : Cs} {G H : Hp} {σ : L2.St} {ρ : En} {j : Nat} {u u' : O} {p : Addr} {ho : HO} (k : Ok T G H σ ρ) (hj : ρ[j]? = some (some u)) (hp : u.own = true) (hp' : u'.own = true) (hv : σ[j]? = some (some (.ref p)))
    (new : RepO T G (upd H p ho) u' (.ref p)) : Ns np G H σ ρ G (upd H p ho) σ (ρ.set j (some u')) ∧ Ok T G (upd H p ho) σ (ρ.set j (some u')) := by
  have rj := k.at_ hj hv
  obtain ⟨b, w, e1, e2, e3⟩ := rj.there hp
  cases e1
  have hl : j < ρ.length := (List.getElem?_eq_some_iff.mp hj).1
  have back : ∀ {i : Nat} {o : O}, (ρ.set j (some u'))[i]? = some (some o) → o.own = true → ∃ o', ρ[i]? = some (some o') ∧ o'.own = true := fun {i o} h q => by
    by_cases e : j = i
    · subst e
      exact ⟨u, hj, hp⟩
    · rw [List.getElem?_set_ne e] at h
      exact ⟨o, h, q⟩
  have oj : Owns σ ρ p := ⟨j, u, hj, hp, hv⟩
  have S : Nx G H (Owns σ ρ) G (upd H p ho) (Owns σ (ρ.set j (some u'))) := ⟨Ex.refl _, fun a h1 h2 => absurd h1 h2, fun a o h1 h2 => by
      rw [upd_ne (fun z => h2 (by rw [z]; exact oj))]
      exact h1, fun a h1 => by
      by_cases q : a = p
      · rw [q, upd_same] at h1
        cases h1
      · rw [upd_ne q] at h1
        exact h1, fun a ⟨i, o, h1, h2, h3⟩ => by
      obtain ⟨o', h4, h5⟩ := back h1 h2
      exact .inl ⟨i, o', h4, h5, h3⟩⟩
  refine ⟨⟨S, fun i _ h => ⟨rfl, ?_⟩⟩, ⟨fun a o h => ?_, by rw [List.length_set]; exact k.len, fun i o h => ?_, fun i i' o o' a h1 h2 q1 q2 s1 s2 => ?_⟩⟩
  · by_cases e : j = i
    · subst e
      rw [List.getElem?_set_self hl, kd_sh, own_sh hp']
      rfl
    · rw [List.getElem?_set_ne e]
      exact h
  · rw [upd_ne (ne_of_none h e3)]
    exact k.sub a o h
  · by_cases e : j = i
    · subst e
      rw [List.getElem?_set_self hl] at h
      cases h
      exact ⟨_, hv, new⟩
    · rw [List.getElem?_set_ne e] at h
      obtain ⟨v, h1, h2⟩ := k.rep i o h
      refine ⟨v, h1, ?_⟩
      -- another's object is another
      have np' : o.own = true → ∀ a, v = .ref a → a ≠ p := fun q a ea z => by
        subst ea
        subst z
        exact e (k.dis j i u o a hj h hp q hv h1)
      refine h2.keep (S := fun a => a = p) (S1 := fun a => a = p) ⟨Ex.refl _, fun a h1 h2 => absurd h1 h2, fun a o h1 h2 => by rw [upd_ne h2]; exact h1, fun a h1 => by
        by_cases q : a = p
        · rw [q, upd_same] at h1
          cases h1
        · rw [upd_ne q] at h1
          exact h1, fun a h => .inl h⟩ np'
  · obtain ⟨o1, e5, e6⟩ := back h1 q1
    obtain ⟨o2, e7, e8⟩ := back h2 q2
    exact k.dis i i' o1 o2 a e5 e7 e6 e8 s1 s2
theorem putK_keys {kvs : List (Key × V)} {k : Key} {v : V} (h : k ∈ kvs.map (·.1)) : (putK kvs k v).map (·.1) = kvs.map (·.1) := by
  have ha : (kvs.any fun kv => decide (kv.1 = k)) = true := by
    obtain ⟨q, h1, h2⟩ := List.mem_map.mp h
    exact List.any_eq_true.mpr ⟨q, h1, by simpa using h2⟩
  unfold putK
  first
    | (rw [if_pos ha, List.map_map]; exact List.map_congr_left fun q _ => by (show (if q.1 = k then (q.1, v) else q).1 = q.1); split <;> rfl)
    | (rw [if_pos ha, List.map_map]; exact List.map_congr_left fun q _ => by (simp only [Function.comp]; split <;> simp_all))
theorem putK_rep {kvs : List (Key × V)} {k : Key} {v : V} {d : D} (hd : Rep T G d v) : ∀ {ds : List D}, RepL T G ds (kvs.map (·.2)) → k ∈ kvs.map (·.1) → (kvs.map (·.1)).Nodup → RepL T G (dPut (kvs.map (·.1)) ds k d) ((putK kvs k v).map (·.2)) := by
  intro ds h hm hn
  have ha : (kvs.any fun kv => decide (kv.1 = k)) = true := by
    obtain ⟨q, h1, h2⟩ := List.mem_map.mp hm
    exact List.any_eq_true.mpr ⟨q, h1, by simpa using h2⟩
  have key : ∀ {kvs : List (Key × V)} {ds : List D}, RepL T G ds (kvs.map (·.2)) → (kvs.map (·.1)).Nodup → RepL T G (dPut (kvs.map (·.1)) ds k d) ((kvs.map fun kv => if kv.1 = k then (kv.1, v) else kv).map (·.2)) := by
    intro kvs
    induction kvs with
    | nil =>
      intro ds h _
      cases ds with
      | nil => exact rfl
      | cons d ds =>
        obtain ⟨_, _, e, _⟩ := h
        cases e
    | cons q kvs ih =>
      obtain ⟨k', w⟩ := q
      intro ds h n
      cases ds with
      | nil =>
        have z : ((k', w) :: kvs).map (·.2) = [] := h
        cases z
      | cons d' ds =>
        obtain ⟨w', r, e1, h1, h2⟩ := h
        obtain ⟨rfl, rfl⟩ := List.cons.inj e1
        have n' := List.nodup_cons.mp n
        show RepL T G (if k' = k then d :: ds else d' :: dPut (kvs.map (·.1)) ds k d) (((if k' = k then (k', v) else (k', w)) :: kvs.map fun kv => if kv.1 = k then (kv.1, v) else kv).map (·.2))
        by_cases e : k' = k
        · rw [if_pos e, if_pos e]
          refine ⟨v, _, rfl, hd, ?_⟩
          have same : (kvs.map fun kv => if kv.1 = k then (kv.1, v) else kv) = kvs := by
            refine (List.map_congr_left fun q hq => ?_).trans (List.map_id _)
            have ne : ¬ q.1 = k := fun z => n'.1 (List.mem_map.mpr ⟨q, hq, by rw [z, e]⟩)
            rw [if_neg ne]
            rfl
          rw [same]
          exact h2
        · rw [if_neg e, if_neg e]
          exact ⟨w, _, rfl, h1, ih h2 n'.2⟩
  unfold putK
  rw [if_pos ha]
  exact key h hn
theorem es_dput {mo key : M Rf} {value : Expr} {o i : Expr} (hu : X.A.units + 1 < cLine) (ho : ER cl X W o mo) (hi : ER cl X W i key) (hv : ED cl X W value md) (hs : swapsWith value (some (.Subscript o i pos')) pos.line X.env = pure false := by rfl) :
    ES cl X W np (.Assign [.Subscript o i pos'] value pos) (sDPutS mo key md) := ES.by (ps_dput hu ho hi hv hs) fun G ρ D σ H k a => at_tX k (a.then_ (R := rD) fun x ρ1 v1 G1 H1 n1 k1 r1 a1 => at_tX k1 (a1.then_ (R := rR) fun y ρ2 v2 G2 H2 n2 k2 r2 a2 => by
  refine at_tX k2 (a2.then_ (R := rR) fun z ρ3 v3 G3 H3 n3 k3 r3 a3 => ?_)
  obtain ⟨dk, q, fl, ρ', e, oo⟩ := AtS.get a3 k3 r3
  unfold dputAt at e
  cases y with
  | d _ => cases e
  | s j =>
    have hy : σ[j]? = some (some v2) := r2
    dsimp only at e
    split at e
    case h_2 => cases e
    rename_i ks ds hj
    split at e
    case h_2 => cases e
    rename_i ky hk
    split at e
    case isFalse => cases e
    rename_i hc
    cases e
    have rj := k3.at_ hj hy
    obtain ⟨p, kvs, ev, h1, h2, h3, h4⟩ := id rj
    subst ev
    subst h3
    obtain rfl := asKey_rep hk q
    have rv : Rep (csX X cl) G3 x v1 := Rep.mono (Ex.trans n2.g n3.g) x v1 r1
    obtain ⟨n4, k4⟩ := upd_ok (np := np) (u' := .dk (kvs.map (·.1)) (dPut (kvs.map (·.1)) ds ky x)) (ho := .dK (putK kvs ky v1)) k3 hj rfl rfl hy
      ⟨p, _, rfl, upd_same, h2, putK_keys (hasK_mem hc.1), putK_rep rv h4 (hasK_mem hc.1) hc.2.2⟩
    exact ⟨p, _, rfl, .inl ⟨kvs, ky, h1, rfl, lim_lt (by have := hc.2.1; rw [List.length_map] at this; exact this), rfl⟩, oo G3 _ σ n4 k4⟩))
end
end Fn

set_option maxRecDepth 100000
set_option maxHeartbeats 4000000
namespace Fn
open PySem PySem.Spec PyProof.Rows L2

/-! ### targets -/
inductive Tg where
  | n (i : Nat) | t (is : List Nat) | g (ts : List (Sum Nat (List Nat)))
def Tg.sl : Tg → List Nat
  | .n i => [i] | .t is => is
  | .g ts => ts.flatMap fun z => match z with
    | .inl i => [i]
    | .inr js => js
def setAll : List Nat → List D → En → Option En
  | [], [], ρ => some ρ
  | i :: is, d :: ds, ρ => if i < ρ.length then setAll is ds (ρ.set i (some (.dat d))) else none
  | _, _, _ => none
def setG : List (Sum Nat (List Nat)) → List D → En → Option En
  | [], [], ρ => some ρ
  | .inl i :: ts, d :: ds, ρ => if i < ρ.length then setG ts ds (ρ.set i (some (.dat d))) else none
  | .inr js :: ts, .tup es :: ds, ρ => match setAll js es ρ with
    | some ρ1 => setG ts ds ρ1
    | none => none
  | _, _, _ => none
def Tg.set : Tg → D → En → Option En
  | .n i, d, ρ => if i < ρ.length then some (ρ.set i (some (.dat d))) else none
  | .t is, .tup ds, ρ => setAll is ds ρ
  | .g ts, .tup ds, ρ => setG ts ds ρ
  | _, _, _ => none
/-- variables other than those at is are as they were -/
def Off (is : List Nat) (σ : L2.St) (ρ : En) (σ' : L2.St) (ρ' : En) : Prop := σ'.length = σ.length ∧ ∀ j : Nat, j ∉ is → σ'[j]? = σ[j]? ∧ ρ'[j]? = ρ[j]?
theorem Off.refl (is : List Nat) (σ : L2.St) (ρ : En) : Off is σ ρ σ ρ := ⟨rfl, fun _ _ => ⟨rfl, rfl⟩⟩
theorem Off.trans {is : List Nat} {σ σ1 σ2 : L2.St} {ρ ρ1 ρ2 : En} (a : Off is σ ρ σ1 ρ1) (b : Off is σ1 ρ1 σ2 ρ2) : Off is σ ρ σ2 ρ2 :=
  ⟨b.1.trans a.1, fun j h => ⟨(b.2 j h).1.trans (a.2 j h).1, (b.2 j h).2.trans (a.2 j h).2⟩⟩
section
variable {T : Cs} {G H : Hp} {σ : L2.St} {ρ ρ' : En} {d : D} {v : V}
theorem set_dat {i : Nat} (k : Ok T G H σ ρ) (r : Rep T G d v) (hi : i < ρ.length) : Ok T G H (σ.set i (some v)) (ρ.set i (some (.dat d))) ∧ Off [i] σ ρ (σ.set i (some v)) (ρ.set i (some (.dat d))) ∧ ∀ a, Owns (σ.set i (some v)) (ρ.set i (some (.dat d))) a → Owns σ ρ a := by
  obtain ⟨_, k2⟩ := set_ok (np := 0) (Nk.refl G H σ ρ) k (o := .dat d) (v := v) ⟨r, Fresh.dat⟩ hi (fun z => absurd z.1 (Nat.not_lt_zero _))
  refine ⟨k2, ⟨List.length_set .., fun j h => ?_⟩, fun a h => ?_⟩
  · have e : i ≠ j := fun z => h (by rw [z]; exact List.mem_singleton_self _)
    rw [List.getElem?_set_ne e, List.getElem?_set_ne e]
    exact ⟨rfl, rfl⟩
  · rcases Owns_set h with ⟨p, _⟩ | ⟨j, o', _, h1, h2, h3⟩
    · cases p
    · exact ⟨j, o', h1, h2, h3⟩
theorem setAll_ok : ∀ {is : List Nat} {ds : List D} {vs : List V} {σ : L2.St} {ρ ρ' : En}, Ok T G H σ ρ → RepL T G ds vs → setAll is ds ρ = some ρ' →
    ∃ σ', Ok T G H σ' ρ' ∧ Off is σ ρ σ' ρ' ∧ (∀ a, Owns σ' ρ' a → Owns σ ρ a) ∧ ∀ Q : L2.St → Hp → Prop, Q σ' H → (is.foldr (fun i t => gCons (gName i) t) gNil) vs σ H Q
  | [], [], vs, σ, ρ, ρ', k, r, e => by
    cases e
    obtain rfl : vs = [] := r
    exact ⟨σ, k, Off.refl .., fun _ h => h, fun Q q => ⟨rfl, q⟩⟩
  | [], d :: ds, vs, σ, ρ, ρ', k, r, e => by cases e
  | i :: is, [], vs, σ, ρ, ρ', k, r, e => by cases e
  | i :: is, d :: ds, vs, σ, ρ, ρ', k, r, e => by
    obtain ⟨v, w, rfl, h1, h2⟩ := r
    have e' : (if i < ρ.length then setAll is ds (ρ.set i (some (.dat d))) else none) = some ρ' := e
    by_cases hi : i < ρ.length
    · rw [if_pos hi] at e'
      obtain ⟨k1, f1, o1⟩ := set_dat k h1 hi
      obtain ⟨σ', k2, f2, o2, q2⟩ := setAll_ok k1 h2 e'
      refine ⟨σ', k2, ⟨f2.1.trans f1.1, fun j h => ?_⟩, fun a h => o1 a (o2 a h), fun Q q => ⟨v, w, rfl, q2 Q q⟩⟩
      have n1 : j ∉ [i] := fun z => h (by rw [List.mem_singleton.mp z]; exact List.mem_cons_self)
      have n2 : j ∉ is := fun z => h (List.mem_cons_of_mem _ z)
      exact ⟨(f2.2 j n2).1.trans (f1.2 j n1).1, (f2.2 j n2).2.trans (f1.2 j n1).2⟩
    · rw [if_neg hi] at e'
      cases e'
theorem setAll_len0 : ∀ {is : List Nat} {ds : List D} {ρ ρ' : En}, setAll is ds ρ = some ρ' → ds.length = is.length
  | [], [], _, _, _ => rfl
  | [], _ :: _, _, _, e => by cases e
  | _ :: _, [], _, _, e => by cases e
  | i :: is, d :: ds, ρ, ρ', e => by
    have e' : (if i < ρ.length then setAll is ds (ρ.set i (some (O.dat d))) else none) = some ρ' := e
    split at e'
    · rw [List.length_cons, List.length_cons, setAll_len0 e']
    · cases e'
def gItem (K : PySem.W.Frag) : Sum Nat (List Nat) → TG
  | .inl i => gName i
  | .inr js => gTup K js.length (js.foldr (fun i t => gCons (gName i) t) gNil)
def slItem : Sum Nat (List Nat) → List Nat
  | .inl i => [i]
  | .inr js => js
theorem setG_ok : ∀ {ts : List (Sum Nat (List Nat))} {ds : List D} {vs : List V} {σ : L2.St} {ρ ρ' : En}, Ok T G H σ ρ → RepL T G ds vs → setG ts ds ρ = some ρ' →
    ds.length = ts.length ∧ ∃ σ', Ok T G H σ' ρ' ∧ Off (ts.flatMap slItem) σ ρ σ' ρ' ∧ (∀ a, Owns σ' ρ' a → Owns σ ρ a) ∧ ∀ Q : L2.St → Hp → Prop, Q σ' H → (ts.foldr (fun z t => gCons (gItem T.K z) t) gNil) vs σ H Q
  | [], [], vs, σ, ρ, ρ', k, r, e => by
    cases e
    obtain rfl : vs = [] := r
    exact ⟨rfl, σ, k, Off.refl .., fun _ h => h, fun Q q => ⟨rfl, q⟩⟩
  | [], d :: ds, vs, σ, ρ, ρ', k, r, e => by cases e
  | .inl i :: ts, [], vs, σ, ρ, ρ', k, r, e => by cases e
  | .inr js :: ts, [], vs, σ, ρ, ρ', k, r, e => by cases e
  | .inl i :: ts, d :: ds, vs, σ, ρ, ρ', k, r, e => by
    obtain ⟨v, w, rfl, h1, h2⟩ := r
    have e' : (if i < ρ.length then setG ts ds (ρ.set i (some (.dat d))) else none) = some ρ' := e
    by_cases hi : i < ρ.length
    · rw [if_pos hi] at e'
      obtain ⟨k1, f1, o1⟩ := set_dat k h1 hi
      obtain ⟨hl, σ', k2, f2, o2, q2⟩ := setG_ok k1 h2 e'
      refine ⟨congrArg Nat.succ hl, σ', k2, ⟨f2.1.trans f1.1, fun j h => ?_⟩, fun a h => o1 a (o2 a h), fun Q q => ⟨v, w, rfl, q2 Q q⟩⟩
      rw [List.flatMap_cons, List.mem_append] at h
      have n1 : j ∉ [i] := fun z => h (.inl z)
      have n2 : j ∉ ts.flatMap slItem := fun z => h (.inr z)
      exact ⟨(f2.2 j n2).1.trans (f1.2 j n1).1, (f2.2 j n2).2.trans (f1.2 j n1).2⟩
    · rw [if_neg hi] at e'
      cases e'
  | .inr js :: ts, d :: ds, vs, σ, ρ, ρ', k, r, e => by
    obtain ⟨v, w, rfl, h1, h2⟩ := r
    cases d with
    | tup es =>
      have e' : (match setAll js es ρ with
        | some ρ1 => setG ts ds ρ1
        | none => none) = some ρ' := e
      split at e'
      case h_2 => cases e'
      rename_i ρ1 he
      obtain ⟨a, xs, rfl, g1, g2⟩ := h1
      obtain ⟨σ1, k1, f1, o1, q1⟩ := setAll_ok k g2 he
      obtain ⟨hl, σ', k2, f2, o2, q2⟩ := setG_ok k1 h2 e'
      refine ⟨congrArg Nat.succ hl, σ', k2, ⟨f2.1.trans f1.1, fun j h => ?_⟩, fun a h => o1 a (o2 a h), fun Q q => ⟨.ref a, w, rfl, a, xs, rfl, ex_t k.sub g1, by rw [g2.length, setAll_len0 he], q1 _ (q2 Q q)⟩⟩
      rw [List.flatMap_cons, List.mem_append] at h
      have n1 : j ∉ js := fun z => h (.inl z)
      have n2 : j ∉ ts.flatMap slItem := fun z => h (.inr z)
      exact ⟨(f2.2 j n2).1.trans (f1.2 j n1).1, (f2.2 j n2).2.trans (f1.2 j n1).2⟩
    | _ => cases e
/-- the rule for a target, and what it does to the variables -/
def TgOk (K : PySem.W.Frag) : Tg → TG
  | .n i => gName i
  | .t is => gTup K is.length (is.foldr (fun i t => gCons (gName i) t) gNil)
  | .g ts => gTup K ts.length (ts.foldr (fun z t => gCons (gItem K z) t) gNil)
theorem tg_ok {t : Tg} (k : Ok T G H σ ρ) (r : Rep T G d v) (e : t.set d ρ = some ρ') :
    ∃ σ', Ok T G H σ' ρ' ∧ Off t.sl σ ρ σ' ρ' ∧ (∀ a, Owns σ' ρ' a → Owns σ ρ a) ∧ ∀ Q : L2.St → Hp → Prop, Q σ' H → TgOk T.K t v σ H Q := by
  cases t with
  | n i =>
    have e' : (if i < ρ.length then some (ρ.set i (some (O.dat d))) else none) = some ρ' := e
    by_cases hi : i < ρ.length
    · rw [if_pos hi] at e'
      cases e'
      obtain ⟨k1, f1, o1⟩ := set_dat k r hi
      exact ⟨_, k1, f1, o1, fun Q q => q⟩
    · rw [if_neg hi] at e'
      cases e'
  | t is =>
    cases d with
    | tup ds =>
      obtain ⟨a, xs, rfl, h1, h2⟩ := r
      have e' : setAll is ds ρ = some ρ' := e
      obtain ⟨σ', k1, f1, o1, q1⟩ := setAll_ok k h2 e'
      have hl : ds.length = is.length := by
        have : ∀ {is : List Nat} {ds : List D} {ρ ρ' : En}, setAll is ds ρ = some ρ' → ds.length = is.length := by
          intro is
          induction is with
          | nil =>
            intro ds ρ ρ' e
            cases ds with
            | nil => rfl
            | cons d ds => cases e
          | cons i is ih =>
            intro ds ρ ρ' e
            cases ds with
            | nil => cases e
            | cons d ds =>
              have e' : (if i < ρ.length then setAll is ds (ρ.set i (some (O.dat d))) else none) = some ρ' := e
              split at e'
              · rw [List.length_cons, List.length_cons, ih e']
              · cases e'
        exact this e'
      refine ⟨σ', k1, f1, o1, fun Q q => ⟨a, xs, rfl, ex_t k.sub h1, by rw [h2.length, hl], q1 Q q⟩⟩
    | _ => cases e
  | g ts =>
    cases d with
    | tup ds =>
      obtain ⟨a, xs, rfl, h1, h2⟩ := r
      have e' : setG ts ds ρ = some ρ' := e
      obtain ⟨hl, σ', k1, f1, o1, q1⟩ := setG_ok k h2 e'
      have es : (Tg.g ts).sl = ts.flatMap slItem := by
        show (ts.flatMap fun z => match z with
          | .inl i => [i]
          | .inr js => js) = _
        congr 1
      rw [es]
      exact ⟨σ', k1, f1, o1, fun Q q => ⟨a, xs, rfl, ex_t k.sub h1, by rw [h2.length, hl], q1 Q q⟩⟩
    | _ => cases e
end
theorem pgs_names {X : Cx} (hN : X.N.Nodup) : ∀ {xs : List (Str × Pos)} {is : List Nat}, xs.length = is.length → (∀ (j : Nat) (x : Str × Pos) (i : Nat), xs[j]? = some x → is[j]? = some i → X.N[i]? = some x.1 ∧ Loc X.env.scope x.1 ∧ (X.fn x.1 = true ∨ X.env.scope.names.lookup x.1 = some .local)) →
    PGs X (xs.map fun x => Expr.Name x.1 x.2) (is.foldr (fun i t => gCons (gName i) t) gNil)
  | [], [], _, _ => pgs_nil
  | x :: xs, [], h, _ => by cases h
  | [], i :: is, h, _ => by cases h
  | x :: xs, i :: is, h, hx => by
    obtain ⟨h1, h2, h3⟩ := hx 0 x i rfl rfl
    exact pgs_cons (pg_name hN h1 h2 h3) (pgs_names hN (by simpa using h) fun j y k e1 e2 => hx (j + 1) y k (by simpa using e1) (by simpa using e2)) (by rfl)

/-! ### what is walked -/
/-- J walks the items ds, over G and H and all that comes of them -/
def Src (T : Cs) (J : It) (ds : List D) (G H : Hp) : Prop := ∀ G' H' : Hp, Ex G G' → Ex G' H' →
  (∀ (i : Nat) (d : D), ds[i]? = some d → J.go i H' ∧ ∀ x H2, J.yld i H' x H2 → ∃ G2, Ex G' G2 ∧ Ex H' H2 ∧ Ex G2 H2 ∧ (∀ a, G' a = none → G2 a ≠ none → H' a = none) ∧ Rep T G2 d x) ∧ J.stop ds.length H'
def rI : RelT (List D) It := fun T _ _ _ G H ds J => Src T J ds G H
theorem rI_back : Back rI := fun _ _ _ _ _ _ _ _ _ _ h => h
section
variable (cl : Nms) (X : Cx) (W : WX)
abbrev EI (tg e : Expr) (m : M (List D)) : Prop := PI X tg e (tX rI (csX X cl) W m)
end
theorem _root_.L2.PI.imp {X : Cx} {tg e : Expr} {t t' : TI} (h : PI X tg e t) (i : ∀ σ H R, t' σ H R → t σ H R) : PI X tg e t' := ⟨fun pins s σ H R I hw => h.run pins s σ H R I (i σ H R hw)⟩
theorem src_list {T : Cs} {G H : Hp} {a : Addr} {xs : List V} {ds : List D} (h : SqL T.K G a xs) (r : RepL T G ds xs) : Src T (Itl T.K a) ds G H := fun G' H' e1 e2 => by
  have q : SqL T.K H' a xs := ex_l e2 (ex_l e1 h)
  refine ⟨fun i d hd => ?_, ⟨xs, q, by rw [r.length]; exact Nat.le_refl _⟩⟩
  obtain ⟨v, h1, h2⟩ := r.get hd
  refine ⟨⟨xs, v, q, h1⟩, fun x H2 y => ?_⟩
  obtain ⟨y1, y2⟩ := y
  subst y1
  have e : some v = some x := h1.symm.trans (y2 xs q)
  cases e
  exact ⟨G', Ex.refl _, Ex.refl _, e2, fun a h h' => absurd h h', Rep.mono e1 d v h2⟩
theorem src_tup {T : Cs} {G H : Hp} {a : Addr} {xs : List V} {ds : List D} (h : SqT T.K G a xs) (r : RepL T G ds xs) : Src T (Itt T.K a) ds G H := fun G' H' e1 e2 => by
  have q : SqT T.K H' a xs := ex_t e2 (ex_t e1 h)
  refine ⟨fun i d hd => ?_, ⟨xs, q, by rw [r.length]; exact Nat.le_refl _⟩⟩
  obtain ⟨v, h1, h2⟩ := r.get hd
  refine ⟨⟨xs, v, q, h1⟩, fun x H2 y => ?_⟩
  obtain ⟨y1, y2⟩ := y
  subst y1
  have e : some v = some x := h1.symm.trans (y2 xs q)
  cases e
  exact ⟨G', Ex.refl _, Ex.refl _, e2, fun a h h' => absurd h h', Rep.mono e1 d v h2⟩
def rangeD (lo : Int) (n : Nat) : List D := (List.range n).map fun (k : Nat) => D.int (lo + (k : Int))
theorem src_range {T : Cs} {G H : Hp} {lo : Int} {n : Nat} : Src T (Itr lo n) (rangeD lo n) G H := fun G' H' e1 e2 => by
  refine ⟨fun i d hd => ?_, by show n ≤ (rangeD lo n).length; unfold rangeD; rw [List.length_map, List.length_range]; exact Nat.le_refl _⟩
  unfold rangeD at hd
  rw [List.getElem?_map] at hd
  cases q : (List.range n)[i]? with
  | none =>
    rw [q] at hd
    cases hd
  | some k =>
    rw [q] at hd
    cases hd
    obtain ⟨hl, e⟩ := List.getElem?_eq_some_iff.mp q
    have ek : i = k := by simpa using e
    subst ek
    refine ⟨by have z := hl; simp at z; exact z, fun x H2 y => ?_⟩
    obtain ⟨y1, y2⟩ := y
    subst y1
    subst y2
    exact ⟨G', Ex.refl _, Ex.refl _, e2, fun a h h' => absurd h h', rfl⟩
section
variable {cl : Nms} {X : Cx} {W : WX} {tg e a b : Expr} {p pos : Pos}
/-- a list or tuple is walked, as it is shared -/
def iSeq (m : M D) : M (List D) := M.bind m fun d => match d with
  | .lst ds => M.ret ds
  | .ro ds => M.ret ds
  | _ => M.stuck
def iTp (m : M D) : M (List D) := M.bind m fun d => match d with
  | .tup ds => M.ret ds
  | _ => M.stuck
theorem EI.by {m : M (List D)} {t : TI} (h : PI X tg e t) (i : ∀ G ρ σ H Q, Ok (csX X cl) G H σ ρ → At rI (csX X cl) W m G ρ σ H Q → t σ H Q) : EI cl X W tg e m := h.imp fun σ H Q ⟨G, ρ, k, a⟩ => i G ρ σ H Q k a
theorem ei_list {m : M D} (h : ED cl X W e m) : EI cl X W tg e (iSeq m) := EI.by (pi_list h) fun G ρ σ H Q k x => at_tX k (At.bind (Ra := rD) rI_back x fun d ρ1 v G1 H1 n1 k1 r1 a1 => by
  cases d with
  | lst ds =>
    obtain ⟨a, xs, rfl, h1, h2⟩ := r1
    exact ⟨a, rfl, ⟨xs, SqL.of (k1.sub _ _ h1)⟩, a1.ret k1 (src_list (SqL.of h1) h2)⟩
  | ro ds =>
    obtain ⟨a, xs, rfl, h1, h2⟩ := r1
    exact ⟨a, rfl, ⟨xs, ex_l k1.sub h1⟩, a1.ret k1 (src_list h1 h2)⟩
  | _ =>
    obtain ⟨r, ρ', e, _⟩ := a1
    cases e)
theorem ei_tup {m : M D} (h : ED cl X W e m) : EI cl X W tg e (iTp m) := EI.by (pi_tup h) fun G ρ σ H Q k x => at_tX k (At.bind (Ra := rD) rI_back x fun d ρ1 v G1 H1 n1 k1 r1 a1 => by
  cases d with
  | tup ds =>
    obtain ⟨a, xs, rfl, h1, h2⟩ := r1
    exact ⟨a, rfl, ⟨xs, ex_t k1.sub h1⟩, a1.ret k1 (src_tup h1 h2)⟩
  | _ =>
    obtain ⟨r, ρ', e, _⟩ := a1
    cases e)
def iRange1 (as : M (List Rf)) : M (List D) := M.bind as fun rs => M.bind (getL rs) fun ds => match ds with
  | [.int j] => M.bind (M.chk (decide (-1000000000 ≤ j ∧ j ≤ 1000000000))) fun _ => M.ret (rangeD 0 j.toNat)
  | _ => M.stuck
def iRange2 (as : M (List Rf)) : M (List D) := M.bind as fun rs => M.bind (getL rs) fun ds => match ds with
  | [.int i, .int j] => M.bind (M.chk (decide (-1000000000 ≤ i ∧ i ≤ 1000000000 ∧ -1000000000 ≤ j ∧ j ≤ 1000000000))) fun _ => M.ret (rangeD i (j - i).toNat)
  | _ => M.stuck
theorem ei_range1 {as : M (List Rf)} (hg : Gl X "range") (hm : X.mg "range" = none) (ha : EA cl X W [a] as) (hs : starEach [a] X.env = [(false, eval a X.env)] := by rfl) : EI cl X W tg (.Call (.Name "range" p) [a] [] pos) (iRange1 as) :=
  EI.by (pi_range1 hg hm ha hs) fun G ρ σ H Q k x => at_tX k (At.bind (Ra := rA) rI_back x fun rs ρ1 vs G1 H1 n1 k1 r1 a1 => by
    obtain ⟨ds, q, a2⟩ := At.getL a1 k1 r1
    split at a2
    · obtain ⟨v, rfl, q1⟩ := q.one
      obtain rfl := q1.int
      obtain ⟨c, a3⟩ := a2.chk
      obtain ⟨c1, c2⟩ := of_decide_eq_true c
      exact ⟨_, rfl, by omega, by omega, a3.ret k1 src_range⟩
    · obtain ⟨r, ρ', e, _⟩ := a2
      cases e)
theorem ei_range2 {as : M (List Rf)} (hg : Gl X "range") (hm : X.mg "range" = none) (ha : EA cl X W [a, b] as) (hs : starEach [a, b] X.env = [(false, eval a X.env), (false, eval b X.env)] := by rfl) (hs2 : starEach [b] X.env = [(false, eval b X.env)] := by rfl) :
    EI cl X W tg (.Call (.Name "range" p) [a, b] [] pos) (iRange2 as) :=
  EI.by (pi_range2 hg hm ha hs hs2) fun G ρ σ H Q k x => at_tX k (At.bind (Ra := rA) rI_back x fun rs ρ1 vs G1 H1 n1 k1 r1 a1 => by
    obtain ⟨ds, q, a2⟩ := At.getL a1 k1 r1
    split at a2
    · obtain ⟨v, w, rfl, q1, q2⟩ := q.two
      obtain rfl := q1.int
      obtain rfl := q2.int
      obtain ⟨c, a3⟩ := a2.chk
      obtain ⟨c1, c2, c3, c4⟩ := of_decide_eq_true c
      exact ⟨_, _, rfl, ⟨by omega, by omega, by omega, by omega⟩, a3.ret k1 src_range⟩
    · obtain ⟨r, ρ', e, _⟩ := a2
      cases e)
end
end Fn

set_option maxRecDepth 100000
set_option maxHeartbeats 4000000
namespace Fn
open PySem PySem.Spec PyProof.Rows L2

/-! ### a comprehension -/
def wipeE (ρ : En) : List Nat → En
  | [] => ρ
  | v :: vs => (wipeE ρ vs).set v none
def restE (ρ ρ' : En) : List Nat → En
  | [] => ρ'
  | v :: vs => match ρ[v]? with
    | some x => (restE ρ ρ' vs).set v x
    | none => restE ρ ρ' vs
theorem wipeE_length (ρ : En) : ∀ vs, (wipeE ρ vs).length = ρ.length
  | [] => rfl
  | v :: vs => by
    show ((wipeE ρ vs).set v none).length = _
    rw [List.length_set, wipeE_length ρ vs]
theorem wipeE_off {ρ : En} {j : Nat} : ∀ {vs : List Nat}, j ∉ vs → (wipeE ρ vs)[j]? = ρ[j]?
  | [], _ => rfl
  | v :: vs, h => by
    have ne : v ≠ j := fun z => h (by rw [z]; exact List.mem_cons_self)
    show ((wipeE ρ vs).set v none)[j]? = _
    rw [List.getElem?_set_ne ne, wipeE_off fun z => h (List.mem_cons_of_mem _ z)]
theorem wipeE_on {ρ : En} {j : Nat} {o : O} : ∀ {vs : List Nat}, j ∈ vs → (wipeE ρ vs)[j]? ≠ some (some o)
  | v :: vs, h => by
    show ((wipeE ρ vs).set v none)[j]? ≠ _
    by_cases e : v = j
    · subst e
      by_cases hl : v < (wipeE ρ vs).length
      · rw [List.getElem?_set_self hl]
        intro z
        cases z
      · rw [List.getElem?_eq_none (by rw [List.length_set]; omega)]
        intro z
        cases z
    · rw [List.getElem?_set_ne e]
      exact wipeE_on (by simpa [Ne.symm e] using h)
theorem wipe_off {σ : L2.St} {j : Nat} : ∀ {vs : List Nat}, j ∉ vs → (wipe σ vs)[j]? = σ[j]?
  | [], _ => rfl
  | v :: vs, h => by
    have ne : v ≠ j := fun z => h (by rw [z]; exact List.mem_cons_self)
    show ((wipe σ vs).set v none)[j]? = _
    rw [List.getElem?_set_ne ne, wipe_off fun z => h (List.mem_cons_of_mem _ z)]
theorem wipe_on {σ : L2.St} {j : Nat} : ∀ {vs : List Nat}, j ∈ vs → j < σ.length → (wipe σ vs)[j]? = some none
  | v :: vs, h, hl => by
    show ((wipe σ vs).set v none)[j]? = _
    by_cases e : v = j
    · subst e
      rw [List.getElem?_set_self (by rw [wipe_length]; exact hl)]
    · rw [List.getElem?_set_ne e]
      exact wipe_on (by simpa [Ne.symm e] using h) hl
theorem wipe_same {σ σ' : L2.St} {vs : List Nat} (hl : σ'.length = σ.length) (h : ∀ j : Nat, j ∉ vs → σ'[j]? = σ[j]?) : wipe σ' vs = wipe σ vs := by
  apply List.ext_getElem?
  intro j
  by_cases hj : j ∈ vs
  · by_cases hb : j < σ.length
    · rw [wipe_on hj hb, wipe_on hj (by rw [hl]; exact hb)]
    · rw [List.getElem?_eq_none (by rw [wipe_length]; omega), List.getElem?_eq_none (by rw [wipe_length]; omega)]
  · rw [wipe_off hj, wipe_off hj, h j hj]
theorem wipe_idem {σ : L2.St} {vs : List Nat} : wipe (wipe σ vs) vs = wipe σ vs := wipe_same (wipe_length ..) fun j h => wipe_off h
theorem restE_length {ρ ρ' : En} : ∀ vs, (restE ρ ρ' vs).length = ρ'.length
  | [] => rfl
  | v :: vs => by
    unfold restE
    split
    · rw [List.length_set, restE_length vs]
    · exact restE_length vs
theorem restE_off {ρ ρ' : En} {j : Nat} : ∀ {vs : List Nat}, j ∉ vs → (restE ρ ρ' vs)[j]? = ρ'[j]?
  | [], _ => rfl
  | v :: vs, h => by
    have ne : v ≠ j := fun z => h (by rw [z]; exact List.mem_cons_self)
    unfold restE
    split
    · rw [List.getElem?_set_ne ne, restE_off fun z => h (List.mem_cons_of_mem _ z)]
    · exact restE_off fun z => h (List.mem_cons_of_mem _ z)
theorem restE_on {ρ ρ' : En} {j : Nat} (hl : ρ'.length = ρ.length) : ∀ {vs : List Nat}, j ∈ vs → (restE ρ ρ' vs)[j]? = ρ[j]?
  | v :: vs, h => by
    unfold restE
    by_cases e : v = j
    · subst e
      split
      · rename_i x hx
        have hb : v < ρ.length := (List.getElem?_eq_some_iff.mp hx).1
        rw [List.getElem?_set_self (by rw [restE_length, hl]; exact hb), hx]
      · rename_i hx
        have hb : ρ.length ≤ v := List.getElem?_eq_none_iff.mp hx
        rw [hx, List.getElem?_eq_none (by rw [restE_length, hl]; exact hb)]
    · have hm : j ∈ vs := by simpa [Ne.symm e] using h
      split
      · rw [List.getElem?_set_ne e, restE_on hl hm]
      · exact restE_on hl hm
def compGo (vs : List Nat) (t : Tg) (tt : M Bool) (elt : M D) : List D → List D → M (List D)
  | [], acc => M.ret acc
  | d :: ds, acc => fun ρ => match t.set d ρ with
    | none => none
    | some ρ1 => match tt ρ1 with
      | some (.ok true, ρ2) => match elt ρ2 with
        | some (.ok x, ρ3) => if acc.length < lim then compGo vs t tt elt ds (acc ++ [x]) (wipeE ρ3 vs) else none
        | _ => none
      | some (.ok false, ρ2) => compGo vs t tt elt ds acc (wipeE ρ2 vs)
      | _ => none
def eComp (vs : List Nat) (t : Tg) (src : M (List D)) (tt : M Bool) (elt : M D) : M O := M.bind src fun ds ρ => match compGo vs t tt elt ds [] (wipeE ρ vs) with
  | some (.ok acc, ρ') => if ρ'.length = ρ.length then some (.ok (.lst acc), restE ρ ρ' vs) else none
  | _ => none
def W0 : WX := fun _ _ _ _ => False

section
variable {T : Cs} {G H G1 H1 : Hp} {σ : L2.St} {ρ ρ1 : En} {vs : List Nat}
/-- the variables without those at vs -/
theorem Ok.wipe (k : Ok T G H σ ρ) : Ok T G H (L2.wipe σ vs) (wipeE ρ vs) ∧ ∀ a, Owns (L2.wipe σ vs) (wipeE ρ vs) a → Owns σ ρ a := by
  have off : ∀ {j : Nat} {o : O}, (wipeE ρ vs)[j]? = some (some o) → j ∉ vs ∧ ρ[j]? = some (some o) := fun {j o} h => by
    by_cases hj : j ∈ vs
    · exact absurd h (wipeE_on hj)
    · rw [wipeE_off hj] at h
      exact ⟨hj, h⟩
  refine ⟨⟨k.sub, by rw [wipeE_length, wipe_length]; exact k.len, fun j o h => ?_, fun j j' o o' a h1 h2 p1 p2 s1 s2 => ?_⟩, fun a ⟨j, o, h1, h2, h3⟩ => ?_⟩
  · obtain ⟨hj, h'⟩ := off h
    obtain ⟨v, h1, h2⟩ := k.rep j o h'
    exact ⟨v, by rw [wipe_off hj]; exact h1, h2⟩
  · obtain ⟨hj, h1'⟩ := off h1
    obtain ⟨hj', h2'⟩ := off h2
    rw [wipe_off hj] at s1
    rw [wipe_off hj'] at s2
    exact k.dis j j' o o' a h1' h2' p1 p2 s1 s2
  · obtain ⟨hj, h1'⟩ := off h1
    rw [wipe_off hj] at h3
    exact ⟨j, o, h1', h2, h3⟩
/-- behind the comprehension -/
theorem Ok.unwipe (k : Ok T G H σ ρ) (k1 : Ok T G1 H1 (L2.wipe σ vs) ρ1) (n : Nx G H (Owns (L2.wipe σ vs) (wipeE ρ vs)) G1 H1 (Owns (L2.wipe σ vs) ρ1)) (hk : ∀ j : Nat, j ∉ vs → kd ρ1[j]? = kd ρ[j]?) (hl : ρ1.length = ρ.length) :
    Nk G H σ ρ G1 H1 (restE ρ ρ1 vs) ∧ Ok T G1 H1 σ (restE ρ ρ1 vs) := by
  obtain ⟨_, up⟩ := k.wipe (vs := vs)
  have alive : ∀ a, Owns σ ρ a → H a ≠ none := fun a ⟨i, o, h1, h2, h3⟩ z => by
    obtain ⟨b, u, e1, e2, _⟩ := (k.at_ h1 h3).there h2
    cases e1
    rw [e2] at z
    cases z
  -- what a wiped variable owns the block does not
  have apart : ∀ {j : Nat} {o : O} {a : Addr}, j ∈ vs → ρ[j]? = some (some o) → o.own = true → σ[j]? = some (some (.ref a)) → ¬ Owns (L2.wipe σ vs) (wipeE ρ vs) a := fun {j o a} hj h1 p s1 ⟨i, o', h2, p', s2⟩ => by
    by_cases hi : i ∈ vs
    · exact wipeE_on hi h2
    · rw [wipeE_off hi] at h2
      rw [wipe_off hi] at s2
      have e := k.dis j i o o' a h1 h2 p p' s1 s2
      rw [e] at hj
      exact hi hj
  have ownsIn : ∀ a, Owns σ (restE ρ ρ1 vs) a → Owns σ ρ a ∨ H a = none := fun a ⟨j, o, h1, h2, h3⟩ => by
    by_cases hj : j ∈ vs
    · rw [restE_on hl hj] at h1
      exact .inl ⟨j, o, h1, h2, h3⟩
    · rw [restE_off hj] at h1
      rcases n.own a ⟨j, o, h1, h2, by rw [wipe_off hj]; exact h3⟩ with z | z
      · exact .inl (up a z)
      · exact .inr z
  refine ⟨⟨⟨n.g, fun a h1 h2 => (n.new a h1 h2).imp id (up a), fun a o h1 h2 => n.keep a o h1 fun z => h2 (up a z), n.there, ownsIn⟩, fun j => ?_⟩, ⟨k1.sub, ?_, fun j o h => ?_, fun j j' o o' a h1 h2 p1 p2 s1 s2 => ?_⟩⟩
  · by_cases hj : j ∈ vs
    · rw [restE_on hl hj]
    · rw [restE_off hj]
      exact hk j hj
  · rw [restE_length, hl]
    exact k.len
  · by_cases hj : j ∈ vs
    · rw [restE_on hl hj] at h
      obtain ⟨v, h1, h2⟩ := k.rep j o h
      exact ⟨v, h1, h2.keep n fun p a e => by
        subst e
        exact apart hj h p h1⟩
    · rw [restE_off hj] at h
      obtain ⟨v, h1, h2⟩ := k1.rep j o h
      rw [wipe_off hj] at h1
      exact ⟨v, h1, h2⟩
  · have mixed : ∀ {j j' : Nat} {o o' : O} {a : Addr}, j ∈ vs → j' ∉ vs → ρ[j]? = some (some o) → o.own = true → σ[j]? = some (some (.ref a)) → ρ1[j']? = some (some o') → o'.own = true → σ[j']? = some (some (.ref a)) → False := fun {j j' o o' a} hj hj' h1 p1 s1 h2 p2 s2 => by
      rcases n.own a ⟨j', o', h2, p2, by rw [wipe_off hj']; exact s2⟩ with z | z
      · exact apart hj h1 p1 s1 z
      · exact alive a ⟨j, o, h1, p1, s1⟩ z
    by_cases hj : j ∈ vs
    · rw [restE_on hl hj] at h1
      by_cases hj' : j' ∈ vs
      · rw [restE_on hl hj'] at h2
        exact k.dis j j' o o' a h1 h2 p1 p2 s1 s2
      · rw [restE_off hj'] at h2
        exact (mixed hj hj' h1 p1 s1 h2 p2 s2).elim
    · rw [restE_off hj] at h1
      by_cases hj' : j' ∈ vs
      · rw [restE_on hl hj'] at h2
        exact (mixed hj' hj h2 p2 s2 h1 p1 s1).elim
      · rw [restE_off hj'] at h2
        exact k1.dis j j' o o' a h1 h2 p1 p2 (by rw [wipe_off hj]; exact s1) (by rw [wipe_off hj']; exact s2)
end
end Fn

set_option maxRecDepth 100000
set_option maxHeartbeats 4000000
namespace Fn
open PySem PySem.Spec PyProof.Rows L2

section
variable {T : Cs} {G H G1 H1 : Hp} {σ : L2.St} {ρ ρ1 : En}
theorem Nx.less {S S' : Addr → Prop} (h : ∀ a, S' a → S a) : Nx G H S G H S' := ⟨Ex.refl _, fun _ a b => absurd a b, fun _ _ a _ => a, fun _ a => a, fun a z => .inl (h a z)⟩
/-- the heaps grow -/
theorem grow_ok (k : Ok T G H σ ρ) (eg : Ex G G1) (eh : Ex H H1) (es : Ex G1 H1) (new : ∀ a, G a = none → G1 a ≠ none → H a = none) : Nk G H σ ρ G1 H1 ρ ∧ Ok T G1 H1 σ ρ := by
  have th : ∀ a, H1 a = none → H a = none := fun a h => by
    cases q : H a with
    | none => rfl
    | some o =>
      rw [eh a o q] at h
      cases h
  have n : ∀ S, Nx G H S G1 H1 S := fun S => ⟨eg, fun a h1 h2 => .inl (new a h1 h2), fun a o h _ => eh a o h, th, fun _ h => .inl h⟩
  refine ⟨⟨n _, fun _ => rfl⟩, ⟨es, k.len, fun i o h => ?_, k.dis⟩⟩
  obtain ⟨v, h1, h2⟩ := k.rep i o h
  exact ⟨v, h1, h2.keep (n fun _ => False) fun _ _ _ z => z⟩
/-- an object that nobody has is changed -/
theorem tmp_ok {p : Addr} {o u : HO} (k : Ok T G H σ ρ) (gp : G p = none) (hp : H p = some u) (np : ¬ Owns σ ρ p) : Ok T G (upd H p o) σ ρ := by
  refine ⟨fun a w h => ?_, k.len, fun i w h => ?_, k.dis⟩
  · rw [upd_ne (ne_of_none h gp)]
    exact k.sub a w h
  · obtain ⟨v, h1, h2⟩ := k.rep i w h
    refine ⟨v, h1, h2.keep (S := fun a => a = p) (S1 := fun a => a = p) ⟨Ex.refl _, fun a h1 h2 => absurd h1 h2, fun a o h1 h2 => by rw [upd_ne h2]; exact h1, fun a h1 => by
        by_cases q : a = p
        · rw [q, upd_same] at h1
          cases h1
        · rw [upd_ne q] at h1
          exact h1, fun a h => .inl h⟩ fun q a ea z => ?_⟩
    subst ea
    subst z
    exact np ⟨i, w, h, q, h1⟩
/-- .. seen from where it was not there -/
theorem Nx.tmp {S S1 : Addr → Prop} {p : Addr} {o u : HO} (n : Nx G H S G1 H1 S1) (h0 : H p = none) (hp : H1 p = some u) : Nx G H S G1 (upd H1 p o) S1 := by
  refine ⟨n.g, n.new, fun a w h h' => ?_, fun a h => ?_, n.own⟩
  · rw [upd_ne (ne_of_none h h0)]
    exact n.keep a w h h'
  · by_cases q : a = p
    · rw [q]
      exact h0
    · rw [upd_ne q] at h
      exact n.there a h
end
section
variable {cl : Nms} {X : Cx} {W : WX}
theorem comp_core {K : PySem.W.Frag} {P0 : Program} {w0 : World} {G H : Hp} {σ : L2.St} {ρ : En} {Q : VK} {vs : List Nat} {t : Tg} {src : M (List D)} {ttm : M Bool} {em : M D} (k : Ok ⟨K, cl, P0, w0⟩ G H σ ρ) (a : At rO ⟨K, cl, P0, w0⟩ W (eComp vs t src ttm em) G ρ σ H Q) (hsl : ∀ i ∈ t.sl, i ∈ vs) :
    tLc (tX rI ⟨K, cl, P0, w0⟩ W src) (TgOk K t) (tX rB ⟨K, cl, P0, w0⟩ W0 ttm) (tX rD ⟨K, cl, P0, w0⟩ W0 em) vs σ H Q := by
  refine at_tX k (At.bind (Ra := rI) rO_back a fun ds ρ1 J G1 H1 n1 k1 hsrc a1 => fun D hD => ?_)
  obtain ⟨r, ρ', e, oo⟩ := a1
  dsimp only at e
  split at e
  case h_2 => cases e
  rename_i fin ρ2 hgo
  split at e
  case isFalse => cases e
  rename_i hlen
  cases e
  obtain ⟨kw, up⟩ := k1.wipe (vs := vs)
  let St : Nat → Hp → Prop := fun i H' => ∃ G' ρi acc xs, compGo vs t ttm em (ds.drop i) acc ρi = some (.ok fin, ρ2) ∧ Nx G1 H1 (Owns (wipe σ vs) (wipeE ρ1 vs)) G' H' (Owns (wipe σ vs) ρi) ∧ Ok ⟨K, cl, P0, w0⟩ G' H' (wipe σ vs) ρi ∧
    (∀ j : Nat, j ∉ vs → kd ρi[j]? = kd ρ1[j]?) ∧ H' D = some (.lst xs) ∧ G' D = none ∧ RepL ⟨K, cl, P0, w0⟩ G' acc xs ∧ xs.length ≤ lim ∧ ¬ Owns (wipe σ vs) ρi D
  refine ⟨fun i m H' => m = ds.length - i ∧ i ≤ ds.length ∧ St i H', ⟨_, rfl, Nat.zero_le _, ?_⟩, ?_⟩
  · obtain ⟨n, k', gD, nD⟩ := new_own (o := .lst []) hD kw
    exact ⟨G1, wipeE ρ1 vs, [], [], hgo, n.toNx, k', fun j hj => by rw [wipeE_off hj], upd_same, gD, rfl, Nat.zero_le _, nD⟩
  rintro i m H' ⟨rfl, hi', G', ρi, acc, xs, hgo', n', k', kk, dD, gD, rD', hxs, nD⟩
  by_cases hlt : i < ds.length
  · refine .inr ?_
    obtain ⟨hgo1, hyl⟩ := (hsrc G' H' n'.g k'.sub).1 i ds[i] (by simp [hlt])
    refine ⟨hgo1, St (i + 1), fun H'' st => ⟨_, by omega, rfl, hlt, st⟩, fun x H2 hy => ?_⟩
    obtain ⟨G2, x1, x2, x3, x4, x5⟩ := hyl x H2 hy
    obtain ⟨n2, k2⟩ := grow_ok k' x1 x2 x3 x4
    have dD2 : H2 D = some (.lst xs) := x2 _ _ dD
    have gD2 : G2 D = none := by
      cases q : G2 D with
      | none => rfl
      | some u =>
        have z := x4 D gD (by rw [q]; simp)
        rw [dD] at z
        cases z
    rw [List.drop_eq_getElem_cons hlt] at hgo'
    unfold compGo at hgo'
    split at hgo'
    case h_1 => cases hgo'
    rename_i ρa hset
    obtain ⟨σ', k3, f3, o3, q3⟩ := tg_ok k2 x5 hset
    refine q3 _ ?_
    have hw : wipe σ' vs = wipe σ vs := (wipe_same f3.1 fun j hj => (f3.2 j fun z => hj (hsl j z)).1).trans wipe_idem
    refine ⟨hw, ?_⟩
    have nD3 : ¬ Owns σ' ρa D := fun z => nD (o3 D z)
    -- the list so far, as a thing of nobody's
    have l3 : RepO ⟨K, cl, P0, w0⟩ G2 H2 (.lst acc) (.ref D) := ⟨D, xs, rfl, dD2, gD2, RepL.mono x1 _ _ rD'⟩
    split at hgo'
    · rename_i ρb hb
      split at hgo'
      case h_2 => cases hgo'
      rename_i y ρc hy2
      split at hgo'
      case isFalse => cases hgo'
      rename_i hal
      refine ⟨G2, ρa, k3, _, _, hb, fun b G4 H4 n4 k4 rb => ?_⟩
      obtain rfl : true = b := rb
      have l4 := l3.keep n4.toNx fun _ a ea => by
        cases ea
        exact nD3
      have nD4 : ¬ Owns σ' ρb D := fun z => by
        rcases n4.own D z with q | q
        · exact nD3 q
        · rw [dD2] at q
          cases q
      rw [if_pos rfl]
      refine ⟨G4, ρb, k4, _, _, hy2, fun v G5 H5 n5 k5 rv => ?_⟩
      have l5 := l4.keep n5.toNx fun _ a ea => by
        cases ea
        exact nD4
      obtain ⟨_, ys, ea, dD5, gD5, rL5⟩ := l5
      cases ea
      have dD4 : ∃ u, H4 D = some u := by
        obtain ⟨_, zs, ea, q, _⟩ := l4
        cases ea
        exact ⟨_, q⟩
      have nD5 : ¬ Owns σ' ρc D := fun z => by
        rcases n5.own D z with q | q
        · exact nD4 q
        · obtain ⟨u, hu⟩ := dD4
          rw [hu] at q
          cases q
      refine ⟨ys, dD5, lim_lt (by rw [rL5.length]; exact hal), ?_⟩
      obtain ⟨kz, upz⟩ := k5.wipe (vs := vs)
      rw [hw] at kz upz
      have nn : Nx G1 H1 (Owns (wipe σ vs) (wipeE ρ1 vs)) G5 H5 (Owns (wipe σ vs) (wipeE ρc vs)) := n'.trans (n2.toNx.trans ((Nx.less o3).trans (n4.toNx.trans (n5.toNx.trans (Nx.less upz)))))
      refine ⟨G5, wipeE ρc vs, acc ++ [y], ys ++ [v], hgo', nn.tmp hD dD5, tmp_ok kz gD5 dD5 fun z => nD5 (upz D z), fun j hj => ?_, upd_same, gD5, rL5.append ⟨v, [], rfl, rv, rfl⟩, by rw [List.length_append, rL5.length]; exact hal, fun z => nD5 (upz D z)⟩
      rw [wipeE_off hj, n5.kp j, n4.kp j, (f3.2 j fun z => hj (hsl j z)).2]
      exact kk j hj
    · rename_i ρb hb
      refine ⟨G2, ρa, k3, _, _, hb, fun b G4 H4 n4 k4 rb => ?_⟩
      obtain rfl : false = b := rb
      rw [if_neg Bool.false_ne_true]
      obtain ⟨_, ys, ea, dD5, gD5, rL5⟩ := l3.keep n4.toNx fun _ a ea => by
        cases ea
        exact nD3
      cases ea
      have nD4 : ¬ Owns σ' ρb D := fun z => by
        rcases n4.own D z with q | q
        · exact nD3 q
        · rw [dD2] at q
          cases q
      obtain ⟨kz, upz⟩ := k4.wipe (vs := vs)
      rw [hw] at kz upz
      have nn : Nx G1 H1 (Owns (wipe σ vs) (wipeE ρ1 vs)) G4 H4 (Owns (wipe σ vs) (wipeE ρb vs)) := n'.trans (n2.toNx.trans ((Nx.less o3).trans (n4.toNx.trans (Nx.less upz))))
      refine ⟨G4, wipeE ρb vs, acc, ys, hgo', nn, kz, fun j hj => ?_, dD5, gD5, rL5, by rw [rL5.length, ← rD'.length]; exact hxs, fun z => nD4 (upz D z)⟩
      rw [wipeE_off hj, n4.kp j, (f3.2 j fun z => hj (hsl j z)).2]
      exact kk j hj
    · cases hgo'
  · refine .inl ?_
    have e : i = ds.length := by omega
    subst e
    refine ⟨(hsrc G' H' n'.g k'.sub).2, ?_⟩
    rw [List.drop_length] at hgo'
    cases hgo'
    obtain ⟨n9, k9⟩ := k1.unwipe k' n' kk hlen
    refine oo (.ref D) G' H' n9 k9 ⟨⟨D, xs, rfl, dD, gD, rD'⟩, fun _ a ea => ?_⟩
    cases ea
    refine ⟨hD, fun z => ?_⟩
    obtain ⟨j, o, h1, h2, h3⟩ := z
    by_cases hj : j ∈ vs
    · rw [restE_on hlen hj] at h1
      obtain ⟨b, u, e1, e2, _⟩ := (k1.at_ h1 h3).there h2
      cases e1
      rw [hD] at e2
      cases e2
    · rw [restE_off hj] at h1
      exact nD ⟨j, o, h1, h2, by rw [wipe_off hj]; exact h3⟩
theorem eo_comp {elt tg iter : Expr} {ifs : List Expr} {scope : Scope} {own : List (Str × Nat)} {pos : Pos} {t : Tg} {src : M (List D)} {ttm : M Bool} {em : M D} (hc : X.calm = true) (hN : X.N.Nodup) (hi : EI cl X W tg iter src) (ok : BlkOk X.N X.env.scope scope own)
    (hg : ∀ (s : Shared) (H : Hp) (C : Addr) (cs : List (Str × Addr)) (fp : List Addr), PG (X.blk s H scope (compEnvC scope cs C X.env) fp) tg (TgOk X.K t))
    (ht : ∀ (s : Shared) (H : Hp) (C : Addr) (cs : List (Str × Addr)) (fp : List Addr), PTs (X.blk s H scope (compEnvC scope cs C X.env) fp) ifs (tX rB (csX X cl) W0 ttm))
    (he : ∀ (s : Shared) (H : Hp) (C : Addr) (cs : List (Str × Addr)) (fp : List Addr), ED cl (X.blk s H scope (compEnvC scope cs C X.env) fp) W0 elt em)
    (hsl : ∀ i ∈ t.sl, i ∈ own.map (·.2)) (hs : ∀ x, foldedSetIterable iter X.env x = pure x := by intro _; rfl) :
    EO cl X W (.ListComp elt [⟨tg, iter, ifs, 0⟩] scope pos) (eComp (own.map (·.2)) t src ttm em) := by
  have base : PE X (.ListComp elt [⟨tg, iter, ifs, 0⟩] scope pos) (tLc (tX rI (csX X cl) W src) (TgOk X.K t) (tX rB (csX X cl) W0 ttm) (tX rD (csX X cl) W0 em) (own.map (·.2))) := pe_lc hc hN hi ok hg ht (fun s H C cs fp => he s H C cs fp) hs
  generalize own.map (·.2) = vs at base hsl ⊢
  exact EX.by base fun G ρ σ H Q k a => comp_core k a hsl
end
end Fn

set_option maxRecDepth 100000
set_option maxHeartbeats 4000000
namespace Fn
open PySem PySem.Spec PyProof.Rows L2

/-! ### for -/
def free (np : Nat) (t : Tg) (ρ : En) : Bool := t.sl.all fun i => !(decide (i < np) && decide (kd ρ[i]? = 3))
def forGo (np : Nat) (t : Tg) (body : S) : List D → S
  | [] => fun ρ => some (.nx, ρ)
  | d :: ds => fun ρ => if free np t ρ = true then match t.set d ρ with
    | none => none
    | some ρ1 => match body ρ1 with
      | some (.nx, ρ2) => forGo np t body ds ρ2
      | some (.ct, ρ2) => forGo np t body ds ρ2
      | some (.bk, ρ2) => some (.nx, ρ2)
      | r => r
    else none
def sFor (np : Nat) (t : Tg) (src : M (List D)) (body : S) : S := src.then_ fun ds => forGo np t body ds
section
variable {cl : Nms} {X : Cx} {W : WX} {np : Nat} {pos : Pos}
theorem free_off {np : Nat} {t : Tg} {ρ : En} {i : Nat} (h : free np t ρ = true) (hi : i < np) (hk : kd ρ[i]? = 3) : i ∉ t.sl := fun z => by
  have q := List.all_eq_true.mp h i z
  rw [decide_eq_true hi, decide_eq_true hk] at q
  cases q
theorem es_for {tg iter : Expr} {body : List Stmt} {t : Tg} {src : M (List D)} {f : S} (hp : PassesOwn (model X.prog X.w) X.A X.env X.xe) (hc : X.calm = true) (hi : EI cl X W tg iter src) (hg : PG X tg (TgOk X.K t)) (hb : ESs cl X W np body f)
    (hs : ∀ x, foldedSetIterable iter X.env x = pure x := by intro _; rfl) : ES cl X W np (.For tg iter body [] pos) (sFor np t src f) := ES.by (ps_for hp hc hi hg hb hs) fun G ρ D σ H k a => by
  refine at_tX k (a.then_ (R := rI) fun ds ρ1 J G1 H1 n1 k1 hsrc a1 => ?_)
  obtain ⟨fl, ρ', e, oo⟩ := a1
  refine ⟨fun i m σ' H' => m = ds.length - i ∧ i ≤ ds.length ∧ ∃ G' ρi, forGo np t f (ds.drop i) ρi = some (fl, ρ') ∧ Ns np G1 H1 σ ρ1 G' H' σ' ρi ∧ Ok (csX X cl) G' H' σ' ρi, ⟨_, rfl, Nat.zero_le _, G1, ρ1, e, Ns.refl .., k1⟩, ?_⟩
  rintro i m σ' H' ⟨rfl, hi', G', ρi, hgo, n', k'⟩
  by_cases hlt : i < ds.length
  · refine .inr ?_
    obtain ⟨hgo1, hyl⟩ := (hsrc G' H' n'.g k'.sub).1 i ds[i] (by simp [hlt])
    refine ⟨hgo1, fun σ'' H'' => ∃ G' ρi, forGo np t f (ds.drop (i + 1)) ρi = some (fl, ρ') ∧ Ns np G1 H1 σ ρ1 G' H'' σ'' ρi ∧ Ok (csX X cl) G' H'' σ'' ρi, fun σ'' H'' st => ⟨_, by omega, rfl, hlt, st⟩, fun x H2 hy => ?_⟩
    obtain ⟨G2, x1, x2, x3, x4, x5⟩ := hyl x H2 hy
    obtain ⟨n2, k2⟩ := grow_ok k' x1 x2 x3 x4
    rw [List.drop_eq_getElem_cons hlt] at hgo
    unfold forGo at hgo
    split at hgo
    case isFalse => cases hgo
    rename_i hfree
    split at hgo
    case h_1 => cases hgo
    rename_i ρa hset
    obtain ⟨σa, k3, f3, o3, q3⟩ := tg_ok k2 x5 hset
    refine q3 _ ?_
    have n3 : Ns np G' H' σ' ρi G2 H2 σa ρa := by
      refine ⟨n2.toNx.trans (Nx.less o3), fun j hj hk => ?_⟩
      obtain ⟨e1, e2⟩ := f3.2 j (free_off hfree hj hk)
      rw [e1, e2]
      exact ⟨rfl, hk⟩
    have nn := n'.trans n3
    refine ⟨G2, ρa, k3, ?_⟩
    have key : ∀ {fl1 ρb}, f ρa = some (fl1, ρb) → (∀ G4 H4 σ4, Ns np G2 H2 σa ρa G4 H4 σ4 ρb → Ok (csX X cl) G4 H4 σ4 ρb → Ns np G1 H1 σ ρ1 G4 H4 σ4 ρb ∧ Ok (csX X cl) G4 H4 σ4 ρb) := fun _ G4 H4 σ4 n4 k4 => ⟨nn.trans n4, k4⟩
    split at hgo
    · rename_i ρb hb2
      exact ⟨.nx, ρb, hb2, fun G4 H4 σ4 n4 k4 => ⟨G4, ρb, hgo, nn.trans n4, k4⟩⟩
    · rename_i ρb hb2
      exact ⟨.ct, ρb, hb2, fun G4 H4 σ4 n4 k4 => ⟨G4, ρb, hgo, nn.trans n4, k4⟩⟩
    · rename_i ρb hb2
      cases hgo
      exact ⟨.bk, _, hb2, fun G4 H4 σ4 n4 k4 => oo G4 H4 σ4 (nn.trans n4) k4⟩
    · rename_i xx a1 a2 a3
      have oo2 := oo.shift nn
      refine ⟨fl, ρ', hgo, ?_⟩
      cases fl with
      | nx => exact (a1 _ hgo).elim
      | ct => exact (a2 _ hgo).elim
      | bk => exact (a3 _ hgo).elim
      | rt o => exact oo2
      | er c ns vs => exact oo2
  · refine .inl ?_
    have e2 : i = ds.length := by omega
    subst e2
    rw [List.drop_length] at hgo
    cases hgo
    exact ⟨(hsrc G' H' n'.g k'.sub).2, oo G' H' σ' n' k'⟩
end

/-! ### a def -/
def outs : Nat → List O → En → Option (List O)
  | _, [], _ => some []
  | i, o :: os, ρ => if o.own = true then match ρ[i]? with
      | some (some o') => if o'.sh = true then (outs (i + 1) os ρ).map fun r => o' :: r else none
      | _ => none
    else (outs (i + 1) os ρ).map fun r => o :: r
def defF (n : Nat) (f : S) : Fx := fun os => match f (os.map some ++ List.replicate (n - os.length) none) with
  | some (.nx, ρ') => (outs 0 os ρ').map fun r => (.ok (.dat .non), r)
  | some (.rt o, ρ') => (outs 0 os ρ').map fun r => (.ok o, r)
  | some (.er c ns vs, ρ') => (outs 0 os ρ').map fun r => (.er c ns vs, r)
  | _ => none
theorem outs_get {ρ : En} : ∀ {os : List O} {i : Nat} {r : List O}, outs i os ρ = some r → r.length = os.length ∧ ∀ (j : Nat) (o : O), os[j]? = some o → ∃ o', r[j]? = some o' ∧ ((o.own = true ∧ ρ[i + j]? = some (some o') ∧ o'.sh = true) ∨ (o.own = false ∧ o' = o))
  | [], i, r, h => by
    cases h
    exact ⟨rfl, fun j o e => by simp at e⟩
  | o :: os, i, r, h => by
    unfold outs at h
    by_cases p : o.own = true
    · rw [if_pos p] at h
      split at h
      case h_2 => cases h
      rename_i o' ho
      split at h
      case isFalse => cases h
      rename_i hs
      obtain ⟨r', h1, rfl⟩ := Option.map_eq_some_iff.mp h
      obtain ⟨l, g⟩ := outs_get h1
      refine ⟨by rw [List.length_cons, List.length_cons, l], fun j u e => ?_⟩
      cases j with
      | zero =>
        have e' : o = u := by simpa using e
        subst e'
        exact ⟨o', rfl, .inl ⟨p, ho, hs⟩⟩
      | succ j =>
        obtain ⟨u', g1, g2⟩ := g j u (by simpa using e)
        refine ⟨u', by simpa using g1, ?_⟩
        rw [show i + (j + 1) = i + 1 + j from by omega]
        exact g2
    · rw [if_neg p] at h
      obtain ⟨r', h1, rfl⟩ := Option.map_eq_some_iff.mp h
      obtain ⟨l, g⟩ := outs_get h1
      refine ⟨by rw [List.length_cons, List.length_cons, l], fun j u e => ?_⟩
      cases j with
      | zero =>
        have e' : o = u := by simpa using e
        subst e'
        exact ⟨o, rfl, .inr ⟨by simpa using p, rfl⟩⟩
      | succ j =>
        obtain ⟨u', g1, g2⟩ := g j u (by simpa using e)
        refine ⟨u', by simpa using g1, ?_⟩
        rw [show i + (j + 1) = i + 1 + j from by omega]
        exact g2
section
variable {T : Cs} {G H : Hp} {os : List O} {vs : List V} {m : Nat}
theorem get_app {α : Type} {xs : List α} {m j : Nat} {x : α} (h : (xs.map some ++ List.replicate m none)[j]? = some (some x)) : xs[j]? = some x := by
  by_cases hj : j < xs.length
  · rw [List.getElem?_append_left (by simpa using hj), List.getElem?_map] at h
    cases q : xs[j]? with
    | none =>
      rw [q] at h
      cases h
    | some z =>
      rw [q] at h
      cases h
      rfl
  · rw [List.getElem?_append_right (by simpa using hj), List.getElem?_replicate] at h
    split at h <;> cases h
theorem app_get {α : Type} {xs : List α} {m j : Nat} {x : α} (h : xs[j]? = some x) : (xs.map some ++ List.replicate m none)[j]? = some (some x) := by
  have hj : j < xs.length := (List.getElem?_eq_some_iff.mp h).1
  rw [List.getElem?_append_left (by simpa using hj), List.getElem?_map, h]
  rfl
theorem map_get {α : Type} {xs : List α} {j : Nat} {x : α} : (xs.map some)[j]? = some (some x) ↔ xs[j]? = some x := by
  rw [List.getElem?_map]
  cases q : xs[j]? with
  | none => simp
  | some z => simp
theorem Ok.enter (k : Ok T G H (vs.map some) (os.map some)) : Ok T G H (vs.map some ++ List.replicate m none) (os.map some ++ List.replicate m none) ∧ ∀ a, Owns (vs.map some ++ List.replicate m none) (os.map some ++ List.replicate m none) a → Owns (vs.map some) (os.map some) a := by
  refine ⟨⟨k.sub, ?_, fun i o h => ?_, fun i j o o' a h1 h2 p1 p2 s1 s2 => ?_⟩, fun a ⟨i, o, h1, h2, h3⟩ => ⟨i, o, map_get.mpr (get_app h1), h2, map_get.mpr (get_app h3)⟩⟩
  · have z := k.len
    rw [List.length_map, List.length_map] at z
    rw [List.length_append, List.length_append, List.length_map, List.length_map, z]
    simp
  · obtain ⟨v, h1, h2⟩ := k.rep i o (map_get.mpr (get_app h))
    exact ⟨v, app_get (map_get.mp h1), h2⟩
  · exact k.dis i j o o' a (map_get.mpr (get_app h1)) (map_get.mpr (get_app h2)) p1 p2 (map_get.mpr (get_app s1)) (map_get.mpr (get_app s2))
theorem Ok.leave {os' : List O} {G' H' : Hp} {σ' : L2.St} {ρ' : En} (k : Ok T G H (vs.map some) (os.map some)) (n : Ns os.length G H (vs.map some ++ List.replicate m none) (os.map some ++ List.replicate m none) G' H' σ' ρ') (k' : Ok T G' H' σ' ρ') (ho : outs 0 os ρ' = some os') :
    Nk G H (vs.map some) (os.map some) G' H' (os'.map some) ∧ Ok T G' H' (vs.map some) (os'.map some) := by
  obtain ⟨l, g⟩ := outs_get ho
  have lv : os.length = vs.length := by
    have z := k.len
    rw [List.length_map, List.length_map] at z
    exact z
  have S0 := (k.enter (m := m)).2
  have inv : ∀ {j : Nat} {o' : O}, os'[j]? = some o' → ∃ o, os[j]? = some o ∧ ((o.own = true ∧ ρ'[j]? = some (some o') ∧ o'.sh = true) ∨ (o.own = false ∧ o' = o)) := fun {j o'} e => by
    have hj : j < os.length := by rw [← l]; exact (List.getElem?_eq_some_iff.mp e).1
    obtain ⟨o2, e2, h2⟩ := g j os[j] (by simp [hj])
    rw [e] at e2
    cases e2
    rw [Nat.zero_add] at h2
    exact ⟨os[j], by simp [hj], h2⟩
  -- the places that are lent
  have held : ∀ {j : Nat} {o : O} {v : V}, os[j]? = some o → o.own = true → vs[j]? = some v → σ'[j]? = some (some v) := fun {j o v} h1 p h2 => by
    have hj : j < os.length := (List.getElem?_eq_some_iff.mp h1).1
    obtain ⟨e, _⟩ := n.lk j hj (by rw [app_get h1, kd_sh, own_sh p]; rfl)
    rw [e]
    exact app_get h2
  have ownsUp : ∀ a, Owns (vs.map some) (os'.map some) a → Owns (vs.map some) (os.map some) a := fun a ⟨j, o', h1, h2, h3⟩ => by
    obtain ⟨o, h4, h5⟩ := inv (map_get.mp h1)
    rcases h5 with ⟨p, _, _⟩ | ⟨p, e⟩
    · exact ⟨j, o, map_get.mpr h4, p, h3⟩
    · rw [e, p] at h2
      cases h2
  refine ⟨⟨⟨n.g, fun a h1 h2 => (n.new a h1 h2).imp id (S0 a), fun a o h1 h2 => n.keep a o h1 fun z => h2 (S0 a z), n.there, fun a h => .inl (ownsUp a h)⟩, fun j => ?_⟩, ⟨k'.sub, ?_, fun j o' h => ?_, fun j j' o o' a h1 h2 p1 p2 s1 s2 => ?_⟩⟩
  · rw [List.getElem?_map, List.getElem?_map]
    by_cases hj : j < os.length
    · obtain ⟨o', e1, h2⟩ := g j os[j] (by simp [hj])
      have e0 : os[j]? = some os[j] := by simp [hj]
      rw [e0, e1]
      show kd (some (some o')) = kd (some (some os[j]))
      rcases h2 with ⟨p, _, hs⟩ | ⟨_, e⟩
      · rw [kd_sh, kd_sh, hs, own_sh p]
      · rw [e]
    · rw [List.getElem?_eq_none (by omega), List.getElem?_eq_none (by omega)]
  · rw [List.length_map, List.length_map, l, lv]
  · obtain ⟨o, h4, h5⟩ := inv (map_get.mp h)
    obtain ⟨v, h6, h7⟩ := k.rep j o (map_get.mpr h4)
    refine ⟨v, h6, ?_⟩
    rcases h5 with ⟨p, hr, _⟩ | ⟨p, e⟩
    · obtain ⟨v', h8, h9⟩ := k'.rep j o' hr
      have e := held h4 p (map_get.mp h6)
      rw [e] at h8
      cases h8
      exact h9
    · subst e
      exact h7.keep n.toNx fun q => by rw [p] at q; cases q
  · obtain ⟨u, h4, h5⟩ := inv (map_get.mp h1)
    obtain ⟨u', h6, h7⟩ := inv (map_get.mp h2)
    rcases h5 with ⟨q1, r1, _⟩ | ⟨q1, e⟩
    · rcases h7 with ⟨q2, r2, _⟩ | ⟨q2, e⟩
      · exact k'.dis j j' o o' a r1 r2 p1 p2 (held h4 q1 (map_get.mp s1)) (held h6 q2 (map_get.mp s2))
      · rw [e, q2] at p2
        cases p2
    · rw [e, q1] at p1
      cases p1
end
section
variable {P : Program} {w : World} {K : PySem.W.Frag} {mg : Str → Option Value} {base : Heap} {CX : CXT} {cl : Nms}
theorem def_ok {k np : Nat} {f : Addr} {x qual : Str} {st : Stmt} {fd : FuncData} {N ps : List Str} {den : S} (F : Fun K x qual st f fd) (Sc : FnScope N ps (defScope st)) (hn : ps.length = np)
    (body : ∀ (cdv : Value) (A : Around) (outer : List Env) (s : Shared) (H : Hp) (E : XK), A.guards = some [] → Room k (A.deeper (envOfC qual (defScope st) s.heap.objs.size f cdv)) →
      ESs cl (cxOf CX P w K mg base N qual (defScope st) f cdv A outer s H E) (WE E) np (defBody st) den) :
    FnS P w K mg base CX (k + 1) f fd ps (spF ⟨K, cl, P, w⟩ np (defF N.length den)) := by
  refine fnS_of F Sc (fun vs H Q E h => h.1.trans hn.symm) fun cdv A outer s H vs Q E hg hr h => ?_
  refine ⟨_, body cdv A outer s H E hg hr, ?_⟩
  obtain ⟨hl, G, os, r, os', k0, hF, hlen, oo⟩ := h
  have lv : os.length = vs.length := by
    have z := k0.len
    rw [List.length_map, List.length_map] at z
    exact z
  have eN : N.length - os.length = N.length - vs.length := by rw [lv]
  have k1 := (k0.enter (m := N.length - vs.length)).1
  have hnp : np = os.length := by rw [lv, hl]
  unfold defF at hF
  rw [eN] at hF
  have alive : ∀ a, Owns (vs.map some) (os.map some) a → H a ≠ none := fun a ⟨i, o, h1, h2, h3⟩ z => by
    obtain ⟨b, u, e1, e2, _⟩ := (k0.at_ h1 h3).there h2
    cases e1
    rw [e2] at z
    cases z
  have ownsUp : ∀ a, Owns (vs.map some) (os'.map some) a → ∀ ρ', outs 0 os ρ' = some os' → Owns (vs.map some) (os.map some) a := fun a ⟨j, o', h1, h2, h3⟩ ρ' ho => by
    obtain ⟨l, g⟩ := outs_get ho
    have hj : j < os.length := by rw [← l]; exact (List.getElem?_eq_some_iff.mp (map_get.mp h1)).1
    obtain ⟨o2, e2, h5⟩ := g j os[j] (by simp [hj])
    rw [map_get.mp h1] at e2
    cases e2
    rcases h5 with ⟨p, _, _⟩ | ⟨p, e⟩
    · exact ⟨j, os[j], map_get.mpr (by simp [hj]), p, h3⟩
    · rw [e, p] at h2
      cases h2
  have fin : ∀ {ρ' G' H' σ'}, outs 0 os ρ' = some os' → Ns np G H (vs.map some ++ List.replicate (N.length - vs.length) none) (os.map some ++ List.replicate (N.length - vs.length) none) G' H' σ' ρ' → Ok ⟨K, cl, P, w⟩ G' H' σ' ρ' →
      Nk G H (vs.map some) (os.map some) G' H' (os'.map some) ∧ Ok ⟨K, cl, P, w⟩ G' H' (vs.map some) (os'.map some) := fun {ρ' G' H' σ'} ho n k' => k0.leave (m := N.length - vs.length) (hnp ▸ n) k' ho
  refine ⟨G, _, k1, ?_⟩
  split at hF
  · rename_i ρ' e1
    obtain ⟨r', ho, e2⟩ := Option.map_eq_some_iff.mp hF
    cases e2
    refine ⟨_, _, e1, fun G' H' σ' n k' => ?_⟩
    obtain ⟨n2, k2⟩ := fin ho n k'
    exact oo .non G' H' n2 k2 ⟨rfl, Fresh.dat⟩
  · rename_i o ρ' e1
    obtain ⟨r', ho, e2⟩ := Option.map_eq_some_iff.mp hF
    cases e2
    refine ⟨_, _, e1, fun v G' H' σ' n k' ro => ?_⟩
    obtain ⟨n2, k2⟩ := fin ho n k'
    exact oo v G' H' n2 k2 ⟨ro.1, fun p a ea => ⟨(ro.2 p a ea).1, fun z => alive a (ownsUp a z _ ho) (ro.2 p a ea).1⟩⟩
  · rename_i c ns ds ρ' e1
    obtain ⟨r', ho, e2⟩ := Option.map_eq_some_iff.mp hF
    cases e2
    refine ⟨_, _, e1, fun G' H' σ' C hc n k' => ?_⟩
    obtain ⟨n2, k2⟩ := fin ho n k'
    exact oo G' H' C hc n2 k2
  · cases hF
end
end Fn

set_option maxRecDepth 100000
set_option maxHeartbeats 4000000
/-! own exception classes, called with keywords: BaseException.__new__ takes them and forgets them -/
namespace PySem
namespace FnX
open HandSPX Builtin Builtin.ObjectAttr
section
variable {M : Model} {A : Around} {E : Value → Shared → Prop} {h : Heap} {g : Array GenState} {d : Drawn} {t : Nat} {os : OsState}
variable {nm q : Str} {C N : Addr} {bs bm bmB : List Value} {hdct : Bool} {sn : List Str} {sub : List Value} {ab : Bool} {col : Option Bool} {dd : Option Addr} {k0 k1 k2 k3 k5 : Option Value} {B newId initId : String}
theorem kw_check (F : ExcBaseFacts B newId initId bmB) (hT : ∀ X : String, bm.contains (.type X) = bmB.contains (.type X)) {rest : List Value} {kw : List (Str × Value)} {Q : Unit → Shared → Prop}
    (hC : h.get? C = some (excClassObj nm q C N bs bm hdct sn sub ab col dd k0 k1 k2 k3 k5 newId)) (hq : Q () ⟨h, g, d, t, os⟩) : wpAny M A (checkBuiltinCall newId ⟨.ref C :: rest, kw⟩) Q E ⟨h, g, d, t, os⟩ := by
  have hcont : (Value.ref C :: bm).contains (.type B) = true := by rw [List.contains_cons, hT, F.hasB, Bool.or_true]
  have hstar := F.noStar
  simp only [checkBuiltinCall, F.newKind, F.newSplit, F.newRow]
  repeat (first | refine wpAny_loadPart_at hC ?_ | (refine wpAny_isSubtype_exc hC ?_; rw [hcont]) | refine wpAny_staticBase_exc hC ?_ | refine wpAny_madeBy_exc hC ?_ | simp only [bne_self_eq_false, Bool.false_eq_true, if_false] | wp_step)
  exact hq
end
section
variable {prog : Program} {w : World} {A : Around} {E : Value → Shared → Prop} {R : Result → Shared → Prop} {h : Heap} {g : Array GenState} {d : Drawn} {t : Nat} {os : OsState}
variable {nm q : Str} {C N : Addr} {bs bm bmB : List Value} {hdct : Bool} {sn : List Str} {sub : List Value} {ab : Bool} {col : Option Bool} {dd : Option Addr} {k0 k1 k2 k3 k5 : Option Value} {B newId initId : String}
theorem kw_new (F : ExcBaseFacts B newId initId bmB) (hT : ∀ X : String, bm.contains (.type X) = bmB.contains (.type X)) {rest : List Value} {kw : List (Str × Value)}
    (hC : h.get? C = some (excClassObj nm q C N bs bm hdct sn sub ab col dd k0 k1 k2 k3 k5 newId))
    (hq : R (.ok (.ret (.ref (h.objs.size + 1)))) ⟨(h.push { cls := .type "tuple", data := .seq rest.toArray }).push
      { cls := .ref C, data := .fields #[.ref h.objs.size, .none, .none, .none, .bool false, .none] }, g, d, t, os⟩) (hrest : rest.length ≤ sizeLine) :
    codeAny (model prog w) A (.builtin newId ⟨.ref C :: rest, kw⟩) R ⟨h, g, d, t, os⟩ := by
  have hends := F.ends
  have hcB : (Value.ref C :: bm).contains (.type B) = true := by rw [List.contains_cons, hT, F.hasB, Bool.or_true]
  have hcA : (Value.ref C :: bm).contains (.type "AttributeError") = false := by rw [List.contains_cons, hT, F.noAttr]; rfl
  have hcN : (Value.ref C :: bm).contains (.type "NameError") = false := by rw [List.contains_cons, hT, F.noName]; rfl
  refine codeAny_builtinAt F.entry ?_
  unfold Builtin.«BaseException.__new__»
  refine wpAt_bind ?_
  show wpAt _ _ _ (stack >>= _) _ _ _
  refine wpAt_bind (wpAt_stack fun p below => wpAt_of_wpAny ?_)
  wp_walk
  refine wpAt_of_wpAny ?_
  rw [F.owner]
  repeat (first | with_reducible refine wpAny_madeHere_exc F.canon hC ?_ | with_reducible refine wpAny_loadPart_at hC ?_ | (with_reducible refine wpAny_isSubtype_exc hC ?_; first | rw [hcB] | rw [hcA] | rw [hcN]) | wp_step)
  show R _ _
  rw [Heap.size_push]
  exact hq
theorem kw_type (F : ExcBaseFacts B newId initId bmB) (hT : ∀ X : String, bm.contains (.type X) = bmB.contains (.type X)) {rest : List Value} {kw : List (Str × Value)} {fI : Addr} {Q : Fin → Shared → Prop}
    (hC : h.get? C = some (excClassObj nm q C N bs bm hdct sn sub ab col dd k0 k1 k2 k3 k5 newId))
    (hi : W.Looks (model prog w) h (typeLookup (.ref C) "__init__") (some (.ref fI))) (hb : ∀ self, W.Looks (model prog w) h (bindSpecial (.ref fI) self) (.ref fI, [self])) (hrest : rest.length ≤ sizeLine)
    (hq : codeAny (model prog w) A (.call (.ref fI) ⟨.ref (h.objs.size + 1) :: rest, kw⟩)
      (fun r s' => match r with | .ok (.ret v) => v = .none ∧ Q (.done (.ret (.ref (h.objs.size + 1)))) s' | .ok _ => False | .error e => E e s')
      ⟨(h.push (W.kdv_tup rest)).push (excO C h.objs.size), g, d, t, os⟩) :
    wpAny (model prog w) A (Builtin.«type.__call__» ⟨.ref C :: rest, kw⟩) Q E ⟨h, g, d, t, os⟩ := by
  repeat (first | with_reducible refine wpAny_loadPart_at hC ?_ | with_reducible refine wpAny_madeBy_exc hC ?_ | wp_step)
  refine codeAny_call_builtin_code (Code.quiet_builtin _ F.quiet) (kw_check F hT hC ?_)
  refine kw_new F hT hC ?_ hrest
  show wpAny _ _ _ _ _ _
  have k : ∀ b o, h.get? b = some o → ((h.push (W.kdv_tup rest)).push (excO C h.objs.size)).get? b = some o := fun b o e => Heap.get?_push_of_some _ (Heap.get?_push_of_some _ e)
  have hC₁ := k _ _ hC
  have hget : ((h.push (W.kdv_tup rest)).push (excO C h.objs.size)).get? (h.objs.size + 1) = some (excO C h.objs.size) := by heap_get
  have hcC : (Value.ref C :: bm).contains (.ref C) = true := by simp
  have i1 := hi.keeps k
  have b1 := (hb (.ref (h.objs.size + 1))).keeps k
  unfold isInstance
  repeat (first | with_reducible refine wpAny_loadPart_at hget ?_ | (with_reducible refine wpAny_isSubtype_exc hC₁ ?_; rw [hcC]) | wp_step)
  show wpAny _ _ (typeLookup (.ref C) _) _ _ _
  refine i1.at ?_
  refine wpAny_holding (wpAny_bind (b1.at ?_))
  refine wpAny_bind (wpAny_call (codeAny_mono hq fun r s' z => ?_))
  rcases r with e | (v | _ | _ | _) <;> first | exact z | exact z.elim | skip
  obtain ⟨rfl, z⟩ := z
  first
    | exact wpAny_pure (wpAny_pure z)
    | (wp_walk; exact z)
theorem kw_call (F : ExcBaseFacts B newId initId bmB) (hT : ∀ X : String, bm.contains (.type X) = bmB.contains (.type X)) {rest : List Value} {kw : List (Str × Value)} {fI : Addr}
    (hC : h.get? C = some (excClassObj nm q C N bs bm hdct sn sub ab col dd k0 k1 k2 k3 k5 newId))
    (hi : W.Looks (model prog w) h (typeLookup (.ref C) "__init__") (some (.ref fI))) (hb : ∀ self, W.Looks (model prog w) h (bindSpecial (.ref fI) self) (.ref fI, [self])) (hrest : rest.length ≤ sizeLine)
    (hq : codeAny (model prog w) (A.under (.builtin "type.__call__" ⟨.ref C :: rest, kw⟩)) (.call (.ref fI) ⟨.ref (h.objs.size + 1) :: rest, kw⟩) (W.InitBack (h.objs.size + 1) R)
      ⟨(h.push (W.kdv_tup rest)).push (excO C h.objs.size), g, d, t, os⟩) :
    codeAny (model prog w) A (.call (.ref C) ⟨rest, kw⟩) R ⟨h, g, d, t, os⟩ := by
  have f1 := tc_lookup
  have f2 := tc_bind (.ref C)
  have hTy : (⟨h, g, d, t, os⟩ : Shared).TypeIs (.ref C) "type" := ⟨_, hC, rfl⟩
  refine codeAny_of_tree ?_
  show wpAny _ _ (callAny (.ref C) _) _ _ _
  repeat (any_goals (first | assumption | with_reducible refine wpAny_loadPart_at hC ?_ | wp_step))
  refine ⟨rfl, ?_⟩
  refine codeAny_call_builtin_at (Code.quiet_builtin _ (by decide +kernel)) entry_typeCall (wpAny_check_type_call_sub hC (kw_type F hT hC hi hb hrest ?_))
  refine codeAny_mono hq fun r s' z => ?_
  rcases r with e | (v | _ | _ | _) <;> exact z
end
end FnX
end PySem

set_option maxRecDepth 100000
set_option maxHeartbeats 4000000
/-! own exceptions as values -/
namespace Fn
open PySem PySem.Spec PyProof.Rows L2

/-- what the written part says of an own exception class -/
structure XK1 (K : PySem.W.Frag) (C : Addr) : Prop extends OexC K C where
  ec : ExcC K C
/-- .. of one with the field f, set by its own __init__ -/
structure XK2 (K : PySem.W.Frag) (C : Addr) (f : Str) (fI : Addr) : Prop extends XK1 K C where
  no : PySem.W.findIn K (.ref C) f = some none
  iC : PySem.W.findIn K (.ref C) "__init__" = some (some (.ref fI))
  tI : PySem.W.typeIn K (.ref fI) = some (.type "function")
def spIni (C : Addr) (f : Str) : Sp := fun vs H Q _ => ∃ a y, vs = [.ref a, y] ∧ H a = some (exo a C none) ∧ ∀ dx, H dx = none → dx ≠ a → Q .non (upd (upd H dx (exd dx [(f, y)])) a (exo a C (some dx)))
section
variable {P : Program} {w : World} {K : PySem.W.Frag} {mg : Str → Option Value} {base : Heap} {CX : CXT}
/-- def __init__(self, f): self.f = f -/
theorem ini_ok {k : Nat} {x qual f : Str} {st : Stmt} {fI C : Addr} {fd : FuncData} {p1 p2 p3 p4 : Pos} (F : L2.Fun K x qual st fI fd) (Sc : FnScope ["self", f] ["self", f] (defScope st)) (hb : defBody st = [.Assign [.Attribute (.Name "self" p1) f p2] (.Name f p3) p4])
    (T : XK2 K C f fI) (v1 : Vis (defScope st) "self") (v2 : Vis (defScope st) f) (d1 : (f == ("__debug__" : Str)) = false) (d2 : (f == ("__classdict__" : Str)) = false) : FnS P w K mg base CX (k + 1) fI fd ["self", f] (spIni C f) := by
  refine fnS_of F Sc (fun vs H Q E h => ?_) fun cdv A outer s H vs Q E hg hr h => ?_
  · obtain ⟨a, y, rfl, _⟩ := h
    rfl
  obtain ⟨a, y, rfl, h1, h2⟩ := h
  rw [hb]
  refine ⟨_, pss_one (ps_ost (pe_var (i := 0) (x := "self") rfl v1) (pe_var (i := 1) (x := f) rfl v2 d1 d2)), ?_⟩
  refine ⟨y, rfl, .ref a, rfl, a, C, rfl, T.toOexC, T.no, .inl ⟨h1, fun dx e1 e2 => h2 dx e1 e2⟩⟩
end
section
variable {X : Cx} {CX : CXT} {k : Nat} {C fI : Addr} {f x : Str} {fd : FuncData} {e : Expr} {te : TE} {p pos : Pos}
/-- a new exception with its field -/
def mkH (H : Hp) (a dx C : Addr) (f : Str) (y : V) : Hp := upd (upd H dx (exd dx [(f, y)])) a (exo a C (some dx))
theorem run_exV {pins : List (Addr × Obj)} {σ : L2.St} {H : Hp} {s : Shared} {Q : VK} {us : List Value} {kw : List (Str × Value)} {u : Value} {y : V} (T : XK2 X.K C f fI) (F1 : FnS X.prog X.w X.K X.mg X.base CX k fI fd ["self", f] (spIni C f)) (hr : Room (k + 1) X.A) (hgd : X.A.guards = some [])
    (hx : Passes CX X (fun _ _ _ => False)) (hl : us.length ≤ 1) (hb : ∀ s : Shared, X.K.In s.heap → ∀ self, BindsTo s fd ⟨self :: us, kw⟩ [("self", self), (f, u)]) (I : Inv X pins σ H s) (r : RelV y u)
    (h : ∀ a dx, H a = none → H dx = none → dx ≠ a → Q (.ref a) (mkH H a dx C f y)) : wpAny (model X.prog X.w) X.A (call (.ref C) us kw) (EP X pins σ Q) X.xe s := by
  obtain ⟨nm, q, N, bs, bm, sn, sub, ab, col, dd, k0, k1, k2, k3, k5, hC, hbm⟩ := T.cls
  obtain ⟨hp, g, dr, tk, os⟩ := s
  have hsz : hp.objs.size ≤ hp.objs.size + 1 := Nat.le_succ _
  have hn : H (hp.objs.size + 1) = none := I.hok.fresh hsz
  have kk : ∀ b o, hp.get? b = some o → ((hp.push (PySem.W.kdv_tup us)).push (PySem.HandSPX.excO C hp.objs.size)).get? b = some o := fun b o e => Heap.get?_push_of_some _ (Heap.get?_push_of_some _ e)
  have hget : ((hp.push (PySem.W.kdv_tup us)).push (PySem.HandSPX.excO C hp.objs.size)).get? (hp.objs.size + 1) = some (PySem.HandSPX.excO C hp.objs.size) := by heap_get
  have I2 : Inv X pins σ (upd H (hp.objs.size + 1) (exo (hp.objs.size + 1) C none)) ⟨(hp.push (PySem.W.kdv_tup us)).push (PySem.HandSPX.excO C hp.objs.size), g, dr, tk, os⟩ :=
    I.laid (t' := tk) (a := hp.objs.size + 1) (o := exo (hp.objs.size + 1) C none) (h' := (hp.push (PySem.W.kdv_tup us)).push (PySem.HandSPX.excO C hp.objs.size)) kk hsz (exo_ok hget)
  have r2 : Vals [V.ref (hp.objs.size + 1), y] [Value.ref (hp.objs.size + 1), u] := .cons rfl (.cons r .nil)
  have sp : spIni C f [V.ref (hp.objs.size + 1), y] (upd H (hp.objs.size + 1) (exo (hp.objs.size + 1) C none)) (fun v H2 => v = .non ∧ Q (.ref (hp.objs.size + 1)) H2) (fun _ _ _ => False) := by
    refine ⟨_, y, rfl, upd_same, fun dx e1 e2 => ⟨rfl, ?_⟩⟩
    have e3 : H dx = none := by rw [upd_ne e2] at e1; exact e1
    have z := h _ dx hn e3 e2
    have eq : upd (upd (upd H (hp.objs.size + 1) (exo (hp.objs.size + 1) C none)) dx (exd dx [(f, y)])) (hp.objs.size + 1) (exo (hp.objs.size + 1) C (some dx)) = mkH H (hp.objs.size + 1) dx C f y := by
      funext b
      unfold mkH
      by_cases q1 : b = hp.objs.size + 1
      · rw [q1, upd_same, upd_same]
      · rw [upd_ne q1, upd_ne q1]
        by_cases q2 : b = dx
        · rw [q2, upd_same, upd_same]
        · rw [upd_ne q2, upd_ne q2, upd_ne q1]
    rw [eq]
    exact z
  refine wpAny_call (PySem.FnX.kw_call F.excBase_ValueError (fun Y => PySem.HandSPX.refsVE_contains Y bm hbm) (I.kIn _ _ hC) (PySem.W.looks_findIn I.kIn T.iC) (fun self => PySem.W.bind_fn I.kIn self T.tI) (by rw [sizeLine_eq]; omega)
    (codeAny_mono (F1.go _ X.stack _ _ ⟨Value.ref (hp.objs.size + 1) :: us, kw⟩ [Value.ref (hp.objs.size + 1), u] _ _ (fun _ _ _ => False) hgd (hr.make C us kw) (I2.env0.make C us kw) (hb _ I2.kIn _) r2 sp) fun r s' hq' => ?_))
  cases r with
  | error er => exact hx pins σ _ _ er s' I2 hq'
  | ok fl =>
    cases fl with
    | ret u =>
      obtain ⟨v, H', I3, rv, ev, q3⟩ := I2.after hq'
      subst ev
      exact ⟨rv, ⟨V.ref (hp.objs.size + 1), H', I3, rfl, q3⟩⟩
    | next => exact False.elim hq'
    | brk => exact False.elim hq'
    | cont => exact False.elim hq'
def tExV (C : Addr) (f : Str) (te : TE) : TE := fun σ H Q => te σ H fun y H1 => ∀ a dx, H1 a = none → H1 dx = none → dx ≠ a → Q (.ref a) (mkH H1 a dx C f y)
/-- C(e) -/
theorem pe_exV (T : XK2 X.K C f fI) (F1 : FnS X.prog X.w X.K X.mg X.base CX k fI fd ["self", f] (spIni C f)) (hr : Room (k + 1) X.A) (hgd : X.A.guards = some []) (hx : Passes CX X (fun _ _ _ => False)) (hb : ∀ u v : Value, bindArgs fd ⟨[u, v], []⟩ = pure [(("self" : Str), u), (f, v)])
    (hg : Gl X x) (hm : X.mg x = some (.ref C)) (he : PE X e te) (hdb : (x == ("__debug__" : Str)) = false := by decide) (hs : starEach [e] X.env = (false, eval e X.env) :: starEach [] X.env := by rfl) :
    PE X (.Call (.Name x p) [e] [] pos) (tExV C f te) := by
  refine ⟨fun pins s σ H Q I h => ?_⟩
  refine wpAny_Call_Name_kw (ld_glob I hg hm ?_ hdb)
  refine PySem.W.callWith_K (h₀ := X.base) I.ok.mod.kin T.kC ?_ hs (by rfl)
  refine thn ((pa_cons he pa_nil hs).run pos pins s σ H (fun vs H1 => match vs with | [y] => ∀ a dx, H1 a = none → H1 dx = none → dx ≠ a → Q (.ref a) (mkH H1 a dx C f y) | _ => False) I h) ?_
  rintro us s1 ⟨vs, H1, I1, r, q⟩
  cases r with
  | nil => exact q.elim
  | cons r1 r2 =>
    cases r2 with
    | cons _ _ => exact q.elim
    | nil => exact ⟨I1.kIn, run_exV T F1 hr hgd hx (Nat.le_refl _) (fun s X self => .of_eq (hb self _)) I1 r1 q⟩
/-- C(f = e) -/
theorem pe_exK {kp : Pos} (T : XK2 X.K C f fI) (F1 : FnS X.prog X.w X.K X.mg X.base CX k fI fd ["self", f] (spIni C f)) (hr : Room (k + 1) X.A) (hgd : X.A.guards = some []) (hx : Passes CX X (fun _ _ _ => False)) (hb : ∀ u v : Value, bindArgs fd ⟨[u], [(f, v)]⟩ = pure [(("self" : Str), u), (f, v)])
    (hg : Gl X x) (hm : X.mg x = some (.ref C)) (he : PE X e te) (hdb : (x == ("__debug__" : Str)) = false := by decide)
    (hall : (backToKw pos (keywordEach [⟨some f, e, kp⟩] X.env)).all (·.1.isSome) = true := by rfl) (hks : (backToKw pos (keywordEach [⟨some f, e, kp⟩] X.env)).filterMap (·.1) = [f] := by rfl)
    (hpl : ((backTo pos (starEach [] X.env)).any (·.1) || (backToKw pos (keywordEach [⟨some f, e, kp⟩] X.env)).any (·.1.isNone)) = false := by rfl) :
    PE X (.Call (.Name x p) [] [⟨some f, e, kp⟩] pos) (tExV C f te) := by
  refine ⟨fun pins s σ H Q I h => ?_⟩
  refine wpAny_Call_Name_kw (ld_glob I hg hm ?_ hdb)
  refine PySem.W.callWith_KW0 (h₀ := X.base) I.ok.mod.kin T.kC hall ?_ hpl
  refine thn ((pk_cons (nm := some f) (kpos := kp) he pk_nil).run pos pins s σ H (fun vs H1 => match vs with | [y] => ∀ a dx, H1 a = none → H1 dx = none → dx ≠ a → Q (.ref a) (mkH H1 a dx C f y) | _ => False) I h) ?_
  rintro us s1 ⟨vs, H1, I1, r, q⟩
  rw [hks]
  cases r with
  | nil => exact q.elim
  | cons r1 r2 =>
    cases r2 with
    | cons _ _ => exact q.elim
    | nil => exact ⟨I1.kIn, run_exV T F1 hr hgd hx (Nat.zero_le _) (fun s X self => .of_eq (hb self _)) I1 r1 q⟩
/-- C(), no own __init__ -/
theorem pe_ex0 (T : XK1 X.K C) (q : PySem.W.excIn X.K C PySem.HandSPX.veTail "ValueError.__new__" = true) (hg : Gl X x) (hm : X.mg x = some (.ref C)) (hdb : (x == ("__debug__" : Str)) = false := by decide) :
    PE X (.Call (.Name x p) [] [] pos) (fun _ H Q => ∀ a, H a = none → Q (.ref a) (upd H a (exo a C none))) := by
  refine ⟨fun pins s σ H Q I h => ?_⟩
  refine wpAny_Call_Name_kw (ld_glob I hg hm ?_ hdb)
  refine PySem.W.callWith_K0 I.kIn T.kC ?_
  obtain ⟨bm, N, nm, qn, bs, hdct, sn, sub, ab, col, dd, k0, k1, k2, k3, k5, mN, hC, hN, hni, T⟩ := exc_obj I.kIn q
  refine wpAny_call_exc_subT F.excBase_ValueError T hC hN hni (fun h' a hm => ?_) (by show 0 ≤ sizeLine; omega)
  have hn : H a = none := I.hok.gone hm.new
  obtain ⟨t, ht, _, _⟩ := hm.there
  exact ⟨.ref a, upd H a (exo a C none), I.laidN hm.keeps hm.new hn (exo_ok ht), rfl, h a hn⟩
end
end Fn

set_option maxRecDepth 100000
set_option maxHeartbeats 4000000
namespace Fn
open PySem PySem.Spec PyProof.Rows L2

/-- an own class whose instances are asked what they are -/
structure InC (K : PySem.W.Frag) (C : Addr) : Prop where
  cl : Cls K C
  ha : PySem.W.findIn K (.ref C) "__class__" = some (some (.builtin "object.__class__"))
  hn : PySem.W.specialIn K (.builtin "object.__class__") "__get__" = some (some (.builtin "getset_descriptor.__get__"))
  htk : PySem.W.takesIn K (.builtin "object.__class__") = some true
  hm : PySem.W.mroIn K C (.type "object") = some true
structure Xs (K : PySem.W.Frag) (cl : Nms) (flds : List Str) : Prop where
  k1 : ∀ c C, cl c = some C → XK1 K C
  no : ∀ c C, cl c = some C → ∀ f ∈ flds, PySem.W.findIn K (.ref C) f = some none
  ko : ∀ c C, cl.o c = some C → InC K C

section
variable {cl : Nms} {X : Cx} {W : WX} {CX : CXT} {k : Nat} {C fI : Addr} {c f x : Str} {fd : FuncData} {e : Expr} {md : M D} {p pos : Pos} {flds : List Str}
def eEx (c f : Str) (md : M D) : M D := M.bind md fun d => M.ret (.exc c [f] [d])
def eEx0 (c : Str) : M D := M.ret (.exc c [] [])
theorem exv_by (hc : cl c = some C) {ce : Expr} (h : PE X ce (tExV C f (tX rD (csX X cl) W md))) : ED cl X W ce (eEx c f md) := EX.by h fun G ρ σ H Q k a => at_tX k (At.bind (Ra := rD) rD_back a fun d ρ1 v G1 H1 n1 k1 r1 a1 => fun a dx ha hd hne => by
  obtain ⟨n2, k2⟩ := new_nx (o := exd dx [(f, v)]) hd k1
  have ha2 : upd H1 dx (exd dx [(f, v)]) a = none := by rw [upd_ne (Ne.symm hne)]; exact ha
  obtain ⟨n3, k3⟩ := new_nx (o := exo a C (some dx)) ha2 k2
  refine a1.done (n2.trans n3) k3 ⟨a, C, rfl, hc, .inr ⟨dx, [(f, v)], upd_same, ?_, rfl, ?_⟩⟩
  · rw [upd_ne hne, upd_same]
  · exact ⟨v, [], rfl, Rep.mono (Ex.trans n2.g n3.g) d v r1, rfl⟩)
theorem ed_exV (hc : cl c = some C) (T : XK2 X.K C f fI) (F1 : FnS X.prog X.w X.K X.mg X.base CX k fI fd ["self", f] (spIni C f)) (hr : Room (k + 1) X.A) (hgd : X.A.guards = some []) (hx : Passes CX X (fun _ _ _ => False)) (hb : ∀ u v : Value, bindArgs fd ⟨[u, v], []⟩ = pure [(("self" : Str), u), (f, v)])
    (hg : Gl X c) (hm : X.mg c = some (.ref C)) (he : ED cl X W e md) (hdb : (c == ("__debug__" : Str)) = false := by decide) (hs : starEach [e] X.env = (false, eval e X.env) :: starEach [] X.env := by rfl) :
    ED cl X W (.Call (.Name c p) [e] [] pos) (eEx c f md) := exv_by hc (pe_exV T F1 hr hgd hx hb hg hm he hdb hs)
theorem ed_exK {kp : Pos} (hc : cl c = some C) (T : XK2 X.K C f fI) (F1 : FnS X.prog X.w X.K X.mg X.base CX k fI fd ["self", f] (spIni C f)) (hr : Room (k + 1) X.A) (hgd : X.A.guards = some []) (hx : Passes CX X (fun _ _ _ => False)) (hb : ∀ u v : Value, bindArgs fd ⟨[u], [(f, v)]⟩ = pure [(("self" : Str), u), (f, v)])
    (hg : Gl X c) (hm : X.mg c = some (.ref C)) (he : ED cl X W e md) (hdb : (c == ("__debug__" : Str)) = false := by decide)
    (hall : (backToKw pos (keywordEach [⟨some f, e, kp⟩] X.env)).all (·.1.isSome) = true := by rfl) (hks : (backToKw pos (keywordEach [⟨some f, e, kp⟩] X.env)).filterMap (·.1) = [f] := by rfl)
    (hpl : ((backTo pos (starEach [] X.env)).any (·.1) || (backToKw pos (keywordEach [⟨some f, e, kp⟩] X.env)).any (·.1.isNone)) = false := by rfl) :
    ED cl X W (.Call (.Name c p) [] [⟨some f, e, kp⟩] pos) (eEx c f md) := exv_by hc (pe_exK T F1 hr hgd hx hb hg hm he hdb hall hks hpl)
theorem ed_ex0 (hc : cl c = some C) (T : XK1 X.K C) (q : PySem.W.excIn X.K C PySem.HandSPX.veTail "ValueError.__new__" = true) (hg : Gl X c) (hm : X.mg c = some (.ref C)) (hdb : (c == ("__debug__" : Str)) = false := by decide) :
    ED cl X W (.Call (.Name c p) [] [] pos) (eEx0 c) := EX.by (pe_ex0 T q hg hm hdb) fun G ρ σ H Q k a => fun p hp => by
  obtain ⟨n3, k3⟩ := new_nx (o := exo p C none) hp k
  exact At.done a n3 k3 ⟨p, C, rfl, hc, .inl ⟨rfl, rfl, upd_same⟩⟩

/-! ### e.f -/
def fLook : List Str → List D → Str → Option D
  | n :: ns, d :: ds, f => if f = n then some d else fLook ns ds f
  | _, _, _ => none
theorem fLook_rep {T : Cs} {G : Hp} {f : Str} {d : D} : ∀ {fs : List (Str × V)} {ds : List D}, RepL T G ds (fs.map (·.2)) → fLook (fs.map (·.1)) ds f = some d → ∃ v, fs.lookup f = some v ∧ Rep T G d v
  | [], ds, h, e => by cases e
  | (n, v) :: fs, ds, h, e => by
    cases ds with
    | nil => cases e
    | cons d' ds =>
      obtain ⟨v', r, e1, h1, h2⟩ := h
      rw [List.map_cons] at e1
      obtain ⟨rfl, rfl⟩ := List.cons.inj e1
      have e' : (if f = n then some d' else fLook (fs.map (·.1)) ds f) = some d := e
      rw [lookup_put]
      by_cases q : f = n
      · rw [if_pos q] at e' ⊢
        cases e'
        exact ⟨v, rfl, h1⟩
      · rw [if_neg q] at e' ⊢
        exact fLook_rep h2 e'
def eAttr (f : Str) (m : M D) : M D := M.bind m fun d => match d with
  | .exc _ ns ds => M.lift (fLook ns ds f)
  | _ => M.stuck
theorem pe_xv {te : TE} {n : Str} (he : PE X e te) (hb : attributeBase e n X.env (eval e X.env) = eval e X.env := by rfl) :
    PE X (.Attribute e n pos) (fun σ H Q => te σ H fun x H1 => ∃ (a C dx : Addr) (fs : List (Str × V)) (v : V), x = .ref a ∧ ExcC X.K C ∧ PySem.W.findIn X.K (.ref C) n = some none ∧ H1 a = some (exo a C (some dx)) ∧ H1 dx = some (exd dx fs) ∧ fs.lookup n = some v ∧ Q v H1) := by
  refine ⟨fun pins s σ H Q I h => ?_⟩
  refine attr_of hb (thn (he.run pins s σ H _ I h) fun u s1 hh => ?_)
  obtain ⟨x, H1, I1, rx, a, C, dx, fs, v, ex, T, hno, ea, ed, l, q⟩ := hh
  subst ex
  obtain rfl : u = Value.ref a := rx
  obtain ⟨t1, ho⟩ := exo_at I1.hok ea
  obtain ⟨mA, hns, hr⟩ := exd_at I1.hok ed
  obtain ⟨od, hod, hl⟩ := lookIn_ns hns
  obtain ⟨u, hu, ru⟩ := RelO.some_of (v := v) (o := mA n) (by rw [← l]; exact hr n)
  have J : PySem.W.InstAt s1.heap a _ C (some od) := ⟨ho, rfl, rfl, hod⟩
  exact HandSPX.exc_get I1.kIn J T.hg T.hk T.hs (PySem.W.findObj_own T.hd hno rfl (by rw [hl, hu])) (handed_of ru) ⟨v, H1, I1.tok _, ru, q⟩
theorem ed_attr {n : Str} (hX : Xs X.K cl flds) (hn : n ∈ flds) (he : ED cl X W e md) (hb : attributeBase e n X.env (eval e X.env) = eval e X.env := by rfl) : ED cl X W (.Attribute e n pos) (eAttr n md) :=
  EX.by (pe_xv he hb) fun G ρ σ H Q k a => at_tX k (At.bind (Ra := rD) rD_back a fun d ρ1 v G1 H1 n1 k1 r1 a1 => by
    cases d with
    | exc c ns ds =>
      obtain ⟨d, e1, a2⟩ := At.lift a1
      obtain ⟨a, C, rfl, hc, h⟩ := r1
      rcases h with ⟨rfl, rfl, _⟩ | ⟨dx, fs, h1, h2, rfl, h4⟩
      · cases e1
      · obtain ⟨w, h5, h6⟩ := fLook_rep h4 e1
        exact ⟨a, C, dx, fs, w, rfl, (hX.k1 c C hc).ec, hX.no c C hc n hn, k1.sub _ _ h1, k1.sub _ _ h2, h5, a2.ret k1 h6⟩
    | _ =>
      obtain ⟨r, ρ', e, _⟩ := a1
      cases e)

/-! ### isinstance -/
/-- the class of a datum: a built-in one, an own one -/
inductive Kn where
  | ty (n : String) | own (c : Str) | obj (c : Str) | no
def D.kn : D → Kn
  | .non => .ty "NoneType" | .bl _ => .ty "bool" | .int _ => .ty "int" | .str _ => .ty "str" | .lst _ => .ty "list" | .ro _ => .ty "list" | .tup _ => .ty "tuple" | .dk _ _ => .ty "dict"
  | .exc c _ _ => .own c
  | .obj c _ _ => .obj c
  | .fn _ => .no | .set _ => .no
  | .dt _ _ => .ty "dict"
  | .rk _ _ => .ty "dict"
/-- what isinstance asks for -/
inductive TyE (K : PySem.W.Frag) (H : Hp) : V → Value → Prop where
  | b {x : V} {t : Value} (h : TyX K H x t) : TyE K H x t
  | e {a C : Addr} (T : ExcC K C) (h : H a = some (exo a C none)) : TyE K H (.ref a) (.ref C)
  | f {a C dx : Addr} {fs : List (Str × V)} (T : ExcC K C) (h : H a = some (exo a C (some dx))) (h' : H dx = some (exd dx fs)) : TyE K H (.ref a) (.ref C)
def rIsE2 (K : PySem.W.Frag) : List V → Hp → VK → Prop := fun xs H Q => ∃ (x c : V) (t u : Value) (b : Bool), xs = [x, c] ∧ ClsV c u ∧ TyE K H x t ∧ PySem.W.kitOne K t u = some b ∧ Q (.bl b) H
theorem call_isE2 : CallR X (.builtin "isinstance") (rIsE2 X.K) := by
  intro pins s σ H xs us Q I r h
  obtain ⟨x, c, t, u, b, rfl, k, ty, e, q⟩ := h
  obtain ⟨u1, u2, rfl, r1, r2⟩ := vals2 r
  have e2 := k.eq r2
  subst e2
  have fin : ∀ tk, EP X pins σ Q (.bool b) { s with toks := tk } := fun tk => ⟨.bl b, H, I.tok tk, rfl, q⟩
  cases ty with
  | b ty =>
    obtain ⟨P, Z, p, hx⟩ := kit_of I r1 ty
    exact PySem.W.kia_one Z I.kIn p e hx fin
  | @e a C T h =>
    cases (show u1 = Value.ref a from r1)
    obtain ⟨t1, ho⟩ := exo_at I.hok h
    have J : PySem.W.InstAt s.heap a _ C none := ⟨ho, rfl, rfl, trivial⟩
    exact PySem.W.kia_one (PySem.W.handS_kitx_exc T.hg T.hk T.hs T.hd T.ha T.hn T.ht T.hm) I.kIn J e (fun z => nomatch z) fin
  | @f a C dx fs T h h' =>
    cases (show u1 = Value.ref a from r1)
    obtain ⟨t1, ho⟩ := exo_at I.hok h
    obtain ⟨mA, hns, hr⟩ := exd_at I.hok h'
    obtain ⟨od, hod, hl⟩ := lookIn_ns hns
    have J : PySem.W.InstAt s.heap a _ C (some od) := ⟨ho, rfl, rfl, hod⟩
    have hcl : (PySem.W.clsIn X.K C).isSome = true := by
      obtain ⟨cd, hc, _⟩ := PySem.W.any_some T.hd
      rw [hc]
      rfl
    exact PySem.W.kia_one (PySem.W.kitx_exc hcl T.hg T.hk T.hs T.ha T.hn T.ht T.hm) I.kIn J e (fun z => nomatch z) fin
theorem RepT.tyE {G H : Hp} {σ : L2.St} {ρ : En} {d : D} {v : V} (hX : Xs X.K cl flds) (k : Ok (csX X cl) G H σ ρ) (h : RepT (csX X cl) G H d v) (hno : d.kn ≠ .no) : ∃ t, TyE X.K H v t ∧ match d.kn with | .ty n => t = .type n | .own c => ∃ C, cl c = some C ∧ t = .ref C | .obj c => ∃ C, cl.o c = some C ∧ t = .ref C | .no => False := by
  have h := h.inH k
  have sqT : ∀ {a xs}, SqT X.K H a xs → TyX X.K H (.ref a) (.type "tuple") := fun {a xs} q => by
    rcases q with (q | ⟨o, q⟩) | ⟨o, its, n, q1, q2, _⟩
    · exact .base (.tup q)
    · exact .fTuple q
    · exact .kTuple q1 q2
  have sqL : ∀ {a xs}, SqL X.K H a xs → TyX X.K H (.ref a) (.type "list") := fun {a xs} q => by
    rcases q with (q | ⟨o, q⟩) | ⟨o, its, n, q1, q2, _⟩
    · exact .base (.lst q)
    · exact .base (.frz q)
    · exact .kList q1 q2
  cases d with
  | non =>
    obtain rfl : v = .non := h
    exact ⟨_, .b (.base .non), rfl⟩
  | bl b =>
    obtain rfl : v = .bl b := h
    exact ⟨_, .b (.base (.bl b)), rfl⟩
  | int b =>
    obtain rfl : v = .int b := h
    exact ⟨_, .b (.base (.int b)), rfl⟩
  | str b =>
    obtain rfl : v = .str b := h
    exact ⟨_, .b (.base (.str b)), rfl⟩
  | lst ds =>
    obtain ⟨a, xs, rfl, h1, h2⟩ := h
    exact ⟨_, .b (.base (.lst h1)), rfl⟩
  | ro ds =>
    obtain ⟨a, xs, rfl, h1, h2⟩ := h
    exact ⟨_, .b (sqL h1), rfl⟩
  | tup ds =>
    obtain ⟨a, xs, rfl, h1, h2⟩ := h
    exact ⟨_, .b (sqT h1), rfl⟩
  | dk ks ds =>
    obtain ⟨a, kvs, rfl, h1, h2, h3⟩ := h
    rcases h1 with q | ⟨o, q⟩
    · exact ⟨_, .b (.base (.dK q)), rfl⟩
    · exact ⟨_, .b (.fDict q), rfl⟩
  | exc c ns ds =>
    obtain ⟨a, C, rfl, hc, h⟩ := h
    have T := (hX.k1 c C hc).ec
    rcases h with ⟨_, _, h⟩ | ⟨dx, fs, h1, h2, _⟩
    · exact ⟨_, .e T h, C, hc, rfl⟩
    · exact ⟨_, .f T h1 h2, C, hc, rfl⟩
  | obj c ns ds =>
    obtain ⟨a, C, dx, fs, rfl, hc, h1, _⟩ := h
    have T := hX.ko c C hc
    exact ⟨_, .b (.base (.ins h1 T.cl T.ha T.hn T.htk T.hm)), C, hc, rfl⟩
  | fn x => exact absurd rfl hno
  | set ks => exact absurd rfl hno
  | dt ks ds =>
    obtain ⟨a, kvs, rfl, h1, _⟩ := h
    exact ⟨_, .b (.base (.dT h1)), rfl⟩
  | rk ks ds =>
    obtain ⟨a, o, kvs, rfl, h1, _⟩ := h
    exact ⟨_, .b (.fDict h1), rfl⟩
def eIsi (sub : Kn → Option Bool) (mr : M Rf) : M D := M.bind mr fun r => M.bind r.get fun d => M.lift ((sub d.kn).map D.bl)
/-- sub tells what isinstance tells of the class u -/
structure SubOk (K : PySem.W.Frag) (cl : Nms) (u : Value) (sub : Kn → Option Bool) : Prop where
  ty : ∀ n b, sub (.ty n) = some b → PySem.W.kitOne K (.type n) u = some b
  own : ∀ c C b, cl c = some C → sub (.own c) = some b → PySem.W.kitOne K (.ref C) u = some b
  obj : ∀ c C b, cl.o c = some C → sub (.obj c) = some b → PySem.W.kitOne K (.ref C) u = some b
  no : sub .no = none
theorem ed_isi {ce : Expr} {cv : V} {u : Value} {sub : Kn → Option Bool} {mr : M Rf} (hX : Xs X.K cl flds) (hs : SubOk X.K cl u sub) (he : ER cl X W e mr) (hc : PE X ce (tC cv)) (hk : ClsV cv u) (hg : Gl X "isinstance") (hm : X.mg "isinstance" = none)
    (s1 : starEach [e, ce] X.env = (false, eval e X.env) :: starEach [ce] X.env := by rfl) (s2 : starEach [ce] X.env = (false, eval ce X.env) :: starEach [] X.env := by rfl) :
    ED cl X W (.Call (.Name "isinstance" p) [e, ce] [] pos) (eIsi sub mr) :=
  EX.by (pe_callB call_isE2 hg hm (by decide +kernel) (pa_cons he (pa_cons hc pa_nil s2) s1) (by decide) (by decide) s1 (by rw [s2]; rfl)) fun G ρ σ H Q k a => at_tX k (At.bind (Ra := rR) rD_back a fun r ρ1 v G1 H1 n1 k1 r1 a1 => by
    obtain ⟨d, q1, a2⟩ := At.get a1 k1 r1
    obtain ⟨o, e1, a3⟩ := a2.lift
    obtain ⟨b, e2, rfl⟩ := Option.map_eq_some_iff.mp e1
    obtain ⟨t, ty, ht⟩ := q1.tyE hX k1 fun z => by
      rw [z, hs.no] at e2
      cases e2
    refine ⟨v, cv, t, u, b, rfl, hk, ty, ?_, a3.ret k1 rfl⟩
    cases q : d.kn with
    | ty n =>
      rw [q] at ht e2
      subst ht
      exact hs.ty n b e2
    | own c =>
      rw [q] at ht e2
      obtain ⟨C, hc, rfl⟩ := ht
      exact hs.own c C b hc e2
    | obj c =>
      rw [q] at ht e2
      obtain ⟨C, hc, rfl⟩ := ht
      exact hs.obj c C b hc e2
    | no =>
      rw [q] at ht
      exact ht.elim)
end
end Fn

set_option maxRecDepth 100000
set_option maxHeartbeats 4000000
namespace Fn
open PySem PySem.Spec PyProof.Rows L2

/-! ### slices -/
def rPt : RelT (Option Int) (Option Int) := fun _ _ _ _ _ _ a b => a = b
theorem rPt_back : Back rPt := fun _ _ _ _ _ _ _ _ _ _ h => h
abbrev EP' (cl : Nms) (X : Cx) (W : WX) (e : Option Expr) (m : M (Option Int)) : Prop := PO X e (tX rPt (csX X cl) W m)
theorem _root_.L2.PO.imp {X : Cx} {e : Option Expr} {t t' : TO} (h : PO X e t) (i : ∀ σ H Q, t' σ H Q → t σ H Q) : PO X e t' := ⟨fun pins s σ H Q I hw => h.run pins s σ H Q I (i σ H Q hw)⟩
def cutD (ds : List D) (lo hi : Option Int) : List D := (ds.drop (HT.sIx ds.length 0 lo)).take (HT.sIx ds.length ds.length hi - HT.sIx ds.length 0 lo)
theorem cutD_rep {T : Cs} {G : Hp} {ds : List D} {vs : List V} (h : RepL T G ds vs) (lo hi : Option Int) : RepL T G (cutD ds lo hi) (cutV vs lo hi) := by
  unfold cutD cutV
  rw [h.length]
  exact (h.drop _).take _
def fSl (d : D) (lo hi : Option Int) : Option O := match d with
  | .lst ds => some (.lst (cutD ds lo hi))
  | .ro ds => some (.lst (cutD ds lo hi))
  | .tup ds => some (.dat (.tup (cutD ds lo hi)))
  | .str z => if z.length ≤ lim then some (.dat (.str (cutS z lo hi))) else none
  | _ => none
def pNone : M (Option Int) := M.ret none
def pInt (m : M D) : M (Option Int) := M.bind m fun d => match d with
  | .int i => M.ret (some i)
  | _ => M.stuck
def eSlice (mr : M Rf) (ml mh : M (Option Int)) : M O := M.bind mr fun r => M.bind ml fun l => M.bind mh fun h => M.bind r.get fun d => M.lift (fSl d l h)
def pickD (ds : List D) (lo hi : Option Int) (st : Int) : List D := (sliceRange (sliceBounds lo hi (some st) ds.length).1 (sliceBounds lo hi (some st) ds.length).2.1 (sliceBounds lo hi (some st) ds.length).2.2).filterMap (ds[·]?)
def fPick (d : D) (lo hi st : Option Int) : Option O := match d, st with
  | .lst ds, some i => if i ≠ 0 then some (.lst (pickD ds lo hi i)) else none
  | .ro ds, some i => if i ≠ 0 then some (.lst (pickD ds lo hi i)) else none
  | _, _ => none
def ePick (mr : M Rf) (ml mh ms : M (Option Int)) : M O := M.bind mr fun r => M.bind ml fun l => M.bind mh fun h => M.bind ms fun s => M.bind r.get fun d => M.lift (fPick d l h s)
theorem RepL.filterMap {T : Cs} {G : Hp} {ds : List D} {vs : List V} (h : RepL T G ds vs) : ∀ ns : List Nat, RepL T G (ns.filterMap (ds[·]?)) (ns.filterMap (vs[·]?))
  | [] => rfl
  | n :: ns => by
    cases e : ds[n]? with
    | none =>
      have e2 : vs[n]? = none := by rw [List.getElem?_eq_none_iff] at e ⊢; rw [h.length]; exact e
      rw [List.filterMap_cons_none e, List.filterMap_cons_none e2]
      exact h.filterMap ns
    | some d =>
      obtain ⟨v, e2, r⟩ := h.get e
      rw [List.filterMap_cons_some e, List.filterMap_cons_some e2]
      exact ⟨v, _, rfl, r, h.filterMap ns⟩
theorem vals_get {vs : List V} {us : List Value} (h : Vals vs us) (n : Nat) : (vs[n]? = none ∧ us[n]? = none) ∨ ∃ v u, vs[n]? = some v ∧ us[n]? = some u ∧ RelV v u := by
  induction h generalizing n with
  | nil => exact .inl ⟨rfl, rfl⟩
  | cons r t ih =>
    cases n with
    | zero => exact .inr ⟨_, _, rfl, rfl, r⟩
    | succ n => simpa using ih n
theorem vals_filterMap {vs : List V} {us : List Value} (h : Vals vs us) : ∀ ns : List Nat, Vals (ns.filterMap (vs[·]?)) (ns.filterMap (us[·]?))
  | [] => .nil
  | n :: ns => by
    rcases vals_get h n with ⟨e1, e2⟩ | ⟨v, u, e1, e2, r⟩
    · rw [List.filterMap_cons_none e1, List.filterMap_cons_none e2]
      exact vals_filterMap h ns
    · rw [List.filterMap_cons_some e1, List.filterMap_cons_some e2]
      exact .cons r (vals_filterMap h ns)
def pickV (xs : List V) (lo hi : Option Int) (st : Int) : List V := (sliceRange (sliceBounds lo hi (some st) xs.length).1 (sliceBounds lo hi (some st) xs.length).2.1 (sliceBounds lo hi (some st) xs.length).2.2).filterMap (xs[·]?)
section
variable {cl : Nms} {X : Cx} {W : WX} {e : Expr} {lo hi : Option Expr} {mr : M Rf} {ml mh ms : M (Option Int)} {md : M D} {pos p2 : Pos}
theorem EP'.by {eo : Option Expr} {m : M (Option Int)} {t : TO} (h : PO X eo t) (i : ∀ G ρ σ H Q, Ok (csX X cl) G H σ ρ → At rPt (csX X cl) W m G ρ σ H Q → t σ H Q) : EP' cl X W eo m := h.imp fun σ H Q ⟨G, ρ, k, a⟩ => i G ρ σ H Q k a
theorem ep_none : EP' cl X W none pNone := EP'.by po_none fun G ρ σ H Q k a => a.ret k rfl
theorem ep_some (h : ED cl X W e md) : EP' cl X W (some e) (pInt md) := EP'.by (po_some h) fun G ρ σ H Q k a => at_tX k (At.bind (Ra := rD) rPt_back a fun d ρ1 v G1 H1 n1 k1 r1 a1 => by
  cases d with
  | int i =>
    obtain rfl : v = .int i := r1
    exact ⟨i, rfl, a1.ret k1 rfl⟩
  | _ =>
    obtain ⟨r, ρ', e, _⟩ := a1
    cases e)
theorem eo_slice (he : ER cl X W e mr) (hl : EP' cl X W lo ml) (hu : EP' cl X W hi mh) : EO cl X W (.Subscript e (.Slice lo hi none p2) pos) (eSlice mr ml mh) :=
  EX.by (pe_slice (SlR.or (SlR.or sl_list sl_tupA) sl_str) he hl hu) fun G ρ σ H Q k a => at_tX k (At.bind (Ra := rR) rO_back a fun r ρ1 v G1 H1 n1 k1 r1 a1 => at_tX k1 (At.bind (Ra := rPt) rO_back a1 fun l ρ2 l' G2 H2 n2 k2 r2 a2 => at_tX k2 (At.bind (Ra := rPt) rO_back a2 fun h ρ3 h' G3 H3 n3 k3 r3 a3 => by
    obtain rfl : l = l' := r2
    obtain rfl : h = h' := r3
    obtain ⟨d, q, a4⟩ := At.get a3 k3 (rR_keep n3 (rR_keep n2 r1))
    obtain ⟨o, e1, a5⟩ := a4.lift
    unfold fSl at e1
    split at e1
    · cases e1
      obtain ⟨p, xs, rfl, h1, r1⟩ := q.lst k3
      exact .inl (.inl ⟨p, xs, rfl, SqL.of h1, a5.newL k3 (cutD_rep r1 l h)⟩)
    · cases e1
      obtain ⟨p, xs, rfl, h1, r1⟩ := q.ro k3
      exact .inl (.inl ⟨p, xs, rfl, h1, a5.newL k3 (cutD_rep r1 l h)⟩)
    · cases e1
      rename_i ds
      obtain ⟨p, xs, rfl, h1, r1, g1⟩ := q.tup k3
      refine .inl (.inr ⟨p, xs, rfl, h1, fun w => ?_, fun _ => a5.newT k3 (cutD_rep r1 l h)⟩)
      have ed : cutD ds l h = ds := by
        unfold cutD
        rw [← r1.length, w.1, w.2, List.drop_zero, Nat.sub_zero, r1.length, List.take_length]
      rw [ed] at a5
      exact a5.flat k3 g1
    · split at e1
      · rename_i hz
        cases e1
        obtain rfl := q.str
        exact .inr ⟨_, rfl, lim_le hz, a5.flat k3 rfl⟩
      · cases e1
    · cases e1)))
/-- xs[lo:hi:st] of a list -/
theorem pe_pick {st : Expr} {te : TE} {tl th ts : TO} (he : PE X e te) (hl : PO X lo tl) (hu : PO X hi th) (hst : PO X (some st) ts) :
    PE X (.Subscript e (.Slice lo hi (some st) p2) pos) (fun σ H Q => te σ H fun x H1 => tl σ H1 fun l H2 => th σ H2 fun u H3 => ts σ H3 fun s H4 => ∃ a xs i, x = .ref a ∧ s = some i ∧ i ≠ 0 ∧ SqL X.K H4 a xs ∧ ∀ p, H4 p = none → Q (.ref p) (upd H4 p (.lst (pickV xs l u i)))) := by
  refine ⟨fun pins s σ H Q I h => ?_⟩
  refine Subscript_ (thn (he.run pins s σ H _ I h) fun v s1 ⟨x, H1, I1, r1, q1⟩ => ?_)
  refine wpAny_Slice (thn (hl.run pins s1 σ H1 _ I1 q1) fun vl s2 ⟨l, H2, I2, pl, q2⟩ => thn (hu.run pins s2 σ H2 _ I2 q2) fun vu s3 ⟨u, H3, I3, pu, q3⟩ => thn (hst.run pins s3 σ H3 _ I3 q3) fun vs s4 ⟨o, H4, I4, ps, q4⟩ => ?_)
  obtain ⟨a, xs, i, ex, eo, h0, hx, q⟩ := q4
  subst ex eo
  cases r1
  have I5 : Inv X pins σ H4 { s4 with heap := s4.heap.push { cls := .type "slice", data := .fields #[vl, vu, vs] } } := I4.kept (t' := s4.toks) fun b ob q => Heap.get?_push_of_some _ q
  obtain ⟨its, r, ht, hz⟩ := I5.list hx
  have hlen := r.length
  show wpAny (model X.prog X.w) X.A (subscriptTail e (.Slice lo hi (some st) p2) (.ref a) (.ref s4.heap.objs.size)) (EP X pins σ Q) X.xe { s4 with heap := s4.heap.push { cls := .type "slice", data := .fields #[vl, vu, vs] } }
  refine tail_any (ops := [.ref a, .ref s4.heap.objs.size]) ht.isList.typeIs (PySem.slot_list_getitem.lookup) ?_ (by with_unfolding_all rfl)
  refine wpAny_getItem_list_slice ht.isList (Heap.IsSliceOf.new _ vl vu vs) pl pu ps (fun z => h0 (Option.some.inj z)) ?_ (by rw [List.size_toArray]; omega)
  refine ⟨.ref _, _, I5.laid (t' := s4.toks) (o := .lst (pickV xs l u i)) (fun b ob q => Heap.get?_push_of_some _ q) (Nat.le_refl _) ?_, rfl, q _ (I5.hok.fresh (Nat.le_refl _))⟩
  have rp : Vals (pickV xs l u i) (slicePick its.toArray l u (some i)).toList := by
    unfold pickV slicePick
    rw [List.size_toArray, ← hlen]
    have z := vals_filterMap r (sliceRange (sliceBounds l u (some i) xs.length).1 (sliceBounds l u (some i) xs.length).2.1 (sliceBounds l u (some i) xs.length).2.2)
    simpa using z
  refine ⟨?_, (slicePick its.toArray l u (some i)).toList, 0, rp, ?_⟩
  · rw [rp.length]
    have z := slicePick_size_le its.toArray l u (some i)
    have z3 : its.toArray.size = its.length := by simp
    have z2 : (slicePick its.toArray l u (some i)).toList.length = (slicePick its.toArray l u (some i)).size := Array.length_toList
    omega
  · exact Heap.get?_push_size _ rfl
theorem pick_rep {T : Cs} {G : Hp} {ds : List D} {vs : List V} (h : RepL T G ds vs) (lo hi : Option Int) (st : Int) : RepL T G (pickD ds lo hi st) (pickV vs lo hi st) := by
  unfold pickD pickV
  rw [h.length]
  exact h.filterMap _
theorem eo_pick {st : Expr} (he : ER cl X W e mr) (hl : EP' cl X W lo ml) (hu : EP' cl X W hi mh) (hs : EP' cl X W (some st) ms) : EO cl X W (.Subscript e (.Slice lo hi (some st) p2) pos) (ePick mr ml mh ms) :=
  EX.by (pe_pick he hl hu hs) fun G ρ σ H Q k a => at_tX k (At.bind (Ra := rR) rO_back a fun r ρ1 v G1 H1 n1 k1 r1 a1 => at_tX k1 (At.bind (Ra := rPt) rO_back a1 fun l ρ2 l' G2 H2 n2 k2 r2 a2 => at_tX k2 (At.bind (Ra := rPt) rO_back a2 fun h ρ3 h' G3 H3 n3 k3 r3 a3 => at_tX k3 (At.bind (Ra := rPt) rO_back a3 fun s ρ4 s' G4 H4 n4 k4 r4 a4 => by
    obtain rfl : l = l' := r2
    obtain rfl : h = h' := r3
    obtain rfl : s = s' := r4
    obtain ⟨d, q, a4⟩ := At.get a4 k4 (rR_keep n4 (rR_keep n3 (rR_keep n2 r1)))
    obtain ⟨o, e1, a5⟩ := a4.lift
    unfold fPick at e1
    split at e1
    · split at e1
      · rename_i ds i _ h0
        cases e1
        obtain ⟨p, xs, rfl, h1, r1⟩ := q.lst k4
        exact ⟨p, xs, i, rfl, rfl, h0, SqL.of h1, a5.newL k4 (pick_rep r1 l h i)⟩
      · cases e1
    · split at e1
      · rename_i ds i _ h0
        cases e1
        obtain ⟨p, xs, rfl, h1, r1⟩ := q.ro k4
        exact ⟨p, xs, i, rfl, rfl, h0, h1, a5.newL k4 (pick_rep r1 l h i)⟩
      · cases e1
    · cases e1))))
end
end Fn

set_option maxRecDepth 100000
set_option maxHeartbeats 4000000
namespace Fn
open PySem PySem.Spec PyProof.Rows L2

/-! ### a dict's display -/
def rKV : RelT (List (Key × D)) (List (V × V)) := fun T _ _ _ G _ kds ps => ∃ kvs : List (Key × V), ps = kvs.map (fun kv => (kV kv.1, kv.2)) ∧ kvs.map (·.1) = kds.map (·.1) ∧ RepL T G (kds.map (·.2)) (kvs.map (·.2))
theorem rKV_back : Back rKV := fun _ _ _ _ _ _ _ _ _ _ h => h
def pairsM : List (M D × M D) → M (List (Key × D))
  | [] => M.ret []
  | (mk, mv) :: r => M.bind mk fun k => M.bind mv fun d => M.bind (M.lift (asKey k)) fun ky => M.bind (pairsM r) fun kds => M.ret ((ky, d) :: kds)
def eDict (ps : List (M D × M D)) : M O := M.bind (pairsM ps) fun kds => M.bind (M.chk (decide ((kds.map (·.1)).Nodup ∧ kds.length ≤ 15))) fun _ => M.ret (.dk (kds.map (·.1)) (kds.map (·.2)))
section
variable {cl : Nms} {X : Cx} {W : WX} {T : Cs} {pos : Pos}
theorem At.lift2 {α β δ : Type} {Rb : RelT β δ} {o : Option α} {f : α → M β} {G H : Hp} {σ : L2.St} {ρ : En} {Q : Wi δ} (h : At Rb T W (M.bind (M.lift o) f) G ρ σ H Q) : ∃ a, o = some a ∧ At Rb T W (f a) G ρ σ H Q := by
  cases o with
  | none =>
    obtain ⟨r, ρ', e, _⟩ := h
    cases e
  | some a => exact ⟨a, rfl, h⟩
theorem pairs_at : ∀ {ps : List (M D × M D)} {G H : Hp} {σ : L2.St} {ρ : En} {Q : Wi (List (V × V))}, Ok T G H σ ρ → At rKV T W (pairsM ps) G ρ σ H Q → tPairs (ps.map fun p => (tX rD T W p.1, tX rD T W p.2)) σ H Q
  | [], G, H, σ, ρ, Q, k, a => a.ret k ⟨[], rfl, rfl, rfl⟩
  | (mk, mv) :: r, G, H, σ, ρ, Q, k, a => at_tX k (At.bind (Ra := rD) rKV_back a fun d ρ1 v G1 H1 n1 k1 r1 a1 => at_tX k1 (At.bind (Ra := rD) rKV_back a1 fun d2 ρ2 v2 G2 H2 n2 k2 r2 a2 => by
    obtain ⟨ky, e, a3⟩ := a2.lift2
    refine pairs_at (ps := r) k2 (At.bind (Ra := rKV) rKV_back a3 fun kds ρ3 ps G3 H3 n3 k3 r3 a4 => ?_)
    obtain ⟨kvs, rfl, e2, r4⟩ := r3
    have ev : v = kV ky := asKey_rep (G := G1) (H := H1) e (.inl r1)
    exact a4.ret k3 ⟨(ky, v2) :: kvs, by rw [List.map_cons, ev], by rw [List.map_cons, List.map_cons, e2], v2, _, rfl, Rep.mono n3.g d2 v2 r2, r4⟩))
theorem mergeK_app : ∀ (ys xs : List (Key × V)), (xs.map (·.1) ++ ys.map (·.1)).Nodup → mergeK xs ys = xs ++ ys
  | [], xs, _ => by rw [List.append_nil]; rfl
  | y :: ys, xs, h => by
    have hn : (xs.any fun kv => decide (kv.1 = y.1)) = false := by
      refine Bool.eq_false_iff.mpr fun z => ?_
      obtain ⟨q, h1, h2⟩ := List.any_eq_true.mp z
      have e : q.1 = y.1 := by simpa using h2
      have := (List.nodup_append.mp h).2.2 q.1 (List.mem_map_of_mem h1) y.1 (by simp)
      exact this e
    have e : putK xs y.1 y.2 = xs ++ [y] := by
      unfold putK
      rw [if_neg (by rw [hn]; exact Bool.false_ne_true)]
    show mergeK (putK xs y.1 y.2) ys = _
    rw [e, mergeK_app ys (xs ++ [y]) (by rw [List.map_append]; simpa using h)]
    simp
theorem eo_dict {keys : List (Option Expr)} {values : List Expr} {ps : List (M D × M D)} (h : PPs X pos keys values (ps.map fun p => (tX rD (csX X cl) W p.1, tX rD (csX X cl) W p.2))) (hall : keys.all (·.isSome) = true) (hl : keys.length = values.length) (h0 : keys ≠ []) (h15 : keys.length ≤ 15) :
    EO cl X W (.Dict keys values pos) (eDict ps) := EX.by (pe_disp h hall hl h0 h15) fun G ρ σ H Q k a => fun p hp => by
  obtain ⟨n, k', gp, np⟩ := new_own (o := .dK []) hp k
  obtain ⟨r, ρ', e, oo⟩ := a
  refine pairs_at (ps := ps) k' ?_
  unfold eDict M.bind at e
  cases q : pairsM ps ρ with
  | none =>
    rw [q] at e
    cases e
  | some z =>
    obtain ⟨r1, ρ1⟩ := z
    rw [q] at e
    cases r1 with
    | er c ns vs =>
      cases e
      exact ⟨_, _, q, ErW.shift n oo⟩
    | ok kds =>
      refine ⟨_, _, q, fun v G' H' n' k2 rel => ?_⟩
      obtain ⟨kvs, rfl, e2, r4⟩ := rel
      have hp' : H' p = some (.dK []) := n'.keep p _ upd_same np
      refine ⟨hp', kvs, rfl, ?_⟩
      dsimp only at e
      by_cases hc : (kds.map (·.1)).Nodup ∧ kds.length ≤ 15
      · have c1 : M.chk (decide ((kds.map (·.1)).Nodup ∧ kds.length ≤ 15)) ρ1 = some (.ok (), ρ1) := by
          unfold M.chk
          rw [if_pos (decide_eq_true hc)]
          rfl
        rw [c1] at e
        cases e
        have gp' : G' p = none := by
          cases z : G' p with
          | none => rfl
          | some u =>
            rcases n'.new p gp (by rw [z]; exact fun w => nomatch w) with y | y
            · rw [upd_same] at y
              cases y
            · exact absurd y np
        have np' : ¬ Owns σ ρ' p := fun z => by
          rcases n'.own p z with y | y
          · exact np y
          · rw [upd_same] at y
            cases y
        have em : mergeK [] kvs = kvs := mergeK_app kvs [] (by rw [e2]; simpa using hc.1)
        rw [em]
        have nn : Nk G H σ ρ G' (upd H' p (.dK kvs)) ρ' := { (Nx.tmp (o := .dK kvs) (n.toNx.trans n'.toNx) hp hp') with kp := (n.trans n').kp }
        have hlen : kvs.length ≤ 15 := by
          have z := congrArg List.length e2
          rw [List.length_map, List.length_map] at z
          rw [z]
          exact hc.2
        refine ⟨hlen, oo (.ref p) G' _ nn (tmp_ok k2 gp' hp' np') ⟨⟨p, kvs, rfl, upd_same, gp', e2, r4⟩, fun _ b eb => ?_⟩⟩
        cases eb
        exact ⟨hp, np'⟩
      · have c1 : M.chk (decide ((kds.map (·.1)).Nodup ∧ kds.length ≤ 15)) ρ1 = none := by
          unfold M.chk
          rw [if_neg (fun z => hc (of_decide_eq_true z))]
          rfl
        rw [c1] at e
        cases e
end
def eDict0 : M O := M.ret (.dk [] [])
section
variable {cl : Nms} {X : Cx} {W : WX} {T : Cs} {pos : Pos} {np : Nat}
/-- x, y, z = a, b, c -/
def parGo (np : Nat) : List Nat → List D → S
  | [], [] => fun ρ => some (.nx, ρ)
  | i :: is, d :: ds => fun ρ => if i < ρ.length ∧ ¬ (i < np ∧ kd ρ[i]? = 3) then parGo np is ds (ρ.set i (some (.dat d))) else none
  | _, _ => fun _ => none
def sPar (np : Nat) (is : List Nat) (m : M (List D)) : S := m.then_ fun ds => parGo np is ds
def setVs : List Nat → List V → L2.St → L2.St
  | i :: is, v :: vs, σ => setVs is vs (σ.set i (some v))
  | _, _, σ => σ
theorem par_ok : ∀ {is : List Nat} {ds : List D} {vs : List V} {G H : Hp} {σ : L2.St} {ρ ρ' : En} {fl : Fl}, Ok T G H σ ρ → RepL T G ds vs → parGo np is ds ρ = some (fl, ρ') → fl = .nx ∧ is.length = ds.length ∧ Ns np G H σ ρ G H (setVs is vs σ) ρ' ∧ Ok T G H (setVs is vs σ) ρ'
  | [], [], vs, G, H, σ, ρ, ρ', fl, k, r, e => by
    cases e
    obtain rfl : vs = [] := r
    exact ⟨rfl, rfl, Ns.refl .., k⟩
  | i :: is, d :: ds, vs, G, H, σ, ρ, ρ', fl, k, r, e => by
    obtain ⟨v, w, rfl, r1, r2⟩ := r
    have e' : (if i < ρ.length ∧ ¬ (i < np ∧ kd ρ[i]? = 3) then parGo np is ds (ρ.set i (some (.dat d))) else none) = some (fl, ρ') := e
    split at e'
    · rename_i hc
      obtain ⟨n1, k1⟩ := set_ok (np := np) (Nk.refl G H σ ρ) k (o := .dat d) (v := v) ⟨r1, Fresh.dat⟩ hc.1 hc.2
      obtain ⟨e1, e2, n2, k2⟩ := par_ok (is := is) k1 r2 e'
      exact ⟨e1, by rw [List.length_cons, List.length_cons, e2], n1.trans n2, k2⟩
    · cases e'
  | [], _ :: _, _, _, _, _, _, _, _, _, _, e => by cases e
  | _ :: _, [], _, _, _, _, _, _, _, _, _, e => by cases e
theorem es_par3 {i j l : Nat} {x y z : Str} {a b c : Expr} {m : M (List D)} {px py pz pt pos : Pos} {kt k2 pt2} (hc : X.calm = true) (hN : X.N.Nodup) (hi : X.N[i]? = some x) (hj : X.N[j]? = some y) (hl : X.N[l]? = some z) (hij : i ≠ j) (hil : i ≠ l) (hjl : j ≠ l)
    (hx : X.env.scope.names.lookup x = some .local) (hy : X.env.scope.names.lookup y = some .local) (hz : X.env.scope.names.lookup z = some .local) (ha : EL cl X W [a, b, c] m)
    (hw : swappedStores [.Tuple [.Name x px, .Name y py, .Name z pz] kt pt] (.Tuple [a, b, c] k2 pt2) X.env = pure (some [x, y, z]))
    (hs : swapsWithSole [.Tuple [.Name x px, .Name y py, .Name z pz] kt pt] (.Tuple [a, b, c] k2 pt2) pos.line X.env = pure false := by rfl) :
    ES cl X W np (.Assign [.Tuple [.Name x px, .Name y py, .Name z pz] kt pt] (.Tuple [a, b, c] k2 pt2) pos) (sPar np [i, j, l] m) :=
  ES.by (ps_par3 hc hN hi hj hl hij hil hjl hx hy hz ha hw hs) fun G ρ D σ H k a => at_tX k (a.then0 (R := rLs) fun ds ρ1 vs G1 H1 n1 k1 r1 ⟨fl, ρ', e, o⟩ => by
    obtain ⟨rfl, e2, n2, k2⟩ := par_ok k1 r1 e
    have e3 := r1.length
    rw [← e2] at e3
    match vs, e3 with
    | [u, v, w], _ => exact ⟨u, v, w, rfl, o G1 H1 _ (n1.ns.trans n2) k2⟩)
theorem es_par2 {i j : Nat} {x y : Str} {a b : Expr} {m : M (List D)} {px py pt pos : Pos} {kt k2 pt2} (hc : X.calm = true) (hN : X.N.Nodup) (hi : X.N[i]? = some x) (hj : X.N[j]? = some y) (hij : i ≠ j)
    (hx : X.env.scope.names.lookup x = some .local) (hy : X.env.scope.names.lookup y = some .local) (ha : EL cl X W [a, b] m)
    (hw : swappedStores [.Tuple [.Name x px, .Name y py] kt pt] (.Tuple [a, b] k2 pt2) X.env = pure (some [x, y]))
    (hs : swapsWithSole [.Tuple [.Name x px, .Name y py] kt pt] (.Tuple [a, b] k2 pt2) pos.line X.env = pure false := by rfl) :
    ES cl X W np (.Assign [.Tuple [.Name x px, .Name y py] kt pt] (.Tuple [a, b] k2 pt2) pos) (sPar np [i, j] m) :=
  ES.by (ps_par hc hN hi hj hij hx hy ha hw hs) fun G ρ D σ H k a => at_tX k (a.then0 (R := rLs) fun ds ρ1 vs G1 H1 n1 k1 r1 ⟨fl, ρ', e, o⟩ => by
    obtain ⟨rfl, e2, n2, k2⟩ := par_ok k1 r1 e
    have e3 := r1.length
    rw [← e2] at e3
    match vs, e3 with
    | [u, v], _ => exact ⟨u, v, rfl, o G1 H1 _ (n1.ns.trans n2) k2⟩)
end
end Fn

set_option maxRecDepth 100000
set_option maxHeartbeats 4000000
namespace Fn
open PySem PySem.Spec PyProof.Rows L2

section
variable {cl : Nms} {X : Cx} {W : WX} {pos : Pos}
theorem eo_dict0 : EO cl X W (.Dict [] [] pos) eDict0 := EX.by pe_dnewK fun G ρ σ H Q k a => fun p hp => by
  obtain ⟨n, k', gp, np⟩ := new_own (o := .dK []) hp k
  exact At.done a n k' ⟨⟨p, [], rfl, upd_same, gp, rfl, rfl⟩, fun _ b e => by
    cases e
    exact ⟨hp, np⟩⟩
end

/-- the heap that knows the script alone (or nothing, where the script is the module's own) -/
def scH (K : PySem.W.Frag) (a : Addr) (vs : List Value) (ns : List Int) : Hp := fun b => if b = a ∧ K.lookup a = none then some (.frz { cls := .type "list", data := .seq vs.toArray } (.lst (ns.map V.int))) else none
section
variable {K : PySem.W.Frag} {a : Addr} {vs : List Value} {ns : List Int} {s : Shared}
theorem scH_cases (b : Addr) : scH K a vs ns b = none ∨ (b = a ∧ K.lookup a = none ∧ scH K a vs ns b = some (.frz { cls := .type "list", data := .seq vs.toArray } (.lst (ns.map V.int)))) := by
  unfold scH
  by_cases h : b = a ∧ K.lookup a = none
  · exact .inr ⟨h.1, h.2, if_pos h⟩
  · exact .inl (if_neg h)
theorem scH_sq (X : K.In s.heap) (ha : s.heap.get? a = some { cls := .type "list", data := .seq vs.toArray }) (hi : IntsAre vs ns) (hl : ns.length ≤ sizeLine) : SqL K (scH K a vs ns) a (ns.map V.int) := by
  have rv := vals_ints hi
  cases q : K.lookup a with
  | none => exact .inl (.inr ⟨_, if_pos ⟨rfl, q⟩⟩)
  | some o =>
    have z := (X a o q).symm.trans ha
    cases z
    have e : vs.length = ns.length := by
      have z := rv.length
      rw [List.length_map] at z
      exact z.symm
    exact .inr ⟨_, _, _, q, rfl, rfl, rfl, by rw [List.size_toArray, e]; exact hl, rv⟩
theorem scH_ok {P : Program} {w : World} (ha : s.heap.get? a = some { cls := .type "list", data := .seq vs.toArray }) (hi : IntsAre vs ns) (hl : ns.length ≤ sizeLine) : HOk P w (scH K a vs ns) s.heap := fun b u z => by
  rcases scH_cases (K := K) (a := a) (vs := vs) (ns := ns) b with q | ⟨rfl, _, q⟩
  · rw [q] at z
    cases z
  · rw [q] at z
    cases z
    exact ⟨ha, by rw [List.length_map]; exact hl, vs, _, vals_ints hi, ha⟩
end
/-- THE END: what FnS says of the law's def, at the heap behind the top -/
theorem end_call {P : Program} {w : World} {K : PySem.W.Frag} {mg mb : Str → Option Value} {CX : CXT} {k : Nat} {fa a : Addr} {fd : FuncData} {x : Str} {sp : Sp} {s : Shared} {vs : List Value} {ns : List Int}
    (X : K.In s.heap) (hns : s.heap.Ns mainGlobals mg) (hb : s.heap.Ns builtinsNs mb) (hbb : ∀ x : Str, x ≠ "__name__" → mb x = bootBuiltins x) (hlim : s.heap.NoLimit) (hg : s.gens = #[])
    (ha : s.heap.get? a = some { cls := .type "list", data := .seq vs.toArray }) (hi : IntsAre vs ns) (hl : ns.length ≤ sizeLine) (hr : Room k callerA)
    (F : ∀ base : Heap, K.In base → base.Ns mainGlobals mg → FnS P w K mg base CX k fa fd [x] sp) (hbind : ∀ (s : Shared) (u : Value), BindsTo s fd ⟨[u], []⟩ [(x, u)])
    (hsp : ∀ H : Hp, SqL K H a (ns.map V.int) → sp [.ref a] H (fun v _ => v = .bl true) fun _ _ _ => False) (hCX : ∀ H e s', CX [] H s (fun _ _ _ => False) e s' → False) :
    codeAny (model P w) callerA (.call (.ref fa) ⟨[.ref a], []⟩) (fun r s' => r = .ok (.ret (.bool true)) ∧ OldK s.heap s'.heap ∧ s'.os = s.os ∧ AllBare s'.gens) s := by
  generalize hH : scH K a vs ns = H
  have cs : ∀ b, H b = none ∨ (b = a ∧ K.lookup a = none ∧ H b = some (.frz { cls := .type "list", data := .seq vs.toArray } (.lst (ns.map V.int)))) := fun b => by rw [← hH]; exact scH_cases b
  have hS : SqL K H a (ns.map V.int) := by rw [← hH]; exact scH_sq X ha hi hl
  have hok : HOk P w H s.heap := by rw [← hH]; exact scH_ok ha hi hl
  have dictFree : ∀ {b : Addr} {o : Obj} {es : Array DictEntry} {ep : Nat}, s.heap.get? b = some o → o.data = .dict es ep → (hidT s.heap H).get? b = some o := fun {b o es ep} e d => hidT_get e (by
    rcases cs b with q | ⟨rfl, _, _⟩
    · exact q
    · rw [ha] at e
      cases e
      cases d)
  have ns0 : ∀ {b : Addr} {m : Str → Option Value}, s.heap.Ns b m → (hidT s.heap H).Ns b m := fun ⟨o, es, ep, e, d, r⟩ => ⟨o, es, ep, dictFree e d, d, r⟩
  have X0 : K.In (hidT s.heap H) := fun b o e => hidT_get (X b o e) (by
    rcases cs b with q | ⟨rfl, q, _⟩
    · exact q
    · rw [q] at e
      cases e)
  obtain ⟨mc, l1, l2⟩ := hlim
  have e0 : Env0 P w K mg (hidT s.heap H) callerA [] s H := ⟨rfl, ⟨X0, ns0 hns, ⟨mb, ns0 hb, hbb⟩, ⟨mc, ns0 l1, l2⟩⟩, fun b o e => of_hidT e, Nat.le_of_eq (hidT_size _ _), trivial, fun b z => (List.not_mem_nil z).elim, hok, .of_eq hg⟩
  refine codeAny_mono ((F _ X0 (ns0 hns)).go callerA [] s H ⟨[.ref a], []⟩ [.ref a] [.ref a] _ _ rfl hr e0 (hbind s (.ref a)) (.cons rfl .nil) (hsp H hS)) fun r s' h => ?_
  cases r with
  | error e => exact (hCX H e s' h).elim
  | ok fl =>
    cases fl with
    | next => exact False.elim h
    | brk => exact False.elim h
    | cont => exact False.elim h
    | ret u =>
      obtain ⟨v, H', os, bare, un, hok', rv, q⟩ := h
      cases (show v = .bl true from q)
      cases (show u = Value.bool true from rv)
      refine ⟨rfl, OldK.of_keep fun b o e => ?_, os, bare⟩
      rcases cs b with q | ⟨_, _, q⟩
      · exact un.keep b o e q (fun z => (List.not_mem_nil z).elim) List.not_mem_nil
      · have e1 := (hok b _ q).1
        have e2 := (hok' b _ (un.frzs b _ _ q)).1
        rw [e] at e1
        cases e1
        exact e2
theorem end_walk {l : PySem.W.OpenLaw} {n k : Nat} {q : Program} {loose : List Str} {XP : (Str → Option Value) → Heap → Prop} {YP : World → Heap → Prop} {d : DefRec} {K : Params → PySem.W.Frag} {CX : World → CXT} {sp : World → Sp} {x : Str}
    (hn : l.most = some n) (hn2 : n ≤ sizeLine) (hdf : d.params.defaults = []) (hr : Room k callerA) (hY : ∀ (w : World) (h : Heap), YP w h → (K w.params).In h)
    (F : ∀ (w : World) (mg : Str → Option Value) (fa : Addr) (h : Heap), (K w.params).In h → h.Ns mainGlobals mg → mg d.name = some (.ref fa) →
      ∃ fd : FuncData, (∀ (s : Shared) (u : Value), BindsTo s fd ⟨[u], []⟩ [(x, u)]) ∧ ∀ base : Heap, (K w.params).In base → base.Ns mainGlobals mg → FnS l.prog w (K w.params) mg base (CX w) k fa fd [x] (sp w))
    (hsp : ∀ (w : World) (H : Hp) (a : Addr) (ns : List Int), ns.length ≤ n → (∀ z ∈ ns, bits z ≤ 1048576) → SqL (K w.params) H a (ns.map V.int) → sp w [.ref a] H (fun v _ => v = .bl true) fun _ _ _ => False)
    (hCX : ∀ (w : World) (H : Hp) (s : Shared) (e : Value) (s' : Shared), CX w [] H s (fun _ _ _ => False) e s' → False) : PySem.W.WalkO q loose XP YP l.row.toRowW d [] (fun f vs => PySem.call f vs) :=
  Att.attach_callB hn hdf fun w s₀ s₁ mg mb fa o pm cd doc a vs ns G Y ho hd hcd hmg hobj hints hlen hbits hg => by
    have KX := hY w _ Y
    obtain ⟨fd, hb, hF⟩ := F w mg fa _ KX G.T.g hmg
    exact end_call KX G.T.g G.T.b G.T.builtins G.T.nolimit hg hobj hints (Nat.le_trans hlen hn2) hr hF hb (fun H hS => hsp w H a ns hlen hbits hS) fun H e s' => hCX w H s₁ e s'
end Fn

set_option maxRecDepth 100000
set_option maxHeartbeats 4000000
namespace Fn
open PySem PySem.Spec PyProof.Rows L2

/-! ### exceptions through a def's frame and a block -/
theorem thru_of {X : Cx} {W : WX} (tk : Takes X W) : WThru X (L2.CX X.prog X.w) W := fun σ pins H s e s' I c => tk e s' (XE.of_call I (fun _ _ _ h => h) c)
theorem thru_fn {P : Program} {w : World} {K : PySem.W.Frag} {mg : Str → Option Value} {base : Heap} {N : List Str} {qual : Str} {scope : Scope} {f : Addr} {cd : Value} {A : Around} {outer : List Env} {s : Shared} {H : Hp} {E : XK} :
    WThru (cxOf (L2.CX P w) P w K mg base N qual scope f cd A outer s H E) (L2.CX P w) (WE E) := thru_of (takes_of rfl rfl rfl rfl)
theorem thru_blk {X : Cx} {P : Program} {w : World} : WThru X (L2.CX P w) W0 := fun σ pins H s e s' I c => by
  obtain ⟨a, B, H', cls, d, _, _, _, _, _, _, _, q⟩ := c
  exact q.elim
theorem pass_no {X : Cx} {P : Program} {w : World} : Passes (L2.CX P w) X (fun _ _ _ => False) := fun pins σ H s e s' I c => by
  obtain ⟨a, B, H', cls, d, _, _, _, _, _, _, _, q⟩ := c
  exact q.elim
theorem own_fn {P : Program} {w : World} {K : PySem.W.Frag} {mg : Str → Option Value} {base : Heap} {N : List Str} {qual : Str} {scope : Scope} {f : Addr} {cd : Value} {A : Around} {outer : List Env} {s : Shared} {H : Hp} {E : XK} :
    PassesOwn (model P w) (cxOf (L2.CX P w) P w K mg base N qual scope f cd A outer s H E).A (cxOf (L2.CX P w) P w K mg base N qual scope f cd A outer s H E).env (cxOf (L2.CX P w) P w K mg base N qual scope f cd A outer s H E).xe :=
  passes_of (X := cxOf (L2.CX P w) P w K mg base N qual scope f cd A outer s H E) rfl

/-! ### tests of a comprehension -/
section
variable {cl : Nms} {X : Cx} {W : WX} {e : Expr} {m : M Bool}
def mYes : M Bool := M.ret true
theorem ets_nil : PTs X [] (tX rB (csX X cl) W mYes) := ⟨fun pins s σ H Q I ⟨G, ρ, k, a⟩ => pts_nil.run pins s σ H Q I (a.ret k rfl)⟩
theorem ets_one (h : ET cl X W e m) : PTs X [e] (tX rB (csX X cl) W m) := pts_one h
end

/-! ### who is called -/
def ALen (n : Nat) (as : M (List Rf)) : Prop := ∀ ρ rs ρ', as ρ = some (.ok rs, ρ') → rs.length = n
theorem alen0 : ALen 0 aNil := fun ρ rs ρ' e => by
  cases e
  rfl
theorem alen1 {n : Nat} {m : M Rf} {as : M (List Rf)} (h : ALen n as) : ALen (n + 1) (aCons m as) := fun ρ rs ρ' e => by
  unfold aCons M.bind at e
  cases q : m ρ with
  | none =>
    rw [q] at e
    cases e
  | some z =>
    obtain ⟨r, ρ1⟩ := z
    rw [q] at e
    cases r with
    | er c ns vs => cases e
    | ok x =>
      dsimp only at e
      cases q2 : as ρ1 with
      | none =>
        rw [q2] at e
        cases e
      | some z =>
        obtain ⟨r2, ρ2⟩ := z
        rw [q2] at e
        cases r2 with
        | er c ns vs => cases e
        | ok xs =>
          cases e
          rw [List.length_cons, h _ _ _ q2]
/-- the text of a program, where it runs -/
structure At0 where
  P : Program
  w : World
  K : PySem.W.Frag
  mg : Str → Option Value
  base : Heap
  cl : Nms
/-- x is a def that makes F of its n arguments -/
def Cal (T : At0) (k n : Nat) (x : Str) (F : Fx) : Prop := ∃ f fd ps, FnS T.P T.w T.K T.mg T.base (L2.CX T.P T.w) k f fd ps (spF ⟨T.K, T.cl, T.P, T.w⟩ n F) ∧ T.mg x = some (.ref f) ∧ PySem.W.keepIn T.K (.ref f) = true ∧ Binds T.K fd ps []
/-- c is an own exception class with the field f -/
def CalX (T : At0) (k : Nat) (c f : Str) : Prop := ∃ C fI fd, T.cl c = some C ∧ XK2 T.K C f fI ∧ FnS T.P T.w T.K T.mg T.base (L2.CX T.P T.w) k fI fd ["self", f] (spIni C f) ∧ T.mg c = some (.ref C) ∧
  (∀ u v : Value, bindArgs fd ⟨[u, v], []⟩ = pure [(("self" : Str), u), (f, v)]) ∧ ∀ u v : Value, bindArgs fd ⟨[u], [(f, v)]⟩ = pure [(("self" : Str), u), (f, v)]
/-- .. with none -/
def CalX0 (T : At0) (c : Str) : Prop := ∃ C, T.cl c = some C ∧ XK1 T.K C ∧ PySem.W.excIn T.K C PySem.HandSPX.veTail "ValueError.__new__" = true ∧ T.mg c = some (.ref C)
/-- a name of a class, of which isinstance tells sub -/
inductive IsC (T : At0) (x : Str) (sub : Kn → Option Bool) : Prop where
  | own (C : Addr) (h : T.mg x = some (.ref C)) (s : SubOk T.K T.cl (.ref C) sub)
  | ty (n : String) (h : T.mg x = none) (b : bootBuiltins x = some (.type n)) (hn : x ≠ "__name__") (s : SubOk T.K T.cl (.type n) sub)
section
variable {cl : Nms} {X : Cx} {W : WX} {k n : Nat} {x : Str} {p pos : Pos} {e ce : Expr} {es : List Expr} {as : M (List Rf)} {F : Fx} {md : M D} {mr : M Rf} {c f : Str} {sub : Kn → Option Bool} {flds : List Str}
abbrev atX (cl : Nms) (X : Cx) : At0 := ⟨X.prog, X.w, X.K, X.mg, X.base, cl⟩
theorem c_call (G : Cal (atX cl X) k n x F) (hx : WThru X (L2.CX X.prog X.w) W) (hgd : X.A.guards = some []) (hr : Room k X.A) (hg : Gl X x) (ha : EA cl X W (e :: es) as) (hn : ALen n as) (hdb : (x == ("__debug__" : Str)) = false := by decide)
    (he : starEach (e :: es) X.env = (false, eval e X.env) :: starEach es X.env := by rfl) (hpl : (backTo pos (starEach es X.env)).any (·.1) = false := by rfl) : EO cl X W (.Call (.Name x p) (e :: es) [] pos) (eCall F as) := by
  obtain ⟨f, fd, ps, G, hm, hk, hb⟩ := G
  exact eo_call G hx hgd hr hg hm hk hb ha hn hdb he hpl
theorem c_exV (G : CalX (atX cl X) k c f) (hr : Room (k + 1) X.A) (hgd : X.A.guards = some []) (hg : Gl X c) (he : ED cl X W e md) (hdb : (c == ("__debug__" : Str)) = false := by decide) (hs : starEach [e] X.env = (false, eval e X.env) :: starEach [] X.env := by rfl) :
    ED cl X W (.Call (.Name c p) [e] [] pos) (eEx c f md) := by
  obtain ⟨C, fI, fd, hc, T, F1, hm, b1, b2⟩ := G
  exact ed_exV hc T F1 hr hgd pass_no b1 hg hm he hdb hs
theorem c_exK {kp : Pos} (G : CalX (atX cl X) k c f) (hr : Room (k + 1) X.A) (hgd : X.A.guards = some []) (hg : Gl X c) (he : ED cl X W e md) (hdb : (c == ("__debug__" : Str)) = false := by decide)
    (hall : (backToKw pos (keywordEach [⟨some f, e, kp⟩] X.env)).all (·.1.isSome) = true := by rfl) (hks : (backToKw pos (keywordEach [⟨some f, e, kp⟩] X.env)).filterMap (·.1) = [f] := by rfl)
    (hpl : ((backTo pos (starEach [] X.env)).any (·.1) || (backToKw pos (keywordEach [⟨some f, e, kp⟩] X.env)).any (·.1.isNone)) = false := by rfl) :
    ED cl X W (.Call (.Name c p) [] [⟨some f, e, kp⟩] pos) (eEx c f md) := by
  obtain ⟨C, fI, fd, hc, T, F1, hm, b1, b2⟩ := G
  exact ed_exK hc T F1 hr hgd pass_no b2 hg hm he hdb hall hks hpl
theorem c_ex0 (G : CalX0 (atX cl X) c) (hg : Gl X c) (hdb : (c == ("__debug__" : Str)) = false := by decide) : ED cl X W (.Call (.Name c p) [] [] pos) (eEx0 c) := by
  obtain ⟨C, hc, T, q, hm⟩ := G
  exact ed_ex0 hc T q hg hm hdb
theorem c_isi {cp : Pos} (G : IsC (atX cl X) c sub) (hX : Xs X.K cl flds) (he : ER cl X W e mr) (hg : Gl X "isinstance") (hm : X.mg "isinstance" = none) (hgc : Gl X c) (hdb : (c == ("__debug__" : Str)) = false := by decide)
    (s1 : starEach [e, .Name c cp] X.env = (false, eval e X.env) :: starEach [.Name c cp] X.env := by rfl) : ED cl X W (.Call (.Name "isinstance" p) [e, .Name c cp] [] pos) (eIsi sub mr) := by
  cases G with
  | own C h s => exact ed_isi hX s he (pe_glob (v := .ref C) hgc h rfl hdb) (.own C) hg hm s1
  | ty n h b hn s => exact ed_isi hX s he (pe_bltn (v := .ty n) hgc h b rfl hn hdb) (.ty n) hg hm s1
end
end Fn

set_option maxRecDepth 100000
set_option maxHeartbeats 4000000
namespace Fn
open PySem PySem.Spec PyProof.Rows L2

/-! ### words for the derivations -/
theorem bt_len : bootBuiltins "len" = some (.builtin "len") := by decide +kernel
theorem bt_max : bootBuiltins "max" = some (.builtin "max") := by decide +kernel
theorem bt_min : bootBuiltins "min" = some (.builtin "min") := by decide +kernel
theorem bt_repr : bootBuiltins "repr" = some (.builtin "repr") := by decide +kernel
theorem bt_int : bootBuiltins "int" = some (.type "int") := by decide +kernel
section
variable {cl : Nms} {X : Cx} {W : WX} {p pos : Pos} {a b e : Expr} {as : M (List Rf)} {ma mb : M Rf} {op : CmpOp}
theorem c_len (hg : Gl X "len") (hm : X.mg "len" = none) (ha : EA cl X W [e] as) (he : starEach [e] X.env = (false, eval e X.env) :: starEach [] X.env := by rfl) : ED cl X W (.Call (.Name "len" p) [e] [] pos) (eFun fLen as) := ed_blt call_len hop_len hg hm bt_len ha (he := he) (hpl := by rfl)
theorem c_int (hg : Gl X "int") (hm : X.mg "int" = none) (ha : EA cl X W [e] as) (he : starEach [e] X.env = (false, eval e X.env) :: starEach [] X.env := by rfl) : ED cl X W (.Call (.Name "int" p) [e] [] pos) (eFun fInt as) := ed_ty call_int1 hop_int hg hm bt_int ha (he := he) (hpl := by rfl)
theorem c_repr (hk : SysK X.K) (hgd : X.A.guards = some []) (hu : X.A.units + 64 < cLine) (hg : Gl X "repr") (hm : X.mg "repr" = none) (ha : EA cl X W [e] as) (he : starEach [e] X.env = (false, eval e X.env) :: starEach [] X.env := by rfl) : ED cl X W (.Call (.Name "repr" p) [e] [] pos) (eFun fRepr as) :=
  ed_blt (call_reprT hk hgd hu) hop_repr hg hm bt_repr ha (he := he) (hpl := by rfl)
theorem c_max2 (hc : X.calm = true) (hg : Gl X "max") (hm : X.mg "max" = none) (ha : EA cl X W [a, b] as) (he : starEach [a, b] X.env = (false, eval a X.env) :: starEach [b] X.env := by rfl) (hpl : (backTo pos (starEach [b] X.env)).any (·.1) = false := by rfl) : ED cl X W (.Call (.Name "max" p) [a, b] [] pos) (eFun fMax2 as) :=
  ed_blt (call_max2 hc) hop_max2 hg hm bt_max ha (he := he) (hpl := hpl)
theorem c_min2 (hc : X.calm = true) (hg : Gl X "min") (hm : X.mg "min" = none) (ha : EA cl X W [a, b] as) (he : starEach [a, b] X.env = (false, eval a X.env) :: starEach [b] X.env := by rfl) (hpl : (backTo pos (starEach [b] X.env)).any (·.1) = false := by rfl) : ED cl X W (.Call (.Name "min" p) [a, b] [] pos) (eFun fMin2 as) :=
  ed_blt (call_min2 hc) hop_min2 hg hm bt_min ha (he := he) (hpl := hpl)
theorem c_eq (hk : SysK X.K) (hu : X.A.units + 64 < cLine) (hm : behindInMarks .Eq b = false) (ha : ER cl X W a ma) (hb : ER cl X W b mb) : ED cl X W (.Compare a [.Eq] [b] pos) (eBinD fEq ma mb) := ed_cmp (op_eqT hk hu) hop_eq hm ha hb
theorem c_ne (hk : SysK X.K) (hu : X.A.units + 64 < cLine) (hm : behindInMarks .NotEq b = false) (ha : ER cl X W a ma) (hb : ER cl X W b mb) : ED cl X W (.Compare a [.NotEq] [b] pos) (eBinD fNe ma mb) := ed_cmp (op_neT hk hu) hop_ne hm ha hb
theorem c_lt (hm : behindInMarks .Lt b = false) (ha : ER cl X W a ma) (hb : ER cl X W b mb) : ED cl X W (.Compare a [.Lt] [b] pos) (eBinD fLt ma mb) := ed_cmp opLt hop_lt hm ha hb
theorem c_le (hm : behindInMarks .LtE b = false) (ha : ER cl X W a ma) (hb : ER cl X W b mb) : ED cl X W (.Compare a [.LtE] [b] pos) (eBinD fLe ma mb) := ed_cmp opLe hop_le hm ha hb
theorem c_gt (hm : behindInMarks .Gt b = false) (ha : ER cl X W a ma) (hb : ER cl X W b mb) : ED cl X W (.Compare a [.Gt] [b] pos) (eBinD fGt ma mb) := ed_cmp opGt hop_gt hm ha hb
theorem c_ge (hm : behindInMarks .GtE b = false) (ha : ER cl X W a ma) (hb : ER cl X W b mb) : ED cl X W (.Compare a [.GtE] [b] pos) (eBinD fGe ma mb) := ed_cmp opGe hop_ge hm ha hb
theorem t_eq (hk : SysK X.K) (hu : X.A.units + 64 < cLine) (hm : behindInMarks .Eq b = false) (ha : ER cl X W a ma) (hb : ER cl X W b mb) : ET cl X W (.Compare a [.Eq] [b] pos) (eT (eBinD fEq ma mb)) := et_cmp (op_eqT hk hu) hop_eq hm ha hb
theorem t_ne (hk : SysK X.K) (hu : X.A.units + 64 < cLine) (hm : behindInMarks .NotEq b = false) (ha : ER cl X W a ma) (hb : ER cl X W b mb) : ET cl X W (.Compare a [.NotEq] [b] pos) (eT (eBinD fNe ma mb)) := et_cmp (op_neT hk hu) hop_ne hm ha hb
theorem t_lt (hm : behindInMarks .Lt b = false) (ha : ER cl X W a ma) (hb : ER cl X W b mb) : ET cl X W (.Compare a [.Lt] [b] pos) (eT (eBinD fLt ma mb)) := et_cmp opLt hop_lt hm ha hb
theorem t_le (hm : behindInMarks .LtE b = false) (ha : ER cl X W a ma) (hb : ER cl X W b mb) : ET cl X W (.Compare a [.LtE] [b] pos) (eT (eBinD fLe ma mb)) := et_cmp opLe hop_le hm ha hb
theorem t_gt (hm : behindInMarks .Gt b = false) (ha : ER cl X W a ma) (hb : ER cl X W b mb) : ET cl X W (.Compare a [.Gt] [b] pos) (eT (eBinD fGt ma mb)) := et_cmp opGt hop_gt hm ha hb
theorem t_ge (hm : behindInMarks .GtE b = false) (ha : ER cl X W a ma) (hb : ER cl X W b mb) : ET cl X W (.Compare a [.GtE] [b] pos) (eT (eBinD fGe ma mb)) := et_cmp opGe hop_ge hm ha hb
end

end Fn

set_option maxRecDepth 100000
set_option maxHeartbeats 4000000
namespace Fn
open PySem PySem.Spec PyProof.Rows L2

/-! ### reckoning with denotations -/
section
variable {α β : Type} {m : M α} {f : α → M β} {g h : S} {ρ ρ1 : En} {a : α} {o : O} {b : Bool} {mb : M Bool} {mo : M O} {np i : Nat}
theorem bind_at (e : m ρ = some (.ok a, ρ1)) : M.bind m f ρ = f a ρ1 := by unfold M.bind; rw [e]
theorem map_at {k : α → β} (e : m ρ = some (.ok a, ρ1)) : M.map k m ρ = some (.ok (k a), ρ1) := bind_at e
theorem then_at {k : α → S} (e : m ρ = some (.ok a, ρ1)) : M.then_ m k ρ = k a ρ1 := by unfold M.then_; rw [e]
theorem seq_at (e : g ρ = some (.nx, ρ1)) : sSeq g h ρ = h ρ1 := by unfold sSeq; rw [e]
theorem seq_rt (e : g ρ = some (.rt o, ρ1)) : sSeq g h ρ = some (.rt o, ρ1) := by unfold sSeq; rw [e]
theorem if_at (e : mb ρ = some (.ok b, ρ1)) : sIf mb g h ρ = if b = true then g ρ1 else h ρ1 := by
  unfold sIf
  rw [then_at e]
  cases b <;> rfl
theorem set_at (e : mo ρ = some (.ok o, ρ1)) (h1 : i < ρ1.length) (h2 : ¬ (i < np ∧ kd ρ1[i]? = 3)) : sSet np i mo ρ = some (.nx, ρ1.set i (some o)) := by
  unfold sSet
  rw [then_at e, if_pos ⟨h1, h2⟩]
theorem ret_at (e : mo ρ = some (.ok o, ρ1)) : sRet mo ρ = some (.rt o, ρ1) := by
  unfold sRet
  rw [then_at e]
theorem call_at {F : Fx} {as : M (List Rf)} {rs : List Rf} {os os' : List O} {r : Res O} (h1 : as ρ = some (.ok rs, ρ1)) (h2 : argOs ρ1 rs = some os) (h3 : (lent ρ1 rs).Nodup) (h4 : F os = some (r, os')) (h5 : backOk ρ1 rs os' = true) (h6 : os'.length = os.length) :
    eCall F as ρ = some (r, back ρ1 rs os') := by
  unfold eCall
  rw [bind_at h1]
  unfold callF
  rw [h2]
  dsimp only
  rw [if_pos h3, h4]
  dsimp only
  rw [if_pos ⟨h5, h6⟩]
theorem forGo_cons {t : Tg} {body : S} {d : D} {ds : List D} {ρ2 : En} (hf : free np t ρ = true) (hs : t.set d ρ = some ρ1) (hb : body ρ1 = some (.nx, ρ2)) : forGo np t body (d :: ds) ρ = forGo np t body ds ρ2 := by
  conv => lhs; unfold forGo
  rw [if_pos hf, hs]
  dsimp only
  rw [hb]
end

/-! ### bits -/
theorem bits_le {i : Int} {k : Nat} (h : i.natAbs < 2 ^ k) (hk : 0 < k) : bits i ≤ k := by
  unfold bits Builtin.Int.intBits
  by_cases z : (i == 0) = true
  · rw [if_pos z]
    omega
  · rw [if_neg z]
    have hz : i.natAbs ≠ 0 := by
      intro e
      apply z
      have : i = 0 := Int.natAbs_eq_zero.mp e
      rw [this]
      rfl
    have := (Nat.log2_lt hz).mpr h
    omega
theorem of_bits {i : Int} {k : Nat} (h : bits i ≤ k) : i.natAbs < 2 ^ k := by
  unfold bits Builtin.Int.intBits at h
  by_cases z : (i == 0) = true
  · have e : i = 0 := by simpa using z
    rw [e]
    exact Nat.two_pow_pos k
  · rw [if_neg z] at h
    have hz : i.natAbs ≠ 0 := by
      intro e
      apply z
      have : i = 0 := Int.natAbs_eq_zero.mp e
      rw [this]
      rfl
    exact (Nat.log2_lt hz).mp (by omega)
theorem bits_small {i : Int} {k : Nat} (h0 : 0 ≤ i) (h : i < 2 ^ k) (hk : 0 < k) : bits i ≤ k := bits_le (by
  have e : ((i.natAbs : Nat) : Int) = i := Int.natAbs_of_nonneg h0
  have : ((i.natAbs : Nat) : Int) < ((2 ^ k : Nat) : Int) := by
    rw [e]
    push_cast
    exact h
  exact Int.ofNat_lt.mp this) hk
end Fn

set_option maxRecDepth 100000
set_option maxHeartbeats 4000000
namespace Fn
open PySem PySem.Spec PyProof.Rows L2

/-! ### what the top has written -/
/-- the def x of the module: st -/
def FnAt (K : PySem.W.Frag) (x : Str) (st : Stmt) (f : Addr) : Prop := ∃ (oc : Value) (od an : Option Addr) (kV dc pm cd ct : Value) (sl : Array (Option Value)), PySem.W.nsIn K mainGlobals x = some (some (.ref f)) ∧
  K.lookup f = some ⟨oc, od, .func (PySem.W.fnOf x x (defArgs st) (defBody st) (defScope st) .none kV dc pm an cd ct), sl⟩ ∧ PySem.W.codeIn K cd x = true ∧ PySem.W.keepIn K (.ref f) = true
/-- the class c, over ValueError, at C -/
def XcAt (K : PySem.W.Frag) (c : Str) (C : Addr) : Prop := ∃ (nm q : Str) (N : Addr) (bs bm : List Value) (sn : List Str) (sub : List Value) (ab : Bool) (col : Option Bool) (dd : Option Addr) (k0 k1 k2 k3 k5 : Option Value), PySem.W.nsIn K mainGlobals c = some (some (.ref C)) ∧
  K.lookup C = some (excClassObj nm q C N bs bm true sn sub ab col dd k0 k1 k2 k3 k5 "ValueError.__new__") ∧ PySem.HandSPX.refsVE bm = true
/-- its own __init__, at f: st -/
def InAt (K : PySem.W.Frag) (qual : Str) (st : Stmt) (C f : Addr) : Prop := ∃ (oc : Value) (od an : Option Addr) (kV dc pm cd ct : Value) (sl : Array (Option Value)), PySem.W.findIn K (.ref C) "__init__" = some (some (.ref f)) ∧
  K.lookup f = some ⟨oc, od, .func (PySem.W.fnOf "__init__" qual (defArgs st) (defBody st) (defScope st) .none kV dc pm an cd ct), sl⟩ ∧ PySem.W.codeIn K cd qual = true ∧ PySem.W.keepIn K (.ref f) = true
section
variable {K : PySem.W.Frag} {x qual : Str} {st : Stmt} {C f : Addr} {oc : Value} {od an : Option Addr} {kV dc pm cd ct : Value} {sl : Array (Option Value)}
theorem fnAt_mk (a : PySem.W.nsIn K mainGlobals x = some (some (.ref f))) (l : K.lookup f = some ⟨oc, od, .func (PySem.W.fnOf x x (defArgs st) (defBody st) (defScope st) .none kV dc pm an cd ct), sl⟩) (c : PySem.W.codeIn K cd x = true) (k : PySem.W.keepIn K (.ref f) = true) : FnAt K x st f := ⟨_, _, _, _, _, _, _, _, _, a, l, c, k⟩
theorem inAt_mk (a : PySem.W.findIn K (.ref C) "__init__" = some (some (.ref f))) (l : K.lookup f = some ⟨oc, od, .func (PySem.W.fnOf "__init__" qual (defArgs st) (defBody st) (defScope st) .none kV dc pm an cd ct), sl⟩) (c : PySem.W.codeIn K cd qual = true) (k : PySem.W.keepIn K (.ref f) = true) : InAt K qual st C f := ⟨_, _, _, _, _, _, _, _, _, a, l, c, k⟩
theorem xcAt_mk {c nm q : Str} {N : Addr} {bs bm : List Value} {sn : List Str} {sub : List Value} {ab : Bool} {col : Option Bool} {dd : Option Addr} {k0 k1 k2 k3 k5 : Option Value} (a : PySem.W.nsIn K mainGlobals c = some (some (.ref C)))
    (l : K.lookup C = some (excClassObj nm q C N bs bm true sn sub ab col dd k0 k1 k2 k3 k5 "ValueError.__new__")) (r : PySem.HandSPX.refsVE bm = true) : XcAt K c C := ⟨_, _, _, _, _, _, _, _, _, _, _, _, _, _, _, a, l, r⟩
theorem sysK_mk {o : Obj} (l : K.lookup sysModules = some o) (c : o.cls ≠ .type "list") : SysK K := ⟨o, l, c⟩
end
/-- what is asked of an own exception class, by looking -/
def xck (K : PySem.W.Frag) (C : Addr) (fs : List Str) : Bool :=
  decide (PySem.W.findIn K (.ref C) "__setattr__" = some (some (.builtin "object.__setattr__"))) && (decide (PySem.W.subIn K (.ref C) (.type "BaseException") = some true) && (decide (PySem.W.typeIn K (.ref C) = some (.type "type")) && (PySem.W.keepIn K (.ref C) &&
  (decide (PySem.W.findIn K (.ref C) "__getattribute__" = some (some (.builtin "BaseException.__getattribute__"))) && (decide (PySem.W.findIn K (.ref C) "__getattr__" = some none) && (PySem.W.hasDictIn K C && (decide (PySem.W.findIn K (.ref C) "__class__" = some (some (.builtin "object.__class__"))) &&
  (decide (PySem.W.specialIn K (.builtin "object.__class__") "__get__" = some (some (.builtin "getset_descriptor.__get__"))) && (decide (PySem.W.takesIn K (.builtin "object.__class__") = some true) && (decide (PySem.W.mroIn K C (.type "object") = some true) &&
  fs.all fun f => decide (PySem.W.findIn K (.ref C) f = some none)))))))))))
theorem xck_ok {K : PySem.W.Frag} {c : Str} {C : Addr} {fs : List Str} (A : XcAt K c C) (h : xck K C fs = true) : XK1 K C ∧ ∀ f ∈ fs, PySem.W.findIn K (.ref C) f = some none := by
  obtain ⟨nm, q, N, bs, bm, sn, sub, ab, col, dd, k0, k1, k2, k3, k5, _, hC, hr⟩ := A
  unfold xck at h
  simp only [Bool.and_eq_true, decide_eq_true_eq, List.all_eq_true] at h
  obtain ⟨h1, h2, h3, h4, h5, h6, h7, h8, h9, h10, h11, h12⟩ := h
  exact ⟨⟨⟨⟨nm, q, N, bs, bm, sn, sub, ab, col, dd, k0, k1, k2, k3, k5, hC, hr⟩, h1, h2, h3, h4⟩, ⟨h5, h6, h2, h7, h8, h9, h10, h11⟩⟩, h12⟩
/-- a text of __init__ that stores its one argument -/
def IniSt (st : Stmt) (f : Str) : Prop := ∃ p1 p2 p3 p4 : Pos, FnScope ["self", f] ["self", f] (defScope st) ∧ defBody st = [.Assign [.Attribute (.Name "self" p1) f p2] (.Name f p3) p4] ∧ Vis (defScope st) "self" ∧ Vis (defScope st) f ∧ (f == ("__debug__" : Str)) = false ∧ (f == ("__classdict__" : Str)) = false ∧
  (∀ (qual : Str) (kV dc pm cd ct : Value) (an : Option Addr) (u v : Value), bindArgs (PySem.W.fnOf "__init__" qual (defArgs st) (defBody st) (defScope st) .none kV dc pm an cd ct) ⟨[u, v], []⟩ = pure [(("self" : Str), u), (f, v)]) ∧
  ∀ (qual : Str) (kV dc pm cd ct : Value) (an : Option Addr) (u v : Value), bindArgs (PySem.W.fnOf "__init__" qual (defArgs st) (defBody st) (defScope st) .none kV dc pm an cd ct) ⟨[u], [(f, v)]⟩ = pure [(("self" : Str), u), (f, v)]
section
variable {T : At0} {c f qual : Str} {C fI : Addr} {fs : List Str} {st : Stmt}
theorem calX_of {h : Heap} (X : T.K.In h) (G : h.Ns mainGlobals T.mg) (hc : T.cl c = some C) (A : XcAt T.K c C) (hk : xck T.K C fs = true) (hf : f ∈ fs) (I : InAt T.K qual st C fI) (ht : PySem.W.typeIn T.K (.ref fI) = some (.type "function")) (S : IniSt st f) : CalX T 1 c f := by
  obtain ⟨x1, no⟩ := xck_ok A hk
  obtain ⟨nm, q, N, bs, bm, sn, sub, ab, col, dd, k0, k1, k2, k3, k5, ha, _, _⟩ := A
  obtain ⟨oc, od, an, kV, dc, pm, cd, ct, sl, i1, i2, i3, i4⟩ := I
  obtain ⟨p1, p2, p3, p4, s1, s2, s3, s4, s5, s6, s7, s8⟩ := S
  have x2 : XK2 T.K C f fI := { x1 with no := no f hf, iC := i1, tI := ht }
  exact ⟨C, fI, _, hc, x2, ini_ok (fun_mk i2 i3 i4) s1 s2 x2 s3 s4 s5 s6, PySem.W.mg_of X G ha, fun u v => s7 _ _ _ _ _ _ _ u v, fun u v => s8 _ _ _ _ _ _ _ u v⟩
theorem calX0_of {h : Heap} (X : T.K.In h) (G : h.Ns mainGlobals T.mg) (hc : T.cl c = some C) (A : XcAt T.K c C) (hk : xck T.K C fs = true) (q : PySem.W.excIn T.K C PySem.HandSPX.veTail "ValueError.__new__" = true) : CalX0 T c := by
  obtain ⟨x1, _⟩ := xck_ok A hk
  obtain ⟨nm, q', N, bs, bm, sn, sub, ab, col, dd, k0, k1, k2, k3, k5, ha, _, _⟩ := A
  exact ⟨C, hc, x1, q, PySem.W.mg_of X G ha⟩
/-- a def, by its text -/
theorem cal_of {h : Heap} {k n : Nat} {x : Str} {f : Addr} {F : Fx} {ps : List Str} (X : T.K.In h) (G : h.Ns mainGlobals T.mg) (A : FnAt T.K x st f)
    (ok : ∀ fd, L2.Fun T.K x x st f fd → FnS T.P T.w T.K T.mg T.base (L2.CX T.P T.w) k f fd ps (spF ⟨T.K, T.cl, T.P, T.w⟩ n F))
    (hb : ∀ (kV doc pm : Value) (an : Option Addr) (cdv ct : Value) (us : List Value), us.length = ps.length → bindArgs (PySem.W.fnOf x x (defArgs st) (defBody st) (defScope st) .none kV doc pm an cdv ct) ⟨us, []⟩ = pure (ps.zip us)) : Cal T k n x F := by
  obtain ⟨oc, od, an, kV, dc, pm, cd, ct, sl, i1, i2, i3, i4⟩ := A
  have Fu := fun_mk i2 i3 i4
  exact ⟨f, _, ps, ok _ Fu, PySem.W.mg_of X G i1, i4, Fu.binds hb⟩
end
end Fn

set_option maxRecDepth 100000
set_option maxHeartbeats 4000000
namespace Fn
open PySem PySem.Spec PyProof.Rows L2

/-! ### truth of any datum -/
def fTru : D → Option Bool
  | .non => some false
  | .bl b => some b
  | .int i => some (i != 0)
  | .str x => if x.length ≤ lim then some (x.length != 0) else none
  | .lst xs => some (!xs.isEmpty)
  | .ro xs => some (!xs.isEmpty)
  | .tup xs => some (!xs.isEmpty)
  | _ => none
theorem RepL.isEmpty {T : Cs} {G : Hp} {ds : List D} {vs : List V} (h : RepL T G ds vs) : vs.isEmpty = ds.isEmpty := by
  cases ds with
  | nil =>
    obtain rfl : vs = [] := h
    rfl
  | cons d ds =>
    obtain ⟨v, r, rfl, _, _⟩ := h
    rfl
section
variable {cl : Nms} {X : Cx} {W : WX} {T : Cs} {G H : Hp} {σ : L2.St} {ρ : En} {e : Expr} {pos : Pos} {d : D} {v : V} {b : Bool}
theorem RepT.tru (h : RepT T G H d v) (k : Ok T G H σ ρ) (e : fTru d = some b) : TruV T.K v H b := by
  cases d with
  | non =>
    obtain rfl := h.non
    cases e
    rfl
  | bl c =>
    obtain rfl := h.bl
    cases e
    rfl
  | int i =>
    obtain rfl := h.int
    cases e
    rfl
  | str x =>
    obtain rfl := h.str
    have e' : (if x.length ≤ lim then some (x.length != 0) else none) = some b := e
    split at e'
    · rename_i hl
      cases e'
      refine ⟨lim_le hl, ?_⟩
      cases x.length with
      | zero => rfl
      | succ n => rfl
    · cases e'
  | lst xs =>
    obtain ⟨a, ys, rfl, h1, h2⟩ := h.lst k
    cases e
    exact .inl ⟨ys, SqL.of h1, by rw [h2.isEmpty]⟩
  | ro xs =>
    obtain ⟨a, ys, rfl, h1, h2⟩ := h.ro k
    cases e
    exact .inl ⟨ys, h1, by rw [h2.isEmpty]⟩
  | tup xs =>
    obtain ⟨a, ys, rfl, h1, h2, _⟩ := h.tup k
    cases e
    exact .inr (.inl ⟨ys, h1, by rw [h2.isEmpty]⟩)
  | _ => cases e
def eTru (m : M Rf) : M Bool := M.bind m fun r => M.bind r.get fun d => M.lift (fTru d)
theorem et_tru {m : M Rf} (h : ER cl X W e m) (he : ∀ whole, isTrue e X.env whole = (do let v ← whole; standAt e.pos; holding [v] (truthy v)) := by intro _; rfl) : ET cl X W e (eTru m) :=
  ET.by (pt_truth h he) fun G ρ σ H Q k a => at_tX k (At.bind (Ra := rR) rB_back a fun r ρ1 v G1 H1 n1 k1 r1 a1 => by
    obtain ⟨d, q1, a2⟩ := At.get a1 k1 r1
    obtain ⟨o, e1, a3⟩ := a2.lift
    exact ⟨o, q1.tru k1 e1, a3.ret k1 rfl⟩)
end
end Fn

set_option maxRecDepth 100000
set_option maxHeartbeats 4000000
namespace Fn
open PySem PySem.Spec PyProof.Rows L2

/-! ### in, not in -/
def asSign : D → Option Nat
  | .str x => match x.cps.toList with
    | [c] => some c
    | _ => none
  | _ => none
def inSeq (a : D) (ds : List D) : Option Bool := match toPy a, toPyL ds with
  | some p, some ps => if SeqAt.shaped p = true ∧ SeqAt.shaped (.list ps) = true ∧ PyData.depthAll ps ≤ 62 then some (ps.any fun y => PyData.eqv y p) else none
  | _, _ => none
def dIn (a b : D) : Option Bool := match b with
  | .str z => (asSign a).map fun c => decide (c ∈ z.cps.toList)
  | .dk ks _ => (asKey a).map (hasK ks)
  | .rk ks _ => (asKey a).map (hasK ks)
  | .set ks => (asKey a).map (hasK ks)
  | .lst ds => inSeq a ds
  | .ro ds => inSeq a ds
  | .tup ds => inSeq a ds
  | _ => none
def fIn (a b : D) : Option D := (dIn a b).map D.bl
def fNin (a b : D) : Option D := (dIn a b).map fun c => D.bl (!c)
def rInT (T : Cs) (f : Bool → Bool) : R2 := fun x y H Q => ∃ d e c, Rep T H d x ∧ Rep T H e y ∧ dIn d e = some c ∧ Q (.bl (f c)) H
theorem asSign_some {d : D} {c : Nat} (h : asSign d = some c) : d = .str ⟨#[c]⟩ := by
  cases d with
  | str x =>
    have h' : (match x.cps.toList with | [c] => some c | _ => none) = some c := h
    split at h'
    · rename_i c' e
      cases h'
      congr 1
      cases x with
      | mk a =>
        have e2 : a.toList = [c] := e
        congr 1
        exact Array.toList_inj.mp e2
    · cases h'
  | _ => cases h
theorem asKey_rep1 {T : Cs} {H : Hp} {d : D} {k : Key} {v : V} (h : asKey d = some k) (r : Rep T H d v) : v = kV k := by
  cases d with
  | int i =>
    cases h
    exact r
  | str x =>
    cases h
    exact r
  | _ => cases h
theorem inSeq_some {a : D} {ds : List D} {c : Bool} (h : inSeq a ds = some c) : ∃ p ps, toPy a = some p ∧ toPyL ds = some ps ∧ SeqAt.shaped p = true ∧ SeqAt.shaped (.list ps) = true ∧ PyData.depthAll ps ≤ 62 ∧ c = ps.any fun y => PyData.eqv y p := by
  unfold inSeq at h
  split at h
  · rename_i p q h1 h2
    split at h
    · rename_i hs
      cases h
      exact ⟨p, q, h1, h2, hs.1, hs.2.1, hs.2.2, rfl⟩
    · cases h
  · cases h
theorem hasK_val {kvs : List (Key × V)} {k : Key} : (valV kvs k).isSome = hasK (kvs.map (·.1)) k := by
  induction kvs with
  | nil => rfl
  | cons p kvs ih =>
    unfold valV hasK at *
    by_cases q : p.1 = k
    · simp [q]
    · simpa [q] using ih
theorem depthAll_list {ps : List PyData} (h : SeqAt.shaped (.list ps) = true) : PyData.depthAll ps ≤ 63 := by
  have := SeqAt.depth_of_shaped h
  rw [PyData.depth] at this
  omega
theorem plainAll_list {ps : List PyData} (h : SeqAt.shaped (.list ps) = true) : PyData.plainAll ps = true := PyData.plainAll_of_canLay0 ps (by
  have := SeqAt.canLay_of_shaped h
  simpa [PyData.canLay0] using this)
section
variable {cl : Nms} {X : Cx} {W : WX}
theorem op_inT (hk : SysK X.K) (hu : X.A.units + 64 < cLine) : OpR X (compareOp .In) (rInT (csX X cl) id) := by
  intro pins s σ H x y v u Q I rx ry h
  obtain ⟨d, e, c, hd, he, hc, q⟩ := h
  have sq : ∀ {ds : List D}, inSeq d ds = some c → ∃ p ps as, toPyL ds = some ps ∧ Reads s.heap v p as ∧ p.plain = true ∧ PyData.plainAll ps = true ∧ X.A.units + 1 + min (PyData.depthAll ps) p.depth < cLine ∧ c = ps.any fun y => PyData.eqv y p := fun {ds} z => by
    obtain ⟨p, ps, e1, e2, s1, s2, s3, rfl⟩ := inSeq_some z
    obtain ⟨as, r1, _⟩ := Rep.reads I (noSys I hk) d x v p hd e1 rx
    have := s3
    exact ⟨p, ps, as, e2, r1, PyData.plain_of_canLay0 p (SeqAt.canLay_of_shaped s1), plainAll_list s2, by omega, rfl⟩
  have fin : EP X pins σ Q (.bool c) s := ⟨.bl c, H, I, rfl, q⟩
  cases e with
  | str z =>
    obtain rfl : y = .str z := he
    obtain ⟨k, e1, rfl⟩ := Option.map_eq_some_iff.mp (show (asSign d).map (fun c => decide (c ∈ z.cps.toList)) = some c from hc)
    rw [asSign_some e1] at hd
    obtain rfl : x = .str ⟨#[k]⟩ := hd
    exact op_in_sign pins s σ H _ _ v u Q I rx ry ⟨k, z, rfl, rfl, q⟩
  | dk ks ds =>
    obtain ⟨a, kvs, rfl, h1, rfl, h2⟩ := he
    obtain ⟨k, e1, rfl⟩ := Option.map_eq_some_iff.mp (show (asKey d).map (hasK (kvs.map (·.1))) = some c from hc)
    obtain rfl := asKey_rep1 e1 hd
    cases ry
    refine d_in (o := valV kvs k) (by omega) I (.inl ⟨kvs, k, h1, rfl, rfl⟩) rx fun s' I' => ⟨.bl _, H, I', rfl, ?_⟩
    rw [hasK_val]
    exact q
  | rk ks ds =>
    obtain ⟨a, oo, kvs, rfl, h1, rfl, h2⟩ := he
    obtain ⟨k, e1, rfl⟩ := Option.map_eq_some_iff.mp (show (asKey d).map (hasK (kvs.map (·.1))) = some c from hc)
    obtain rfl := asKey_rep1 e1 hd
    cases ry
    refine d_in (o := valV kvs k) (by omega) I (.inl ⟨kvs, k, .inr ⟨oo, h1⟩, rfl, rfl⟩) rx fun s' I' => ⟨.bl _, H, I', rfl, ?_⟩
    rw [hasK_val]
    exact q
  | set ks =>
    obtain ⟨a, rfl, h1⟩ := he
    obtain ⟨k, e1, rfl⟩ := Option.map_eq_some_iff.mp (show (asKey d).map (hasK ks) = some c from hc)
    obtain rfl := asKey_rep1 e1 hd
    exact or_sinK pins s σ H _ _ v u Q I rx ry ⟨k, a, _, _, rfl, rfl, h1, q⟩
  | lst ds =>
    obtain ⟨p, ps, as, e1, r1, b1, b2, b3, rfl⟩ := sq (ds := ds) hc
    obtain ⟨bs, r2, _⟩ := Rep.reads I (noSys I hk) (.lst ds) y u (.list ps) he (by show (toPyL ds).map PyData.list = _; rw [e1]; rfl) ry
    exact SeqAt.in_list_data r2 r1 b2 b1 b3 fin
  | ro ds =>
    obtain ⟨p, ps, as, e1, r1, b1, b2, b3, rfl⟩ := sq (ds := ds) hc
    obtain ⟨bs, r2, _⟩ := Rep.reads I (noSys I hk) (.ro ds) y u (.list ps) he (by show (toPyL ds).map PyData.list = _; rw [e1]; rfl) ry
    exact SeqAt.in_list_data r2 r1 b2 b1 b3 fin
  | tup ds =>
    obtain ⟨p, ps, as, e1, r1, b1, b2, b3, rfl⟩ := sq (ds := ds) hc
    obtain ⟨bs, r2, _⟩ := Rep.reads I (noSys I hk) (.tup ds) y u (.tuple ps) he (by show (toPyL ds).map PyData.tuple = _; rw [e1]; rfl) ry
    exact SeqAt.in_tuple_data r2 r1 b2 b1 b3 fin
  | _ => cases hc
theorem op_ninT (hk : SysK X.K) (hu : X.A.units + 64 < cLine) : OpR X (compareOp .NotIn) (rInT (csX X cl) (!·)) := by
  intro pins s σ H x y v u Q I rx ry h
  obtain ⟨d, e, c, hd, he, hc, q⟩ := h
  have sq : ∀ {ds : List D}, inSeq d ds = some c → ∃ p ps as, toPyL ds = some ps ∧ Reads s.heap v p as ∧ p.plain = true ∧ PyData.plainAll ps = true ∧ X.A.units + 1 + min (PyData.depthAll ps) p.depth < cLine ∧ c = ps.any fun y => PyData.eqv y p := fun {ds} z => by
    obtain ⟨p, ps, e1, e2, s1, s2, s3, rfl⟩ := inSeq_some z
    obtain ⟨as, r1, _⟩ := Rep.reads I (noSys I hk) d x v p hd e1 rx
    have := s3
    exact ⟨p, ps, as, e2, r1, PyData.plain_of_canLay0 p (SeqAt.canLay_of_shaped s1), plainAll_list s2, by omega, rfl⟩
  have fin : EP X pins σ Q (.bool (!c)) s := ⟨.bl (!c), H, I, rfl, q⟩
  cases e with
  | str z =>
    obtain rfl : y = .str z := he
    obtain ⟨k, e1, rfl⟩ := Option.map_eq_some_iff.mp (show (asSign d).map (fun c => decide (c ∈ z.cps.toList)) = some c from hc)
    rw [asSign_some e1] at hd
    obtain rfl : x = .str ⟨#[k]⟩ := hd
    exact op_notIn_sign pins s σ H _ _ v u Q I rx ry ⟨k, z, rfl, rfl, q⟩
  | dk ks ds =>
    obtain ⟨a, kvs, rfl, h1, rfl, h2⟩ := he
    obtain ⟨k, e1, rfl⟩ := Option.map_eq_some_iff.mp (show (asKey d).map (hasK (kvs.map (·.1))) = some c from hc)
    obtain rfl := asKey_rep1 e1 hd
    cases ry
    refine d_notIn (o := valV kvs k) (by omega) I (.inl ⟨kvs, k, h1, rfl, rfl⟩) rx fun s' I' => ⟨.bl _, H, I', rfl, ?_⟩
    rw [hasK_val]
    exact q
  | rk ks ds =>
    obtain ⟨a, oo, kvs, rfl, h1, rfl, h2⟩ := he
    obtain ⟨k, e1, rfl⟩ := Option.map_eq_some_iff.mp (show (asKey d).map (hasK (kvs.map (·.1))) = some c from hc)
    obtain rfl := asKey_rep1 e1 hd
    cases ry
    refine d_notIn (o := valV kvs k) (by omega) I (.inl ⟨kvs, k, .inr ⟨oo, h1⟩, rfl, rfl⟩) rx fun s' I' => ⟨.bl _, H, I', rfl, ?_⟩
    rw [hasK_val]
    exact q
  | set ks =>
    obtain ⟨a, rfl, h1⟩ := he
    obtain ⟨k, e1, rfl⟩ := Option.map_eq_some_iff.mp (show (asKey d).map (hasK ks) = some c from hc)
    obtain rfl := asKey_rep1 e1 hd
    exact or_snotinK pins s σ H _ _ v u Q I rx ry ⟨k, a, _, _, rfl, rfl, h1, q⟩
  | lst ds =>
    obtain ⟨p, ps, as, e1, r1, b1, b2, b3, rfl⟩ := sq (ds := ds) hc
    obtain ⟨bs, r2, _⟩ := Rep.reads I (noSys I hk) (.lst ds) y u (.list ps) he (by show (toPyL ds).map PyData.list = _; rw [e1]; rfl) ry
    exact SeqAt.notIn_list_data r2 r1 b2 b1 b3 fin
  | ro ds =>
    obtain ⟨p, ps, as, e1, r1, b1, b2, b3, rfl⟩ := sq (ds := ds) hc
    obtain ⟨bs, r2, _⟩ := Rep.reads I (noSys I hk) (.ro ds) y u (.list ps) he (by show (toPyL ds).map PyData.list = _; rw [e1]; rfl) ry
    exact SeqAt.notIn_list_data r2 r1 b2 b1 b3 fin
  | tup ds =>
    obtain ⟨p, ps, as, e1, r1, b1, b2, b3, rfl⟩ := sq (ds := ds) hc
    obtain ⟨bs, r2, _⟩ := Rep.reads I (noSys I hk) (.tup ds) y u (.tuple ps) he (by show (toPyL ds).map PyData.tuple = _; rw [e1]; rfl) ry
    exact SeqAt.notIn_tuple_data r2 r1 b2 b1 b3 fin
  | _ => cases hc
theorem hop_in : HopD cl X W fIn (rInT (csX X cl) id) := fun G H σ ρ d1 d2 o v1 v2 Q k e q1 q2 h => by
  obtain ⟨c, e1, rfl⟩ := Option.map_eq_some_iff.mp (show (dIn d1 d2).map D.bl = some o from e)
  exact ⟨d1, d2, c, q1.inH k, q2.inH k, e1, h.ret k rfl⟩
theorem hop_nin : HopD cl X W fNin (rInT (csX X cl) (!·)) := fun G H σ ρ d1 d2 o v1 v2 Q k e q1 q2 h => by
  obtain ⟨c, e1, rfl⟩ := Option.map_eq_some_iff.mp (show (dIn d1 d2).map (fun c => D.bl (!c)) = some o from e)
  exact ⟨d1, d2, c, q1.inH k, q2.inH k, e1, h.ret k rfl⟩
end
end Fn

set_option maxRecDepth 100000
set_option maxHeartbeats 4000000
namespace Fn
open PySem PySem.Spec PyProof.Rows L2

/-! ### tuple(x), list(x), sum(xs), all(xs) -/
theorem CallR.or {X : Cx} {f : Value} {r r' : List V → Hp → VK → Prop} (h : CallR X f r) (h' : CallR X f r') : CallR X f (fun xs H Q => r xs H Q ∨ r' xs H Q) := fun pins s σ H xs us Q I rv z => z.elim (h pins s σ H xs us Q I rv) (h' pins s σ H xs us Q I rv)
def fTuple : List D → Option O
  | [.tup ds] => some (.dat (.tup ds))
  | [.lst ds] => some (.dat (.tup ds))
  | [.ro ds] => some (.dat (.tup ds))
  | _ => none
def fList : List D → Option O
  | [.tup ds] => some (.lst ds)
  | [.lst ds] => some (.lst ds)
  | [.ro ds] => some (.lst ds)
  | [.dk ks _] => some (.lst (ks.map fun k => match k with | .inl i => .int i | .inr x => .str x))
  | _ => none
def asInts : List D → Option (List Int)
  | [] => some []
  | .int i :: ds => (asInts ds).map (i :: ·)
  | _ => none
def asBools : List D → Option (List Bool)
  | [] => some []
  | .bl i :: ds => (asBools ds).map (i :: ·)
  | _ => none
def fSum : List D → Option D
  | [.lst ds] => (asInts ds).map fun ns => .int ns.sum
  | _ => none
def fAll : List D → Option D
  | [.lst ds] => (asBools ds).map fun bs => .bl (bs.all id)
  | _ => none
def fAny : List D → Option D
  | [.lst ds] => (asBools ds).map fun bs => .bl (bs.any id)
  | _ => none
section
variable {cl : Nms} {X : Cx} {W : WX} {T : Cs} {G H : Hp} {σ : L2.St} {ρ : En}
theorem asInts_rep : ∀ {ds : List D} {ns : List Int} {vs : List V}, asInts ds = some ns → RepL T G ds vs → vs = ns.map V.int
  | [], ns, vs, e, r => by
    cases e
    exact r
  | .int i :: ds, ns, vs, e, r => by
    obtain ⟨ms, e1, rfl⟩ := Option.map_eq_some_iff.mp (show (asInts ds).map (i :: ·) = some ns from e)
    obtain ⟨v, w, rfl, rv, rw⟩ := r
    obtain rfl : v = .int i := rv
    rw [asInts_rep e1 rw, List.map_cons]
  | .non :: ds, ns, vs, e, r => by cases e
  | .bl _ :: ds, ns, vs, e, r => by cases e
  | .str _ :: ds, ns, vs, e, r => by cases e
  | .lst _ :: ds, ns, vs, e, r => by cases e
  | .tup _ :: ds, ns, vs, e, r => by cases e
  | .ro _ :: ds, ns, vs, e, r => by cases e
  | .dk _ _ :: ds, ns, vs, e, r => by cases e
  | .exc _ _ _ :: ds, ns, vs, e, r => by cases e
  | .obj _ _ _ :: ds, ns, vs, e, r => by cases e
  | .fn _ :: ds, ns, vs, e, r => by cases e
  | .set _ :: ds, ns, vs, e, r => by cases e
  | .dt _ _ :: ds, ns, vs, e, r => by cases e
  | .rk _ _ :: ds, ns, vs, e, r => by cases e
theorem asBools_rep : ∀ {ds : List D} {ns : List Bool} {vs : List V}, asBools ds = some ns → RepL T G ds vs → vs = ns.map V.bl
  | [], ns, vs, e, r => by
    cases e
    exact r
  | .bl i :: ds, ns, vs, e, r => by
    obtain ⟨ms, e1, rfl⟩ := Option.map_eq_some_iff.mp (show (asBools ds).map (i :: ·) = some ns from e)
    obtain ⟨v, w, rfl, rv, rw⟩ := r
    obtain rfl : v = .bl i := rv
    rw [asBools_rep e1 rw, List.map_cons]
  | .non :: ds, ns, vs, e, r => by cases e
  | .int _ :: ds, ns, vs, e, r => by cases e
  | .str _ :: ds, ns, vs, e, r => by cases e
  | .lst _ :: ds, ns, vs, e, r => by cases e
  | .tup _ :: ds, ns, vs, e, r => by cases e
  | .ro _ :: ds, ns, vs, e, r => by cases e
  | .dk _ _ :: ds, ns, vs, e, r => by cases e
  | .exc _ _ _ :: ds, ns, vs, e, r => by cases e
  | .obj _ _ _ :: ds, ns, vs, e, r => by cases e
  | .fn _ :: ds, ns, vs, e, r => by cases e
  | .set _ :: ds, ns, vs, e, r => by cases e
  | .dt _ _ :: ds, ns, vs, e, r => by cases e
  | .rk _ _ :: ds, ns, vs, e, r => by cases e
theorem keys_rep : ∀ (ks : List Key), RepL T G (ks.map fun k => match k with | .inl i => D.int i | .inr x => .str x) (ks.map kV)
  | [] => rfl
  | .inl i :: ks => ⟨_, _, rfl, rfl, keys_rep ks⟩
  | .inr x :: ks => ⟨_, _, rfl, rfl, keys_rep ks⟩
theorem hop_tuple : HopF rO cl X W fTuple (fun xs H Q => ∃ p ys, xs = [.ref p] ∧ ((SqL X.K H p ys ∧ ∀ l, H l = none → Q (.ref l) (upd H l (.tup ys))) ∨ (SqT X.K H p ys ∧ Q (.ref p) H))) := fun G H σ ρ ds o vs Q k e q h => by
  unfold fTuple at e
  split at e
  · cases e
    obtain ⟨v, rfl, q1⟩ := q.one
    obtain ⟨a, xs, rfl, h1, h2, h3⟩ := q1.tup k
    exact ⟨a, xs, rfl, .inr ⟨h1, h.flat k h3⟩⟩
  · cases e
    obtain ⟨v, rfl, q1⟩ := q.one
    obtain ⟨a, xs, rfl, h1, h2⟩ := q1.lst k
    exact ⟨a, xs, rfl, .inl ⟨SqL.of h1, h.newT k h2⟩⟩
  · cases e
    obtain ⟨v, rfl, q1⟩ := q.one
    obtain ⟨a, xs, rfl, h1, h2⟩ := q1.ro k
    exact ⟨a, xs, rfl, .inl ⟨h1, h.newT k h2⟩⟩
  · cases e
theorem hop_list : HopF rO cl X W fList (fun xs H Q => (∃ p ys, xs = [.ref p] ∧ (SqL X.K H p ys ∨ SqT X.K H p ys) ∧ ∀ l, H l = none → Q (.ref l) (upd H l (.lst ys))) ∨ ∃ (a : Addr) (kvs : List (Key × V)), xs = [.ref a] ∧ Rd H a (.dK kvs) ∧ ∀ p, H p = none → Q (.ref p) (upd H p (.lst (kvs.map fun z => kV z.1)))) := fun G H σ ρ ds o vs Q k e q h => by
  unfold fList at e
  split at e
  · cases e
    obtain ⟨v, rfl, q1⟩ := q.one
    obtain ⟨a, xs, rfl, h1, h2, h3⟩ := q1.tup k
    exact .inl ⟨a, xs, rfl, .inr h1, h.newL k h2⟩
  · cases e
    obtain ⟨v, rfl, q1⟩ := q.one
    obtain ⟨a, xs, rfl, h1, h2⟩ := q1.lst k
    exact .inl ⟨a, xs, rfl, .inl (SqL.of h1), h.newL k h2⟩
  · cases e
    obtain ⟨v, rfl, q1⟩ := q.one
    obtain ⟨a, xs, rfl, h1, h2⟩ := q1.ro k
    exact .inl ⟨a, xs, rfl, .inl h1, h.newL k h2⟩
  · cases e
    obtain ⟨v, rfl, q1⟩ := q.one
    obtain ⟨a, kvs, rfl, h1, rfl, h2⟩ := q1.dk k
    refine .inr ⟨a, kvs, rfl, h1, ?_⟩
    have := h.newL (xs := (kvs.map (·.1)).map kV) k (keys_rep _)
    rw [List.map_map] at this
    exact this
  · cases e
theorem hop_sum : HopF rD cl X W fSum (rSum X.K) := fun G H σ ρ ds o vs Q k e q h => by
  unfold fSum at e
  split at e
  · obtain ⟨ns, e1, rfl⟩ := Option.map_eq_some_iff.mp e
    obtain ⟨v, rfl, q1⟩ := q.one
    obtain ⟨a, xs, rfl, h1, h2⟩ := q1.lst k
    obtain rfl := asInts_rep e1 h2
    exact ⟨a, ns, rfl, SqL.of h1, h.ret k rfl⟩
  · cases e
theorem hop_all : HopF rD cl X W fAll (rAll X.K) := fun G H σ ρ ds o vs Q k e q h => by
  unfold fAll at e
  split at e
  · obtain ⟨ns, e1, rfl⟩ := Option.map_eq_some_iff.mp e
    obtain ⟨v, rfl, q1⟩ := q.one
    obtain ⟨a, xs, rfl, h1, h2⟩ := q1.lst k
    obtain rfl := asBools_rep e1 h2
    exact ⟨a, ns, rfl, SqL.of h1, h.ret k rfl⟩
  · cases e
theorem hop_any : HopF rD cl X W fAny (rAny X.K) := fun G H σ ρ ds o vs Q k e q h => by
  unfold fAny at e
  split at e
  · obtain ⟨ns, e1, rfl⟩ := Option.map_eq_some_iff.mp e
    obtain ⟨v, rfl, q1⟩ := q.one
    obtain ⟨a, xs, rfl, h1, h2⟩ := q1.lst k
    obtain rfl := asBools_rep e1 h2
    exact ⟨a, ns, rfl, SqL.of h1, h.ret k rfl⟩
  · cases e
end
end Fn

set_option maxRecDepth 100000
set_option maxHeartbeats 4000000
namespace Fn
open PySem PySem.Spec PyProof.Rows L2

/-! ### sorted(xs) -/
def py (d : D) : PyData := (toPy d).getD .none
def dLt (a b : D) : Bool := W.dataLt (py a) (py b)
def dIns (x : D) : List D → List D
  | [] => [x]
  | y :: r => if dLt y x = true then y :: dIns x r else x :: y :: r
def dIsort : List D → List D
  | [] => []
  | x :: r => dIns x (dIsort r)
def strictly : List D → Bool
  | x :: y :: r => dLt x y && strictly (y :: r)
  | _ => true
def weakly : List D → Bool
  | x :: y :: r => !dLt y x && weakly (y :: r)
  | _ => true
def isStr : D → Bool | .str _ => true | _ => false
def isInt : D → Bool | .int _ => true | _ => false
def isStrs : D → Bool | .tup (x :: r) => (x :: r).all isStr | _ => false
theorem dIns_perm (x : D) : ∀ l, (dIns x l).Perm (x :: l)
  | [] => List.Perm.refl _
  | y :: r => by
    unfold dIns
    split
    · exact ((dIns_perm x r).cons y).trans (List.Perm.swap x y r)
    · exact List.Perm.refl _
theorem dIsort_perm : ∀ l, (dIsort l).Perm l
  | [] => List.Perm.refl _
  | x :: r => (dIns_perm x (dIsort r)).trans ((dIsort_perm r).cons x)
theorem dLt_tr {a b c : D} (h : dLt a b = true) (h' : dLt b c = true) : dLt a c = true := lex_trans (O := itemOrd) _ _ _ h h'
theorem dLt_no {a b : D} (h : dLt a b = true) : dLt b a = false := by
  cases q : dLt b a with
  | false => rfl
  | true =>
    have := dLt_tr h q
    have z := lex_irrefl (O := itemOrd) (W.keyToks (py a))
    rw [show lexLt itemOrd (W.keyToks (py a)) (W.keyToks (py a)) = dLt a a from rfl, this] at z
    cases z
def dLe (a b : D) : Bool := !dLt b a
theorem dLe_total (a b : D) : (dLe a b || dLe b a) = true := by
  unfold dLe
  cases q : dLt a b with
  | false => simp
  | true => simp [dLt_no q]
theorem dLe_tr (a b c : D) (h : dLe a b = true) (h' : dLe b c = true) : dLe a c = true := by
  unfold dLe at *
  cases q : dLt c a with
  | false => rfl
  | true =>
    rcases lex_negTrans (O := itemOrd) _ (W.keyToks (py b)) _ q with z | z
    · rw [show dLt c b = true from z] at h'
      cases h'
    · rw [show dLt b a = true from z] at h
      cases h
theorem strictly_pw : ∀ {l : List D}, strictly l = true → l.Pairwise fun a b => dLt a b = true
  | [], _ => .nil
  | [x], _ => List.pairwise_singleton _ _
  | x :: y :: r, h => by
    have h' := Bool.and_eq_true_iff.mp (show (dLt x y && strictly (y :: r)) = true from h)
    have ih := strictly_pw h'.2
    refine .cons (fun z hz => ?_) ih
    rcases List.mem_cons.mp hz with e | e
    · rw [e]
      exact h'.1
    · exact dLt_tr h'.1 ((List.pairwise_cons.mp ih).1 z e)
theorem weakly_pw : ∀ {l : List D}, weakly l = true → l.Pairwise fun a b => dLe a b = true
  | [], _ => .nil
  | [x], _ => List.pairwise_singleton _ _
  | x :: y :: r, h => by
    have h' := Bool.and_eq_true_iff.mp (show (!dLt y x && weakly (y :: r)) = true from h)
    have ih := weakly_pw h'.2
    refine .cons (fun z hz => ?_) ih
    rcases List.mem_cons.mp hz with e | e
    · rw [e]
      exact h'.1
    · exact dLe_tr _ _ _ h'.1 ((List.pairwise_cons.mp ih).1 z e)
theorem strict_anti {l : List D} (h : l.Pairwise fun a b => dLt a b = true) {a b : D} (ha : a ∈ l) (hb : b ∈ l) (h1 : dLe a b = true) (h2 : dLe b a = true) : a = b := by
  induction h with
  | nil => cases ha
  | @cons x r hx _ ih =>
    unfold dLe at h1 h2
    rcases List.mem_cons.mp ha with e | e
    · rcases List.mem_cons.mp hb with e' | e'
      · rw [e, e']
      · have := hx b e'
        rw [e, this] at h2
        cases h2
    · rcases List.mem_cons.mp hb with e' | e'
      · have := hx a e
        rw [e', this] at h1
        cases h1
      · exact ih e e'
theorem flat_anti {a b : D} (h : (isStr a && isStr b || isInt a && isInt b) = true) (h1 : dLe a b = true) (h2 : dLe b a = true) : a = b := by
  have h1' : dLt b a = false := by
    unfold dLe at h1
    simpa using h1
  have h2' : dLt a b = false := by
    unfold dLe at h2
    simpa using h2
  have e : W.keyToks (py a) = W.keyToks (py b) := lex_total (O := itemOrd) _ _ h2' h1'
  cases a with
  | str x =>
    cases b with
    | str y =>
      have e' : [Sum.inr x.cps.toList] = [(Sum.inr y.cps.toList : Int ⊕ List Nat)] := e
      have e2 : x.cps.toList = y.cps.toList := by simpa using e'
      rw [W.str_of_cps e2]
    | _ => cases h
  | int i =>
    cases b with
    | int j =>
      have e' : [Sum.inl i] = [(Sum.inl j : Int ⊕ List Nat)] := e
      have e2 : i = j := by simpa using e'
      rw [e2]
    | _ => cases h
  | _ => cases h
def isTup1 (d : D) : Bool := match toPy d with
  | some (.tuple (_ :: _)) => true
  | _ => false
/-- tuples of any data, alike one another -/
def tupsOk (ds : List D) : Bool := ds.all isTup1 && (ds.all fun a => ds.all fun b => W.alike (py a) (py b)) && ds.all fun d => decide ((py d).depth ≤ 60)
def okKinds (ds : List D) : Bool := ds.all isStr || ds.all isInt || (ds.all isStrs || tupsOk ds)
def dSort (ds : List D) : Option (List D) :=
  if (ds.all isStr || ds.all isInt) = true then (if weakly (dIsort ds) = true then some (dIsort ds) else none)
  else if (ds.all isStrs || tupsOk ds) = true then (if strictly (dIsort ds) = true then some (dIsort ds) else none) else none
theorem dSort_some {ds es : List D} (h : dSort ds = some es) : okKinds ds = true ∧ es.Perm ds ∧ es.Pairwise (fun a b => dLe a b = true) ∧ ∀ a b, a ∈ es → b ∈ es → dLe a b = true → dLe b a = true → a = b := by
  unfold dSort at h
  split at h
  · rename_i hk
    split at h
    · rename_i hw
      cases h
      have hp := dIsort_perm ds
      refine ⟨by unfold okKinds; rw [hk]; rfl, hp, weakly_pw hw, fun a b ha hb h1 h2 => flat_anti ?_ h1 h2⟩
      rcases Bool.or_eq_true_iff.mp hk with q | q
      · rw [List.all_eq_true.mp q a (hp.mem_iff.mp ha), List.all_eq_true.mp q b (hp.mem_iff.mp hb)]
        rfl
      · rw [List.all_eq_true.mp q a (hp.mem_iff.mp ha), List.all_eq_true.mp q b (hp.mem_iff.mp hb)]
        simp
    · cases h
  · split at h
    · rename_i hk
      split at h
      · rename_i hw
        cases h
        have hs := strictly_pw hw
        exact ⟨by unfold okKinds; rw [hk]; simp, dIsort_perm ds, hs.imp fun z => by unfold dLe; rw [dLt_no z]; rfl, fun a b ha hb h1 h2 => strict_anti hs ha hb h1 h2⟩
      · cases h
    · cases h
theorem sort_uniq {ds es ms : List D} (h : dSort ds = some es) (hp : ms.Perm ds) (hs : ms.Pairwise fun a b => dLe a b = true) : ms = es := by
  obtain ⟨_, p, s, anti⟩ := dSort_some h
  exact List.Perm.eq_of_pairwise (le := fun a b => dLe a b = true) (fun a b ha hb => anti a b ((hp.trans p.symm).mem_iff.mp ha) hb) hs s (hp.trans p.symm)
/-- what the sort asks of such data -/
theorem strs_py : ∀ {r : List D}, r.all isStr = true → ∃ xs : List Str, toPyL r = some (xs.map .str)
  | [], _ => ⟨[], rfl⟩
  | d :: r, h => by
    have h' := Bool.and_eq_true_iff.mp (show (isStr d && r.all isStr) = true from h)
    obtain ⟨xs, e⟩ := strs_py h'.2
    cases d with
    | str x => exact ⟨x :: xs, by show ((toPy (.str x)).bind fun p => (toPyL r).map fun ps => p :: ps) = _; rw [e]; rfl⟩
    | _ => cases h'.1
theorem alike_strs : ∀ xs ys : List Str, W.alikeAll (xs.map PyData.str) (ys.map PyData.str) = true
  | [], _ => by simp [W.alikeAll]
  | _ :: _, [] => by simp [W.alikeAll]
  | x :: xs, y :: ys => by
    rw [List.map_cons, List.map_cons, W.alikeAll, alike_strs xs ys]
    simp [W.alike]
theorem depth_strs : ∀ xs : List Str, PyData.depthAll (xs.map PyData.str) = 0
  | [] => by simp [PyData.depthAll]
  | x :: xs => by
    rw [List.map_cons, PyData.depthAll, depth_strs xs]
    simp [PyData.depth]
theorem strs_tup {d : D} (h : isStrs d = true) : ∃ (x : Str) (xs : List Str), toPy d = some (.tuple ((x :: xs).map .str)) := by
  cases d with
  | tup ds =>
    cases ds with
    | nil => cases h
    | cons d r =>
      obtain ⟨xs, e⟩ := strs_py (r := d :: r) h
      cases xs with
      | nil =>
        have e' : ((toPy d).bind fun p => (toPyL r).map fun ps => p :: ps) = some [] := e
        cases q : toPy d <;> rw [q] at e' <;> simp at e'
      | cons x xs => exact ⟨x, xs, by show (toPyL (d :: r)).map PyData.tuple = _; rw [e]; rfl⟩
  | _ => cases h
theorem kinds_ok {ds : List D} (h : okKinds ds = true) : (∀ d ∈ ds, ∃ p, toPy d = some p ∧ p.depth ≤ 60) ∧ W.AllAlike (ds.map py) ∧ W.Sortable (ds.map py) := by
  unfold okKinds at h
  rcases Bool.or_eq_true_iff.mp h with h | h
  · rcases Bool.or_eq_true_iff.mp h with h | h
    · have st : ∀ d ∈ ds, ∃ x, toPy d = some (.str x) := fun d hd => by
        have := List.all_eq_true.mp h d hd
        cases d with
        | str x => exact ⟨x, rfl⟩
        | _ => cases this
      refine ⟨fun d hd => ?_, fun p hp q hq => ?_, .inr fun p hp => ?_⟩
      · obtain ⟨x, e⟩ := st d hd
        exact ⟨_, e, by simp [PyData.depth]⟩
      · obtain ⟨d, hd, rfl⟩ := List.mem_map.mp hp
        obtain ⟨e, he, rfl⟩ := List.mem_map.mp hq
        obtain ⟨x, e1⟩ := st d hd
        obtain ⟨y, e2⟩ := st e he
        simp [py, e1, e2, W.alike]
      · obtain ⟨d, hd, rfl⟩ := List.mem_map.mp hp
        obtain ⟨x, e1⟩ := st d hd
        simp [py, e1]
    · have st : ∀ d ∈ ds, ∃ x, toPy d = some (.int x) := fun d hd => by
        have := List.all_eq_true.mp h d hd
        cases d with
        | int x => exact ⟨x, rfl⟩
        | _ => cases this
      refine ⟨fun d hd => ?_, fun p hp q hq => ?_, .inr fun p hp => ?_⟩
      · obtain ⟨x, e⟩ := st d hd
        exact ⟨_, e, by simp [PyData.depth]⟩
      · obtain ⟨d, hd, rfl⟩ := List.mem_map.mp hp
        obtain ⟨e, he, rfl⟩ := List.mem_map.mp hq
        obtain ⟨x, e1⟩ := st d hd
        obtain ⟨y, e2⟩ := st e he
        simp [py, e1, e2, W.alike]
      · obtain ⟨d, hd, rfl⟩ := List.mem_map.mp hp
        obtain ⟨x, e1⟩ := st d hd
        simp [py, e1]
  · rcases Bool.or_eq_true_iff.mp h with h | h
    case inr =>
      unfold tupsOk at h
      simp only [Bool.and_eq_true, List.all_eq_true, decide_eq_true_eq] at h
      obtain ⟨⟨h1, h2⟩, h3⟩ := h
      have st : ∀ d ∈ ds, ∃ x r, toPy d = some (.tuple (x :: r)) := fun d hd => by
        have := h1 d hd
        unfold isTup1 at this
        split at this
        · rename_i x r e
          exact ⟨x, r, e⟩
        · cases this
      refine ⟨fun d hd => ?_, fun p hp q hq => ?_, .inl fun p hp => ?_⟩
      · obtain ⟨x, r, e⟩ := st d hd
        refine ⟨_, e, ?_⟩
        have := h3 d hd
        unfold py at this
        rw [e] at this
        exact this
      · obtain ⟨d, hd, rfl⟩ := List.mem_map.mp hp
        obtain ⟨e, he, rfl⟩ := List.mem_map.mp hq
        exact h2 d hd e he
      · obtain ⟨d, hd, rfl⟩ := List.mem_map.mp hp
        obtain ⟨x, r, e⟩ := st d hd
        exact ⟨x, r, by unfold py; rw [e]; rfl⟩
    have st : ∀ d ∈ ds, ∃ (x : Str) (xs : List Str), toPy d = some (.tuple ((x :: xs).map .str)) := fun d hd => strs_tup (List.all_eq_true.mp h d hd)
    refine ⟨fun d hd => ?_, fun p hp q hq => ?_, .inl fun p hp => ?_⟩
    · obtain ⟨x, xs, e⟩ := st d hd
      refine ⟨_, e, ?_⟩
      rw [PyData.depth, depth_strs]
      simp
    · obtain ⟨d, hd, rfl⟩ := List.mem_map.mp hp
      obtain ⟨e, he, rfl⟩ := List.mem_map.mp hq
      obtain ⟨x, xs, e1⟩ := st d hd
      obtain ⟨y, ys, e2⟩ := st e he
      unfold py
      rw [e1, e2]
      show W.alike (.tuple ((x :: xs).map .str)) (.tuple ((y :: ys).map .str)) = true
      rw [W.alike]
      exact alike_strs _ _
    · obtain ⟨d, hd, rfl⟩ := List.mem_map.mp hp
      obtain ⟨x, xs, e1⟩ := st d hd
      exact ⟨.str x, xs.map .str, by unfold py; rw [e1]; rfl⟩
end Fn

set_option maxRecDepth 100000
set_option maxHeartbeats 4000000
namespace Fn
open PySem PySem.Spec PyProof.Rows L2

/-! ### sorted(xs): the call -/
section
variable {prog : Program} {w : World} {A : Around} {E : Value → Shared → Prop} {s : Shared}
/-- the items of a tuple, as a built-in gathers them -/
theorem gather_tup {l : Addr} {vs : List Value} {Q : List Value → Shared → Prop} (ht : s.heap.IsTuple l vs.toArray) (hz : vs.length ≤ sizeLine)
    (h : Q vs { s with heap := (s.heap.push (seqObj "list" #[] 0)).update s.heap.objs.size (Obj.mapSeq (· ++ vs.toArray)) }) : wpAny (model prog w) A (collect (.ref l)) Q E s := by
  have ⟨o, ho, hc, n, hd⟩ := ht
  have ho' : (s.heap.push (seqObj "list" #[] 0)).get? l = some o := Heap.get?_push_of_some _ ho
  have hnew : (s.heap.push (seqObj "list" #[] 0)).get? s.heap.objs.size = some (seqObj "list" #[] 0) := Heap.get?_push_size _ rfl
  unfold collect
  apply wpAny_bind
  apply wpAny_runValue
  apply codeAny_builtin entry_proto_collect'
  show wpAny _ _ (do again (.builtin "list.__iadd__" ⟨[← newList [], .ref l], []⟩)) _ _ s
  apply wpAny_bind
  refine wpAny_newList ?_ (Nat.zero_le _)
  apply wpAny_pure
  refine And.intro (Code.quiet_builtin _ (by decide +kernel)) (codeAny_builtin entry_list_iadd' ?_)
  show wpAny _ _ (Builtin.List.listExtendWith (.ref s.heap.objs.size) (.ref l) (.ref s.heap.objs.size)) _ _ { s with heap := s.heap.push (seqObj "list" #[] 0) }
  unfold Builtin.List.listExtendWith
  refine wpAny_bind (wpAny_typeOf (T := "tuple") (Exists.intro o ⟨ho', hc⟩) ?_)
  rw [if_pos (by rw [show (Value.type "tuple" == Value.type "tuple") = true from rfl]; simp)]
  apply wpAny_bind
  apply listItems_at ho' hd
  apply wpAny_bind
  apply listItems_at hnew rfl
  rw [if_neg (by simp)]
  refine wpAny_bind (listUpdate_at hnew rfl ?_ (Nat.zero_le _) (by
    show (#[] ++ vs.toArray).size ≤ sizeLine + 1
    rw [Array.size_append, List.size_toArray]
    show 0 + vs.length ≤ _
    omega))
  apply wpAny_pure
  show wpAny (model prog w) A (do
      let o ← load s.heap.objs.size
      match o.data with
      | .seq xs _ => pure xs.toList
      | _ => unsupported "internal:collect") Q E { s with heap := (s.heap.push (seqObj "list" #[] 0)).update s.heap.objs.size (Obj.mapSeq (· ++ vs.toArray)) }
  refine wpAny_bind (wpAny_load (get?_update_seq hnew _) ?_)
  have e : ((#[] : Array Value) ++ vs.toArray).toList = vs := by simp
  show wpAny _ _ (pure ((#[] : Array Value) ++ vs.toArray).toList) Q E _
  rw [e]
  exact wpAny_pure h
/-- sorted of a tuple is the sort of the list of its items -/
theorem sorted_tup {l : Addr} {vs : List Value} {Q : Value → Shared → Prop} (ht : s.heap.IsTuple l vs.toArray) (hz : vs.length ≤ sizeLine)
    (body : ∀ E' : Value → Shared → Prop, wpAny (model prog w) A.in1.in1 (Builtin.«list.sort» ⟨[.ref (s.heap.objs.size + 1)], []⟩) (fun f s' => f = .done (.ret .none) ∧ Q (.ref (s.heap.objs.size + 1)) s') E' { s with heap := W.copyHeap s.heap vs }) :
    wpAny (model prog w) A (call (.builtin "sorted") [.ref l]) Q E s := by
  refine Calls.call_function_entry kind_sorted plain_sorted entry_sorted (args_sorted1 _) ?_
  unfold Builtin.«sorted»
  refine wpAny_bind (m := checkCount "sorted" 1 1 _) (wpAny_pure (wpAny_bind (gather_tup ht hz ?_)))
  refine wpAny_bind (wpAny_newList ?_ hz)
  have e1 : ((s.heap.push (seqObj "list" #[] 0)).update s.heap.objs.size (Obj.mapSeq (· ++ vs.toArray))).objs.size = s.heap.objs.size + 1 := by
    rw [Heap.size_update, size_push']
  show wpAny _ _ _ _ _ { s with heap := W.copyHeap s.heap vs }
  rw [e1]
  refine wpAny_bind (wpAny_holding (wpAny_call_entry slot_list_sort ⟨_, W.copyHeap_at s.heap vs, rfl⟩ entry_list_sort ?_ (args_list_sort _)))
  refine wpAny_mono (body _) (fun f s' z => ?_) fun _ _ e => e
  obtain ⟨rfl, q⟩ := z
  exact ⟨_, rfl, wpAny_pure ⟨_, rfl, q⟩⟩
end

/-- a list or a tuple of such items -/
def rSortT (T : Cs) : List V → Hp → VK → Prop := fun xs H Q => ∃ (a : Addr) (vs : List V) (ds es : List D), xs = [.ref a] ∧ (SqL T.K H a vs ∨ SqT T.K H a vs) ∧ RepL T H ds vs ∧ dSort ds = some es ∧
  ∀ l ws, (∀ G, RepL T G ds vs → RepL T G es ws) → H l = none → Q (.ref l) (upd H l (.lst ws))
theorem RepL.zip {T : Cs} {H : Hp} : ∀ {ds : List D} {vs : List V}, RepL T H ds vs → ∀ z ∈ ds.zip vs, Rep T H z.1 z.2
  | [], vs, h, z, hz => by cases hz
  | d :: ds, vs, h, z, hz => by
    obtain ⟨v, r, rfl, h1, h2⟩ := h
    rcases List.mem_cons.mp hz with e | e
    · rw [e]
      exact h1
    · exact RepL.zip h2 z e
theorem RepL.of_pairs {T : Cs} {H : Hp} : ∀ {zs : List (D × V)}, (∀ z ∈ zs, Rep T H z.1 z.2) → RepL T H (zs.map (·.1)) (zs.map (·.2))
  | [], _ => rfl
  | z :: zs, h => ⟨_, _, rfl, h z List.mem_cons_self, RepL.of_pairs fun y hy => h y (List.mem_cons_of_mem _ hy)⟩
theorem each_zip {us : List Value} : ∀ {ds : List D} {vs : List V}, Vals vs us → ds.length = vs.length → W.EachIs (fun (u : Value) (z : D × V) => RelV z.2 u) us (ds.zip vs)
  | [], [], .nil, _ => .nil
  | d :: ds, v :: vs, .cons r t, h => .cons r (each_zip t (by simpa using h))
theorem each_vals : ∀ {us : List Value} {zs : List (D × V)}, W.EachIs (fun (u : Value) (z : D × V) => RelV z.2 u) us zs → Vals (zs.map (·.2)) us
  | _, _, .nil => .nil
  | _, _, .cons r t => .cons r (each_vals t)
theorem Eachs.both {α β : Type} {R : α → β → Prop} {P : β → Prop} : ∀ {us : List α} {zs : List β}, W.EachIs R us zs → (∀ z ∈ zs, P z) → W.EachIs (fun u z => R u z ∧ P z) us zs
  | _, _, .nil, _ => .nil
  | _, _, .cons r t, h => .cons ⟨r, h _ List.mem_cons_self⟩ (Eachs.both t fun z hz => h z (List.mem_cons_of_mem _ hz))
section
variable {cl : Nms} {X : Cx} {W : WX}
theorem call_sortT (hk : SysK X.K) (hu : X.A.units + 64 < cLine) : CallR X (.builtin "sorted") (rSortT (csX X cl)) := by
  intro pins s σ H xs us Q I r h
  obtain ⟨a, vs, ds, es, rfl, hs, hr, he, q⟩ := h
  rw [Vals.ref1 r]
  have hlen := hr.length
  obtain ⟨ok, hp, _, _⟩ := dSort_some he
  obtain ⟨k1, k2, k3⟩ := kinds_ok ok
  have key : ∀ {us : List Value}, Vals vs us → us.length ≤ sizeLine → (∀ {Q' : Value → Shared → Prop}, (∀ out : List Value, out.length = (ds.zip vs).length → W.EachIs (fun (u : Value) (z : D × V) => RelV z.2 u) out ((ds.zip vs).mergeSort (W.dataLe false fun z => py z.1)) →
      Q' (.ref (s.heap.objs.size + 1)) { s with heap := sortedAll s.heap us out.toArray }) → wpAny (model X.prog X.w) X.A (call (.builtin "sorted") [.ref a]) Q' X.xe s) → wpAny (model X.prog X.w) X.A (call (.builtin "sorted") [.ref a]) (EP X pins σ Q) X.xe s := fun {us} rv hz run => by
    refine run fun out ho hout => ?_
    have hr' : ∀ G, RepL (csX X cl) G ds vs → RepL (csX X cl) G (((ds.zip vs).mergeSort (W.dataLe false fun z => py z.1)).map (·.1)) (((ds.zip vs).mergeSort (W.dataLe false fun z => py z.1)).map (·.2)) := fun G hg => RepL.of_pairs fun z hz => hg.zip z ((List.mergeSort_perm _ _).mem_iff.mp hz)
    have hle : (fun a b : D × V => dLe a.1 b.1) = W.dataLe false (fun z : D × V => py z.1) := rfl
    have hpw : (((ds.zip vs).mergeSort (W.dataLe false fun z => py z.1)).map (·.1)).Pairwise fun a b => dLe a b = true := by
      rw [← hle, List.pairwise_map]
      exact List.pairwise_mergeSort (fun a b c => dLe_tr a.1 b.1 c.1) (fun a b => dLe_total a.1 b.1) _
    have hperm : (((ds.zip vs).mergeSort (W.dataLe false fun z => py z.1)).map (·.1)).Perm ds := by
      have := (List.mergeSort_perm (ds.zip vs) (W.dataLe false fun z => py z.1)).map (·.1)
      rw [(map_zip_fst hlen).1] at this
      exact this
    rw [sort_uniq he hperm hpw] at hr'
    obtain ⟨ep, he'⟩ := PyProof.Rows.sortedAll_at s.heap us out.toArray
    have hl2 : (((ds.zip vs).mergeSort (W.dataLe false fun z => py z.1)).map (·.2)).length ≤ sizeLine := by
      rw [← (each_vals hout).length.symm, ho, List.length_zip, hlen, Nat.min_self]
      rw [← hlen, rv.length]
      exact hz
    refine ⟨.ref _, upd H (s.heap.objs.size + 1) (.lst _), I.laid (t' := s.toks) (fun _ _ => PyProof.Rows.sortedAll_old) (Nat.le_succ _) ⟨hl2, out, ep, each_vals hout, he'⟩, rfl, q _ _ hr' (I.hok.fresh (Nat.le_succ _))⟩
  have rds : ∀ {us : List Value}, Vals vs us → W.EachIs (fun v (z : D × V) => ∃ as, Reads s.heap v (py z.1) as) us (ds.zip vs) := fun {us} rv => by
    have e1 := Eachs.both (each_zip rv hlen.symm) (P := fun z => Rep (csX X cl) H z.1 z.2 ∧ z.1 ∈ ds) fun z hz => ⟨hr.zip z hz, (List.of_mem_zip hz).1⟩
    refine e1.mono fun u z ⟨z1, z2, z3⟩ => ?_
    obtain ⟨p, ep, _⟩ := k1 z.1 z3
    obtain ⟨as, ra, _⟩ := Rep.reads I (noSys I hk) z.1 z.2 u p z2 ep z1
    exact ⟨as, by unfold py; rw [ep]; exact ra⟩
  have hmap : ((ds.zip vs).map fun z => py z.1) = ds.map py := by
    conv => rhs; rw [← (map_zip_fst hlen).1]
    rw [List.map_map]
    rfl
  have hdep : ∀ z, z ∈ ds.zip vs → X.A.units + 2 + (py z.1).depth < cLine := fun z hz => by
    obtain ⟨p, ep, hd⟩ := k1 z.1 (List.of_mem_zip hz).1
    unfold py
    rw [ep]
    show X.A.units + 2 + p.depth < cLine
    omega
  have sz : ∀ {us : List Value}, Vals vs us → us.length ≤ sizeLine → (ds.zip vs).length ≤ sizeLine := fun {us} rv hz => by
    rw [List.length_zip, hlen, Nat.min_self, ← hlen, rv.length]
    exact hz
  rcases hs with hs | hs
  · obtain ⟨its, rv, hl, hz⟩ := I.list hs
    have hz' : its.length ≤ sizeLine := by
      first
      | exact hz
      | (rw [← rv.length]; exact hz)
    exact key rv hz' fun {Q'} hq => W.sorted_data (R := fun (u : Value) (z : D × V) => RelV z.2 u) (enc := fun z : D × V => py z.1) (by first | exact hl | exact hl.isList) (each_zip rv hlen.symm) (rds rv) (by rw [hmap]; exact k2) (by rw [hmap]; exact k3) (sz rv hz') hdep hq
  · obtain ⟨its, rv, hl, hz⟩ := I.tuple hs
    have hz' : its.length ≤ sizeLine := by
      first
      | exact hz
      | (rw [← rv.length]; exact hz)
    refine key rv hz' fun {Q'} hq => sorted_tup hl hz' fun E' => ?_
    have er := rds rv
    have er' : W.EachIs (fun v (z : D × V) => ∃ as, Reads (W.sortingHeap (W.copyHeap s.heap its) (s.heap.objs.size + 1) its) v (py z.1) as) its (ds.zip vs) := er.mono fun _ _ ⟨as, r⟩ => ⟨as, PyProof.Rows.Reads.keeps (fun _ _ => W.sorting_copy_old) r⟩
    have S := W.SortsAt.data (prog := X.prog) (w := X.w) (A := X.A.in1.in1) (s := { s with heap := W.sortingHeap (W.copyHeap s.heap its) (s.heap.objs.size + 1) its }) (W.each_map (R := fun v d => ∃ as, Reads (W.sortingHeap (W.copyHeap s.heap its) (s.heap.objs.size + 1) its) v d as) (fun z : D × V => py z.1) er')
      (by rw [hmap]; exact k2) (by rw [hmap]; exact k3) (W.bound_map (A := X.A.in1.in1) (enc := fun z : D × V => py z.1) hdep)
    refine W.list_sort_vals (s := { s with heap := W.copyHeap s.heap its }) (W.copyHeap_at s.heap its) S hz' ⟨rfl, ?_⟩
    refine hq _ ?_ (W.sortVals_data false (each_zip rv hlen.symm) er' (by rw [hmap]; exact k2))
    rw [W.sortVals_length false rfl]
    exact (each_zip rv hlen.symm).length
def fSorted : List D → Option O
  | [.lst ds] => (dSort ds).map O.lst
  | [.ro ds] => (dSort ds).map O.lst
  | [.tup ds] => (dSort ds).map O.lst
  | _ => none
theorem RepL.mono' {T : Cs} {G G' : Hp} (e : Ex G G') {ds : List D} {vs : List V} (h : RepL T G ds vs) : RepL T G' ds vs := RepL.mono e ds vs h
end
end Fn

set_option maxRecDepth 100000
set_option maxHeartbeats 4000000
namespace Fn
open PySem PySem.Spec PyProof.Rows L2

/-! ### methods that change a variable's own object -/
/-- f: what the method makes of the object and of its argument -/
def mutAt (f : O → D → Option O) (y : Rf) (x : D) : S := fun ρ => match y with
  | .s j => match ρ[j]? with
    | some (some u) => if u.own = true then (match f u x with
      | some u' => if u'.own = true then some (.nx, ρ.set j (some u')) else none
      | none => none) else none
    | _ => none
  | .d _ => none
def sMut (kd : D → Bool) (f : O → D → Option O) (mo : M Rf) (m : M D) : S := mo.then_ fun y => y.get.then_ fun d0 => if kd d0 = true then m.then_ (fun x => mutAt f y x) else fun _ => none
def sMut0 (kd : D → Bool) (f : O → D → Option O) (mo : M Rf) : S := mo.then_ fun y => y.get.then_ fun d0 => if kd d0 = true then mutAt f y .non else fun _ => none
def isLst : D → Bool | .lst _ => true | _ => false
def isSet : D → Bool | .set _ => true | _ => false
def fApp : O → D → Option O
  | .lst ds, x => if ds.length < lim then some (.lst (ds ++ [x])) else none
  | _, _ => none
def fExt : O → D → Option O
  | .lst ds, .lst es => if ds.length + es.length ≤ lim then some (.lst (ds ++ es)) else none
  | _, _ => none
def fSAdd : O → D → Option O
  | .set ks, x => match asKey x with
    | some k => if ks.length < 2000 then some (.set (if hasK ks k = true then ks else ks ++ [k])) else none
    | none => none
  | _, _ => none
def fRev : O → D → Option O
  | .lst ds, _ => some (.lst ds.reverse)
  | _, _ => none
theorem RepL.reverse {T : Cs} {G : Hp} : ∀ {ds : List D} {vs : List V}, RepL T G ds vs → RepL T G ds.reverse vs.reverse
  | [], vs, h => by
    obtain rfl : vs = [] := h
    rfl
  | d :: ds, vs, h => by
    obtain ⟨v, r, rfl, h2, h3⟩ := h
    rw [List.reverse_cons, List.reverse_cons]
    exact RepL.append (RepL.reverse h3) (RepL.cons h2 RepL.nil)
section
variable {cl : Nms} {X : Cx} {W : WX} {np : Nat} {o e : Expr} {mo : M Rf} {md : M D} {pos apos cpos : Pos} {T : Cs} {G H : Hp} {σ : L2.St} {ρ : En} {D : Ends} {f : O → Fn.D → Option O} {y : Rf} {x : Fn.D} {v : V}
theorem mut_at (h : AtS T W np (mutAt f y x) G ρ D σ H) (k : Ok T G H σ ρ) (hy : rR T H σ ρ G H y v) :
    ∃ j u u', y = .s j ∧ ρ[j]? = some (some u) ∧ u.own = true ∧ u'.own = true ∧ f u x = some u' ∧ RepO T G H u v ∧ ∀ p ho, v = .ref p → RepO T G (upd H p ho) u' (.ref p) → D.nx σ (upd H p ho) := by
  obtain ⟨fl, ρ', e, oo⟩ := h
  unfold mutAt at e
  cases y with
  | d _ => cases e
  | s j =>
    have hv : σ[j]? = some (some v) := hy
    dsimp only at e
    split at e
    case h_2 => cases e
    rename_i u hj
    split at e
    case isFalse => cases e
    rename_i hu
    split at e
    case h_2 => cases e
    rename_i u' hf
    split at e
    case isFalse => cases e
    rename_i hu'
    cases e
    refine ⟨j, u, u', rfl, hj, hu, hu', hf, k.at_ hj hv, fun p ho ev new => ?_⟩
    subst ev
    obtain ⟨n4, k4⟩ := upd_ok (np := np) k hj hu hu' hv new
    exact oo G _ σ n4 k4
theorem kd_lst {d : Fn.D} (h : isLst d = true) : ∃ ds, d = .lst ds := by
  cases d with
  | lst ds => exact ⟨ds, rfl⟩
  | _ => cases h
theorem kd_set {d : Fn.D} (h : isSet d = true) : ∃ ds, d = .set ds := by
  cases d with
  | set ds => exact ⟨ds, rfl⟩
  | _ => cases h
theorem AtS.ite {c : Prop} [Decidable c] {g : S} (h : AtS T W np (if c then g else fun _ => none) G ρ D σ H) : c ∧ AtS T W np g G ρ D σ H := by
  by_cases q : c
  · rw [if_pos q] at h
    exact ⟨q, h⟩
  · rw [if_neg q] at h
    obtain ⟨_, _, e, _⟩ := h
    cases e
theorem app_some {u u' : O} {x : Fn.D} (h : fApp u x = some u') : ∃ ds, u = .lst ds ∧ ds.length < lim ∧ u' = .lst (ds ++ [x]) := by
  cases u with
  | lst ds =>
    have h' : (if ds.length < lim then some (O.lst (ds ++ [x])) else none) = some u' := h
    split at h'
    · rename_i hl
      cases h'
      exact ⟨ds, rfl, hl, rfl⟩
    · cases h'
  | _ => cases h
/-- xs.append(e) -/
theorem es_app (ho : ER cl X W o mo) (he : ED cl X W e md)
    (hbase : attributeBase o "append" X.env (eval o X.env) = eval o X.env := by rfl)
    (hfew : ((backTo cpos (starEach [e] X.env)).all (fun x => !x.1) && (backToKw cpos (keywordEach [] X.env)).all (fun x => x.1.isSome)
      && decide ([e].length + ([] : List Keyword).length + (if ([] : List Keyword).isEmpty then 0 else 1) < 30)) = true := by rfl)
    (hline : (apos.endLine == cpos.line) = true := by rfl) (hst : starEach [e] X.env = (false, eval e X.env) :: starEach [] X.env := by rfl) (hplain : (backTo cpos (starEach [] X.env)).any (·.1) = false := by rfl)
    (hs : swapsWith (.Call (.Attribute o "append" apos) [e] [] cpos) none pos.line X.env = pure false := by rfl) : ES cl X W np (.Expr (.Call (.Attribute o "append" apos) [e] [] cpos) pos) (sMut isLst fApp mo md) :=
  ES.by (ps_expr (pe_bm PySem.F.plainAttrs_list PySem.F.slot_list_append PySem.F.type_list_append mt_append ho (pa_cons he pa_nil hst) hbase hfew hline hst hplain) hs) fun G ρ D σ H k a => at_tX k (a.then_ (R := rR) fun y ρ1 v1 G1 H1 n1 k1 r1 a1 => by
    obtain ⟨d0, q0, a2⟩ := AtS.get a1 k1 r1
    obtain ⟨c, a3⟩ := a2.ite
    obtain ⟨ds0, rfl⟩ := kd_lst c
    obtain ⟨p0, xs0, rfl, h0, _⟩ := q0.lst k1
    refine ⟨.inl ⟨rfl, _, SqL.of h0⟩, at_tX k1 (a3.then_ (R := rD) fun x ρ2 v2 G2 H2 n2 k2 r2 a4 => ?_)⟩
    obtain ⟨j, u, u', rfl, hj, hu, hu', hf, rep, fin⟩ := mut_at a4 k2 (rR_keep n2 r1)
    obtain ⟨ds, rfl, hl, rfl⟩ := app_some hf
    obtain ⟨p, xs, ep, h1, h2, h3⟩ := rep
    cases ep
    refine ⟨_, xs, v2, rfl, rfl, h1, lim_lt (by rw [h3.length]; exact hl), fin _ _ rfl ⟨_, _, rfl, upd_same, h2, RepL.append h3 (RepL.cons r2 RepL.nil)⟩⟩)
theorem ext_some {u u' : O} {x : Fn.D} (h : fExt u x = some u') : ∃ ds es, u = .lst ds ∧ x = .lst es ∧ ds.length + es.length ≤ lim ∧ u' = .lst (ds ++ es) := by
  cases u with
  | lst ds =>
    cases x with
    | lst es =>
      have h' : (if ds.length + es.length ≤ lim then some (O.lst (ds ++ es)) else none) = some u' := h
      split at h'
      · rename_i hl
        cases h'
        exact ⟨ds, es, rfl, rfl, hl, rfl⟩
      · cases h'
    | _ => cases h
  | _ => cases h
/-- xs.extend(e), e a list that is data -/
theorem es_ext (ho : ER cl X W o mo) (he : ED cl X W e md)
    (hbase : attributeBase o "extend" X.env (eval o X.env) = eval o X.env := by rfl)
    (hfew : ((backTo cpos (starEach [e] X.env)).all (fun x => !x.1) && (backToKw cpos (keywordEach [] X.env)).all (fun x => x.1.isSome)
      && decide ([e].length + ([] : List Keyword).length + (if ([] : List Keyword).isEmpty then 0 else 1) < 30)) = true := by rfl)
    (hline : (apos.endLine == cpos.line) = true := by rfl) (hst : starEach [e] X.env = (false, eval e X.env) :: starEach [] X.env := by rfl) (hplain : (backTo cpos (starEach [] X.env)).any (·.1) = false := by rfl)
    (hs : swapsWith (.Call (.Attribute o "extend" apos) [e] [] cpos) none pos.line X.env = pure false := by rfl) : ES cl X W np (.Expr (.Call (.Attribute o "extend" apos) [e] [] cpos) pos) (sMut isLst fExt mo md) :=
  ES.by (ps_expr (pe_bm PySem.F.plainAttrs_list PySem.F.slot_list_extend PySem.F.type_list_extend mt_extend ho (pa_cons he pa_nil hst) hbase hfew hline hst hplain) hs) fun G ρ D σ H k a => at_tX k (a.then_ (R := rR) fun y ρ1 v1 G1 H1 n1 k1 r1 a1 => by
    obtain ⟨d0, q0, a2⟩ := AtS.get a1 k1 r1
    obtain ⟨c, a3⟩ := a2.ite
    obtain ⟨ds0, rfl⟩ := kd_lst c
    obtain ⟨p0, xs0, rfl, h0, _⟩ := q0.lst k1
    refine ⟨.inl ⟨rfl, _, SqL.of h0⟩, at_tX k1 (a3.then_ (R := rD) fun x ρ2 v2 G2 H2 n2 k2 r2 a4 => ?_)⟩
    obtain ⟨j, u, u', rfl, hj, hu, hu', hf, rep, fin⟩ := mut_at a4 k2 (rR_keep n2 r1)
    obtain ⟨ds, es, rfl, rfl, hl, rfl⟩ := ext_some hf
    obtain ⟨p, xs, ep, h1, h2, h3⟩ := rep
    cases ep
    obtain ⟨b, zs, rfl, g1, g2⟩ := r2
    refine ⟨_, b, xs, zs, rfl, rfl, h1, k2.sub _ _ g1, lim_le (by rw [h3.length, g2.length]; exact hl), fin _ _ rfl ⟨_, _, rfl, upd_same, h2, RepL.append h3 g2⟩⟩)
/-- xs.reverse() -/
theorem es_rev (ho : ER cl X W o mo)
    (hbase : attributeBase o "reverse" X.env (eval o X.env) = eval o X.env := by rfl) (hline : (apos.endLine == cpos.line) = true := by rfl)
    (hs : swapsWith (.Call (.Attribute o "reverse" apos) [] [] cpos) none pos.line X.env = pure false := by rfl) : ES cl X W np (.Expr (.Call (.Attribute o "reverse" apos) [] [] cpos) pos) (sMut0 isLst fRev mo) :=
  ES.by (ps_expr (pe_bm0 PySem.F.plainAttrs_list PySem.F.slot_list_reverse PySem.F.type_list_reverse mt_reverse ho hbase hline) hs) fun G ρ D σ H k a => at_tX k (a.then_ (R := rR) fun y ρ1 v1 G1 H1 n1 k1 r1 a1 => by
    obtain ⟨d0, q0, a2⟩ := AtS.get a1 k1 r1
    obtain ⟨c, a3⟩ := a2.ite
    obtain ⟨ds0, rfl⟩ := kd_lst c
    obtain ⟨p0, xs0, rfl, h0, _⟩ := q0.lst k1
    obtain ⟨j, u, u', rfl, hj, hu, hu', hf, rep, fin⟩ := mut_at a3 k1 r1
    cases u with
    | lst ds =>
      cases hf
      obtain ⟨p, xs, ep, h1, h2, h3⟩ := rep
      cases ep
      exact ⟨.inl ⟨rfl, _, SqL.of h0⟩, _, xs, rfl, rfl, h1, fin _ _ rfl ⟨_, _, rfl, upd_same, h2, h3.reverse⟩⟩
    | _ => cases hf)
theorem sadd_some {u u' : O} {x : Fn.D} (h : fSAdd u x = some u') : ∃ ks k, u = .set ks ∧ asKey x = some k ∧ ks.length < 2000 ∧ u' = .set (if hasK ks k = true then ks else ks ++ [k]) := by
  cases u with
  | set ks =>
    have h' : (match asKey x with | some k => if ks.length < 2000 then some (O.set (if hasK ks k = true then ks else ks ++ [k])) else none | none => none) = some u' := h
    split at h'
    case h_2 => cases h'
    rename_i k hk
    split at h'
    case isFalse => cases h'
    rename_i hl
    cases h'
    exact ⟨ks, k, rfl, hk, hl, rfl⟩
  | _ => cases h
/-- found.add(e) -/
theorem es_sadd (ho : ER cl X W o mo) (he : ED cl X W e md)
    (hbase : attributeBase o "add" X.env (eval o X.env) = eval o X.env := by rfl)
    (hfew : ((backTo cpos (starEach [e] X.env)).all (fun x => !x.1) && (backToKw cpos (keywordEach [] X.env)).all (fun x => x.1.isSome)
      && decide ([e].length + ([] : List Keyword).length + (if ([] : List Keyword).isEmpty then 0 else 1) < 30)) = true := by rfl)
    (hline : (apos.endLine == cpos.line) = true := by rfl) (hst : starEach [e] X.env = (false, eval e X.env) :: starEach [] X.env := by rfl) (hplain : (backTo cpos (starEach [] X.env)).any (·.1) = false := by rfl)
    (hs : swapsWith (.Call (.Attribute o "add" apos) [e] [] cpos) none pos.line X.env = pure false := by rfl) : ES cl X W np (.Expr (.Call (.Attribute o "add" apos) [e] [] cpos) pos) (sMut isSet fSAdd mo md) :=
  ES.by (ps_expr (pe_saddK ho (pa_cons he pa_nil hst) hbase hfew hline hst hplain) hs) fun G ρ D σ H k a => at_tX k (a.then_ (R := rR) fun y ρ1 v1 G1 H1 n1 k1 r1 a1 => by
    obtain ⟨d0, q0, a2⟩ := AtS.get a1 k1 r1
    obtain ⟨c, a3⟩ := a2.ite
    obtain ⟨ds0, rfl⟩ := kd_set c
    obtain ⟨p0, rfl, h0⟩ := q0.set k1
    refine ⟨⟨_, _, _, rfl, h0⟩, at_tX k1 (a3.then_ (R := rD) fun x ρ2 v2 G2 H2 n2 k2 r2 a4 => ?_)⟩
    obtain ⟨j, u, u', rfl, hj, hu, hu', hf, rep, fin⟩ := mut_at a4 k2 (rR_keep n2 r1)
    obtain ⟨ks, ky, rfl, hk, hl, rfl⟩ := sadd_some hf
    obtain ⟨p, ep, h1, h2⟩ := rep
    cases ep
    obtain rfl := asKey_rep1 hk r2
    have hb : (2001 : Nat) < scanBound := by decide
    refine ⟨_, ky, _, _, rfl, rfl, h1, Nat.lt_of_le_of_lt (Nat.succ_le_succ (Nat.le_of_lt hl)) hb, ?_⟩
    refine fin _ _ rfl ⟨_, rfl, ?_, h2⟩
    rw [upd_same]
    congr 2
    · funext j
      by_cases q : hasK ks ky = true
      · rw [if_pos q]
        by_cases z : j = ky
        · subst z
          rw [show (ks.any fun x => decide (x = j)) = hasK ks j from rfl, q]
          rfl
        · simp [z]
      · rw [if_neg q, List.any_append]
        simp [eq_comm]
    · show (if hasK ks ky = true then ks.length else ks.length + 1) = _
      by_cases q : hasK ks ky = true
      · rw [if_pos q, if_pos q]
      · rw [if_neg q, if_neg q, List.length_append]
        rfl)
end
end Fn

set_option maxRecDepth 100000
set_option maxHeartbeats 4000000
namespace Fn
open PySem PySem.Spec PyProof.Rows L2

/-! ### while -/
def whGo (c : M Bool) (body : S) : Nat → S
  | 0 => fun _ => none
  | n + 1 => fun ρ => match c ρ with
    | some (.ok true, ρ1) => (match body ρ1 with
      | some (.nx, ρ2) => whGo c body n ρ2
      | some (.ct, ρ2) => whGo c body n ρ2
      | some (.bk, ρ2) => some (.nx, ρ2)
      | r => r)
    | some (.ok false, ρ1) => some (.nx, ρ1)
    | some (.er x ns vs, ρ1) => some (.er x ns vs, ρ1)
    | none => none
section
variable {cl : Nms} {X : Cx} {W : WX} {np : Nat} {pos : Pos}
theorem es_while (fuel : Nat) {c : Expr} {body : List Stmt} {mc : M Bool} {f : S} (hp : PassesOwn (model X.prog X.w) X.A X.env X.xe) (hc : ET cl X W c mc) (hb : ESs cl X W np body f) : ES cl X W np (.While c body [] pos) (whGo mc f fuel) := ES.by (ps_while hp hc hb) fun G ρ D σ H k ⟨fl, ρ', e, oo⟩ => by
  refine ⟨fun m σ' H' => ∃ G' ρi, whGo mc f m ρi = some (fl, ρ') ∧ Ns np G H σ ρ G' H' σ' ρi ∧ Ok (csX X cl) G' H' σ' ρi, ⟨fuel, G, ρ, e, Ns.refl .., k⟩, ?_⟩
  rintro m σ1 H1 ⟨G1, ρ1, hgo, n1, k1⟩
  cases m with
  | zero => cases hgo
  | succ m =>
    unfold whGo at hgo
    refine at_tX k1 ?_
    cases q : mc ρ1 with
    | none =>
      rw [q] at hgo
      cases hgo
    | some p =>
      obtain ⟨r, ρ2⟩ := p
      rw [q] at hgo
      refine ⟨r, ρ2, q, ?_⟩
      cases r with
      | er x ns vs =>
        cases hgo
        exact fun G2 H2 C hC n2 k2 => (oo.shift n1) G2 H2 σ1 C hC n2.ns k2
      | ok b =>
        rintro b' G2 H2 n2 k2 rfl
        have nn := n1.trans (n2.ns (np := np))
        cases b with
        | false =>
          cases hgo
          exact oo G2 H2 σ1 nn k2
        | true =>
          refine ⟨fun σ3 H3 => ∃ G3 ρ3, whGo mc f m ρ3 = some (fl, ρ') ∧ Ns np G H σ ρ G3 H3 σ3 ρ3 ∧ Ok (csX X cl) G3 H3 σ3 ρ3, fun σ3 H3 z => ⟨m, Nat.lt_succ_self m, z⟩, G2, ρ2, k2, ?_⟩
          dsimp only at hgo
          split at hgo
          · rename_i ρb hb2
            exact ⟨.nx, ρb, hb2, fun G4 H4 σ4 n4 k4 => ⟨G4, ρb, hgo, nn.trans n4, k4⟩⟩
          · rename_i ρb hb2
            exact ⟨.ct, ρb, hb2, fun G4 H4 σ4 n4 k4 => ⟨G4, ρb, hgo, nn.trans n4, k4⟩⟩
          · rename_i ρb hb2
            cases hgo
            exact ⟨.bk, _, hb2, fun G4 H4 σ4 n4 k4 => oo G4 H4 σ4 (nn.trans n4) k4⟩
          · rename_i xx a1 a2 a3
            have oo2 := oo.shift nn
            refine ⟨fl, ρ', hgo, ?_⟩
            cases fl with
            | nx => exact (a1 _ hgo).elim
            | ct => exact (a2 _ hgo).elim
            | bk => exact (a3 _ hgo).elim
            | rt o => exact oo2
            | er c ns vs => exact oo2
end
end Fn

set_option maxRecDepth 100000
set_option maxHeartbeats 4000000
namespace Fn
open PySem PySem.Spec PyProof.Rows L2

/-! ### isinstance with built-in classes -/
def tyNames : List String := ["NoneType", "bool", "int", "str", "list", "tuple", "dict"]
def subTy (n : String) : Kn → Option Bool
  | .ty m => if tyNames.contains m = true then some (m == n || (m == "bool" && n == "int")) else none
  | _ => none
theorem ty_cases {P : String → Prop} (h0 : P "NoneType") (h1 : P "bool") (h2 : P "int") (h3 : P "str") (h4 : P "list") (h5 : P "tuple") (h6 : P "dict") {m : String} (h : tyNames.contains m = true) : P m := by
  have := List.contains_iff_mem.mp h
  unfold tyNames at this
  simp only [List.mem_cons, List.not_mem_nil, or_false] at this
  rcases this with e | e | e | e | e | e | e <;> (rw [e]; assumption)
theorem subTy_some {n m : String} {b : Bool} (h : subTy n (.ty m) = some b) : tyNames.contains m = true ∧ b = (m == n || (m == "bool" && n == "int")) := by
  have h' : (if tyNames.contains m = true then some (m == n || (m == "bool" && n == "int")) else none) = some b := h
  split at h'
  · rename_i q
    cases h'
    exact ⟨q, rfl⟩
  · cases h'
section
variable {K : PySem.W.Frag} {cl : Nms}
theorem subTy_ok {n : String} (h : ∀ m, tyNames.contains m = true → PySem.W.kitOne K (.type m) (.type n) = some (m == n || (m == "bool" && n == "int"))) : SubOk K cl (.type n) (subTy n) where
  ty := fun m b e => by
    obtain ⟨q, rfl⟩ := subTy_some e
    exact h m q
  own := fun _ _ _ _ h => by cases h
  obj := fun _ _ _ _ h => by cases h
  no := rfl
theorem sub_str : SubOk K cl (.type "str") (subTy "str") := subTy_ok fun m q => ty_cases (P := fun m => PySem.W.kitOne K (.type m) (.type "str") = some (m == "str" || (m == "bool" && "str" == "int"))) (by kernel_rfl) (by kernel_rfl) (by kernel_rfl) (by kernel_rfl) (by kernel_rfl) (by kernel_rfl) (by kernel_rfl) q
theorem sub_int : SubOk K cl (.type "int") (subTy "int") := subTy_ok fun m q => ty_cases (P := fun m => PySem.W.kitOne K (.type m) (.type "int") = some (m == "int" || (m == "bool" && "int" == "int"))) (by kernel_rfl) (by kernel_rfl) (by kernel_rfl) (by kernel_rfl) (by kernel_rfl) (by kernel_rfl) (by kernel_rfl) q
theorem sub_bool : SubOk K cl (.type "bool") (subTy "bool") := subTy_ok fun m q => ty_cases (P := fun m => PySem.W.kitOne K (.type m) (.type "bool") = some (m == "bool" || (m == "bool" && "bool" == "int"))) (by kernel_rfl) (by kernel_rfl) (by kernel_rfl) (by kernel_rfl) (by kernel_rfl) (by kernel_rfl) (by kernel_rfl) q
theorem sub_tuple : SubOk K cl (.type "tuple") (subTy "tuple") := subTy_ok fun m q => ty_cases (P := fun m => PySem.W.kitOne K (.type m) (.type "tuple") = some (m == "tuple" || (m == "bool" && "tuple" == "int"))) (by kernel_rfl) (by kernel_rfl) (by kernel_rfl) (by kernel_rfl) (by kernel_rfl) (by kernel_rfl) (by kernel_rfl) q
theorem sub_list : SubOk K cl (.type "list") (subTy "list") := subTy_ok fun m q => ty_cases (P := fun m => PySem.W.kitOne K (.type m) (.type "list") = some (m == "list" || (m == "bool" && "list" == "int"))) (by kernel_rfl) (by kernel_rfl) (by kernel_rfl) (by kernel_rfl) (by kernel_rfl) (by kernel_rfl) (by kernel_rfl) q
theorem sub_dict : SubOk K cl (.type "dict") (subTy "dict") := subTy_ok fun m q => ty_cases (P := fun m => PySem.W.kitOne K (.type m) (.type "dict") = some (m == "dict" || (m == "bool" && "dict" == "int"))) (by kernel_rfl) (by kernel_rfl) (by kernel_rfl) (by kernel_rfl) (by kernel_rfl) (by kernel_rfl) (by kernel_rfl) q
end
def subLT : Kn → Option Bool
  | .ty m => if tyNames.contains m = true then some (m == "list" || m == "tuple") else none
  | _ => none
section
variable {cl : Nms} {X : Cx} {W : WX} {e : Expr} {pos p p1 p2 pt : Pos} {flds : List Str} {mr : M Rf}
theorem kit_lt {K : PySem.W.Frag} {m : String} (h : tyNames.contains m = true) : PySem.W.kitAny K (.type m) [.type "list", .type "tuple"] = some (m == "list" || m == "tuple") :=
  ty_cases (P := fun m => PySem.W.kitAny K (.type m) [.type "list", .type "tuple"] = some (m == "list" || m == "tuple")) (by kernel_rfl) (by kernel_rfl) (by kernel_rfl) (by kernel_rfl) (by kernel_rfl) (by kernel_rfl) (by kernel_rfl) h
theorem TyE.tyX {K : PySem.W.Frag} {H : Hp} {v : V} {n : String} (h : TyE K H v (.type n)) : TyX K H v (.type n) := by
  cases h with
  | b h => exact h
theorem At.shift {α δ : Type} {R : RelT α δ} {T : Cs} {W : WX} {m : M α} {G H G1 H1 : Hp} {σ : L2.St} {ρ : En} {Q : Wi δ} (h : At R T W m G ρ σ H Q) (hb : Back R) (n : Nk G H σ ρ G1 H1 ρ) : At R T W m G1 ρ σ H1 Q := by
  obtain ⟨r, ρ', e, o⟩ := h
  exact ⟨r, ρ', e, o.shift hb n⟩
/-- isinstance(x, (list, tuple)) -/
theorem c_isLT {kt} (hX : Xs X.K cl flds) (he : ER cl X W e mr) (hg : Gl X "isinstance") (hm : X.mg "isinstance" = none) (hgl : Gl X "list") (hml : X.mg "list" = none) (hgt : Gl X "tuple") (hmt : X.mg "tuple" = none)
    (s1 : starEach [e, .Tuple [.Name "list" p1, .Name "tuple" p2] kt pt] X.env = (false, eval e X.env) :: starEach [.Tuple [.Name "list" p1, .Name "tuple" p2] kt pt] X.env := by rfl) :
    ED cl X W (.Call (.Name "isinstance" p) [e, .Tuple [.Name "list" p1, .Name "tuple" p2] kt pt] [] pos) (eIsi subLT mr) :=
  EX.by (pe_callB call_isiT hg hm (by decide +kernel) (pa_cons he (pa_cons (pe_tup (pa_cons (pe_bltn (v := .ty "list") (u := .type "list") hgl hml (by decide +kernel) rfl) (pa_cons (pe_bltn (v := .ty "tuple") (u := .type "tuple") hgt hmt (by decide +kernel) rfl) pa_nil))) pa_nil) s1)
    (by decide) (by decide) s1) fun G ρ σ H Q k a => at_tX k (At.bind (Ra := rR) rD_back a fun r ρ1 v G1 H1 n1 k1 r1 a1 => by
    refine ⟨by show 2 ≤ sizeLine; decide, fun t ht => ?_⟩
    obtain ⟨n2, k2⟩ := new_nx (o := .tup [.ty "list", .ty "tuple"]) ht k1
    obtain ⟨d, q1, a2⟩ := At.get (a1.shift rD_back n2) k2 (rR_keep n2 r1)
    obtain ⟨o, e1, a3⟩ := a2.lift
    obtain ⟨b, e2, rfl⟩ := Option.map_eq_some_iff.mp e1
    obtain ⟨u, ty, hu⟩ := q1.tyE hX k2 fun z => by
      rw [z] at e2
      cases e2
    cases q : d.kn with
    | ty n =>
      rw [q] at hu e2
      subst hu
      have e2' : (if tyNames.contains n = true then some (n == "list" || n == "tuple") else none) = some b := e2
      split at e2'
      case isFalse => cases e2'
      rename_i hn
      cases e2'
      exact ⟨v, t, _, _, _, _, rfl, upd_same, .cons (.ty "list") (.cons (.ty "tuple") .nil), ty.tyX, kit_lt hn, a3.ret k2 rfl⟩
    | own c =>
      rw [q] at e2
      cases e2
    | obj c =>
      rw [q] at e2
      cases e2
    | no =>
      rw [q] at e2
      cases e2)
end
end Fn

set_option maxRecDepth 100000
set_option maxHeartbeats 4000000
namespace Fn
open PySem PySem.Spec PyProof.Rows L2

/-! ### <<, gcd, chained comparisons, constants of the top, targets that are tuples -/
def fShl : D → D → Option D
  | .int i, .int j => if 0 ≤ j ∧ j ≤ 1000000 ∧ i.natAbs < 2 ^ 64 then some (.int (i * 2 ^ j.toNat)) else none
  | _, _ => none
def fGcd : List D → Option D
  | [.int i, .int j] => some (.int ((Nat.gcd i.natAbs j.natAbs : Nat) : Int))
  | _ => none
def eCh (f g : D → D → Option D) (ma mb mc : M Rf) : M D := M.bind ma fun x => M.bind mb fun y => M.bind x.get fun d1 => M.bind y.get fun d2 => M.bind (M.lift (f d1 d2)) fun o => match o with
  | .bl true => M.bind mc fun z => M.bind y.get fun d3 => M.bind z.get fun d4 => M.lift (g d3 d4)
  | .bl false => M.ret (.bl false)
  | _ => M.stuck
def sAsg (np : Nat) (t : Tg) (m : M D) : S := m.then_ fun d ρ => if free np t ρ = true then (match t.set d ρ with
  | some ρ' => some (.nx, ρ')
  | none => none) else none
section
variable {cl : Nms} {X : Cx} {W : WX} {np : Nat} {a b c e tg : Expr} {ma mb mc : M Rf} {md : M D} {pos p : Pos} {as : M (List Rf)}
theorem ed_shl (ha : ER cl X W a ma) (hb : ER cl X W b mb) : ED cl X W (.BinOp a .LShift b pos) (eBinD fShl ma mb) := ed_bin op_shl (fun G H σ ρ d1 d2 o v1 v2 Q k e q1 q2 h => by
  unfold fShl at e
  split at e
  · obtain rfl := q1.int
    obtain rfl := q2.int
    split at e
    · rename_i hc
      cases e
      exact ⟨_, _, rfl, rfl, hc, h.ret k rfl⟩
    · cases e
  · cases e) ha hb
theorem c_gcd (hg : Gl X "gcd") (hm : X.mg "gcd" = some (.builtin "math.gcd")) (ha : EA cl X W [a, b] as) (he : starEach [a, b] X.env = (false, eval a X.env) :: starEach [b] X.env := by rfl) (hpl : (backTo pos (starEach [b] X.env)).any (·.1) = false := by rfl) :
    ED cl X W (.Call (.Name "gcd" p) [a, b] [] pos) (eFun fGcd as) :=
  ex_fun (t := tNil) rD_back (f := fGcd) (r := rGcd) (fun G H σ ρ ds o vs Q k e q h => by
    unfold fGcd at e
    split at e
    · cases e
      obtain ⟨v, w, rfl, q1, q2⟩ := q.two
      obtain rfl := q1.int
      obtain rfl := q2.int
      exact ⟨_, _, rfl, h.ret k rfl⟩
    · cases e) (pe_callBfun cr_gcd hg hm ha (by decide) he hpl)
theorem ed_chain {op op' : CmpOp} {r r' : R2} {f g : D → D → Option D} (ho : OpR X (compareOp op) r) (hf : HopD cl X W f r) (ho' : OpR X (compareOp op') r') (hg : HopD cl X W g r') (ha : ER cl X W a ma) (hb : ER cl X W b mb) (hc : ER cl X W c mc)
    (hm : lastMarks [op, op'] [b, c] = false := by with_unfolding_all rfl) : ED cl X W (.Compare a [op, op'] [b, c] pos) (eCh f g ma mb mc) :=
  EX.by (pe_chain ho ho' ha hb hc hm) fun G ρ σ H Q k h => at_tX k (At.bind (Ra := rR) rD_back h fun x ρ1 v1 G1 H1 n1 k1 r1 h1 => at_tX k1 (At.bind (Ra := rR) rD_back h1 fun y ρ2 v2 G2 H2 n2 k2 r2 h2 => by
    obtain ⟨d1, q1, h3⟩ := At.get h2 k2 (rR_keep n2 r1)
    obtain ⟨d2, q2, h4⟩ := At.get h3 k2 r2
    obtain ⟨o, e, h5⟩ := h4.lift2
    refine hf _ _ _ _ _ _ _ _ _ _ k2 e q1 q2 ⟨.ok o, ρ2, rfl, fun v G3 H3 n3 k3 r3 => ?_⟩
    have h6 := h5.shift rD_back n3
    cases o with
    | bl z =>
      obtain rfl : v = .bl z := r3
      refine ⟨z, rfl, ?_⟩
      cases z with
      | true =>
        refine at_tX k3 (At.bind (Ra := rR) rD_back h6 fun z ρ4 v4 G4 H4 n4 k4 r4 h7 => ?_)
        obtain ⟨d3, q3, h8⟩ := At.get h7 k4 (rR_keep n4 (rR_keep n3 r2))
        obtain ⟨d4, q4, h9⟩ := At.get h8 k4 r4
        obtain ⟨o2, e2, h10⟩ := h9.lift
        exact hg _ _ _ _ _ _ _ _ _ _ k4 e2 q3 q4 h10
      | false => exact h6.ret k3 rfl
    | _ =>
      obtain ⟨_, _, e, _⟩ := h6
      cases e))
/-- a number, a text that the top names -/
def Con (T : At0) (x : Str) (d : D) : Prop := ∃ u, T.mg x = some u ∧ ((∃ i, d = .int i ∧ RelV (.int i) u) ∨ ∃ s, d = .str s ∧ RelV (.str s) u)
theorem ed_con {x : Str} {d : D} (h : Con (atX cl X) x d) (hg : Gl X x) (hd : (x == ("__debug__" : Str)) = false := by decide) : ED cl X W (.Name x pos) (eC d) := by
  obtain ⟨u, h1, h2⟩ := h
  rcases h2 with ⟨i, rfl, r⟩ | ⟨s, rfl, r⟩
  · exact EX.by (pe_glob hg h1 r hd) fun G ρ σ H Q k h => h.ret k rfl
  · exact EX.by (pe_glob hg h1 r hd) fun G ρ σ H Q k h => h.ret k rfl
/-- a, b = e -/
theorem es_asg {t : Tg} (he : ED cl X W e md) (hg : PG X tg (TgOk X.K t)) (hs : swapsWithSole [tg] e pos.line X.env = pure false := by rfl) (hw : swappedStores [tg] e X.env = pure none := by rfl)
    (h1 : (assignEach [tg] X.env).map (·.2) = [assign tg X.env] := by rfl) : ES cl X W np (.Assign [tg] e pos) (sAsg np t md) :=
  ES.by (ps_asg he hg hs hw h1) fun G ρ D σ H k a => at_tX k (a.then_ (R := rD) fun x ρ1 v G1 H1 n1 k1 r1 ⟨fl, ρ', e, oo⟩ => by
    dsimp only at e
    split at e
    case isFalse => cases e
    rename_i hfree
    split at e
    case h_2 => cases e
    rename_i ρa hset
    cases e
    obtain ⟨σa, k3, f3, o3, q3⟩ := tg_ok k1 r1 hset
    refine q3 _ (oo G1 H1 σa ⟨Nx.less o3, fun j hj hk => ?_⟩ k3)
    obtain ⟨e1, e2⟩ := f3.2 j (free_off hfree hj hk)
    rw [e1, e2]
    exact ⟨rfl, hk⟩)
end
end Fn

set_option maxRecDepth 100000
set_option maxHeartbeats 4000000
namespace Fn
open PySem PySem.Spec PyProof.Rows L2

/-! ### what is walked: a list or a tuple, a text, enumerate, zip -/
def letters (z : Str) : List D := z.cps.toList.map fun c => .str ⟨#[c]⟩
def seqD : D → Option (List D)
  | .lst ds => some ds
  | .ro ds => some ds
  | .tup ds => some ds
  | .str z => some (letters z)
  | _ => none
def iAny (m : M D) : M (List D) := M.bind m fun d => M.lift (seqD d)
def numbered : Nat → List D → List D
  | _, [] => []
  | i, d :: ds => .tup [.int (i : Int), d] :: numbered (i + 1) ds
def paired : List D → List D → List D
  | a :: as, b :: bs => .tup [a, b] :: paired as bs
  | _, _ => []
def listD : D → Option (List D)
  | .lst ds => some ds
  | .ro ds => some ds
  | _ => none
def tupD : D → Option (List D)
  | .tup ds => some ds
  | _ => none
/-- enumerate of a list -/
def iEnu (as : M (List D)) : M (List D) := M.bind as fun ds => match ds with
  | [.lst xs] => M.ret (numbered 0 xs)
  | [.ro xs] => M.ret (numbered 0 xs)
  | _ => M.stuck
/-- zip of two lists, of two tuples -/
def iZp (as : M (List D)) : M (List D) := M.bind as fun ds => match ds with
  | [.tup xs, .tup ys] => M.ret (paired xs ys)
  | [.lst xs, .lst ys] => M.ret (paired xs ys)
  | [.lst xs, .ro ys] => M.ret (paired xs ys)
  | [.ro xs, .lst ys] => M.ret (paired xs ys)
  | _ => M.stuck
theorem numbered_get : ∀ {ds : List D} {k i : Nat} {d : D}, (numbered k ds)[i]? = some d → ∃ x, ds[i]? = some x ∧ d = .tup [.int ((k + i : Nat) : Int), x]
  | [], k, i, d, h => by
    rw [show numbered k [] = [] from rfl] at h
    simp at h
  | x :: ds, k, 0, d, h => by
    have h' : some (D.tup [.int (k : Int), x]) = some d := h
    cases h'
    exact ⟨x, rfl, rfl⟩
  | x :: ds, k, i + 1, d, h => by
    obtain ⟨y, h1, h2⟩ := numbered_get (ds := ds) (k := k + 1) (i := i) h
    refine ⟨y, h1, ?_⟩
    rw [h2, show k + 1 + i = k + (i + 1) from by omega]
theorem numbered_len : ∀ {ds : List D} {k : Nat}, (numbered k ds).length = ds.length
  | [], _ => rfl
  | _ :: ds, k => by
    show (numbered (k + 1) ds).length + 1 = ds.length + 1
    rw [numbered_len]
theorem paired_get : ∀ {xs ys : List D} {i : Nat} {d : D}, (paired xs ys)[i]? = some d → ∃ x y, xs[i]? = some x ∧ ys[i]? = some y ∧ d = .tup [x, y]
  | [], _, i, d, h => by
    rw [show paired [] _ = [] from rfl] at h
    simp at h
  | x :: xs, [], i, d, h => by
    rw [show paired (x :: xs) [] = [] from rfl] at h
    simp at h
  | x :: xs, y :: ys, 0, d, h => by
    have h' : some (D.tup [x, y]) = some d := h
    cases h'
    exact ⟨x, y, rfl, rfl, rfl⟩
  | x :: xs, y :: ys, i + 1, d, h => paired_get (xs := xs) (ys := ys) (i := i) h
theorem paired_len : ∀ {xs ys : List D}, xs.length ≤ (paired xs ys).length ∨ ys.length ≤ (paired xs ys).length
  | [], _ => .inl (Nat.zero_le _)
  | x :: xs, [] => .inr (Nat.zero_le _)
  | x :: xs, y :: ys => by
    rcases paired_len (xs := xs) (ys := ys) with h | h
    · exact .inl (Nat.succ_le_succ h)
    · exact .inr (Nat.succ_le_succ h)
section
variable {T : Cs} {G H : Hp}
theorem src_str {x : Str} : Src T (Its x) (letters x) G H := fun G' H' e1 e2 => by
  refine ⟨fun i d hd => ?_, ?_⟩
  · unfold letters at hd
    rw [List.getElem?_map, Array.getElem?_toList] at hd
    cases q : x.cps[i]? with
    | none =>
      rw [q] at hd
      cases hd
    | some c =>
      rw [q] at hd
      cases hd
      refine ⟨(Array.getElem?_eq_some_iff.mp q).1, fun v H2 y => ?_⟩
      obtain ⟨rfl, c', h1, rfl⟩ := y
      rw [q] at h1
      cases h1
      exact ⟨G', Ex.refl _, Ex.refl _, e2, fun a h h' => absurd h h', rfl⟩
  · show x.cps.size ≤ (letters x).length
    unfold letters
    rw [List.length_map, Array.length_toList]
    exact Nat.le_refl _
/-- a new tuple that the walk gives -/
theorem give_tup {G' H' : Hp} {p : Addr} {ds : List D} {vs : List V} (e : Ex G' H') (hp : H' p = none) (r : RepL T G' ds vs) :
    ∃ G2, Ex G' G2 ∧ Ex H' (upd H' p (.tup vs)) ∧ Ex G2 (upd H' p (.tup vs)) ∧ (∀ a, G' a = none → G2 a ≠ none → H' a = none) ∧ Rep T G2 (.tup ds) (.ref p) := by
  have gp : G' p = none := by
    cases q : G' p with
    | none => rfl
    | some u => rw [e p u q] at hp; cases hp
  have ex : ∀ {F : Hp}, F p = none → Ex F (upd F p (.tup vs)) := fun {F} hf b u z => by
    rw [upd_ne (ne_of_none z hf)]
    exact z
  refine ⟨upd G' p (.tup vs), ex gp, ex hp, fun b u z => ?_, fun a h1 h2 => ?_, p, vs, rfl, SqT.of upd_same, RepL.mono (ex gp) _ _ r⟩
  · by_cases q : b = p
    · subst q
      rw [upd_same] at z ⊢
      exact z
    · rw [upd_ne q] at z ⊢
      exact e b u z
  · by_cases q : a = p
    · rw [q]
      exact hp
    · rw [upd_ne q] at h2
      exact absurd h1 h2
theorem src_enum {a : Addr} {xs : List V} {ds : List D} (h : SqL T.K G a xs) (r : RepL T G ds xs) : Src T (Ite T.K a) (numbered 0 ds) G H := fun G' H' e1 e2 => by
  have q : SqL T.K H' a xs := ex_l e2 (ex_l e1 h)
  refine ⟨fun i d hd => ?_, ⟨xs, q, by rw [r.length, numbered_len]; exact Nat.le_refl _⟩⟩
  obtain ⟨x, h1, rfl⟩ := numbered_get hd
  obtain ⟨v, h2, h3⟩ := r.get h1
  refine ⟨⟨xs, v, q, h2⟩, fun y H2 z => ?_⟩
  obtain ⟨p, v', rfl, hp, rfl, hv⟩ := z
  have e : some v = some v' := h2.symm.trans (hv xs q)
  cases e
  rw [Nat.zero_add]
  exact give_tup e2 hp (RepL.cons (show Rep T G' (.int (i : Int)) (.int (i : Nat)) from rfl) (RepL.cons (Rep.mono e1 _ _ h3) RepL.nil))
theorem src_zipL {a b : Addr} {xs ys : List V} {ds es : List D} (h : SqL T.K G a xs) (h' : SqL T.K G b ys) (r : RepL T G ds xs) (r' : RepL T G es ys) : Src T (Itz T.K a b) (paired ds es) G H := fun G' H' e1 e2 => by
  have q : SqL T.K H' a xs := ex_l e2 (ex_l e1 h)
  have q' : SqL T.K H' b ys := ex_l e2 (ex_l e1 h')
  refine ⟨fun i d hd => ?_, ⟨xs, ys, q, q', by rw [r.length, r'.length]; exact paired_len⟩⟩
  obtain ⟨x, y, h1, h2, rfl⟩ := paired_get hd
  obtain ⟨v, h3, h4⟩ := r.get h1
  obtain ⟨w, h5, h6⟩ := r'.get h2
  refine ⟨⟨xs, ys, v, w, q, q', h3, h5⟩, fun y H2 z => ?_⟩
  obtain ⟨p, v', w', rfl, hp, rfl, hv, hw⟩ := z
  have e : some v = some v' := h3.symm.trans (hv xs q)
  have e' : some w = some w' := h5.symm.trans (hw ys q')
  cases e
  cases e'
  exact give_tup e2 hp (RepL.cons (Rep.mono e1 _ _ h4) (RepL.cons (Rep.mono e1 _ _ h6) RepL.nil))
theorem src_zipT {a b : Addr} {xs ys : List V} {ds es : List D} (h : SqT T.K G a xs) (h' : SqT T.K G b ys) (r : RepL T G ds xs) (r' : RepL T G es ys) : Src T (RZ.ItzT T.K a b) (paired ds es) G H := fun G' H' e1 e2 => by
  have q : SqT T.K H' a xs := ex_t e2 (ex_t e1 h)
  have q' : SqT T.K H' b ys := ex_t e2 (ex_t e1 h')
  refine ⟨fun i d hd => ?_, ⟨xs, ys, q, q', by rw [r.length, r'.length]; exact paired_len⟩⟩
  obtain ⟨x, y, h1, h2, rfl⟩ := paired_get hd
  obtain ⟨v, h3, h4⟩ := r.get h1
  obtain ⟨w, h5, h6⟩ := r'.get h2
  refine ⟨⟨xs, ys, v, w, q, q', h3, h5⟩, fun y H2 z => ?_⟩
  obtain ⟨p, v', w', rfl, hp, rfl, hv, hw⟩ := z
  have e : some v = some v' := h3.symm.trans (hv xs q)
  have e' : some w = some w' := h5.symm.trans (hw ys q')
  cases e
  cases e'
  exact give_tup e2 hp (RepL.cons (Rep.mono e1 _ _ h4) (RepL.cons (Rep.mono e1 _ _ h6) RepL.nil))
end
section
variable {cl : Nms} {X : Cx} {W : WX} {tg e e2 : Expr} {p pos : Pos} {G H : Hp} {σ : L2.St} {ρ : En} {m : M D} {as : M (List Rf)}
theorem PI.or {t t' : TI} (h : PI X tg e t) (h' : PI X tg e t') : PI X tg e (fun σ H R => t σ H R ∨ t' σ H R) := ⟨fun pins s σ H R I z => z.elim (h.run pins s σ H R I) (h'.run pins s σ H R I)⟩
/-- the way is chosen when it is known what comes -/
theorem At.look {α β : Type} {R : RelT α β} {T : Cs} {m : M D} {f : D → M α} {G H : Hp} {σ : L2.St} {ρ : En} {Q : Wi β} (h : At R T W (M.bind m f) G ρ σ H Q) :
    (∃ d ρ1 r ρ', m ρ = some (.ok d, ρ1) ∧ f d ρ1 = some (r, ρ')) ∨ ∃ c ns vs ρ1, m ρ = some (.er c ns vs, ρ1) := by
  obtain ⟨r, ρ', e, _⟩ := h
  unfold M.bind at e
  cases q : m ρ with
  | none =>
    rw [q] at e
    cases e
  | some p =>
    obtain ⟨r1, ρ1⟩ := p
    rw [q] at e
    cases r1 with
    | ok d => exact .inl ⟨d, ρ1, r, ρ', rfl, e⟩
    | er c ns vs => exact .inr ⟨c, ns, vs, ρ1, rfl⟩
theorem bind_same {α : Type} {m : M D} {f g : D → M α} {ρ ρ1 : En} {d : D} (e : m ρ = some (.ok d, ρ1)) (h : f d ρ1 = g d ρ1) : M.bind m f ρ = M.bind m g ρ := by
  unfold M.bind
  rw [e]
  exact h
theorem bind_er {α : Type} {m : M D} {f g : D → M α} {ρ ρ1 : En} {c : Str} {ns : List Str} {vs : List D} (e : m ρ = some (.er c ns vs, ρ1)) : M.bind m f ρ = M.bind m g ρ := by
  unfold M.bind
  rw [e]
def iStrM (m : M D) : M (List D) := M.bind m fun d => match d with
  | .str z => M.ret (letters z)
  | _ => M.stuck
theorem ei_str {m : M D} (h : ED cl X W e m) : EI cl X W tg e (iStrM m) := EI.by (pi_str h) fun G ρ σ H Q k x => at_tX k (At.bind (Ra := rD) rI_back x fun d ρ1 v G1 H1 n1 k1 r1 a1 => by
  cases d with
  | str z =>
    obtain rfl : v = .str z := r1
    exact ⟨z, rfl, a1.ret k1 src_str⟩
  | _ =>
    obtain ⟨r, ρ', e, _⟩ := a1
    cases e)
theorem ei_any {m : M D} (h : ED cl X W e m) : EI cl X W tg e (iAny m) := EI.by (PI.or (PI.or (ei_list (W := W) h) (ei_tup (W := W) h)) (ei_str (W := W) h)) fun G ρ σ H Q k x => by
  obtain ⟨r, ρ', e, o⟩ := id x
  have to : ∀ {m' : M (List D)}, iAny m ρ = m' ρ → tX rI (csX X cl) W m' σ H Q := fun {m'} q => ⟨G, ρ, k, r, ρ', by rw [← q]; exact e, o⟩
  rcases At.look x with ⟨d, ρ1, r1, ρ2, e1, e2⟩ | ⟨c, ns, vs, ρ1, e1⟩
  · have st : ∀ {q : D}, seqD q = none → d = q → False := fun {q} z w => by
      rw [w, z] at e2
      cases e2
    cases d with
    | lst ds => exact .inl (.inl (to (bind_same e1 rfl)))
    | ro ds => exact .inl (.inl (to (bind_same e1 rfl)))
    | tup ds => exact .inl (.inr (to (bind_same e1 rfl)))
    | str z => exact .inr (to (bind_same e1 rfl))
    | _ => exact (st rfl rfl).elim
  · exact .inr (to (bind_er e1))
theorem ei_enu {ml : M (List D)} {elts : List Expr} {kk : Nat} {tpos : Pos} (hg : Gl X "enumerate") (hm : X.mg "enumerate" = none) (ha : EL cl X W [e] ml) (hs : starEach [e] X.env = [(false, eval e X.env)] := by rfl) :
    EI cl X W (.Tuple elts kk tpos) (.Call (.Name "enumerate" p) [e] [] pos) (iEnu ml) := EI.by (pi_enum hg hm ha hs) fun G ρ σ H Q k x => at_tX k (At.bind (Ra := rLs) rI_back x fun ds ρ1 vs G1 H1 n1 k1 r1 a1 => by
  split at a1
  · rename_i xs
    obtain ⟨v, w, rfl, r2, r3⟩ := r1
    obtain rfl : w = [] := r3
    obtain ⟨a, ys, rfl, h1, h2⟩ := r2
    exact ⟨a, ys, rfl, SqL.of (k1.sub _ _ h1), a1.ret k1 (src_enum (SqL.of h1) h2)⟩
  · rename_i xs
    obtain ⟨v, w, rfl, r2, r3⟩ := r1
    obtain rfl : w = [] := r3
    obtain ⟨a, ys, rfl, h1, h2⟩ := r2
    exact ⟨a, ys, rfl, ex_l k1.sub h1, a1.ret k1 (src_enum h1 h2)⟩
  · obtain ⟨_, _, e, _⟩ := a1
    cases e)
theorem ei_zip {ml : M (List D)} {elts : List Expr} {kk : Nat} {tpos : Pos} (hg : Gl X "zip") (hm : X.mg "zip" = none) (ha : EL cl X W [e, e2] ml)
    (hs : starEach [e, e2] X.env = (false, eval e X.env) :: starEach [e2] X.env := by rfl) (hpl : (backTo pos (starEach [e2] X.env)).any (·.1) = false := by rfl) :
    EI cl X W (.Tuple elts kk tpos) (.Call (.Name "zip" p) [e, e2] [] pos) (iZp ml) := EI.by (RZ.pi_zipA hg hm ha hs hpl) fun G ρ σ H Q k x => at_tX k (At.bind (Ra := rLs) rI_back x fun ds ρ1 vs G1 H1 n1 k1 r1 a1 => by
  split at a1
  · rename_i xs ys
    obtain ⟨v, w, rfl, r2, v', w', rfl, r3, r4⟩ := r1
    obtain rfl : w' = [] := r4
    obtain ⟨a, as, rfl, h1, h2⟩ := r2
    obtain ⟨b, bs, rfl, h3, h4⟩ := r3
    exact ⟨a, b, as, bs, rfl, .inr ⟨ex_t k1.sub h1, ex_t k1.sub h3, a1.ret k1 (src_zipT h1 h3 h2 h4)⟩⟩
  · rename_i xs ys
    obtain ⟨v, w, rfl, r2, v', w', rfl, r3, r4⟩ := r1
    obtain rfl : w' = [] := r4
    obtain ⟨a, as, rfl, h1, h2⟩ := r2
    obtain ⟨b, bs, rfl, h3, h4⟩ := r3
    exact ⟨a, b, as, bs, rfl, .inl ⟨SqL.of (k1.sub _ _ h1), SqL.of (k1.sub _ _ h3), a1.ret k1 (src_zipL (SqL.of h1) (SqL.of h3) h2 h4)⟩⟩
  · rename_i xs ys
    obtain ⟨v, w, rfl, r2, v', w', rfl, r3, r4⟩ := r1
    obtain rfl : w' = [] := r4
    obtain ⟨a, as, rfl, h1, h2⟩ := r2
    obtain ⟨b, bs, rfl, h3, h4⟩ := r3
    exact ⟨a, b, as, bs, rfl, .inl ⟨SqL.of (k1.sub _ _ h1), ex_l k1.sub h3, a1.ret k1 (src_zipL (SqL.of h1) h3 h2 h4)⟩⟩
  · rename_i xs ys
    obtain ⟨v, w, rfl, r2, v', w', rfl, r3, r4⟩ := r1
    obtain rfl : w' = [] := r4
    obtain ⟨a, as, rfl, h1, h2⟩ := r2
    obtain ⟨b, bs, rfl, h3, h4⟩ := r3
    exact ⟨a, b, as, bs, rfl, .inl ⟨ex_l k1.sub h1, SqL.of (k1.sub _ _ h3), a1.ret k1 (src_zipL h1 (SqL.of h3) h2 h4)⟩⟩
  · obtain ⟨_, _, e, _⟩ := a1
    cases e)
end
end Fn

set_option maxRecDepth 100000
set_option maxHeartbeats 4000000
namespace Fn
open PySem PySem.Spec PyProof.Rows L2

/-! ### a new object, while its __init__ runs, as one variable more -/
def mkO (H : Hp) (x dx C : Addr) : Hp := upd (upd H dx (.own x)) x (.ins C dx [])
section
variable {T : Cs} {G H : Hp} {σ : L2.St} {ρ : En} {c : Str} {C x dx : Addr}
theorem mkO_ex (hx : H x = none) (hd : H dx = none) : Ex H (mkO H x dx C) := fun b u e => by
  unfold mkO
  rw [upd_ne (ne_of_none e hx), upd_ne (ne_of_none e hd)]
  exact e
theorem mkO_back {a : Addr} (h : mkO H x dx C a = none) : H a = none := by
  unfold mkO at h
  by_cases q : a = x
  · subst q
    rw [upd_same] at h
    cases h
  · rw [upd_ne q] at h
    by_cases q2 : a = dx
    · subst q2
      rw [upd_same] at h
      cases h
    · rw [upd_ne q2] at h
      exact h
theorem get_ext {α : Type} {xs : List α} {y z : α} {i : Nat} (h : (xs ++ [y])[i]? = some z) : (i < xs.length ∧ xs[i]? = some z) ∨ (i = xs.length ∧ z = y) := by
  by_cases q : i < xs.length
  · rw [List.getElem?_append_left q] at h
    exact .inl ⟨q, h⟩
  · rw [List.getElem?_append_right (Nat.le_of_not_lt q)] at h
    have : i - xs.length = 0 := by
      cases e : i - xs.length with
      | zero => rfl
      | succ n =>
        rw [e] at h
        simp at h
    rw [this] at h
    refine .inr ⟨by omega, ?_⟩
    cases h
    rfl
theorem ext_ok (k : Ok T G H σ ρ) (hc : T.cls.o c = some C) (hx : H x = none) (hd : H dx = none) : Ok T G (mkO H x dx C) (σ ++ [some (.ref x)]) (ρ ++ [some (.obj c [] [])]) := by
  have gx : G x = none := by
    cases q : G x with
    | none => rfl
    | some u => rw [k.sub x u q] at hx; cases hx
  have e := mkO_ex (C := C) hx hd
  refine ⟨Ex.trans k.sub e, by rw [List.length_append, List.length_append, k.len]; rfl, fun i o hi => ?_, fun i j o o' a h1 h2 p1 p2 h3 h4 => ?_⟩
  · rcases get_ext hi with ⟨q, h⟩ | ⟨q, h⟩
    · obtain ⟨v, h1, h2⟩ := k.rep i o h
      refine ⟨v, by rw [List.getElem?_append_left (by rw [← k.len]; exact q)]; exact h1, ?_⟩
      exact h2.keep (S := fun _ => False) (S1 := fun _ => False) ⟨Ex.refl _, fun a z z' => absurd z z', fun a o z _ => e a o z, fun a z => mkO_back z, fun _ z => z.elim⟩ fun _ _ _ z => z
    · cases h
      subst q
      refine ⟨.ref x, ?_, x, C, dx, [], rfl, hc, ?_, gx, rfl, rfl⟩
      · rw [k.len, List.getElem?_append_right (Nat.le_refl _), Nat.sub_self]
        rfl
      · unfold mkO
        rw [upd_same]
  · have own : ∀ {i : Nat} {o : O}, ρ[i]? = some (some o) → o.own = true → i < ρ.length → (σ ++ [some (.ref x)])[i]? = some (some (.ref a)) → σ[i]? = some (some (.ref a)) ∧ H a ≠ none := fun {i o} h p q h' => by
      rw [List.getElem?_append_left (by rw [← k.len]; exact q)] at h'
      obtain ⟨b, u, e1, e2, _⟩ := (k.at_ h h').there p
      cases e1
      exact ⟨h', by rw [e2]; exact fun z => nomatch z⟩
    have lastx : ∀ {i : Nat}, i = ρ.length → (σ ++ [some (.ref x)])[i]? = some (some (.ref a)) → a = x := fun {i} q h' => by
      subst q
      rw [k.len, List.getElem?_append_right (Nat.le_refl _), Nat.sub_self] at h'
      cases h'
      rfl
    rcases get_ext h1 with ⟨q1, g1⟩ | ⟨q1, g1⟩
    · obtain ⟨s1, n1⟩ := own g1 p1 q1 h3
      rcases get_ext h2 with ⟨q2, g2⟩ | ⟨q2, g2⟩
      · obtain ⟨s2, _⟩ := own g2 p2 q2 h4
        exact k.dis i j o o' a g1 g2 p1 p2 s1 s2
      · rw [lastx q2 h4] at n1
        exact absurd hx n1
    · rcases get_ext h2 with ⟨q2, g2⟩ | ⟨q2, g2⟩
      · obtain ⟨s2, n2⟩ := own g2 p2 q2 h4
        rw [lastx q1 h3] at n2
        exact absurd hx n2
      · rw [q1, q2]
theorem owns_ext {a : Addr} {o : O} (hl : ρ.length = σ.length) (h : Owns (σ ++ [some (.ref x)]) (ρ ++ [some o]) a) : Owns σ ρ a ∨ a = x := by
  obtain ⟨i, o', h1, h2, h3⟩ := h
  rcases get_ext h1 with ⟨q, g⟩ | ⟨q, g⟩
  · rw [List.getElem?_append_left (by rw [← hl]; exact q)] at h3
    exact .inl ⟨i, o', g, h2, h3⟩
  · subst q
    rw [hl, List.getElem?_append_right (Nat.le_refl _), Nat.sub_self] at h3
    cases h3
    exact .inr rfl
/-- .. and when it has run -/
theorem ext_back {G' H' : Hp} {ρ' : En} (k : Ok T G H σ ρ) (hx : H x = none) (hd : H dx = none) (n : Nk G (mkO H x dx C) (σ ++ [some (.ref x)]) (ρ ++ [some (.obj c [] [])]) G' H' ρ') (k' : Ok T G' H' (σ ++ [some (.ref x)]) ρ') :
    Nk G H σ ρ G' H' (ρ'.take ρ.length) ∧ Ok T G' H' σ (ρ'.take ρ.length) := by
  have hl' : ρ'.length = ρ.length + 1 := by
    rw [k'.len, List.length_append, k.len]
    rfl
  have e := mkO_ex (C := C) hx hd
  have back : ∀ {i : Nat} {o : Option O}, (ρ'.take ρ.length)[i]? = some o → i < ρ.length ∧ ρ'[i]? = some o := fun {i o} h => by
    have q : i < ρ.length := by
      have := (List.getElem?_eq_some_iff.mp h).1
      rw [List.length_take] at this
      omega
    rw [List.getElem?_take_of_lt q] at h
    exact ⟨q, h⟩
  have ow : ∀ {a : Addr}, Owns σ (ρ'.take ρ.length) a → Owns (σ ++ [some (.ref x)]) ρ' a := fun {a} ⟨i, o, h1, h2, h3⟩ => by
    obtain ⟨q, h⟩ := back h1
    exact ⟨i, o, h, h2, by rw [List.getElem?_append_left (by rw [← k.len]; exact q)]; exact h3⟩
  refine ⟨⟨⟨n.g, fun a h1 h2 => ?_, fun a o h1 h2 => ?_, fun a h => mkO_back (n.there a h), fun a h => ?_⟩, fun i => ?_⟩, ⟨k'.sub, ?_, fun i o hi => ?_, fun i j o o' a h1 h2 p1 p2 h3 h4 => ?_⟩⟩
  · rcases n.new a h1 h2 with z | z
    · exact .inl (mkO_back z)
    · rcases owns_ext k.len z with z | z
      · exact .inr z
      · rw [z]
        exact .inl hx
  · refine n.keep a o (e a o h1) fun z => ?_
    rcases owns_ext k.len z with z | z
    · exact h2 z
    · rw [z, hx] at h1
      cases h1
  · rcases n.own a (ow h) with z | z
    · rcases owns_ext k.len z with z | z
      · exact .inl z
      · rw [z]
        exact .inr hx
    · exact .inr (mkO_back z)
  · by_cases q : i < ρ.length
    · rw [List.getElem?_take_of_lt q, n.kp i, List.getElem?_append_left q]
    · rw [List.getElem?_eq_none (by rw [List.length_take]; omega), List.getElem?_eq_none (Nat.le_of_not_lt q)]
  · rw [List.length_take, hl', ← k.len]
    omega
  · obtain ⟨q, h⟩ := back hi
    obtain ⟨v, h1, h2⟩ := k'.rep i o h
    rw [List.getElem?_append_left (by rw [← k.len]; exact q)] at h1
    exact ⟨v, h1, h2⟩
  · obtain ⟨q1, g1⟩ := back h1
    obtain ⟨q2, g2⟩ := back h2
    exact k'.dis i j o o' a g1 g2 p1 p2 (by rw [List.getElem?_append_left (by rw [← k.len]; exact q1)]; exact h3) (by rw [List.getElem?_append_left (by rw [← k.len]; exact q2)]; exact h4)
theorem ext_new {G' H' : Hp} {ρ' : En} {ns : List Str} {vs : List D} (k : Ok T G H σ ρ) (hx : H x = none) (k' : Ok T G' H' (σ ++ [some (.ref x)]) ρ') (ho : ρ'[ρ.length]? = some (some (.obj c ns vs))) :
    RepO T G' H' (.obj c ns vs) (.ref x) ∧ Fresh H (Owns σ (ρ'.take ρ.length)) (.obj c ns vs) (.ref x) := by
  have hs : (σ ++ [some (V.ref x)])[ρ.length]? = some (some (.ref x)) := by
    rw [k.len, List.getElem?_append_right (Nat.le_refl _), Nat.sub_self]
    rfl
  refine ⟨k'.at_ ho hs, fun p a ea => ?_⟩
  cases ea
  refine ⟨hx, fun ⟨i, o, h1, h2, h3⟩ => ?_⟩
  have q : i < ρ.length := by
    have := (List.getElem?_eq_some_iff.mp h1).1
    rw [List.length_take] at this
    omega
  rw [List.getElem?_take_of_lt q] at h1
  have h3' : (σ ++ [some (V.ref x)])[i]? = some (some (.ref x)) := by
    rw [List.getElem?_append_left (by rw [← k.len]; exact q)]
    exact h3
  have := k'.dis i ρ.length o _ x h1 ho h2 rfl h3' hs
  omega
theorem RL_ext {H0 H0' H1 H2 : Hp} {ρ1 ρ2 : En} : ∀ {rs : List Rf} {vs : List V}, RL T H0 σ ρ1 G H1 rs vs → RL T H0' (σ ++ [some (.ref x)]) ρ2 G H2 rs vs
  | [], vs, h => h
  | r :: rs, vs, h => by
    obtain ⟨v, w, h1, h2, h3⟩ := h
    refine ⟨v, w, h1, ?_, RL_ext h3⟩
    cases r with
    | d x => exact h2
    | s i =>
      have h2' : σ[i]? = some (some v) := h2
      show (σ ++ [some (V.ref x)])[i]? = some (some v)
      rw [List.getElem?_append_left (List.getElem?_eq_some_iff.mp h2').1]
      exact h2'
end
/-- C(e, ..): __init__ at the new object -/
def eNew (c : Str) (F : Fx) (as : M (List Rf)) : M O := M.bind as fun rs ρ => match callF F (.s ρ.length :: rs) (ρ ++ [some (.obj c [] [])]) with
  | some (.ok (.dat .non), ρ') => (match ρ'[ρ.length]? with
    | some (some (.obj c' ns vs)) => if c' = c then some (.ok (.obj c ns vs), ρ'.take ρ.length) else none
    | _ => none)
  | some (.er d ns vs, ρ') => some (.er d ns vs, ρ'.take ρ.length)
  | _ => none
section
variable {cl : Nms} {X : Cx} {W : WX} {CX : CXT} {k n : Nat} {f C : Addr} {c : Str} {fd : FuncData} {ps : List Str} {F : Fx} {x : Str} {p pos : Pos} {e : Expr} {es : List Expr} {as : M (List Rf)} {sp : Sp} {t : TA}
theorem pe_newW (M : Mk X.K C f) (F : FnS X.prog X.w X.K X.mg X.base CX k f fd ps sp) (hx : WThru X CX W) (hgd : X.A.guards = some []) (hr : Room (k + 1) X.A) (hg : Gl X x) (hm : X.mg x = some (.ref C)) (hb : Binds X.K fd ps [])
    (ha : PA X (e :: es) t) (hdb : (x == ("__debug__" : Str)) = false := by decide) (he : starEach (e :: es) X.env = (false, eval e X.env) :: starEach es X.env := by rfl) (hpl : (backTo pos (starEach es X.env)).any (·.1) = false := by rfl) :
    PE X (.Call (.Name x p) (e :: es) [] pos) (fun σ H Q => t σ H fun vs H1 => ∀ a dx, H1 a = none → H1 dx = none → dx ≠ a → sp (.ref a :: vs) (mkO H1 a dx C) (fun v H2 => v = .non ∧ Q (.ref a) H2) (fun c d H' => W c d σ H')) := by
  constructor
  intro pins s σ H Q I h
  apply wpAny_Call_Name_kw
  apply ld_glob I hg hm _ hdb
  refine PySem.W.callWith_K (h₀ := X.base) I.ok.mod.kin M.kp (thn (ha.run pos pins s σ H _ I h) ?_) he hpl
  rintro us s1 ⟨vs, H1, I1, r, q⟩
  refine And.intro I1.kIn ?_
  have free : ∀ {a : Addr}, s1.heap.objs.size ≤ a → H1 a = none := fun {a} z => I1.hok.fresh z
  have hq := q (s1.heap.objs.size + 1) s1.heap.objs.size (free (Nat.le_succ _)) (free (Nat.le_refl _)) (Nat.ne_of_lt (Nat.lt_succ_self _))
  have I2 := Inv.made (C := C) I1
  have r2 : Vals (V.ref (s1.heap.objs.size + 1) :: vs) (Value.ref (s1.heap.objs.size + 1) :: us) := .cons rfl r
  have hl : ((Value.ref (s1.heap.objs.size + 1) :: us) ++ []).length = ps.length := by
    rw [List.append_nil, ← r2.length]
    exact F.len _ _ _ _ hq
  have hb1 := hb _ (Value.ref (s1.heap.objs.size + 1) :: us) I2.kIn hl
  rw [List.append_nil] at hb1
  apply wpAny_call
  apply make_map (f := f) I1.kIn M.makes M.init (beq_iff_eq.mp M.fn)
  refine codeAny_mono (F.go _ X.stack _ _ ⟨Value.ref (s1.heap.objs.size + 1) :: us, []⟩ _ _ _ _ hgd (hr.make C us []) (I2.env0.make C us []) hb1 r2 hq) ?_
  intro r s' hq'
  match r, hq' with
  | .error e, hq' => exact hx σ pins _ _ e s' I2 hq'
  | .ok (.ret u), hq' =>
    obtain ⟨v, H', I3, rv, ev, q3⟩ := I2.after hq'
    subst ev
    exact ⟨rv, V.ref (s1.heap.objs.size + 1), H', I3, rfl, q3⟩
theorem eo_new (G : FnS X.prog X.w X.K X.mg X.base CX k f fd ps (spF (csX X cl) (n + 1) F)) (mk : Mk X.K C f) (hc : cl.o c = some C) (hx : WThru X CX W) (hgd : X.A.guards = some []) (hr : Room (k + 1) X.A) (hg : Gl X x) (hm : X.mg x = some (.ref C)) (hb : Binds X.K fd ps [])
    (ha : EA cl X W (e :: es) as) (hn : ∀ ρ rs ρ', as ρ = some (.ok rs, ρ') → rs.length = n) (hdb : (x == ("__debug__" : Str)) = false := by decide) (he : starEach (e :: es) X.env = (false, eval e X.env) :: starEach es X.env := by rfl) (hpl : (backTo pos (starEach es X.env)).any (·.1) = false := by rfl) :
    EO cl X W (.Call (.Name x p) (e :: es) [] pos) (eNew c F as) := EX.by (pe_newW mk G hx hgd hr hg hm hb ha hdb he hpl) fun G ρ σ H Q k h => by
  obtain ⟨r, ρ', e1, o⟩ := h
  refine at_tX k ?_
  unfold eNew M.bind at e1
  cases q : as ρ with
  | none =>
    rw [q] at e1
    cases e1
  | some z =>
    obtain ⟨r1, ρ1⟩ := z
    rw [q] at e1
    cases r1 with
    | er c ns vs =>
      cases e1
      exact ⟨_, _, q, o⟩
    | ok rs =>
      refine ⟨_, _, q, fun vs G1 H1 n1 k1 rl a dx ha hd hne => ?_⟩
      have kx := ext_ok (C := C) (dx := dx) k1 hc ha hd
      have hlen : (.s ρ1.length :: rs).length = n + 1 := by rw [List.length_cons, hn ρ rs ρ1 q]
      have hs0 : (σ ++ [some (V.ref a)])[ρ1.length]? = some (some (.ref a)) := by
        rw [k1.len, List.getElem?_append_right (Nat.le_refl _), Nat.sub_self]
        rfl
      dsimp only at e1
      cases qc : callF F (.s ρ1.length :: rs) (ρ1 ++ [some (.obj c [] [])]) with
      | none =>
        rw [qc] at e1
        cases e1
      | some w =>
        obtain ⟨r2, ρ2⟩ := w
        rw [qc] at e1
        have a2 : At rO (csX X cl) (fun c d _ H' => W c d σ H') (callF F (.s ρ1.length :: rs)) G1 (ρ1 ++ [some (.obj c [] [])]) (σ ++ [some (.ref a)]) (mkO H1 a dx C) (fun v H2 => v = .non ∧ Q (.ref a) H2) := by
          refine ⟨r2, ρ2, qc, ?_⟩
          cases r2 with
          | er d ns vs =>
            cases e1
            intro G' H' C' hC n2 k2
            obtain ⟨n3, k3⟩ := ext_back k1 ha hd n2 k2
            exact o G' H' C' hC (n1.trans n3) k3
          | ok z =>
            intro v G' H' n2 k2 rv
            obtain ⟨n3, k3⟩ := ext_back k1 ha hd n2 k2
            split at e1
            case h_2 => rename_i e2; cases e2
            case h_3 => cases e1
            rename_i ρ3 e2
            cases e2
            split at e1
            case h_2 => cases e1
            rename_i c' ns us ho
            split at e1
            case isFalse => cases e1
            rename_i hcc
            cases e1
            subst hcc
            have rv' : v = .non := rv.1
            obtain ⟨f1, f2⟩ := ext_new k1 ha k2 ho
            exact ⟨rv', o (.ref a) G' H' (n1.trans n3) k3 ⟨f1, f2.back n1.there⟩⟩
        have z := call_sp kx (show RL (csX X cl) (mkO H1 a dx C) (σ ++ [some (.ref a)]) (ρ1 ++ [some (.obj c [] [])]) G1 (mkO H1 a dx C) (.s ρ1.length :: rs) (.ref a :: vs) from ⟨_, _, rfl, hs0, RL_ext rl⟩) a2
        rw [hlen] at z
        exact z
end
end Fn

set_option maxRecDepth 100000
set_option maxHeartbeats 4000000
namespace Fn
open PySem PySem.Spec PyProof.Rows L2

/-! ### an object's attributes, properties, methods -/
def nLook : List Str → List D → Str → Option D
  | n :: ns, d :: ds, f => if n = f then some d else nLook ns ds f
  | _, _, _ => none
def putN (f : Str) (x : D) : List Str → List D → List Str × List D
  | n :: ns, d :: ds => if n = f then (n :: ns, x :: ds) else (n :: (putN f x ns ds).1, d :: (putN f x ns ds).2)
  | _, _ => ([f], [x])
def fGet (f : Str) : D → Option D
  | .obj _ ns vs => nLook ns vs f
  | _ => none
def eGet (f : Str) (mo : M Rf) : M D := M.bind mo fun r => M.bind r.get fun d => M.lift (fGet f d)
def fPutA (f : Str) : O → D → Option O
  | .obj c ns vs, x => if ns.length < 900 then some (.obj c (putN f x ns vs).1 (putN f x ns vs).2) else none
  | _, _ => none
def sPutA (f : Str) (mo : M Rf) (m : M D) : S := m.then_ fun x => mo.then_ fun y => mutAt (fPutA f) y x
/-- what is told of the objects' classes -/
structure ObjK (K : PySem.W.Frag) (nm : Nms) (fs : List Str) : Prop where
  cl : ∀ c C, nm.o c = some C → Cls K C
  no : ∀ c C, nm.o c = some C → ∀ f ∈ fs, NoAttr K C f
section
variable {T : Cs} {G : Hp}
theorem nLook_rep {f : Str} {d : D} : ∀ {fs : List (Str × V)} {ds : List D}, RepL T G ds (fs.map (·.2)) → nLook (fs.map (·.1)) ds f = some d → ∃ v, fs.lookup f = some v ∧ Rep T G d v
  | [], ds, h, e => by cases e
  | (g, v) :: fs, ds, h, e => by
    cases ds with
    | nil => cases e
    | cons d' ds =>
      obtain ⟨v', r, e1, h1, h2⟩ := h
      rw [List.map_cons] at e1
      obtain ⟨rfl, rfl⟩ := List.cons.inj e1
      have e' : (if g = f then some d' else nLook (fs.map (·.1)) ds f) = some d := e
      by_cases q : g = f
      · rw [if_pos q] at e'
        cases e'
        subst q
        exact ⟨v, by rw [List.lookup_cons_self], h1⟩
      · rw [if_neg q] at e'
        obtain ⟨w, h3, h4⟩ := nLook_rep h2 e'
        refine ⟨w, ?_, h4⟩
        rw [List.lookup_cons, show (f == g) = false from beq_eq_false_iff_ne.mpr fun z => q z.symm]
        exact h3
theorem nLook_none {f : Str} : ∀ {fs : List (Str × V)} {ds : List D}, RepL T G ds (fs.map (·.2)) → nLook (fs.map (·.1)) ds f = none → fs.lookup f = none
  | [], ds, h, e => rfl
  | (g, v) :: fs, ds, h, e => by
    cases ds with
    | nil =>
      have h' : (((g, v) :: fs).map (·.2)) = [] := h
      cases h'
    | cons d' ds =>
      obtain ⟨v', r, e1, h1, h2⟩ := h
      rw [List.map_cons] at e1
      obtain ⟨rfl, rfl⟩ := List.cons.inj e1
      have e' : (if g = f then some d' else nLook (fs.map (·.1)) ds f) = none := e
      by_cases q : g = f
      · rw [if_pos q] at e'
        cases e'
      · rw [if_neg q] at e'
        rw [List.lookup_cons, show (f == g) = false from beq_eq_false_iff_ne.mpr fun z => q z.symm]
        exact nLook_none h2 e'
theorem putN_rep {f : Str} {x : D} {v : V} (hv : Rep T G x v) : ∀ {fs : List (Str × V)} {ds : List D}, RepL T G ds (fs.map (·.2)) →
    (putF f v fs).map (·.1) = (putN f x (fs.map (·.1)) ds).1 ∧ RepL T G (putN f x (fs.map (·.1)) ds).2 ((putF f v fs).map (·.2))
  | [], ds, h => by
    cases ds with
    | nil => exact ⟨rfl, RepL.cons hv RepL.nil⟩
    | cons d ds =>
      obtain ⟨_, _, e, _⟩ := h
      cases e
  | (g, w) :: fs, ds, h => by
    cases ds with
    | nil =>
      have h' : (((g, w) :: fs).map (·.2)) = [] := h
      cases h'
    | cons d ds =>
      obtain ⟨v', r, e1, h1, h2⟩ := h
      rw [List.map_cons] at e1
      obtain ⟨rfl, rfl⟩ := List.cons.inj e1
      obtain ⟨i1, i2⟩ := putN_rep hv h2
      show (putF f v ((g, w) :: fs)).map (·.1) = (putN f x (g :: fs.map (·.1)) (d :: ds)).1 ∧ RepL T G (putN f x (g :: fs.map (·.1)) (d :: ds)).2 ((putF f v ((g, w) :: fs)).map (·.2))
      unfold putF putN
      by_cases q : g = f
      · rw [if_pos q, if_pos q]
        exact ⟨rfl, RepL.cons hv h2⟩
      · rw [if_neg q, if_neg q]
        exact ⟨by rw [List.map_cons, i1], RepL.cons h1 i2⟩
end
section
variable {cl : Nms} {X : Cx} {W : WX} {np : Nat} {o e value : Expr} {es : List Expr} {mo : M Rf} {md : M D} {f m : Str} {pos pos' apos cpos : Pos} {fs : List Str} {CX : CXT} {k n : Nat} {fa C : Addr} {fd : FuncData} {ps : List Str} {F : Fx} {c : Str} {as : M (List Rf)} {sp : Sp} {ta : TE} {t : TA}
/-- e.f -/
theorem ed_get (hK : ObjK X.K cl fs) (hf : f ∈ fs) (h : ER cl X W e mo) (hb : attributeBase e f X.env (eval e X.env) = eval e X.env := by rfl) : ED cl X W (.Attribute e f pos) (eGet f mo) :=
  EX.by (pe_fld h hb) fun G ρ σ H Q k a => at_tX k (At.bind (Ra := rR) rD_back a fun r ρ1 v G1 H1 n1 k1 r1 a1 => by
    obtain ⟨d, q1, a2⟩ := At.get a1 k1 r1
    obtain ⟨x, e1, a3⟩ := a2.lift
    cases d with
    | obj c ns vs =>
      obtain ⟨p, C, dx, gs, rfl, hc, h1, rfl, h2⟩ := q1.obj k1
      obtain ⟨w, h3, h4⟩ := nLook_rep h2 e1
      exact ⟨p, C, dx, gs, w, rfl, h1, hK.cl c C hc, hK.no c C hc f hf, h3, a3.ret k1 h4⟩
    | _ => cases e1)
/-- o.f = e, o an object of the variable's own -/
theorem es_put (hK : ObjK X.K cl fs) (hf : f ∈ fs) (h : ER cl X W o mo) (hv : ED cl X W value md) (hs : swapsWith value (some (.Attribute o f pos')) pos.line X.env = pure false := by rfl) :
    ES cl X W np (.Assign [.Attribute o f pos'] value pos) (sPutA f mo md) := ES.by (ps_fld h hv hs) fun G ρ D σ H k a => at_tX k (a.then_ (R := rD) fun x ρ1 v1 G1 H1 n1 k1 r1 a1 => at_tX k1 (a1.then_ (R := rR) fun y ρ2 v2 G2 H2 n2 k2 r2 a2 => by
  obtain ⟨j, u, u', rfl, hj, hu, hu', hg, rep, fin⟩ := mut_at a2 k2 r2
  cases u with
  | obj c ns vs =>
    have hg' : (if ns.length < 900 then some (O.obj c (putN f x ns vs).1 (putN f x ns vs).2) else none) = some u' := hg
    split at hg'
    case isFalse => cases hg'
    rename_i hl
    cases hg'
    obtain ⟨p, C, dx, gs, rfl, hc, h1, h2, rfl, h3⟩ := rep
    obtain ⟨i1, i2⟩ := putN_rep (f := f) (Rep.mono n2.g x v1 r1) h3
    rw [List.length_map] at hl
    exact ⟨p, C, dx, gs, rfl, h1, hK.cl c C hc, hK.no c C hc f hf, by omega, fin p _ rfl ⟨p, C, dx, _, rfl, hc, upd_same, h2, i1, i2⟩⟩
  | _ => cases hg))
/-! methods -/
def objC (c m : Str) : D → Bool
  | .obj c' ns vs => decide (c' = c) && (nLook ns vs m).isNone
  | _ => false
def eMeth (c m : Str) (F : Fx) (mo : M Rf) (as : M (List Rf)) : M O := M.bind mo fun y => M.bind y.get fun d0 => M.bind (M.chk (objC c m d0)) fun _ => M.bind as fun rs => callF F (y :: rs)
theorem pe_methW {pl : Sem Bool} (he : PE X o ta) (c : Cls X.K C) (hm : Meth X.K C m fa) (F : FnS X.prog X.w X.K X.mg X.base CX k fa fd ps sp) (hx : WThru X CX W) (hgd : X.A.guards = some []) (hr : Room k X.A) (hb : Binds X.K fd ps []) (ha : PA X (e :: es) t)
    (hst : starEach (e :: es) X.env = (false, eval e X.env) :: starEach es X.env := by rfl) (hpl : (backTo pos (starEach es X.env)).any (·.1) = false := by rfl)
    (ht : eval (.Call (.Attribute o m apos) (e :: es) [] pos) X.env = (do
      let ov ← eval o X.env
      standAt apos.atName
      let (f, first) ← holding [ov] (getMethod ov m pl)
      callWith pos f first (backTo pos (starEach (e :: es) X.env)) (backToKw pos (keywordEach [] X.env))) := by rfl) :
    PE X (.Call (.Attribute o m apos) (e :: es) [] pos) (fun σ H Q => ta σ H fun x H1 => ∃ a dx fs, x = .ref a ∧ H1 a = some (.ins C dx fs) ∧ fs.lookup m = none ∧ t σ H1 fun vs H2 => sp (.ref a :: vs) H2 Q (fun c d H' => W c d σ H')) := by
  constructor
  intro pins s σ H Q I h
  apply PySem.W.methodCall_KW (pl := pl) _ ht
  refine thn (he.run pins s σ H _ I h) ?_
  rintro u s1 ⟨x, H1, I1, rx, a, dx, gs, rfl, ea, l, q⟩
  obtain rfl : u = Value.ref a := rx
  apply getmeth_ok I1 ea c hm l
  refine PySem.W.callWith_K (first := [.ref a]) (h₀ := X.base) I.ok.mod.kin hm.kp (thn (ha.run pos pins s1 σ H1 _ I1 q) ?_) hst hpl
  rintro us s2 ⟨vs, H2, I2, r, q2⟩
  refine And.intro I2.kIn ?_
  have r2 : Vals (V.ref a :: vs) (Value.ref a :: us) := .cons rfl r
  have hl : ((Value.ref a :: us) ++ []).length = ps.length := by
    rw [List.append_nil, ← r2.length]
    exact F.len _ _ _ _ q2
  have hb1 := hb s2 (Value.ref a :: us) I2.kIn hl
  rw [List.append_nil] at hb1
  apply wpAny_call
  refine codeAny_mono (F.go X.A X.stack s2 H2 ⟨Value.ref a :: us, []⟩ _ _ Q _ hgd hr I2.env0 hb1 r2 q2) ?_
  intro r s' hq
  match r, hq with
  | .error e, hq => exact hx σ pins H2 s2 e s' I2 hq
  | .ok (.ret u), hq => exact I2.after hq
theorem pe_methW0 {pl : Sem Bool} (he : PE X o ta) (c : Cls X.K C) (hm : Meth X.K C m fa) (F : FnS X.prog X.w X.K X.mg X.base CX k fa fd ps sp) (hx : WThru X CX W) (hgd : X.A.guards = some []) (hr : Room k X.A) (hb : Binds X.K fd ps [])
    (ht : eval (.Call (.Attribute o m apos) [] [] pos) X.env = (do
      let ov ← eval o X.env
      standAt apos.atName
      let (f, first) ← holding [ov] (getMethod ov m pl)
      callWith pos f first (backTo pos (starEach [] X.env)) (backToKw pos (keywordEach [] X.env))) := by rfl) :
    PE X (.Call (.Attribute o m apos) [] [] pos) (fun σ H Q => ta σ H fun x H1 => ∃ a dx fs, x = .ref a ∧ H1 a = some (.ins C dx fs) ∧ fs.lookup m = none ∧ sp [.ref a] H1 Q (fun c d H' => W c d σ H')) := by
  constructor
  intro pins s σ H Q I h
  apply PySem.W.methodCall_KW (pl := pl) _ ht
  refine thn (he.run pins s σ H _ I h) ?_
  rintro u s1 ⟨x, H1, I1, rx, a, dx, gs, rfl, ea, l, q⟩
  obtain rfl : u = Value.ref a := rx
  apply getmeth_ok I1 ea c hm l
  have r2 : Vals [V.ref a] [Value.ref a] := .cons rfl .nil
  have hl : ([Value.ref a] ++ []).length = ps.length := by
    rw [List.append_nil, ← r2.length]
    exact F.len _ _ _ _ q
  have hb1 := hb s1 [Value.ref a] I1.kIn hl
  rw [List.append_nil] at hb1
  refine PySem.W.callWith_K0 (first := [.ref a]) I1.kIn hm.kp (wpAny_call ?_)
  refine codeAny_mono (F.go X.A X.stack s1 H1 ⟨[Value.ref a], []⟩ _ _ Q _ hgd hr I1.env0 hb1 r2 q) ?_
  intro r s' hq
  match r, hq with
  | .error e, hq => exact hx σ pins H1 s1 e s' I1 hq
  | .ok (.ret u), hq => exact I1.after hq
theorem objC_some {c m : Str} {d : D} (h : objC c m d = true) : ∃ ns vs, d = .obj c ns vs ∧ nLook ns vs m = none := by
  cases d with
  | obj c' ns vs =>
    have h' := Bool.and_eq_true_iff.mp (show (decide (c' = c) && (nLook ns vs m).isNone) = true from h)
    have e : c' = c := of_decide_eq_true h'.1
    subst e
    exact ⟨ns, vs, rfl, Option.isNone_iff_eq_none.mp h'.2⟩
  | _ => cases h
/-- what a method's promise is asked, the receiver and the arguments known -/
theorem meth_sp {G H : Hp} {σ : L2.St} {ρ : En} {y : Rf} {v : V} {Q : VK} {T : Cs} (k : Ok T G H σ ρ) (ha : At rO T W (M.bind as fun rs => callF F (y :: rs)) G ρ σ H Q) (hn : ∀ ρ rs ρ', as ρ = some (.ok rs, ρ') → rs.length = n) (hy : rR T H σ ρ G H y v) :
    tX rA T W as σ H fun vs H2 => spF T (n + 1) F (v :: vs) H2 Q (fun c d H' => W c d σ H') := by
  obtain ⟨r, ρ', e1, o⟩ := ha
  refine at_tX k ?_
  unfold M.bind at e1
  cases q : as ρ with
  | none =>
    rw [q] at e1
    cases e1
  | some z =>
    obtain ⟨r1, ρ1⟩ := z
    rw [q] at e1
    cases r1 with
    | er c ns vs =>
      cases e1
      exact ⟨_, _, q, o⟩
    | ok rs =>
      refine ⟨_, _, q, fun vs G1 H1 n1 k1 rl => ?_⟩
      have a2 : At rO T W (callF F (y :: rs)) G1 ρ1 σ H1 Q := ⟨r, ρ', e1, o.shift rO_back n1⟩
      have z := call_sp k1 (show RL T H1 σ ρ1 G1 H1 (y :: rs) (v :: vs) from ⟨_, _, rfl, rR_keep n1 hy, RL_any (Ex.refl _) rs vs rl⟩) a2
      rw [List.length_cons, hn ρ rs ρ1 q] at z
      exact z
theorem eo_meth {pl : Sem Bool} (hc : cl.o c = some C) (hC : Cls X.K C) (hm : Meth X.K C m fa) (G : FnS X.prog X.w X.K X.mg X.base CX k fa fd ps (spF (csX X cl) (n + 1) F)) (hx : WThru X CX W) (hgd : X.A.guards = some []) (hr : Room k X.A) (hb : Binds X.K fd ps [])
    (ho : ER cl X W o mo) (ha : EA cl X W (e :: es) as) (hn : ∀ ρ rs ρ', as ρ = some (.ok rs, ρ') → rs.length = n)
    (hst : starEach (e :: es) X.env = (false, eval e X.env) :: starEach es X.env := by rfl) (hpl : (backTo pos (starEach es X.env)).any (·.1) = false := by rfl)
    (ht : eval (.Call (.Attribute o m apos) (e :: es) [] pos) X.env = (do
      let ov ← eval o X.env
      standAt apos.atName
      let (f, first) ← holding [ov] (getMethod ov m pl)
      callWith pos f first (backTo pos (starEach (e :: es) X.env)) (backToKw pos (keywordEach [] X.env))) := by rfl) :
    EO cl X W (.Call (.Attribute o m apos) (e :: es) [] pos) (eMeth c m F mo as) := EX.by (pe_methW ho hC hm G hx hgd hr hb ha hst hpl ht) fun G ρ σ H Q k h => at_tX k (At.bind (Ra := rR) rO_back h fun y ρ1 v G1 H1 n1 k1 r1 a1 => by
  obtain ⟨d0, q0, a2⟩ := At.get a1 k1 r1
  obtain ⟨hk, a3⟩ := a2.chk
  obtain ⟨ns, vs, rfl, hno⟩ := objC_some hk
  obtain ⟨p, C', dx, gs, rfl, hc', h1, rfl, h2⟩ := q0.obj k1
  have e : some C = some C' := hc.symm.trans hc'
  cases e
  exact ⟨p, dx, gs, rfl, h1, nLook_none h2 hno, meth_sp k1 a3 hn r1⟩)
theorem eo_meth0 {pl : Sem Bool} (hc : cl.o c = some C) (hC : Cls X.K C) (hm : Meth X.K C m fa) (G : FnS X.prog X.w X.K X.mg X.base CX k fa fd ps (spF (csX X cl) 1 F)) (hx : WThru X CX W) (hgd : X.A.guards = some []) (hr : Room k X.A) (hb : Binds X.K fd ps [])
    (ho : ER cl X W o mo)
    (ht : eval (.Call (.Attribute o m apos) [] [] pos) X.env = (do
      let ov ← eval o X.env
      standAt apos.atName
      let (f, first) ← holding [ov] (getMethod ov m pl)
      callWith pos f first (backTo pos (starEach [] X.env)) (backToKw pos (keywordEach [] X.env))) := by rfl) :
    EO cl X W (.Call (.Attribute o m apos) [] [] pos) (eMeth c m F mo aNil) := EX.by (pe_methW0 ho hC hm G hx hgd hr hb ht) fun G ρ σ H Q k h => at_tX k (At.bind (Ra := rR) rO_back h fun y ρ1 v G1 H1 n1 k1 r1 a1 => by
  obtain ⟨d0, q0, a2⟩ := At.get a1 k1 r1
  obtain ⟨hk, a3⟩ := a2.chk
  obtain ⟨ns, vs, rfl, hno⟩ := objC_some hk
  obtain ⟨p, C', dx, gs, rfl, hc', h1, rfl, h2⟩ := q0.obj k1
  have e : some C = some C' := hc.symm.trans hc'
  cases e
  refine ⟨p, dx, gs, rfl, h1, nLook_none h2 hno, ?_⟩
  have a4 : At rO (csX X cl) W (callF F [y]) G1 ρ1 σ H1 Q := a3
  exact call_sp k1 (show RL (csX X cl) H1 σ ρ1 G1 H1 [y] [V.ref p] from ⟨_, _, rfl, r1, rfl⟩) a4)
/-! properties -/
def noEr {α : Type} (m : M α) : M α := fun ρ => match m ρ with
  | some (.ok a, ρ') => some (.ok a, ρ')
  | _ => none
def eProp (c : Str) (F : Fx) (mo : M Rf) : M O := M.bind mo fun y => M.bind y.get fun d0 => M.bind (M.chk (objC c "" d0)) fun _ => noEr (callF F [y])
theorem pe_propW {p : Addr} (he : PE X o ta) (c : Cls X.K C) (hp : PropOf X.K C f p fa) (F : FnS X.prog X.w X.K X.mg X.base CX k fa fd ps sp) (hx : Passes CX X.nox (fun _ _ _ => False)) (hgd : X.A.guards = some []) (hr : Room (k + 1) X.A) (hb : Binds X.K fd ps [])
    (hab : attributeBase o f X.env (eval o X.env) = eval o X.env) : PE X (.Attribute o f pos) (fun σ H Q => ta σ H fun x H1 => ∃ a dx fs, x = .ref a ∧ H1 a = some (.ins C dx fs) ∧ sp [.ref a] H1 Q (fun _ _ _ => False)) := by
  constructor
  intro pins s σ H Q I h
  apply attr_of hab
  refine thn (he.run pins s σ H _ I h) ?_
  rintro u s1 ⟨x, H1, I1, rx, a, dx, gs, rfl, ea, q⟩
  obtain rfl : u = Value.ref a := rx
  have ⟨mA, ob, _, _, _, _⟩ := ins_get I1.hok ea
  have ⟨od, jo, _⟩ := ob.look
  have ⟨rest, hrec⟩ := hp.rec_
  have r2 : Vals [V.ref a] [Value.ref a] := .cons rfl .nil
  have hl : ([Value.ref a] ++ []).length = ps.length := by
    rw [List.append_nil, ← r2.length]
    exact F.len _ _ _ _ q
  have I3 := I1.tok (s1.toks + 1)
  have hb1 := hb { s1 with toks := s1.toks + 1 } [Value.ref a] I3.kIn hl
  rw [List.append_nil] at hb1
  have hcd : (PySem.W.clsIn X.K C).isSome = true := by
    have ⟨cd, hc, _⟩ := PySem.W.any_some c.hd
    rw [hc]
    rfl
  apply PySem.W.get_bind I1.kIn jo (PySem.W.plainGet_of (c.get f)).1 (PySem.W.findObj_data hcd hp.at_ hp.get hp.tak) (PySem.W.plainGet_of (c.get f)).2
  apply wpAny_call
  apply PySem.W.prop_get (s := { s1 with toks := s1.toks + 1 }) I1.kIn hrec
  refine codeAny_mono (F.go X.A.in1 X.stack _ H1 ⟨[Value.ref a], []⟩ _ _ Q _ hgd hr.in1 I3.env0.in1 hb1 r2 q) ?_
  intro r s' hq
  match r, hq with
  | .error e, hq => exact (hx pins σ H1 _ e s' (I3.wish _) hq).elim
  | .ok (.ret u), hq =>
    obtain ⟨v, H', I4, rv, q3⟩ := I3.after hq
    show wpAny _ _ (handedOut u) _ _ _
    rw [PySem.W.handedOut_of (handed_of rv)]
    exact wpAny_pure ⟨v, H', I4, rv, q3⟩
theorem eo_prop {p : Addr} (hc : cl.o c = some C) (hC : Cls X.K C) (hp : PropOf X.K C f p fa) (G : FnS X.prog X.w X.K X.mg X.base CX k fa fd ps (spF (csX X cl) 1 F)) (hx : Passes CX X.nox (fun _ _ _ => False)) (hgd : X.A.guards = some []) (hr : Room (k + 1) X.A) (hb : Binds X.K fd ps [])
    (ho : ER cl X W o mo) (hab : attributeBase o f X.env (eval o X.env) = eval o X.env := by rfl) : EO cl X W (.Attribute o f pos) (eProp c F mo) := EX.by (pe_propW ho hC hp G hx hgd hr hb hab) fun G ρ σ H Q k h => at_tX k (At.bind (Ra := rR) rO_back h fun y ρ1 v G1 H1 n1 k1 r1 a1 => by
  obtain ⟨d0, q0, a2⟩ := At.get a1 k1 r1
  obtain ⟨hk, r, ρ', e1, oo⟩ := a2.chk
  obtain ⟨ns, vs, rfl, hno⟩ := objC_some hk
  obtain ⟨p, C', dx, gs, rfl, hc', h1, rfl, h2⟩ := q0.obj k1
  have e : some C = some C' := hc.symm.trans hc'
  cases e
  refine ⟨p, dx, gs, rfl, h1, ?_⟩
  unfold noEr at e1
  split at e1
  case h_2 => cases e1
  rename_i z ρ2 hcall
  cases e1
  have a4 : At rO (csX X cl) (fun _ _ _ _ => False) (callF F [y]) G1 ρ1 σ H1 Q := ⟨.ok z, ρ', hcall, oo⟩
  exact call_sp k1 (show RL (csX X cl) H1 σ ρ1 G1 H1 [y] [V.ref p] from ⟨_, _, rfl, r1, rfl⟩) a4)
end
end Fn

set_option maxRecDepth 100000
set_option maxHeartbeats 4000000
namespace Fn
open PySem PySem.Spec PyProof.Rows L2

/-! ### a way that is never gone, a call of a variable's def -/
def sNo : S := fun _ => none
/-- the def that a variable holds -/
def varF (i : Nat) (tab : List (Str × Fx)) (ρ : En) : Option Fx := match ρ[i]? with
  | some (some (.dat (.fn x))) => tab.lookup x
  | _ => none
def eCallV (i : Nat) (tab : List (Str × Fx)) (as : M (List Rf)) : M O := fun ρ => match varF i tab ρ with
  | some F => M.bind as (callF F) ρ
  | none => none
/-- a def, by its name, as it may be called through a variable -/
def CalV (T : At0) (k n : Nat) (x : Str) (F : Fx) : Prop := ∃ f fd ps, FnS T.P T.w T.K T.mg T.base (L2.CX T.P T.w) k f fd ps (spF ⟨T.K, T.cl, T.P, T.w⟩ n F) ∧ T.cl.f x = some f ∧ PySem.W.keepIn T.K (.ref f) = true ∧ Binds T.K fd ps []
section
variable {cl : Nms} {X : Cx} {W : WX} {np k n i : Nat} {x : Str} {p pos : Pos} {e : Expr} {es : List Expr} {as : M (List Rf)} {t : TA} {st : Stmt} {tab : List (Str × Fx)}
theorem es_no : ES cl X W np st sNo := ES.by (ps_never (X := X) (st := st)) fun G ρ D σ H k ⟨_, _, e, _⟩ => by cases e
theorem pe_callVW (hx : WThru X (L2.CX X.prog X.w) W) (hgd : X.A.guards = some []) (hr : Room k X.A) (hN : X.N[i]? = some x) (hv : Vis X.env.scope x) (ha : PA X (e :: es) t)
    (hdb : (x == ("__debug__" : Str)) = false := by decide) (hcd : (x == ("__classdict__" : Str)) = false := by decide)
    (he : starEach (e :: es) X.env = (false, eval e X.env) :: starEach es X.env := by rfl) (hpl : (backTo pos (starEach es X.env)).any (·.1) = false := by rfl) :
    PE X (.Call (.Name x p) (e :: es) [] pos) (fun σ H Q => ∃ f fd ps sp, FnS X.prog X.w X.K X.mg X.base (L2.CX X.prog X.w) k f fd ps sp ∧ PySem.W.keepIn X.K (.ref f) = true ∧ Binds X.K fd ps [] ∧ σ[i]? = some (some (.ref f)) ∧ t σ H fun vs H1 => sp vs H1 Q (fun c d H' => W c d σ H')) := by
  constructor
  rintro pins s σ H Q I ⟨f, fd, ps, sp, F, hk, hb, hs, ht⟩
  apply wpAny_Call_Name_kw
  refine thn ((pe_var (pos := p) hN hv hdb hcd).run pins s σ H (fun v H1 => v = .ref f ∧ H1 = H) I ⟨.ref f, hs, rfl, rfl⟩) ?_
  rintro u s1 ⟨v, H1, I1, r1, rfl, rfl⟩
  cases r1
  refine PySem.W.callWith_K (h₀ := X.base) I.ok.mod.kin hk (thn (ha.run pos pins s1 σ _ _ I1 ht) ?_) he hpl
  rintro us s2 ⟨vs, H2, I2, r, q⟩
  refine And.intro I2.kIn ?_
  have hl : (us ++ []).length = ps.length := by
    rw [List.append_nil, ← r.length]
    exact F.len _ _ _ _ q
  have hb1 := hb s2 us I2.kIn hl
  rw [List.append_nil] at hb1
  apply wpAny_call
  refine codeAny_mono (F.go X.A X.stack s2 H2 ⟨us, []⟩ us vs Q _ hgd hr I2.env0 hb1 r q) ?_
  intro r s' hq
  match r, hq with
  | .error e, hq => exact hx σ pins H2 s2 e s' I2 hq
  | .ok (.ret u), hq => exact I2.after hq
theorem lookup_mem {α : Type} {x : Str} {F : α} : ∀ {tab : List (Str × α)}, tab.lookup x = some F → (x, F) ∈ tab
  | [], h => by cases h
  | (y, G) :: tab, h => by
    rw [List.lookup_cons] at h
    cases q : x == y with
    | true =>
      rw [q] at h
      cases h
      rw [eq_of_beq q]
      exact List.mem_cons_self
    | false =>
      rw [q] at h
      exact List.mem_cons_of_mem _ (lookup_mem h)
theorem eo_callV (hT : ∀ x F, (x, F) ∈ tab → CalV (atX cl X) k n x F) (hx : WThru X (L2.CX X.prog X.w) W) (hgd : X.A.guards = some []) (hr : Room k X.A) (hN : X.N[i]? = some x) (hv : Vis X.env.scope x) (ha : EA cl X W (e :: es) as) (hn : ALen n as)
    (hdb : (x == ("__debug__" : Str)) = false := by decide) (hcd : (x == ("__classdict__" : Str)) = false := by decide)
    (he : starEach (e :: es) X.env = (false, eval e X.env) :: starEach es X.env := by rfl) (hpl : (backTo pos (starEach es X.env)).any (·.1) = false := by rfl) :
    EO cl X W (.Call (.Name x p) (e :: es) [] pos) (eCallV i tab as) := EX.by (pe_callVW hx hgd hr hN hv ha hdb hcd he hpl) fun G ρ σ H Q kk h => by
  obtain ⟨r, ρ', e1, o⟩ := h
  unfold eCallV varF at e1
  split at e1
  case h_2 => cases e1
  rename_i F hF
  split at hF
  case h_2 => cases hF
  rename_i y hy
  obtain ⟨f, fd, ps, FS, hf, hkp, hb⟩ := hT y F (lookup_mem hF)
  obtain ⟨v, h1, h2⟩ := kk.rep i _ hy
  obtain ⟨f', hf', rfl⟩ := (show ∃ f, cl.f y = some f ∧ v = .ref f from h2)
  have ef : some f = some f' := hf.symm.trans hf'
  cases ef
  refine ⟨f, fd, ps, _, FS, hkp, hb, h1, at_tX kk ?_⟩
  unfold M.bind at e1
  cases q : as ρ with
  | none =>
    rw [q] at e1
    cases e1
  | some z =>
    obtain ⟨r1, ρ1⟩ := z
    rw [q] at e1
    cases r1 with
    | er c ns vs =>
      cases e1
      exact ⟨_, _, q, o⟩
    | ok rs =>
      refine ⟨_, _, q, fun vs G1 H1 n1 k1 rl => ?_⟩
      have a2 : At rO (csX X cl) W (callF F rs) G1 ρ1 σ H1 Q := ⟨r, ρ', e1, o.shift rO_back n1⟩
      have z := call_sp k1 (RL_any (Ex.refl _) rs vs rl) a2
      rw [hn ρ rs ρ1 q] at z
      exact z
end
end Fn

set_option maxRecDepth 100000
set_option maxHeartbeats 4000000
namespace Fn
open PySem PySem.Spec PyProof.Rows L2

/-! ### a table of defs that the top names -/
def tabV (T : At0) (tab : List (Str × Str)) (z : Str) : Option Value := match tab.lookup z with
  | some y => (T.cl.f y).map Value.ref
  | none => none
def KTab (T : At0) (x : Str) (tab : List (Str × Str)) : Prop := ∃ (d : Addr) (es : Array DictEntry) (n : Nat), KDict T.K T.w d es n ∧ T.mg x = some (.ref d) ∧ (∀ z, PySem.W.nsIn T.K d z = some (tabV T tab z)) ∧ ∀ z y, tab.lookup z = some y → (T.cl.f y).isSome = true
def fTabIn (tab : List (Str × Str)) (f : Bool → Bool) : D → Option D
  | .str z => some (.bl (f (tab.lookup z).isSome))
  | _ => none
def fTabGet (tab : List (Str × Str)) : D → Option D
  | .str z => (tab.lookup z).map D.fn
  | _ => none
def eTab (f : D → Option D) (mo : M Rf) : M D := M.bind mo fun r => M.bind r.get fun d => M.lift (f d)
section
variable {cl : Nms} {X : Cx} {W : WX} {x : Str} {tab : List (Str × Str)} {a : Expr} {ma : M Rf} {p pos : Pos}
theorem tab_some {z : Str} (hs : ∀ z y, tab.lookup z = some y → ((atX cl X).cl.f y).isSome = true) : (tabV (atX cl X) tab z).isSome = (tab.lookup z).isSome := by
  unfold tabV
  cases q : tab.lookup z with
  | none => rfl
  | some y =>
    have := hs z y q
    obtain ⟨f, e⟩ := Option.isSome_iff_exists.mp this
    show (((atX cl X).cl.f y).map Value.ref).isSome = true
    rw [e]
    rfl
theorem ed_tin (h : KTab (atX cl X) x tab) (hg : Gl X x) (ha : ER cl X W a ma) (hm : behindInMarks .In (.Name x p) = false := by rfl) (hd : (x == ("__debug__" : Str)) = false := by decide) : ED cl X W (.Compare a [.In] [.Name x p] pos) (eTab (fTabIn tab id) ma) := by
  obtain ⟨d, es, n, hK, hm1, hn, hs⟩ := h
  refine EX.by (pe_cmpR (op_in_kd hK) ha (pe_glob (v := .ref d) hg hm1 rfl hd) hm) fun G ρ σ H Q k h => at_tX k (At.bind (Ra := rR) rD_back h fun r ρ1 v G1 H1 n1 k1 r1 a1 => ?_)
  obtain ⟨d0, q1, a2⟩ := At.get a1 k1 r1
  obtain ⟨o, e1, a3⟩ := a2.lift
  cases d0 with
  | str z =>
    cases e1
    obtain rfl := q1.str
    refine ⟨z, _, rfl, rfl, hn z, ?_⟩
    rw [tab_some hs]
    exact a3.ret k1 rfl
  | _ => cases e1
theorem ed_tnin (h : KTab (atX cl X) x tab) (hg : Gl X x) (ha : ER cl X W a ma) (hm : behindInMarks .NotIn (.Name x p) = false := by rfl) (hd : (x == ("__debug__" : Str)) = false := by decide) : ED cl X W (.Compare a [.NotIn] [.Name x p] pos) (eTab (fTabIn tab (!·)) ma) := by
  obtain ⟨d, es, n, hK, hm1, hn, hs⟩ := h
  refine EX.by (pe_cmpR (op_notIn_kd hK) ha (pe_glob (v := .ref d) hg hm1 rfl hd) hm) fun G ρ σ H Q k h => at_tX k (At.bind (Ra := rR) rD_back h fun r ρ1 v G1 H1 n1 k1 r1 a1 => ?_)
  obtain ⟨d0, q1, a2⟩ := At.get a1 k1 r1
  obtain ⟨o, e1, a3⟩ := a2.lift
  cases d0 with
  | str z =>
    cases e1
    obtain rfl := q1.str
    refine ⟨z, _, rfl, rfl, hn z, ?_⟩
    rw [tab_some hs]
    exact a3.ret k1 rfl
  | _ => cases e1
theorem et_tnin (h : KTab (atX cl X) x tab) (hg : Gl X x) (ha : ER cl X W a ma) (hm : behindInMarks .NotIn (.Name x p) = false := by rfl) (hd : (x == ("__debug__" : Str)) = false := by decide) : ET cl X W (.Compare a [.NotIn] [.Name x p] pos) (eT (eTab (fTabIn tab (!·)) ma)) := by
  obtain ⟨d, es, n, hK, hm1, hn, hs⟩ := h
  refine ET.by (pt_cmpR (op_notIn_kd hK) ha (pe_glob (v := .ref d) hg hm1 rfl hd) hm) fun G ρ σ H Q k h => ?_
  have key : At rD (csX X cl) W (eTab (fTabIn tab (!·)) ma) G ρ σ H fun x H' => ∃ c, x = .bl c ∧ Q c H' := At.bind (Ra := rD) rB_back h fun d ρ1 v G1 H1 n1 k1 r1 a1 => by
    cases d with
    | bl b =>
      obtain rfl : v = .bl b := r1
      exact ⟨b, rfl, a1.ret k1 rfl⟩
    | _ =>
      obtain ⟨r, ρ', e, _⟩ := a1
      cases e
  refine at_tX k (At.bind (Ra := rR) rD_back key fun r ρ1 v G1 H1 n1 k1 r1 a1 => ?_)
  obtain ⟨d0, q1, a2⟩ := At.get a1 k1 r1
  obtain ⟨o, e1, a3⟩ := a2.lift
  cases d0 with
  | str z =>
    cases e1
    obtain rfl := q1.str
    refine ⟨z, _, rfl, rfl, hn z, ?_⟩
    rw [tab_some hs]
    exact a3.ret k1 rfl
  | _ => cases e1
/-- TAB[e], the key there -/
theorem pe_tget {d : Addr} {es : Array DictEntry} {n : Nat} {ta : TE} (hK : KDict X.K X.w d es n) (hm1 : X.mg x = some (.ref d)) (hg : Gl X x) (ha : PE X a ta) (hs : NoSl a) (hd : (x == ("__debug__" : Str)) = false := by decide) :
    PE X (.Subscript (.Name x p) a pos) (fun σ H Q => ta σ H fun y H1 => ∃ (z : Str) (u0 : Value) (v0 : V), y = .str z ∧ PySem.W.nsIn X.K d z = some (some u0) ∧ RelV v0 u0 ∧ Q v0 H1) := by
  constructor
  intro pins s σ H Q I h
  apply subD_of PySem.F.slot_dict_getitem.lookup hs
  refine thn ((pe_glob (pos := p) (v := .ref d) hg hm1 rfl hd).run pins s σ H (fun v H1 => v = .ref d ∧ H1 = H) I ⟨rfl, rfl⟩) ?_
  rintro u s1 ⟨v, H1, I1, r1, rfl, rfl⟩
  cases r1
  refine thn (ha.run pins s1 σ _ _ I1 h) ?_
  rintro w s2 ⟨y, H2, I2, r2, z, u0, v0, rfl, hz, r0, q⟩
  exact ⟨kd_type hK I2, op_item_kd hK pins s2 σ H2 (.ref d) (.str z) (.ref d) w Q I2 rfl r2 ⟨z, u0, v0, rfl, rfl, hz, r0, q⟩⟩
theorem ed_tget (h : KTab (atX cl X) x tab) (hg : Gl X x) (ha : ER cl X W a ma) (hs : NoSl a) (hd : (x == ("__debug__" : Str)) = false := by decide) : ED cl X W (.Subscript (.Name x p) a pos) (eTab (fTabGet tab) ma) := by
  obtain ⟨d, es, n, hK, hm1, hn, hso⟩ := h
  refine EX.by (pe_tget hK hm1 hg ha hs hd) fun G ρ σ H Q k h => at_tX k (At.bind (Ra := rR) rD_back h fun r ρ1 v G1 H1 n1 k1 r1 a1 => ?_)
  obtain ⟨d0, q1, a2⟩ := At.get a1 k1 r1
  obtain ⟨o, e1, a3⟩ := a2.lift
  cases d0 with
  | str z =>
    obtain rfl := q1.str
    obtain ⟨y, hy, rfl⟩ := Option.map_eq_some_iff.mp (show (tab.lookup z).map D.fn = some o from e1)
    obtain ⟨f, hf⟩ := Option.isSome_iff_exists.mp (hso z y hy)
    refine ⟨z, .ref f, .ref f, rfl, ?_, rfl, a3.ret k1 ⟨f, hf, rfl⟩⟩
    rw [show PySem.W.nsIn X.K d z = _ from hn z]
    unfold tabV
    rw [hy]
    show some (((atX cl X).cl.f y).map Value.ref) = _
    rw [hf]
    rfl
  | _ => cases e1
end
end Fn

set_option maxRecDepth 100000
set_option maxHeartbeats 16000000
/-! set(xs) of a list, of a tuple of texts and numbers: the keys, each once, in the order in which they come -/
namespace Fn
open PySem PySem.Spec PyProof.Rows L2

def addK (ks : List Key) (k : Key) : List Key := if hasK ks k = true then ks else ks ++ [k]
def addAll (ks : List Key) : List Key → List Key
  | [] => ks
  | k :: r => addAll (addK ks k) r
def uptoK (ks : List Key) (i : Nat) : List Key := addAll [] (ks.take i)
theorem addAll_append : ∀ (a b ks : List Key), addAll ks (a ++ b) = addAll (addAll ks a) b
  | [], b, ks => rfl
  | k :: a, b, ks => addAll_append a b (addK ks k)
theorem addK_len (ks : List Key) (k : Key) : (addK ks k).length ≤ ks.length + 1 := by
  unfold addK
  split
  · omega
  · rw [List.length_append]
    exact Nat.le_refl _
theorem addAll_len : ∀ (r ks : List Key), (addAll ks r).length ≤ ks.length + r.length
  | [], ks => Nat.le_refl _
  | k :: r, ks => by
    have h1 := addAll_len r (addK ks k)
    have h2 := addK_len ks k
    show (addAll (addK ks k) r).length ≤ _
    rw [List.length_cons]
    omega
theorem upto_len (ks : List Key) (i : Nat) : (uptoK ks i).length ≤ i := by
  have h := addAll_len (ks.take i) []
  rw [List.length_take] at h
  unfold uptoK
  simp only [List.length_nil] at h
  omega
theorem upto_succ {ks : List Key} {i : Nat} {k : Key} (h : ks[i]? = some k) : uptoK ks (i + 1) = addK (uptoK ks i) k := by
  unfold uptoK
  rw [List.take_add_one, h, addAll_append]
  rfl
theorem hasK_add (ks : List Key) (k j : Key) : hasK (addK ks k) j = (hasK ks j || decide (j = k)) := by
  unfold addK
  by_cases q : hasK ks k = true
  · rw [if_pos q]
    by_cases z : j = k
    · subst z
      rw [q]
      rfl
    · simp [z]
  · rw [if_neg q]
    unfold hasK
    rw [List.any_append]
    simp [eq_comm]
theorem addK_size (ks : List Key) (k : Key) : (addK ks k).length = if hasK ks k = true then ks.length else ks.length + 1 := by
  unfold addK
  split
  · rfl
  · rw [List.length_append]
    rfl
section
variable {prog : Program} {w : World} {A : Around} {R : Result → Shared → Prop} {it : Addr} {fp wr : List Addr} {G : Array GenState → Array GenState → Prop} {n : Nat} {P : Nat → Value → Prop} {St : Nat → Shared → Prop}
abbrev KSet (prog : Program) (w : World) (h : Heap) (a : Addr) (ks : List Key) : Prop := h.SetOf (mixKind prog w) a (hasK ks) ks.length
theorem KSet.at_ {h h' : Heap} {a : Addr} {ks : List Key} (x : KSet prog w h a ks) (e : ∀ o, h.get? a = some o → h'.get? a = some o) : KSet prog w h' a ks := by
  have ⟨o, es, ep, t, ho, rest⟩ := x
  exact ⟨o, es, ep, t, e o ho, rest⟩
theorem keys_loop (hW : WalksS prog w A.in1 it fp wr G n P St) (a : Addr) (ha : a ∉ fp) (ks : List Key) (hv : ∀ i v, P i v → ∃ k, ks[i]? = some k ∧ (mixKind prog w).is k v = true ∧ v.scannable = true) (hn : n + 1 < scanBound) (m : Nat) :
    ∀ (i : Nat) (s : Shared), n - i = m → i ≤ n → St i s → KSet prog w s.heap a (uptoK ks i) →
      (∀ z, Moved (a :: wr) G s z → KSet prog w z.heap a (uptoK ks n) → R (.ok (.ret .none)) z) →
      codeAny (model prog w) A (.builtin "set.update.loop" ⟨[.ref a, .ref it], []⟩) R s := by
  have aw : a ∉ wr := fun z => ha (hW.sub _ z)
  have wide : ∀ b ∈ wr, b ∈ a :: wr := fun b z => List.mem_cons_of_mem _ z
  induction m with
  | zero =>
    intro i s hm hi st ks1 fin
    obtain rfl : i = n := by omega
    apply codeAny_builtin F.entry_set_update_loop
    rw [Around.under_plainId F.plain_set_update_loop]
    show wpAny _ A.in1 (pyNext (.ref it) >>= _) _ _ s
    apply wpAny_bind
    apply hW.done s _ _ st
    intro z hz
    show wpAny _ A.in1 (ret Value.none) _ _ z
    exact wpAny_pure (fin z (hz.mono wide) (ks1.at_ fun o e => hz.heap a o aw e))
  | succ m ih =>
    intro i s hm hi st ks1 fin
    have lt : i < n := by omega
    apply codeAny_builtin F.entry_set_update_loop
    rw [Around.under_plainId F.plain_set_update_loop]
    show wpAny _ A.in1 (pyNext (.ref it) >>= _) _ _ s
    apply wpAny_bind
    apply hW.item i s _ _ lt st
    intro v z hP st' hz
    obtain ⟨k, hk, isk, sck⟩ := hv i v hP
    have ks2 := ks1.at_ (h' := z.heap) fun o e => hz.heap a o aw e
    show wpAny _ A.in1 (holding [v] (setAdd a v) >>= _) _ _ z
    apply wpAny_bind
    apply wpAny_holding
    unfold setAdd
    apply wpAny_holding
    apply wpAny_bind
    apply (mixKind prog w).pyHash (k := k) isk
    have room : (uptoK ks i).length + 1 < scanBound := Nat.lt_of_le_of_lt (Nat.succ_le_succ (upto_len ks i)) (by omega)
    apply wpAny_setAddHashed_of (knd := mixKind prog w) (s := { z with toks := z.toks + 1 }) isk sck ks2 room
    intro h' same made
    have ks3 : KSet prog w h' a (uptoK ks (i + 1)) := by
      rw [upto_succ hk]
      show h'.SetOf (mixKind prog w) a (hasK (addK (uptoK ks i) k)) (addK (uptoK ks i) k).length
      rw [show hasK (addK (uptoK ks i) k) = _ from funext (hasK_add (uptoK ks i) k), addK_size]
      exact made
    apply wpAny_pure
    refine And.intro (plainId_quiet F.plain_set_update_loop _) ?_
    refine ih (i + 1) _ (by omega) lt (hW.frame _ z _ _ st' (Nat.le_succ _) ?_) ks3 ?_
    · intro b hb o e
      rw [same.2 b (fun (q : b = a) => ha (q ▸ hb))]
      exact e
    · intro z2 hz2 ks4
      refine fin z2 (Moved.trans hW.gtrans ((hz.mono wide).then_heap (Nat.le_succ _) ?_) hz2) ks4
      intro b o hb e
      rw [same.2 b (fun (q : b = a) => hb (by rw [q]; exact List.mem_cons_self))]
      exact e
end
theorem sub_tuple_set' : isSubtype (.type "tuple") (.type "set") = pure false := by
  rw [isSubtype_type]
  kernel_rfl
theorem sub_tuple_frozen : isSubtype (.type "tuple") (.type "frozenset") = pure false := by
  rw [isSubtype_type]
  kernel_rfl
section
variable {prog : Program} {w : World} {A : Around} {E : Value → Shared → Prop} {s : Shared}
abbrev setNew (led : Bool) : Obj := { cls := .type "set", dict := none, data := .set #[] 0 (.fresh 0 0 led) }
theorem set_of_list {l : Addr} {items : Array Value} (ks : List Key) {Q : Value → Shared → Prop} (hh : A.handled = none) (hl : s.heap.IsList l items) (hv : ∀ (i : Nat) (v : Value), items[i]? = some v → ∃ k, ks[i]? = some k ∧ (mixKind prog w).is k v = true ∧ v.scannable = true)
    (hn : items.size + 1 < scanBound) (fin : ∀ (h' : Heap) (tk : Nat), KSet prog w h' s.heap.objs.size (uptoK ks items.size) → (∀ b o, b < s.heap.objs.size → s.heap.get? b = some o → h'.get? b = some o) → Q (.ref s.heap.objs.size) { s with heap := h', toks := tk }) :
    wpAny (model prog w) A (call (.type "set") [.ref l]) Q E s := by
  have ⟨c, tl, hmro⟩ := F.called_set.mro
  have made := F.called_set.made
  have sub := F.called_set.sub
  have nty := F.called_set.notType
  have can := F.called_set.canCreate
  have chk := F.typeCall_set_1 (.ref l)
  apply wpAny_call
  apply codeAny_of_tree
  show wpAny _ _ (callAny (.type "set") _) _ _ _
  apply wpAny_pure
  refine And.intro (Code.quiet_builtin _ (by decide +kernel)) (codeAny_builtin F.entry_type_call ?_)
  rw [Around.under_plain (weight_type_call_type "set" [.ref l] []) rfl]
  repeat any_goals (first | wp_step | assumption)
  refine codeAny_mono (code_set_new_1 (.ref l) (E := E) (Q₁ := fun obj z => ∃ led : Bool, obj = .ref s.heap.objs.size ∧ z = { s with heap := s.heap.push (setNew led) }) fun led => ⟨led, rfl, rfl⟩) ?_
  intro r z hr
  match r, hr with
  | .error _, hr => exact hr
  | .ok (.ret obj), ⟨led, eo, ez⟩ =>
    subst eo
    subst ez
    have there : (s.heap.push (setNew led)).get? s.heap.objs.size = some (setNew led) := Heap.get?_push_size _ rfl
    have isS : Shared.TypeIs { s with heap := s.heap.push (setNew led) } (.ref s.heap.objs.size) "set" := ⟨_, there, rfl⟩
    have look := F.called_set.init.lookup
    have bnd := F.called_set.init.bind (.ref s.heap.objs.size)
    repeat any_goals (first | wp_step | assumption)
    refine codeAny_mono (codeAny_call_builtin (R := wants (fun r z2 => r = .none ∧ ∃ h' tk, z2 = { s with heap := h', toks := tk } ∧ KSet prog w h' s.heap.objs.size (uptoK ks items.size) ∧ (∀ b o, b < s.heap.objs.size → s.heap.get? b = some o → h'.get? b = some o)) E) F.called_set.init.plain F.entry_set_init (check_set_init_1 isS ?_)) ?_
    · have ⟨ol, hol, hcl, nl, hdl⟩ := hl
      have hol' : (s.heap.push (setNew led)).get? l = some ol := Heap.get?_push_of_some _ hol
      have isL : (s.heap.push (setNew led)).IsList l items := ⟨ol, hol', hcl, nl, hdl⟩
      have tyL : Shared.TypeIs { s with heap := s.heap.push (setNew led) } (.ref l) "list" := ⟨ol, hol', hcl⟩
      have sb1 := F.sub_list_set
      have sb2 := F.sub_list_frozenset
      have nd : (Value.type "list" == Value.type "dict") = false := by decide
      obtain ⟨oc, od, oda, osl⟩ := ol
      simp only at hcl hdl
      subst hcl
      subst hdl
      unfold Builtin.«set.__init__» noKeywords Builtin.Frozenset.updateFrom
      generalize hPI : pyIter = PI
      wp_walk
      subst hPI
      apply wpAny_pyIter_list isL
      apply wpAny_bind
      apply wpAny_runValue
      have small : l < s.heap.objs.size := Heap.lt_size hol
      have h3 : A.in1.in1.in1.handled = none := by simp [hh]
      have sz : (s.heap.push (setNew led)).objs.size = s.heap.objs.size + 1 := Heap.size_push ..
      have apart : l ≠ (s.heap.push (setNew led)).objs.size := by
        rw [sz]
        exact Nat.ne_of_lt (Nat.lt_succ_of_lt small)
      have outF : s.heap.objs.size ∉ [(s.heap.push (setNew led)).objs.size, l] := by
        rw [sz]
        intro z
        rcases List.mem_cons.mp z with z | z
        · exact absurd z (Nat.ne_of_lt (Nat.lt_succ_self _))
        · rcases List.mem_cons.mp z with z | z
          · exact absurd z.symm (Nat.ne_of_lt small)
          · exact absurd z List.not_mem_nil
      refine keys_loop ((Walks.list h3 _ l apart items).toS) s.heap.objs.size outF ks hv hn (items.size - 0) 0 _ (by omega) (Nat.zero_le _) ⟨⟨_, Heap.get?_push_size _ rfl, rfl, rfl⟩, isL.push _⟩ ?_ ?_
      · have g : ((s.heap.push (setNew led)).push { cls := .type "list_iterator", data := .fields #[.ref l, .int 0 0] }).get? s.heap.objs.size = some (setNew led) := Heap.get?_push_of_some _ there
        exact ⟨_, #[], 0, _, g, ⟨rfl, rfl, rfl⟩, rfl, fun e he => by simp at he, fun k => by simp [uptoK, addAll, hasK], by decide, by rfl, rfl⟩
      · intro z2 hz kz
        obtain ⟨h', g', d', tk', os'⟩ := z2
        have eg : g' = s.gens := hz.gens
        have ed : d' = s.drawn := hz.drawn
        have eo : os' = s.os := hz.os
        subst eg
        subst ed
        subst eo
        show wpAny _ _ _ _ _ _
        apply wpAny_pure
        show wpAny _ _ (ret Value.none) _ _ _
        apply wpAny_pure
        refine ⟨rfl, h', tk', rfl, kz, fun b o hb e => ?_⟩
        refine hz.heap b o ?_ (Heap.get?_push_of_some _ (Heap.get?_push_of_some _ e))
        rw [sz]
        intro z
        rcases List.mem_cons.mp z with z | z
        · exact absurd z (Nat.ne_of_lt hb)
        · rcases List.mem_cons.mp z with z | z
          · exact absurd z (Nat.ne_of_lt (Nat.lt_succ_of_lt hb))
          · exact absurd z List.not_mem_nil
    · intro r2 z2 hr2
      match r2, hr2 with
      | .error _, hr2 => exact hr2
      | .ok (.ret r), hr2 =>
        obtain ⟨rfl, h', tk, rfl, kz, old⟩ := hr2
        repeat any_goals (first | wp_step | assumption)
        exact fin _ _ kz old
theorem set_of_tuple {l : Addr} {items : Array Value} (ks : List Key) {Q : Value → Shared → Prop} (hh : A.handled = none) (hl : s.heap.IsTuple l items) (hv : ∀ (i : Nat) (v : Value), items[i]? = some v → ∃ k, ks[i]? = some k ∧ (mixKind prog w).is k v = true ∧ v.scannable = true)
    (hn : items.size + 1 < scanBound) (fin : ∀ (h' : Heap) (tk : Nat), KSet prog w h' s.heap.objs.size (uptoK ks items.size) → (∀ b o, b < s.heap.objs.size → s.heap.get? b = some o → h'.get? b = some o) → Q (.ref s.heap.objs.size) { s with heap := h', toks := tk }) :
    wpAny (model prog w) A (call (.type "set") [.ref l]) Q E s := by
  have ⟨c, tl, hmro⟩ := F.called_set.mro
  have made := F.called_set.made
  have sub := F.called_set.sub
  have nty := F.called_set.notType
  have can := F.called_set.canCreate
  have chk := F.typeCall_set_1 (.ref l)
  apply wpAny_call
  apply codeAny_of_tree
  show wpAny _ _ (callAny (.type "set") _) _ _ _
  apply wpAny_pure
  refine And.intro (Code.quiet_builtin _ (by decide +kernel)) (codeAny_builtin F.entry_type_call ?_)
  rw [Around.under_plain (weight_type_call_type "set" [.ref l] []) rfl]
  repeat any_goals (first | wp_step | assumption)
  refine codeAny_mono (code_set_new_1 (.ref l) (E := E) (Q₁ := fun obj z => ∃ led : Bool, obj = .ref s.heap.objs.size ∧ z = { s with heap := s.heap.push (setNew led) }) fun led => ⟨led, rfl, rfl⟩) ?_
  intro r z hr
  match r, hr with
  | .error _, hr => exact hr
  | .ok (.ret obj), ⟨led, eo, ez⟩ =>
    subst eo
    subst ez
    have there : (s.heap.push (setNew led)).get? s.heap.objs.size = some (setNew led) := Heap.get?_push_size _ rfl
    have isS : Shared.TypeIs { s with heap := s.heap.push (setNew led) } (.ref s.heap.objs.size) "set" := ⟨_, there, rfl⟩
    have look := F.called_set.init.lookup
    have bnd := F.called_set.init.bind (.ref s.heap.objs.size)
    repeat any_goals (first | wp_step | assumption)
    refine codeAny_mono (codeAny_call_builtin (R := wants (fun r z2 => r = .none ∧ ∃ h' tk, z2 = { s with heap := h', toks := tk } ∧ KSet prog w h' s.heap.objs.size (uptoK ks items.size) ∧ (∀ b o, b < s.heap.objs.size → s.heap.get? b = some o → h'.get? b = some o)) E) F.called_set.init.plain F.entry_set_init (check_set_init_1 isS ?_)) ?_
    · have ⟨ol, hol, hcl, nl, hdl⟩ := hl
      have hol' : (s.heap.push (setNew led)).get? l = some ol := Heap.get?_push_of_some _ hol
      have isL : (s.heap.push (setNew led)).IsTuple l items := ⟨ol, hol', hcl, nl, hdl⟩
      have tyL : Shared.TypeIs { s with heap := s.heap.push (setNew led) } (.ref l) "tuple" := ⟨ol, hol', hcl⟩
      have sb1 := sub_tuple_set'
      have sb2 := sub_tuple_frozen
      have nd : (Value.type "tuple" == Value.type "dict") = false := by decide
      obtain ⟨oc, od, oda, osl⟩ := ol
      simp only at hcl hdl
      subst hcl
      subst hdl
      unfold Builtin.«set.__init__» noKeywords Builtin.Frozenset.updateFrom
      generalize hPI : pyIter = PI
      wp_walk
      subst hPI
      apply wpAny_pyIter_tuple isL
      apply wpAny_bind
      apply wpAny_runValue
      have small : l < s.heap.objs.size := Heap.lt_size hol
      have h3 : A.in1.in1.in1.handled = none := by simp [hh]
      have sz : (s.heap.push (setNew led)).objs.size = s.heap.objs.size + 1 := Heap.size_push ..
      have apart : l ≠ (s.heap.push (setNew led)).objs.size := by
        rw [sz]
        exact Nat.ne_of_lt (Nat.lt_succ_of_lt small)
      have outF : s.heap.objs.size ∉ [(s.heap.push (setNew led)).objs.size, l] := by
        rw [sz]
        intro z
        rcases List.mem_cons.mp z with z | z
        · exact absurd z (Nat.ne_of_lt (Nat.lt_succ_self _))
        · rcases List.mem_cons.mp z with z | z
          · exact absurd z.symm (Nat.ne_of_lt small)
          · exact absurd z List.not_mem_nil
      refine keys_loop ((Walks.tuple h3 _ l apart items).toS) s.heap.objs.size outF ks hv hn (items.size - 0) 0 _ (by omega) (Nat.zero_le _) ⟨⟨_, Heap.get?_push_size _ rfl, rfl, rfl⟩, isL.push _⟩ ?_ ?_
      · have g : ((s.heap.push (setNew led)).push { cls := .type "tuple_iterator", data := .fields #[.ref l, .int 0 0] }).get? s.heap.objs.size = some (setNew led) := Heap.get?_push_of_some _ there
        exact ⟨_, #[], 0, _, g, ⟨rfl, rfl, rfl⟩, rfl, fun e he => by simp at he, fun k => by simp [uptoK, addAll, hasK], by decide, by rfl, rfl⟩
      · intro z2 hz kz
        obtain ⟨h', g', d', tk', os'⟩ := z2
        have eg : g' = s.gens := hz.gens
        have ed : d' = s.drawn := hz.drawn
        have eo : os' = s.os := hz.os
        subst eg
        subst ed
        subst eo
        show wpAny _ _ _ _ _ _
        apply wpAny_pure
        show wpAny _ _ (ret Value.none) _ _ _
        apply wpAny_pure
        refine ⟨rfl, h', tk', rfl, kz, fun b o hb e => ?_⟩
        refine hz.heap b o ?_ (Heap.get?_push_of_some _ (Heap.get?_push_of_some _ e))
        rw [sz]
        intro z
        rcases List.mem_cons.mp z with z | z
        · exact absurd z (Nat.ne_of_lt hb)
        · rcases List.mem_cons.mp z with z | z
          · exact absurd z (Nat.ne_of_lt (Nat.lt_succ_of_lt hb))
          · exact absurd z List.not_mem_nil
    · intro r2 z2 hr2
      match r2, hr2 with
      | .error _, hr2 => exact hr2
      | .ok (.ret r), hr2 =>
        obtain ⟨rfl, h', tk, rfl, kz, old⟩ := hr2
        repeat any_goals (first | wp_step | assumption)
        exact fin _ _ kz old
end
end Fn

set_option maxRecDepth 100000
set_option maxHeartbeats 4000000
namespace Fn
open PySem PySem.Spec PyProof.Rows L2

/-! ### set(), set(xs), len of what has a length -/
def asKeys : List D → Option (List Key)
  | [] => some []
  | d :: ds => (asKey d).bind fun k => (asKeys ds).map (k :: ·)
def fSet1 : List D → Option O
  | [.lst ds] => (asKeys ds).bind fun ks => if ks.length < 2000 then some (.set (addAll [] ks)) else none
  | [.ro ds] => (asKeys ds).bind fun ks => if ks.length < 2000 then some (.set (addAll [] ks)) else none
  | [.tup ds] => (asKeys ds).bind fun ks => if ks.length < 2000 then some (.set (addAll [] ks)) else none
  | _ => none
def rSetT (T : Cs) : List V → Hp → VK → Prop := fun xs H Q => ∃ (a : Addr) (ks : List Key), xs = [.ref a] ∧ (SqL T.K H a (ks.map kV) ∨ SqT T.K H a (ks.map kV)) ∧ ks.length < 2000 ∧ ∀ p, H p = none → Q (.ref p) (upd H p (setO T p (addAll [] ks)))
section
variable {cl : Nms} {X : Cx} {W : WX} {T : Cs} {G H : Hp} {σ : L2.St} {ρ : En} {pos p : Pos} {e : Expr}
theorem asKeys_rep : ∀ {ds : List D} {ks : List Key} {vs : List V}, asKeys ds = some ks → RepL T G ds vs → vs = ks.map kV
  | [], ks, vs, e, r => by
    cases e
    exact r
  | d :: ds, ks, vs, e, r => by
    obtain ⟨k, e1, e2⟩ := Option.bind_eq_some_iff.mp (show ((asKey d).bind fun k => (asKeys ds).map (k :: ·)) = some ks from e)
    obtain ⟨ks', e3, rfl⟩ := Option.map_eq_some_iff.mp e2
    obtain ⟨v, w, rfl, rv, rw⟩ := r
    rw [asKey_rep1 e1 rv, asKeys_rep e3 rw, List.map_cons]
theorem vals_key {ks : List Key} {us : List Value} (r : Vals (ks.map kV) us) {i : Nat} {u : Value} (h : us[i]? = some u) : ∃ k, ks[i]? = some k ∧ RelV (kV k) u := by
  obtain ⟨v, h1, h2⟩ : ∃ v, (ks.map kV)[i]? = some v ∧ RelV v u := by
    revert i h
    generalize ks.map kV = vs at r
    induction r with
    | nil =>
      intro i h
      simp at h
    | @cons v u' vs us r1 _ ih =>
      intro i h
      cases i with
      | zero =>
        cases h
        exact ⟨v, rfl, r1⟩
      | succ i => exact ih (i := i) h
  rw [List.getElem?_map] at h1
  cases q : ks[i]? with
  | none =>
    rw [q] at h1
    cases h1
  | some k =>
    rw [q] at h1
    cases h1
    exact ⟨k, rfl, h2⟩
theorem call_setT (hc : X.calm = true) : CallR X (.type "set") (rSetT (csX X cl)) := by
  intro pins s σ H xs us Q I r h
  obtain ⟨a, ks, rfl, hs, hl, q⟩ := h
  rw [Vals.ref1 r]
  have big : (2001 : Nat) < scanBound := by decide
  have go : ∀ {its : List Value}, Vals (ks.map kV) its → (∀ (h' : Heap) (tk : Nat), KSet X.prog X.w h' s.heap.objs.size (uptoK ks its.toArray.size) → (∀ b o, b < s.heap.objs.size → s.heap.get? b = some o → h'.get? b = some o) → EP X pins σ Q (.ref s.heap.objs.size) { s with heap := h', toks := tk }) := fun {its} rv h' tk kz old => by
    have sz : its.toArray.size = ks.length := by rw [List.size_toArray, ← rv.length, List.length_map]
    rw [sz] at kz
    unfold uptoK at kz
    rw [List.take_length] at kz
    exact ⟨.ref _, upd H s.heap.objs.size (setO (csX X cl) s.heap.objs.size (addAll [] ks)), I.laid (t' := tk) (fun b o e => old b o (Heap.lt_size e) e) (Nat.le_refl _) (setK_new kz), rfl, q _ (I.hok.fresh (Nat.le_refl _))⟩
  have vv : ∀ {its : List Value}, Vals (ks.map kV) its → ∀ (i : Nat) (v : Value), its.toArray[i]? = some v → ∃ k, ks[i]? = some k ∧ (mixKind X.prog X.w).is k v = true ∧ v.scannable = true := fun {its} rv i v e => by
    obtain ⟨k, h1, h2⟩ := vals_key rv (i := i) (u := v) (by rw [← e]; simp)
    exact ⟨k, h1, kV_is h2, key_scan h2⟩
  have sm : ∀ {its : List Value}, Vals (ks.map kV) its → its.toArray.size + 1 < scanBound := fun {its} rv => by
    rw [List.size_toArray, ← rv.length, List.length_map]
    exact Nat.lt_of_le_of_lt (Nat.succ_le_succ (Nat.le_of_lt hl)) big
  rcases hs with hs | hs
  · obtain ⟨its, rv, hl, hz⟩ := I.list hs
    exact set_of_list ks (I.ok.hd hc) (by first | exact hl | exact hl.isList) (vv rv) (sm rv) (go rv)
  · obtain ⟨its, rv, hl, hz⟩ := I.tuple hs
    exact set_of_tuple ks (I.ok.hd hc) hl (vv rv) (sm rv) (go rv)
theorem set1_some {ds : List D} {o : O} (h : fSet1 ds = some o) : ∃ d es ks, ds = [d] ∧ (d = .lst es ∨ d = .ro es ∨ d = .tup es) ∧ asKeys es = some ks ∧ ks.length < 2000 ∧ o = .set (addAll [] ks) := by
  have key : ∀ {es : List D}, ((asKeys es).bind fun ks => if ks.length < 2000 then some (O.set (addAll [] ks)) else none) = some o → ∃ ks, asKeys es = some ks ∧ ks.length < 2000 ∧ o = .set (addAll [] ks) := fun {es} z => by
    obtain ⟨ks, e1, e2⟩ := Option.bind_eq_some_iff.mp z
    split at e2
    · rename_i hl
      cases e2
      exact ⟨ks, e1, hl, rfl⟩
    · cases e2
  unfold fSet1 at h
  split at h
  · rename_i es
    obtain ⟨ks, h1, h2, h3⟩ := key h
    exact ⟨_, es, ks, rfl, .inl rfl, h1, h2, h3⟩
  · rename_i es
    obtain ⟨ks, h1, h2, h3⟩ := key h
    exact ⟨_, es, ks, rfl, .inr (.inl rfl), h1, h2, h3⟩
  · rename_i es
    obtain ⟨ks, h1, h2, h3⟩ := key h
    exact ⟨_, es, ks, rfl, .inr (.inr rfl), h1, h2, h3⟩
  · cases h
theorem At.newS {ks : List Key} {Q : VK} (h : At rO T W (M.ret (.set ks)) G ρ σ H Q) (k : Ok T G H σ ρ) : ∀ p, H p = none → Q (.ref p) (upd H p (setO T p ks)) := fun p hp => by
  obtain ⟨n, k1, g1, o1⟩ := new_own (o := setO T p ks) hp k
  exact h.done n k1 ⟨⟨p, rfl, upd_same, g1⟩, fun _ a e => by cases e; exact ⟨hp, o1⟩⟩
theorem hop_set1 : HopF rO cl X W fSet1 (rSetT (csX X cl)) := fun G H σ ρ ds o vs Q k e q h => by
  obtain ⟨d, es, ks, rfl, hd, h1, h2, rfl⟩ := set1_some e
  obtain ⟨v, rfl, q1⟩ := q.one
  rcases hd with rfl | rfl | rfl
  · obtain ⟨a, xs, rfl, g1, g2⟩ := q1.lst k
    rw [asKeys_rep h1 g2] at g1
    exact ⟨a, ks, rfl, .inl (SqL.of g1), h2, h.newS k⟩
  · obtain ⟨a, xs, rfl, g1, g2⟩ := q1.ro k
    rw [asKeys_rep h1 g2] at g1
    exact ⟨a, ks, rfl, .inl g1, h2, h.newS k⟩
  · obtain ⟨a, xs, rfl, g1, g2, _⟩ := q1.tup k
    rw [asKeys_rep h1 g2] at g1
    exact ⟨a, ks, rfl, .inr g1, h2, h.newS k⟩
/-- set() -/
def eSet0 : M O := M.ret (.set [])
theorem c_set0 (hg : Gl X "set") (hm : X.mg "set" = none) : EO cl X W (.Call (.Name "set" p) [] [] pos) eSet0 :=
  EX.by (pe_callTy0 cr_set0K hg hm (by decide +kernel)) fun G ρ σ H Q k h => ⟨rfl, fun q hq => h.newS k q hq⟩
/-! len -/
def fLenA : List D → Option D
  | [.set ks] => if ks.length < 2000 then some (.int ks.length) else none
  | ds => fLen ds
theorem call_lenS : CallR X (.builtin "len") (fun xs H Q => ∃ (a : Addr) (ks : List Key), xs = [.ref a] ∧ H a = some (setO (csX X cl) a ks) ∧ ks.length < 2000 ∧ Q (.int ks.length) H) := by
  intro pins s σ H xs us Q I r h
  obtain ⟨a, ks, rfl, ha, hl, q⟩ := h
  rw [Vals.ref1 r]
  have kz := setK_get I ha
  obtain ⟨o, es, ep, t, ho, hex, hd, _, _, _, hf, hn⟩ := kz
  have big : (2001 : Nat) < 2 ^ 60 := by decide
  exact call_len_set ho hex hd hf (by rw [hn]; first | omega | (have := sizeLine_eq; omega)) ⟨.int ks.length, H, I.tok _, ⟨_, by rw [hn]⟩, q⟩
theorem hop_lenA : HopF rD cl X W fLenA (fun xs H Q => (∃ (a : Addr) (ks : List Key), xs = [.ref a] ∧ H a = some (setO (csX X cl) a ks) ∧ ks.length < 2000 ∧ Q (.int ks.length) H) ∨ ∃ x n, xs = [x] ∧ LenV X.K x H n ∧ Q (.int n) H) := fun G H σ ρ ds o vs Q k e q h => by
  unfold fLenA at e
  split at e
  · split at e
    · rename_i hl
      cases e
      obtain ⟨v, rfl, q1⟩ := q.one
      obtain ⟨a, rfl, h1⟩ := q1.set k
      exact .inl ⟨a, _, rfl, h1, hl, h.ret k rfl⟩
    · cases e
  · exact .inr (hop_len _ _ _ _ _ _ _ _ k e q h)
end
end Fn

set_option maxRecDepth 100000
set_option maxHeartbeats 4000000
namespace Fn
open PySem PySem.Spec PyProof.Rows L2

/-! ### dict(zip(xs, ys)) of two lists -/
section
variable {cl : Nms} {X : Cx} {W : WX} {e e2 : Expr} {t : TA} {p p2 pos q : Pos} {ml : M (List D)}
theorem zip_kv : ∀ {ks : List Key} {ys : List V} {us vs : List Value}, Vals (ks.map kV) us → Vals ys vs → KV (ks.zip ys) (ks.zip vs)
  | [], _, _, _, _, _ => .nil
  | k :: ks, [], _, _, _, .nil => .nil
  | k :: ks, y :: ys, u :: us, v :: vs, .cons _ a, .cons r b => .cons ⟨rfl, r⟩ (zip_kv a b)
theorem pe_dzip (hg : Gl X "dict") (hm : X.mg "dict" = none) (hgz : Gl X "zip") (hmz : X.mg "zip" = none) (ha : PA X [e, e2] t) (hc : X.calm = true)
    (hs : starEach [e, e2] X.env = (false, eval e X.env) :: starEach [e2] X.env := by rfl) (hpl : (backTo q (starEach [e2] X.env)).any (·.1) = false := by rfl)
    (hs1 : starEach [.Call (.Name "zip" p2) [e, e2] [] q] X.env = (false, eval (.Call (.Name "zip" p2) [e, e2] [] q) X.env) :: starEach [] X.env := by rfl) :
    PE X (.Call (.Name "dict" p) [.Call (.Name "zip" p2) [e, e2] [] q] [] pos) (fun σ H Q => t σ H fun vs H1 => ∃ (a b : Addr) (ks : List Key) (ys : List V), vs = [.ref a, .ref b] ∧ SqL X.K H1 a (ks.map kV) ∧ SqL X.K H1 b ys ∧ ks.length = ys.length ∧ ks.Nodup ∧
      ∀ d, H1 d = none → Q (.ref d) (upd H1 d (.dK (ks.zip ys)))) := by
  constructor
  intro pins s σ H Q I h
  refine Call_ ?_
  apply ld_blt I hg hm PyProof.Rows.boot_dict
  refine PyProof.Rows.callWith_type1 (PyProof.Rows.args_cons ?_ hs1) hs1 rfl
  refine Call_ ?_
  apply ld_blt I hgz hmz PyProof.Rows.boot_zip
  refine PyProof.Rows.callWith_type1 (thn (ha.run q pins s σ H _ I h) ?_) hs hpl
  rintro us s1 ⟨vs, H1, I1, r1, a, b, ks, ys, rfl, ha1, hb1, hl, nd, fin⟩
  obtain ⟨u1, u2, rfl, ra, rb⟩ := vals2 r1
  cases ra
  cases rb
  obtain ⟨xs1, rv1, pl1, z1⟩ := I1.list ha1
  obtain ⟨xs2, rv2, pl2, z2⟩ := I1.list hb1
  have lt1 : a < s1.heap.objs.size := pl1.lt
  have lt2 : b < s1.heap.objs.size := pl2.lt
  have len1 : xs1.length = ks.length := by rw [← rv1.length, List.length_map]
  have len2 : xs2.length = ks.length := by rw [← rv2.length, hl]
  apply call_zip_2 pl1.isList pl2.isList
  intro h' hz hTI hTO hi1 hi2 hsz hk
  apply PyProof.Rows.args_nil
  have ar := PairArg.zip (prog := X.prog) (w := X.w) (s1.heap.objs.size + 4) (s1.heap.objs.size + 2) (s1.heap.objs.size + 3) s1.heap.objs.size (s1.heap.objs.size + 1) a b (PySem.W.ktu_apart s1.heap.objs.size a b lt1 lt2) xs1.toArray xs2.toArray
  have n1 : min xs1.toArray.size xs2.toArray.size = ks.length := by rw [List.size_toArray, List.size_toArray, len1, len2, Nat.min_self]
  have prs : PairsHave (mixKind X.prog X.w) (min xs1.toArray.size xs2.toArray.size) (fun i k v => xs1.toArray[i]? = some k ∧ xs2.toArray[i]? = some v) (ks.zip xs2) := by
    refine ⟨by rw [n1, List.length_zip, len2, Nat.min_self], fun i key v ⟨e1, e2⟩ => ?_⟩
    have e1' : xs1[i]? = some key := by rw [← e1]; simp
    have e2' : xs2[i]? = some v := by rw [← e2]; simp
    obtain ⟨k, h1, h2⟩ := vals_key rv1 e1'
    exact ⟨k, by rw [List.getElem?_zip_eq_some]; exact ⟨h1, e2'⟩, kV_is h2⟩
  have hle : ks.length ≤ sizeLine := by
    have : (ks.map kV).length ≤ sizeLine := by first | exact z1 | (rw [rv1.length]; exact z1)
    rw [List.length_map] at this
    exact this
  apply call_dict_pairs ar (I1.ok.hd hc) ⟨hz, hTI, ⟨_, _, hTO⟩, hi1, hi2, pl1.isList.at fun o e => hk _ o e, pl2.isList.at fun o e => hk _ o e⟩ prs (by rw [n1]; exact hle)
  intro h2 tk hd old
  have szs : s1.heap.objs.size ≤ h'.objs.size := by rw [hsz]; exact Nat.le_add_right _ _
  have keep : ∀ b o, s1.heap.get? b = some o → h2.get? b = some o := fun b o e => old b o (fun z => by
    have lt := Heap.lt_size e
    rcases List.mem_cons.mp z with z | z
    · exact absurd z (Nat.ne_of_lt (Nat.lt_add_right 4 lt))
    · rcases List.mem_cons.mp z with z | z
      · exact absurd z (Nat.ne_of_lt (Nat.lt_add_right 3 lt))
      · rcases List.mem_cons.mp z with z | z
        · exact absurd z (Nat.ne_of_lt lt)
        · rcases List.mem_cons.mp z with z | z
          · exact absurd z (Nat.ne_of_lt (Nat.lt_add_right 1 lt))
          · exact absurd z List.not_mem_nil) (hk b o e)
  have kv := zip_kv rv1 rv2
  have mrg : mergeK [] (ks.zip ys) = ks.zip ys := mergeK_app (ks.zip ys) [] (by
    rw [List.map_nil, List.nil_append, (map_zip_fst hl.symm).1]
    exact nd)
  have kv2 : KV (ks.zip ys) (merged [] (ks.zip xs2)) := by
    have := KV.merge kv .nil
    rw [mrg] at this
    exact this
  have big : (h'.objs.size == sysModules) = false := beq_eq_false_iff_ne.mpr (Nat.ne_of_gt (Nat.lt_of_lt_of_le I1.big szs))
  have hlz : (ks.zip ys).length ≤ sizeLine := by rw [List.length_zip, ← hl, Nat.min_self]; exact hle
  exact ⟨.ref h'.objs.size, upd H1 h'.objs.size (.dK (ks.zip ys)), I1.laid (t' := tk) keep szs ⟨hlz, big, _, kv2, hd⟩, rfl, fin _ (I1.hok.fresh szs)⟩
def eDZip (ml : M (List D)) : M O := M.bind ml fun ds => match ds with
  | [.lst xs, .lst ys] => M.bind (M.lift (asKeys xs)) fun ks => M.bind (M.chk (decide (ks.length = ys.length ∧ ks.Nodup))) fun _ => M.ret (.dk ks ys)
  | _ => M.stuck
theorem At.newK {T : Cs} {G H : Hp} {σ : L2.St} {ρ : En} {ks : List Key} {ds : List D} {kvs : List (Key × V)} {Q : VK} (h : At rO T W (M.ret (.dk ks ds)) G ρ σ H Q) (k : Ok T G H σ ρ) (h1 : kvs.map (·.1) = ks) (h2 : RepL T G ds (kvs.map (·.2))) : ∀ p, H p = none → Q (.ref p) (upd H p (.dK kvs)) := fun p hp => by
  obtain ⟨n, k1, g1, o1⟩ := new_own (o := .dK kvs) hp k
  exact h.done n k1 ⟨⟨p, kvs, rfl, upd_same, g1, h1, h2⟩, fun _ a e => by cases e; exact ⟨hp, o1⟩⟩
theorem c_dzip (hg : Gl X "dict") (hm : X.mg "dict" = none) (hgz : Gl X "zip") (hmz : X.mg "zip" = none) (hc : X.calm = true) (ha : EL cl X W [e, e2] ml)
    (hs : starEach [e, e2] X.env = (false, eval e X.env) :: starEach [e2] X.env := by rfl) (hpl : (backTo q (starEach [e2] X.env)).any (·.1) = false := by rfl)
    (hs1 : starEach [.Call (.Name "zip" p2) [e, e2] [] q] X.env = (false, eval (.Call (.Name "zip" p2) [e, e2] [] q) X.env) :: starEach [] X.env := by rfl) :
    EO cl X W (.Call (.Name "dict" p) [.Call (.Name "zip" p2) [e, e2] [] q] [] pos) (eDZip ml) := EX.by (pe_dzip hg hm hgz hmz ha hc hs hpl hs1) fun G ρ σ H Q k x => at_tX k (At.bind (Ra := rLs) rO_back x fun ds ρ1 vs G1 H1 n1 k1 r1 a1 => by
  split at a1
  · rename_i xs ys
    obtain ⟨ks, e1, a2⟩ := a1.lift2
    obtain ⟨hk, a3⟩ := a2.chk
    obtain ⟨hl, nd⟩ := of_decide_eq_true hk
    obtain ⟨v, w, rfl, r2, v', w', rfl, r3, r4⟩ := r1
    obtain rfl : w' = [] := r4
    obtain ⟨a, as, rfl, h1, h2⟩ := r2
    obtain ⟨b, bs, rfl, h3, h4⟩ := r3
    rw [asKeys_rep e1 h2] at h1
    have hl' : bs.length = ks.length := by rw [h4.length, hl]
    refine ⟨a, b, ks, bs, rfl, SqL.of (k1.sub _ _ h1), SqL.of (k1.sub _ _ h3), hl'.symm, nd, a3.newK k1 (map_zip_fst hl').1 ?_⟩
    rw [(map_zip_fst hl').2]
    exact h4
  · obtain ⟨_, _, e, _⟩ := a1
    cases e)
end
end Fn

set_option maxRecDepth 100000
set_option maxHeartbeats 4000000
namespace Fn
open PySem PySem.Spec PyProof.Rows L2

/-! ### a dict's comprehension: a new dict that is never changed -/
theorem pe_seal {X : Cx} {e : Expr} {t : TE} (h : PE X e t) : PE X e (fun σ H Q => t σ H fun v H1 => ∃ d u, H1 d = some u ∧ Mut (some u) ∧ ∀ od, Q v (upd H1 d (.frz od u))) := by
  constructor
  intro pins s σ H Q I hq
  refine thn (h.run pins s σ H _ I hq) ?_
  rintro u s1 ⟨v, H1, I1, r, d, o, hd, mu, q⟩
  obtain ⟨od, I2⟩ := I1.lock hd mu
  exact ⟨v, _, I2, r, q od⟩
def dcGo (vs : List Nat) (t : Tg) (tt : M Bool) (kx vx : M D) : List D → List Key → List D → M (List Key × List D)
  | [], ks, xs => M.ret (ks, xs)
  | d :: ds, ks, xs => fun ρ => match t.set d ρ with
    | none => none
    | some ρ1 => match tt ρ1 with
      | some (.ok true, ρ2) => match kx ρ2 with
        | some (.ok y, ρ3) => match vx ρ3 with
          | some (.ok x, ρ4) => match asKey y with
            | some k => if hasK ks k = false ∧ ks.length < lim then dcGo vs t tt kx vx ds (ks ++ [k]) (xs ++ [x]) (wipeE ρ4 vs)
              else if hasK ks k = true ∧ ks.length < lim ∧ ks.Nodup then dcGo vs t tt kx vx ds ks (dPut ks xs k x) (wipeE ρ4 vs) else none
            | none => none
          | _ => none
        | _ => none
      | some (.ok false, ρ2) => dcGo vs t tt kx vx ds ks xs (wipeE ρ2 vs)
      | _ => none
def eDComp (vs : List Nat) (t : Tg) (src : M (List D)) (tt : M Bool) (kx vx : M D) : M D := M.bind src fun ds ρ => match dcGo vs t tt kx vx ds [] [] (wipeE ρ vs) with
  | some (.ok (ks, xs), ρ') => if ρ'.length = ρ.length then some (.ok (.rk ks xs), restE ρ ρ' vs) else none
  | _ => none
theorem putK_app {kvs : List (Key × V)} {k : Key} {v : V} (h : hasK (kvs.map (·.1)) k = false) : putK kvs k v = kvs ++ [(k, v)] := by
  unfold putK
  rw [if_neg]
  intro z
  have : hasK (kvs.map (·.1)) k = true := by
    unfold hasK
    rw [List.any_eq_true]
    first
    | (obtain ⟨p, hp, e⟩ := List.any_eq_true.mp z
       exact ⟨p.1, List.mem_map.mpr ⟨p, hp, rfl⟩, by simpa using e⟩)
    | (obtain ⟨p, hp, e⟩ := z
       exact ⟨p.1, List.mem_map.mpr ⟨p, hp, rfl⟩, by simpa using e⟩)
  rw [h] at this
  cases this
section
variable {T : Cs} {G H : Hp} {σ : L2.St} {ρ : En} {p : Addr} {o uo : HO}
/-- a thing of nobody's, sealed -/
theorem seal_ok (k : Ok T G H σ ρ) (gp : G p = none) (hp : H p = some uo) (np : ¬ Owns σ ρ p) : Ok T (upd G p o) (upd H p o) σ ρ := by
  have ex : Ex G (upd G p o) := fun b u e => by
    rw [upd_ne (ne_of_none e gp)]
    exact e
  refine ⟨fun b u e => ?_, k.len, fun i u hi => ?_, k.dis⟩
  · by_cases q : b = p
    · subst q
      rw [upd_same] at e ⊢
      exact e
    · rw [upd_ne q] at e ⊢
      exact k.sub b u e
  · obtain ⟨v, h1, h2⟩ := k.rep i u hi
    refine ⟨v, h1, ?_⟩
    have ne : u.own = true → ∀ a, v = .ref a → a ≠ p := fun z a e q => np ⟨i, u, hi, z, by rw [h1, e, q]⟩
    cases u with
    | dat d => exact Rep.mono ex d v h2
    | fz d => exact Rep.mono ex d v h2
    | lst ds =>
      obtain ⟨a, xs, e1, e2, e3, e4⟩ := h2
      have q := ne rfl a e1
      exact ⟨a, xs, e1, by rw [upd_ne q]; exact e2, by rw [upd_ne q]; exact e3, RepL.mono ex _ _ e4⟩
    | dk ks ds =>
      obtain ⟨a, xs, e1, e2, e3, e4, e5⟩ := h2
      have q := ne rfl a e1
      exact ⟨a, xs, e1, by rw [upd_ne q]; exact e2, by rw [upd_ne q]; exact e3, e4, RepL.mono ex _ _ e5⟩
    | set ks =>
      obtain ⟨a, e1, e2, e3⟩ := h2
      have q := ne rfl a e1
      exact ⟨a, e1, by rw [upd_ne q]; exact e2, by rw [upd_ne q]; exact e3⟩
    | obj c ns ds =>
      obtain ⟨a, C, dx, fs, e1, e2, e3, e4, e5, e6⟩ := h2
      have q := ne rfl a e1
      exact ⟨a, C, dx, fs, e1, e2, by rw [upd_ne q]; exact e3, by rw [upd_ne q]; exact e4, e5, RepL.mono ex _ _ e6⟩
theorem seal_nk {G0 H0 : Hp} {ρ0 : En} (n : Nk G0 H0 σ ρ0 G H ρ) (gp : G p = none) (hp : H p = some uo) (h0 : H0 p = none) : Nk G0 H0 σ ρ0 (upd G p o) (upd H p o) ρ := by
  refine ⟨⟨fun b u e => ?_, fun b h1 h2 => ?_, fun b u h1 h2 => ?_, fun b h => ?_, n.own⟩, n.kp⟩
  · rw [upd_ne (ne_of_none (n.g b u e) gp)]
    exact n.g b u e
  · by_cases q : b = p
    · rw [q]
      exact .inl h0
    · rw [upd_ne q] at h2
      exact n.new b h1 h2
  · rw [upd_ne (ne_of_none h1 h0)]
    exact n.keep b u h1 h2
  · by_cases q : b = p
    · rw [q]
      exact h0
    · rw [upd_ne q] at h
      exact n.there b h
end
section
variable {cl : Nms} {X : Cx} {W : WX}
theorem dcomp_core {K : PySem.W.Frag} {P0 : Program} {w0 : World} {G H : Hp} {σ : L2.St} {ρ : En} {Q : VK} {vs : List Nat} {t : Tg} {src : M (List D)} {ttm : M Bool} {km vm : M D} (k : Ok ⟨K, cl, P0, w0⟩ G H σ ρ) (a : At rD ⟨K, cl, P0, w0⟩ W (eDComp vs t src ttm km vm) G ρ σ H Q) (hsl : ∀ i ∈ t.sl, i ∈ vs) :
    tDc (tX rI ⟨K, cl, P0, w0⟩ W src) (TgOk K t) (tX rB ⟨K, cl, P0, w0⟩ W0 ttm) (tX rD ⟨K, cl, P0, w0⟩ W0 km) (tX rD ⟨K, cl, P0, w0⟩ W0 vm) vs σ H fun v H1 => ∃ d u, H1 d = some u ∧ Mut (some u) ∧ ∀ od, Q v (upd H1 d (.frz od u)) := by
  refine at_tX k (At.bind (Ra := rI) rD_back a fun ds ρ1 J G1 H1 n1 k1 hsrc a1 => fun D hD => ?_)
  obtain ⟨r, ρ', e, oo⟩ := a1
  dsimp only at e
  split at e
  case h_2 => cases e
  rename_i fks fxs ρ2 hgo
  split at e
  case isFalse => cases e
  rename_i hlen
  cases e
  obtain ⟨kw, up⟩ := k1.wipe (vs := vs)
  let St : Nat → Hp → Prop := fun i H' => ∃ G' ρi ks acc kvs, dcGo vs t ttm km vm (ds.drop i) ks acc ρi = some (.ok (fks, fxs), ρ2) ∧ Nx G1 H1 (Owns (wipe σ vs) (wipeE ρ1 vs)) G' H' (Owns (wipe σ vs) ρi) ∧ Ok ⟨K, cl, P0, w0⟩ G' H' (wipe σ vs) ρi ∧
    (∀ j : Nat, j ∉ vs → kd ρi[j]? = kd ρ1[j]?) ∧ H' D = some (.dK kvs) ∧ G' D = none ∧ kvs.map (·.1) = ks ∧ RepL ⟨K, cl, P0, w0⟩ G' acc (kvs.map (·.2)) ∧ ks.length ≤ lim ∧ ¬ Owns (wipe σ vs) ρi D
  refine ⟨fun i m H' => m = ds.length - i ∧ i ≤ ds.length ∧ St i H', ⟨_, rfl, Nat.zero_le _, ?_⟩, ?_⟩
  · obtain ⟨n, k', gD, nD⟩ := new_own (o := .dK []) hD kw
    exact ⟨G1, wipeE ρ1 vs, [], [], [], hgo, n.toNx, k', fun j hj => by rw [wipeE_off hj], upd_same, gD, rfl, rfl, Nat.zero_le _, nD⟩
  rintro i m H' ⟨rfl, hi', G', ρi, ks, acc, kvs, hgo', n', k', kk, dD, gD, eK, rD', hxs, nD⟩
  by_cases hlt : i < ds.length
  · refine .inr ?_
    obtain ⟨hgo1, hyl⟩ := (hsrc G' H' n'.g k'.sub).1 i ds[i] (by simp [hlt])
    refine ⟨hgo1, St (i + 1), fun H'' st => ⟨_, by omega, rfl, hlt, st⟩, fun x H2 hy => ?_⟩
    obtain ⟨G2, x1, x2, x3, x4, x5⟩ := hyl x H2 hy
    obtain ⟨n2, k2⟩ := grow_ok k' x1 x2 x3 x4
    have dD2 : H2 D = some (.dK kvs) := x2 _ _ dD
    have gD2 : G2 D = none := by
      cases q : G2 D with
      | none => rfl
      | some u =>
        have z := x4 D gD (by rw [q]; simp)
        rw [dD] at z
        cases z
    rw [List.drop_eq_getElem_cons hlt] at hgo'
    unfold dcGo at hgo'
    split at hgo'
    case h_1 => cases hgo'
    rename_i ρa hset
    obtain ⟨σ', k3, f3, o3, q3⟩ := tg_ok k2 x5 hset
    refine q3 _ ?_
    have hw : wipe σ' vs = wipe σ vs := (wipe_same f3.1 fun j hj => (f3.2 j fun z => hj (hsl j z)).1).trans wipe_idem
    refine ⟨hw, ?_⟩
    have nD3 : ¬ Owns σ' ρa D := fun z => nD (o3 D z)
    have l3 : RepO ⟨K, cl, P0, w0⟩ G2 H2 (.dk ks acc) (.ref D) := ⟨D, kvs, rfl, dD2, gD2, eK, RepL.mono x1 _ _ rD'⟩
    have stay : ∀ {Ga Ha Gb Hb : Hp} {ρx ρy : En}, RepO ⟨K, cl, P0, w0⟩ Ga Ha (.dk ks acc) (.ref D) → ¬ Owns σ' ρx D → Nk Ga Ha σ' ρx Gb Hb ρy → RepO ⟨K, cl, P0, w0⟩ Gb Hb (.dk ks acc) (.ref D) ∧ ¬ Owns σ' ρy D := fun {Ga Ha Gb Hb ρx ρy} l no n => by
      refine ⟨l.keep n.toNx fun _ a ea => by
        cases ea
        exact no, fun z => ?_⟩
      rcases n.own D z with q | q
      · exact no q
      · obtain ⟨_, _, ea, h, _⟩ := l
        cases ea
        rw [h] at q
        cases q
    split at hgo'
    · rename_i ρb hb
      split at hgo'
      case h_2 => cases hgo'
      rename_i y ρc hy2
      split at hgo'
      case h_2 => cases hgo'
      rename_i z ρd hz2
      split at hgo'
      case h_2 => cases hgo'
      rename_i ky hky
      by_cases hal : hasK ks ky = false ∧ ks.length < lim
      · rw [if_pos hal] at hgo'
        refine ⟨G2, ρa, k3, _, _, hb, fun b G4 H4 n4 k4 rb => ?_⟩
        obtain rfl : true = b := rb
        obtain ⟨l4, nD4⟩ := stay l3 nD3 n4
        rw [if_pos rfl]
        refine ⟨G4, ρb, k4, _, _, hy2, fun v G5 H5 n5 k5 rv => ?_⟩
        obtain ⟨l5, nD5⟩ := stay l4 nD4 n5
        refine ⟨G5, ρc, k5, _, _, hz2, fun u G6 H6 n6 k6 ru => ?_⟩
        obtain ⟨l6, nD6⟩ := stay l5 nD5 n6
        obtain ⟨_, kvs6, ea, dD6, gD6, eK6, rL6⟩ := l6
        cases ea
        have hk6 : kvs6.length = ks.length := by rw [← eK6, List.length_map]
        obtain rfl := asKey_rep1 hky rv
        refine ⟨kvs6, ky, rfl, dD6, lim_lt (by rw [hk6]; exact hal.2), ?_⟩
        obtain ⟨kz, upz⟩ := k6.wipe (vs := vs)
        rw [hw] at kz upz
        have nn : Nx G1 H1 (Owns (wipe σ vs) (wipeE ρ1 vs)) G6 H6 (Owns (wipe σ vs) (wipeE ρd vs)) := n'.trans (n2.toNx.trans ((Nx.less o3).trans (n4.toNx.trans (n5.toNx.trans (n6.toNx.trans (Nx.less upz))))))
        rw [putK_app (by rw [eK6]; exact hal.1)]
        refine ⟨G6, wipeE ρd vs, ks ++ [ky], acc ++ [z], kvs6 ++ [(ky, u)], hgo', nn.tmp hD dD6, tmp_ok kz gD6 dD6 fun z => nD6 (upz D z), fun j hj => ?_, upd_same, gD6, by rw [List.map_append, eK6]; rfl, by rw [List.map_append]; exact rL6.append ⟨u, [], rfl, ru, rfl⟩, by rw [List.length_append]; exact hal.2, fun z => nD6 (upz D z)⟩
        rw [wipeE_off hj, n6.kp j, n5.kp j, n4.kp j, (f3.2 j fun z => hj (hsl j z)).2]
        exact kk j hj
      · rw [if_neg hal] at hgo'
        split at hgo'
        case isFalse => cases hgo'
        rename_i hal2
        refine ⟨G2, ρa, k3, _, _, hb, fun b G4 H4 n4 k4 rb => ?_⟩
        obtain rfl : true = b := rb
        obtain ⟨l4, nD4⟩ := stay l3 nD3 n4
        rw [if_pos rfl]
        refine ⟨G4, ρb, k4, _, _, hy2, fun v G5 H5 n5 k5 rv => ?_⟩
        obtain ⟨l5, nD5⟩ := stay l4 nD4 n5
        refine ⟨G5, ρc, k5, _, _, hz2, fun u G6 H6 n6 k6 ru => ?_⟩
        obtain ⟨l6, nD6⟩ := stay l5 nD5 n6
        obtain ⟨_, kvs6, ea, dD6, gD6, eK6, rL6⟩ := l6
        cases ea
        have hk6 : kvs6.length = ks.length := by rw [← eK6, List.length_map]
        obtain rfl := asKey_rep1 hky rv
        refine ⟨kvs6, ky, rfl, dD6, lim_lt (by rw [hk6]; exact hal2.2.1), ?_⟩
        obtain ⟨kz, upz⟩ := k6.wipe (vs := vs)
        rw [hw] at kz upz
        have nn : Nx G1 H1 (Owns (wipe σ vs) (wipeE ρ1 vs)) G6 H6 (Owns (wipe σ vs) (wipeE ρd vs)) := n'.trans (n2.toNx.trans ((Nx.less o3).trans (n4.toNx.trans (n5.toNx.trans (n6.toNx.trans (Nx.less upz))))))
        have hmem : ky ∈ kvs6.map (·.1) := by rw [eK6]; exact hasK_mem hal2.1
        have hnd : (kvs6.map (·.1)).Nodup := by rw [eK6]; exact hal2.2.2
        refine ⟨G6, wipeE ρd vs, ks, dPut ks acc ky z, putK kvs6 ky u, hgo', nn.tmp hD dD6, tmp_ok kz gD6 dD6 fun z => nD6 (upz D z), fun j hj => ?_, upd_same, gD6, (putK_keys hmem).trans eK6, by rw [← eK6]; exact putK_rep ru rL6 hmem hnd, Nat.le_of_lt hal2.2.1, fun z => nD6 (upz D z)⟩
        rw [wipeE_off hj, n6.kp j, n5.kp j, n4.kp j, (f3.2 j fun z => hj (hsl j z)).2]
        exact kk j hj
    · rename_i ρb hb
      refine ⟨G2, ρa, k3, _, _, hb, fun b G4 H4 n4 k4 rb => ?_⟩
      obtain rfl : false = b := rb
      rw [if_neg Bool.false_ne_true]
      obtain ⟨l4, nD4⟩ := stay l3 nD3 n4
      obtain ⟨_, kvs4, ea, dD5, gD5, eK5, rL5⟩ := l4
      cases ea
      obtain ⟨kz, upz⟩ := k4.wipe (vs := vs)
      rw [hw] at kz upz
      have nn : Nx G1 H1 (Owns (wipe σ vs) (wipeE ρ1 vs)) G4 H4 (Owns (wipe σ vs) (wipeE ρb vs)) := n'.trans (n2.toNx.trans ((Nx.less o3).trans (n4.toNx.trans (Nx.less upz))))
      refine ⟨G4, wipeE ρb vs, ks, acc, kvs4, hgo', nn, kz, fun j hj => ?_, dD5, gD5, eK5, rL5, hxs, fun z => nD4 (upz D z)⟩
      rw [wipeE_off hj, n4.kp j, (f3.2 j fun z => hj (hsl j z)).2]
      exact kk j hj
    · cases hgo'
  · refine .inl ?_
    have e : i = ds.length := by omega
    subst e
    refine ⟨(hsrc G' H' n'.g k'.sub).2, D, _, dD, trivial, fun od => ?_⟩
    rw [List.drop_length] at hgo'
    cases hgo'
    obtain ⟨n9, k9⟩ := k1.unwipe k' n' kk hlen
    have no9 : ¬ Owns σ (restE ρ1 ρ2 vs) D := fun z => by
      obtain ⟨j, o, h1, h2, h3⟩ := z
      by_cases hj : j ∈ vs
      · rw [restE_on hlen hj] at h1
        obtain ⟨b, u, e1, e2, _⟩ := (k1.at_ h1 h3).there h2
        cases e1
        rw [hD] at e2
        cases e2
      · rw [restE_off hj] at h1
        exact nD ⟨j, o, h1, h2, by rw [wipe_off hj]; exact h3⟩
    exact oo (.ref D) (upd G' D (.frz od (.dK kvs))) (upd H' D (.frz od (.dK kvs))) (seal_nk n9 gD dD hD) (seal_ok k9 gD dD no9) ⟨D, od, kvs, rfl, upd_same, eK, RepL.mono (fun b u e => by
      rw [upd_ne (ne_of_none e gD)]
      exact e) _ _ rD'⟩
theorem ed_dcomp {kx vx tg iter : Expr} {ifs : List Expr} {scope : Scope} {own : List (Str × Nat)} {pos : Pos} {t : Tg} {src : M (List D)} {ttm : M Bool} {km vm : M D} (hc : X.calm = true) (hN : X.N.Nodup) (hi : EI cl X W tg iter src) (ok : BlkOk X.N X.env.scope scope own)
    (hg : ∀ (s : Shared) (H : Hp) (C : Addr) (cs : List (Str × Addr)) (fp : List Addr), PG (X.blk s H scope (compEnvC scope cs C X.env) fp) tg (TgOk X.K t))
    (ht : ∀ (s : Shared) (H : Hp) (C : Addr) (cs : List (Str × Addr)) (fp : List Addr), PTs (X.blk s H scope (compEnvC scope cs C X.env) fp) ifs (tX rB (csX X cl) W0 ttm))
    (hk : ∀ (s : Shared) (H : Hp) (C : Addr) (cs : List (Str × Addr)) (fp : List Addr), ED cl (X.blk s H scope (compEnvC scope cs C X.env) fp) W0 kx km)
    (he : ∀ (s : Shared) (H : Hp) (C : Addr) (cs : List (Str × Addr)) (fp : List Addr), ED cl (X.blk s H scope (compEnvC scope cs C X.env) fp) W0 vx vm)
    (hsl : ∀ i ∈ t.sl, i ∈ own.map (·.2)) (hs : ∀ x, foldedSetIterable iter X.env x = pure x := by intro _; rfl) :
    ED cl X W (.DictComp kx vx [⟨tg, iter, ifs, 0⟩] scope pos) (eDComp (own.map (·.2)) t src ttm km vm) := by
  have base : PE X (.DictComp kx vx [⟨tg, iter, ifs, 0⟩] scope pos) (tDc (tX rI (csX X cl) W src) (TgOk X.K t) (tX rB (csX X cl) W0 ttm) (tX rD (csX X cl) W0 km) (tX rD (csX X cl) W0 vm) (own.map (·.2))) := pe_dc hc hN hi ok hg ht (fun s H C cs fp => hk s H C cs fp) (fun s H C cs fp => he s H C cs fp) hs
  generalize own.map (·.2) = vs at base hsl ⊢
  exact EX.by (pe_seal base) fun G ρ σ H Q k a => dcomp_core k a hsl
end
end Fn

set_option maxRecDepth 100000
set_option maxHeartbeats 8000000
namespace Fn
open PySem PySem.Spec PyProof.Rows L2

/-! ### {k: v for a in xs for b in ys}, nothing asked: the machine's two loops -/
abbrev dc2 (kx vx t0 i0 t1 i1 : Expr) (sc : Scope) (pos : Pos) : Expr := .DictComp kx vx [⟨t0, i0, [], 0⟩, ⟨t1, i1, [], 0⟩] sc pos
section
variable {kx vx t0 i0 t1 i1 : Expr} {sc : Scope} {pos : Pos} {it acc : Value} {env : Env} {D : Addr}
theorem dc2_out : compTurn (dc2 kx vx t0 i0 t1 i1 sc pos) 0 it acc env = (do
      standAt i0.pos
      match ← pyNext it with
      | none => pure (.done .next)
      | some v => do
        letOwnedTupleGo t0 it v
        assign t0 env v
        let y ← eval i1 env
        standAt i1.pos
        let y ← foldedSetIterable i1 env y
        let _ ← runOwn (.compStart (dc2 kx vx t0 i0 t1 i1 sc pos) 1 (← holding [y] (pyIter y)) acc env) env
        again (.compLoop (dc2 kx vx t0 i0 t1 i1 sc pos) 0 it acc env)) := by rfl
theorem dc2_in : compTurn (dc2 kx vx t0 i0 t1 i1 sc pos) 1 it (.ref D) env = (do
      standAt i1.pos
      match ← pyNext it with
      | none => pure (.done .next)
      | some v => do
        letOwnedTupleGo t1 it v
        assign t1 env v
        (do
          let a ← eval kx env
          let b ← holding [a] (eval vx env)
          standAt { kx.pos with endLine := vx.pos.endLine, endCol := vx.pos.endCol }
          holding [a, b] (dictSet D a b))
        again (.compLoop (dc2 kx vx t0 i0 t1 i1 sc pos) 1 it (.ref D) env)) := by rfl
variable {prog : Program} {w : World} {A : Around} {R : Result → Shared → Prop} {s : Shared}
abbrev noted (prog : Program) (w : World) (A : Around) (env : Env) (R : Result → Shared → Prop) : Value → Shared → Prop := notedBy (model prog w) A env fun x z => R (.error x) z
theorem loop_out (fs : ∀ x, foldedSetIterable i1 env x = pure x) (J : Nat → Shared → Prop)
    (turn : ∀ n s, J n s → wpAny (model prog w) A (pyNext it) (fun r a => match r with
      | none => R (.ok .next) a
      | some v => wpAny (model prog w) A (letOwnedTupleGo t0 it v) (fun _ b => wpAny (model prog w) A (assign t0 env v) (fun _ c => wpAny (model prog w) A (eval i1 env) (fun y d => wpAny (model prog w) A (pyIter y) (fun jt e =>
          codeAny (model prog w) A (.compStart (dc2 kx vx t0 i0 t1 i1 sc pos) 1 jt acc env) (fun r z => match r with
            | .ok _ => ∃ m, m < n ∧ J m z
            | .error _ => False) e) (noted prog w A env R) d) (noted prog w A env R) c) (noted prog w A env R) b) (noted prog w A env R) a) (noted prog w A env R) s)
    (n : Nat) (h : J n s) : codeAny (model prog w) A (.compLoop (dc2 kx vx t0 i0 t1 i1 sc pos) 0 it acc env) R s := by
  apply codeAny_loop rfl J _ n h
  intro n s hJ
  show wpAny _ A ((compTurn (dc2 kx vx t0 i0 t1 i1 sc pos) 0 it acc env).onRaise (fun x => do noteFrame x env; theTreesLotGoes x)) _ _ s
  apply wpAny_noted
  rw [dc2_out]
  apply wpAny_bind
  apply wpAny_standAt
  apply wpAny_bind
  refine wpAny_mono (turn n s hJ) ?_ fun _ _ e => e
  intro r a ha
  cases r with
  | none => exact wpAny_pure ha
  | some v =>
    apply wpAny_bind
    refine wpAny_mono ha ?_ fun _ _ e => e
    intro _ b hb
    apply wpAny_bind
    refine wpAny_mono hb ?_ fun _ _ e => e
    intro _ c hc
    apply wpAny_bind
    refine wpAny_mono hc ?_ fun _ _ e => e
    intro y d hd
    apply wpAny_bind
    apply wpAny_standAt
    apply wpAny_bind
    refine wpAny_of_eq (fs y) ?_
    apply wpAny_bind
    apply wpAny_holding
    refine wpAny_mono hd ?_ fun _ _ e => e
    intro jt e he
    apply wpAny_bind
    refine wpAny_runOwn ?_
    rw [Around.mark_none]
    refine codeAny_mono he ?_
    intro r z hr
    match r, hr with
    | .ok _, hr => exact wpAny_pure (And.intro rfl hr)
    | .error _, hr => exact hr.elim
theorem loop_in (J : Nat → Shared → Prop)
    (turn : ∀ n s, J n s → wpAny (model prog w) A (pyNext it) (fun r a => match r with
      | none => R (.ok .next) a
      | some v => wpAny (model prog w) A (letOwnedTupleGo t1 it v) (fun _ b => wpAny (model prog w) A (assign t1 env v) (fun _ c => wpAny (model prog w) A (eval kx env) (fun y d => wpAny (model prog w) A (eval vx env) (fun z e =>
          wpAny (model prog w) A (dictSet D y z) (fun _ f => ∃ m, m < n ∧ J m f) (noted prog w A env R) e) (noted prog w A env R) d) (noted prog w A env R) c) (noted prog w A env R) b) (noted prog w A env R) a) (noted prog w A env R) s)
    (n : Nat) (h : J n s) : codeAny (model prog w) A (.compLoop (dc2 kx vx t0 i0 t1 i1 sc pos) 1 it (.ref D) env) R s := by
  apply codeAny_loop rfl J _ n h
  intro n s hJ
  show wpAny _ A ((compTurn (dc2 kx vx t0 i0 t1 i1 sc pos) 1 it (.ref D) env).onRaise (fun x => do noteFrame x env; theTreesLotGoes x)) _ _ s
  apply wpAny_noted
  rw [dc2_in]
  apply wpAny_bind
  apply wpAny_standAt
  apply wpAny_bind
  refine wpAny_mono (turn n s hJ) ?_ fun _ _ e => e
  intro r a ha
  cases r with
  | none => exact wpAny_pure ha
  | some v =>
    apply wpAny_bind
    refine wpAny_mono ha ?_ fun _ _ e => e
    intro _ b hb
    apply wpAny_bind
    refine wpAny_mono hb ?_ fun _ _ e => e
    intro _ c hc
    apply wpAny_bind
    apply wpAny_bind
    refine wpAny_mono hc ?_ fun _ _ e => e
    intro y d hd
    apply wpAny_bind
    apply wpAny_holding
    refine wpAny_mono hd ?_ fun _ _ e => e
    intro z e he
    apply wpAny_bind
    apply wpAny_standAt
    apply wpAny_holding
    refine wpAny_mono he ?_ fun _ _ e => e
    intro _ f hf
    exact wpAny_pure (And.intro rfl hf)
theorem start_in (h0 : codeAny (model prog w) A (.compLoop (dc2 kx vx t0 i0 t1 i1 sc pos) 1 it acc env) R s)
    (h : wpAny (model prog w) A (pyIter it) (fun jt z => codeAny (model prog w) A (.compLoop (dc2 kx vx t0 i0 t1 i1 sc pos) 1 jt acc env) R z) (noted prog w A env R) s) :
    codeAny (model prog w) A (.compStart (dc2 kx vx t0 i0 t1 i1 sc pos) 1 it acc env) R s := by
  apply codeAny_of_tree
  show wpAny _ _ ((compStart (dc2 kx vx t0 i0 t1 i1 sc pos) 1 it acc env).onRaise (fun x => do noteFrame x env; standAt theWindowsPlace)) _ _ s
  apply wpAny_notedAt
  unfold compStart
  show wpAny _ _ (ask >>= _) _ _ s
  apply wpAny_bind
  apply wpAny_askSetting
  apply wpAny_ite
  have e1 := And.intro (rfl : (Code.compLoop (dc2 kx vx t0 i0 t1 i1 sc pos) 1 it acc env).quiet = true) h0
  split
  · first
      | exact wpAny_pure e1
      | exact wpAny_bind (wpAny_pure (wpAny_pure e1))
  · apply wpAny_bind
    apply wpAny_rule
    first
    | (apply wpAny_bind
       apply wpAny_standAt
       apply wpAny_bind
       exact wpAny_mono h (fun jt z q => wpAny_pure (And.intro rfl q)) fun _ _ e => e)
    | (show wpAny _ _ (standAt i1.pos >>= _) _ _ s
       apply wpAny_bind
       apply wpAny_standAt
       apply wpAny_bind
       exact wpAny_mono h (fun jt z q => wpAny_pure (And.intro rfl q)) fun _ _ e => e)
end
end Fn

set_option maxRecDepth 100000
set_option maxHeartbeats 16000000
namespace Fn
open PySem PySem.Spec PyProof.Rows L2

/-! ### .. and over the layer -/
def tDc2 (wi : TI) (g : TG) (wj : TI) (h : TG) (tk tv : TE) (vs us : List Nat) : TE := fun σ H Q => wi σ H fun J H1 => ∀ D, H1 D = none → ∃ P : Nat → Nat → Hp → Prop, (∃ m, P 0 m (upd H1 D (.dK []))) ∧ ∀ i m H, P i m H →
  (J.stop i H ∧ Q (.ref D) H) ∨ (J.go i H ∧ ∃ N : Hp → Prop, (∀ H', N H' → ∃ m', m' < m ∧ P (i + 1) m' H') ∧ ∀ x H', J.yld i H x H' → g x (wipe σ vs) H' fun σ2 H2 => wipe σ2 vs = wipe σ vs ∧ wj σ2 H2 fun L H3 =>
    ∃ R : Nat → Nat → Hp → Prop, (∃ m, R 0 m H3) ∧ ∀ j k H, R j k H → (L.stop j H ∧ N H) ∨ (L.go j H ∧ ∃ O : Hp → Prop, (∀ H', O H' → ∃ k', k' < k ∧ R (j + 1) k' H') ∧ ∀ x H', L.yld j H x H' → h x (wipe σ2 us) H' fun σ3 H5 =>
      wipe σ3 us = wipe σ2 us ∧ tk σ3 H5 fun y H6 => tv σ3 H6 fun z H7 => ∃ kvs k, y = kV k ∧ H7 D = some (.dK kvs) ∧ kvs.length < sizeLine ∧ O (upd H7 D (.dK (putK kvs k z)))))
section
variable {X : Cx} {kx vx t0 i0 t1 i1 : Expr} {sc : Scope} {own : List (Str × Nat)} {us : List Nat} {pos : Pos} {wi wj : TI} {g h : TG} {tk tv : TE}
theorem dc2_core {pins : List (Addr × Obj)} {s : Shared} {σ : L2.St} {H : Hp} {Q : VK} {use : Option (Value → Sem Unit)} {Qf : Value → Shared → Prop} {pos' : Pos} (I : Inv X pins σ H s) (hq : tDc2 wi g wj h tk tv (own.map (·.2)) us σ H Q)
    (fin0 : ∀ D C z m H', Inv X pins σ H' z → Q (.ref D) H' → z.heap.Ns C m → FpOk X pins H' C → compPost (model X.prog X.w) X.A X.xe use Qf (.ref D) C (.ok .next) z) (hc : X.calm = true) (hN : X.N.Nodup) (hi : PI X t0 i0 wi) (ok : BlkOk X.N X.env.scope sc own) (hus : ∀ i ∈ us, i ∈ own.map (·.2))
    (hg : ∀ (s : Shared) (H : Hp) (C : Addr) (cs : List (Str × Addr)) (fp : List Addr), PG (X.blk s H sc (compEnvC sc cs C X.env) fp) t0 g)
    (hj : ∀ (s : Shared) (H : Hp) (C : Addr) (cs : List (Str × Addr)) (fp : List Addr), PI (X.blk s H sc (compEnvC sc cs C X.env) fp) t1 i1 wj)
    (hh : ∀ (s : Shared) (H : Hp) (C : Addr) (cs : List (Str × Addr)) (fp : List Addr), PG (X.blk s H sc (compEnvC sc cs C X.env) fp) t1 h)
    (hk : ∀ (s : Shared) (H : Hp) (C : Addr) (cs : List (Str × Addr)) (fp : List Addr), PE (X.blk s H sc (compEnvC sc cs C X.env) fp) kx tk)
    (hv : ∀ (s : Shared) (H : Hp) (C : Addr) (cs : List (Str × Addr)) (fp : List Addr), PE (X.blk s H sc (compEnvC sc cs C X.env) fp) vx tv)
    (f0 : ∀ x, foldedSetIterable i0 X.env x = pure x) (f1 : ∀ env x, foldedSetIterable i1 env x = pure x) :
    wpAny (model X.prog X.w) X.A (comprehension (dc2 kx vx t0 i0 t1 i1 sc pos) sc X.env pos' newDict false (eval i0 X.env) use) Qf X.xe s := by
  have frees : ∀ y ∈ sc.names, y.2 = .free → ∃ c, X.env.cells.lookup y.1 = some c := fun y hy e => (ok.free y hy e).elim (fun k => I.ok.has _ (.inl k)) fun k => I.ok.has _ (.inr k)
  refine wpAny_comprehension_free (use := use) rfl f0 (closure_ok frees) ok.kind (fun y hy e => by rw [ok.uniq y hy, e]) (thn (hi.run pins s σ H _ I hq) ?_)
  intro xv s1 hx
  refine thn hx ?_
  rintro itv s2 ⟨it, fp, tn, J, H2, rfl, I2, T, st2, fr2, q⟩
  refine wpAny_newObj_type (newEnv_comp ?_)
  generalize hD : s2.heap.objs.size = D
  have noD : H2 D = none := I2.hok.fresh (Nat.le_of_eq hD)
  obtain ⟨P, ⟨m0, p0⟩, turn⟩ := q D noD
  generalize hs3 : ({ s2 with heap := s2.heap.push { cls := .type "dict", data := .dict #[] } } : Shared) = s3
  have I3 : Inv X pins σ (upd H2 D (.dK [])) s3 := by
    subst hs3
    refine I2.laid (t' := s2.toks) (fun b o e => Heap.get?_push_of_some _ e) (Nat.le_of_eq hD) ?_
    subst hD
    exact dk_empty s2.heap I2.big
  have heap3 : s3.heap = s2.heap.push { cls := .type "dict", data := .dict #[] } := by subst hs3; rfl
  have fr3 : ∀ b ∈ fp, FpOk X pins (upd H2 D (.dK [])) b ∧ b < s3.heap.objs.size := fun b hb => by
    obtain ⟨o, e, _⟩ := T.obj _ _ st2 b hb
    have small := Heap.lt_size e
    refine ⟨⟨?_, (fr2 b hb).2⟩, by rw [heap3, Heap.size_push]; exact Nat.lt_succ_of_lt small⟩
    rw [upd_ne (by subst hD; exact Nat.ne_of_lt small)]
    exact (fr2 b hb).1
  have st3 : tn 0 s3.heap := T.keep _ _ _ st2 fun b _ o e => by rw [heap3]; exact Heap.get?_push_of_some _ e
  have I4 := block_start I3 ok hN fr3
  have pg := hg s3 (upd H2 D (.dK [])) s3.heap.objs.size (cellsFrom (s3.heap.objs.size + 1) sc.names (cloFrom X.env.cells sc.names [])) fp
  have pj := hj s3 (upd H2 D (.dK [])) s3.heap.objs.size (cellsFrom (s3.heap.objs.size + 1) sc.names (cloFrom X.env.cells sc.names [])) fp
  have ph := hh s3 (upd H2 D (.dK [])) s3.heap.objs.size (cellsFrom (s3.heap.objs.size + 1) sc.names (cloFrom X.env.cells sc.names [])) fp
  have pk := hk s3 (upd H2 D (.dK [])) s3.heap.objs.size (cellsFrom (s3.heap.objs.size + 1) sc.names (cloFrom X.env.cells sc.names [])) fp
  have pv := hv s3 (upd H2 D (.dK [])) s3.heap.objs.size (cellsFrom (s3.heap.objs.size + 1) sc.names (cloFrom X.env.cells sc.names [])) fp
  show codeAny _ _ (.compStart (dc2 kx vx t0 i0 t1 i1 sc pos) 0 (.ref it) (.ref D) (compEnvC sc (cellsFrom (s3.heap.objs.size + 1) sc.names (cloFrom X.env.cells sc.names [])) s3.heap.objs.size X.env)) (compPost (model X.prog X.w) X.A X.xe use Qf (.ref D) s3.heap.objs.size) { s3 with heap := pushCells (s3.heap.push { cls := .type "dict", data := .dict #[] }) sc.names }
  have none3 : ∀ b ∈ fp, (upd H2 D (.dK [])) b = none := fun b hb => (fr3 b hb).1.1
  generalize hce : compEnvC sc (cellsFrom (s3.heap.objs.size + 1) sc.names (cloFrom X.env.cells sc.names [])) s3.heap.objs.size X.env = ce at I4 pg pj ph pk pv ⊢
  have locs : ce.locals = s3.heap.objs.size := by subst hce; rfl
  generalize hH3 : upd H2 D (.dK []) = H3 at I3 I4 pg pj ph pk pv p0 none3 fr3
  generalize hs4 : ({ s3 with heap := pushCells (s3.heap.push { cls := .type "dict", data := .dict #[] }) sc.names } : Shared) = s4 at I4 ⊢
  have st4 : tn 0 s4.heap := T.keep _ _ _ st3 fun b _ o e => by subst hs4; exact pushCells_keeps _ _ _ _ (Heap.get?_push_of_some _ e)
  have stat : ∀ {σ' : L2.St} {H' : Hp} {z : Shared}, Inv (X.blk s3 H3 sc ce fp) [] σ' H' z → (∀ b ∈ fp, H' b = none) → ∀ b ∈ fp, FpOk (X.blk s3 H3 sc ce fp) [] H' b := fun {σ' H' z} I' no b hb =>
    And.intro (no b hb) ⟨(I'.ok.exf b hb).1, I'.ok.exfs b hb, .inl hb, fun x c e => (I'.ok.exf b hb).2 x c e, fun p hp => absurd (show p ∈ ([] : List (Addr × Obj)) ++ [] from hp) (by simp)⟩
  have loop : codeAny (model X.prog X.w) X.A (.compLoop (dc2 kx vx t0 i0 t1 i1 sc pos) 0 (.ref it) (.ref D) ce) (compPost (model X.prog X.w) X.A X.xe use Qf (.ref D) s3.heap.objs.size) s4 := by
    refine loop_out (f1 ce) (fun n z => ∃ i H', Inv (X.blk s3 H3 sc ce fp) [] (wipe σ (own.map (·.2))) H' z ∧ tn i z.heap ∧ (∀ b ∈ fp, H' b = none) ∧ P i n H') ?_ m0 ⟨0, H3, I4, st4, none3, p0⟩
    rintro n s5 ⟨i, H5, I5, st5, no5, p5⟩
    rcases turn i n H5 p5 with ⟨stop, qq⟩ | ⟨go, N, hN', step⟩
    · refine thnF (T.done (X.blk s3 H3 sc ce fp) rfl rfl rfl hc i [] s5 _ H5 (fun _ _ => False) I5 (stat I5 no5) st5 stop) ?_
      rintro r s6 ⟨rfl, I6⟩
      have I7 : Inv X pins σ H5 s6 := I3.call' (ch := fp) I6.os I6.base I6.hok I6.bare fun b hb =>
        let z := (fr3 b hb).1.2
        ⟨z.2.2.1, z.1, z.2.2.2.1, z.2.2.2.2⟩
      have noC : H5 s3.heap.objs.size = none := by
        have z : H5 ce.locals = none := I6.free
        rw [locs] at z
        exact z
      obtain ⟨m, hm, _⟩ := I6.loc
      have hm : s6.heap.Ns ce.locals m := hm
      rw [locs] at hm
      exact fin0 D s3.heap.objs.size s6 m H5 I7 qq hm (I3.fpOk (Nat.le_refl _) noC)
    · refine thnF (T.item (X.blk s3 H3 sc ce fp) rfl rfl rfl hc i [] s5 _ H5 (fun _ _ => False) I5 (stat I5 no5) st5 go) ?_
      rintro r s6 ⟨u, rfl, h6⟩
      refine thnF h6 ?_
      rintro _ s7 ⟨x, H7, I7, r7, y7, st7, no7⟩
      have J7 := I7.pinned (stat I7 no7) (T.obj _ _ st7)
      refine thnF (pg.run _ s7 _ H7 x u _ J7 r7 (step x H7 y7)) ?_
      rintro _ s8 ⟨σ8, H8, I8, w8, q8⟩
      have fin : ∀ {τ : L2.St} {z : Shared} {H' : Hp}, Inv (X.blk s3 H3 sc ce fp) ([] ++ pinsAt fp s7.heap) τ H' z → (wipe σ (own.map (·.2))).length = τ.length → (∀ (j : Nat) v, (wipe σ (own.map (·.2)))[j]? = some (some v) → τ[j]? = some (some v)) → N H' →
          ∃ m, m < n ∧ ∃ i H', Inv (X.blk s3 H3 sc ce fp) [] (wipe σ (own.map (·.2))) H' z ∧ tn i z.heap ∧ (∀ b ∈ fp, H' b = none) ∧ P i m H' := fun {τ z H'} I' hl hs nx => by
        obtain ⟨m', hm, p'⟩ := hN' H' nx
        have held : ∀ b ∈ fp, ∀ o, s7.heap.get? b = some o → z.heap.get? b = some o ∧ H' b = none := fun b hb o e => by
          have y := I'.pin (b, o) (List.mem_append_right _ (List.mem_append_right _ (mem_pinsAt hb e)))
          exact ⟨y.1, y.2.1⟩
        refine ⟨m', hm, i + 1, H', (I'.unpinned (pins := [])).weak hl hs, T.keep _ _ _ st7 fun b hb o e => (held b hb o e).1, fun b hb => ?_, p'⟩
        obtain ⟨o, e, _⟩ := T.obj _ _ st7 b hb
        exact (held b hb o e).2
      have l8 : (wipe σ (own.map (·.2))).length = σ8.length := by rw [← w8, wipe_length]
      have s8k : ∀ (j : Nat) v, (wipe σ (own.map (·.2)))[j]? = some (some v) → (wipe σ8 us)[j]? = some (some v) := fun j v e => by
        rw [← w8] at e
        obtain ⟨e1, e2⟩ := wipe_some e
        rw [wipe_out fun z => e2 (hus j z)]
        exact e1
      refine thnF (pj.run _ s8 σ8 H8 _ I8 q8) ?_
      intro yv s10 hy
      refine thnF hy ?_
      rintro jv s11 ⟨jt, fq, tm, L, H11, rfl, I11, TL, sq11, fq11, R, ⟨k0, r0⟩, turn1⟩
      have stat1 : ∀ {H' : Hp}, (∀ b ∈ fq, H' b = none) → ∀ b ∈ fq, FpOk (X.blk s3 H3 sc ce fp) ([] ++ pinsAt fp s7.heap) H' b := fun no b hb => And.intro (no b hb) (fq11 b hb).2
      have inner : codeAny (model X.prog X.w) X.A (.compLoop (dc2 kx vx t0 i0 t1 i1 sc pos) 1 (.ref jt) (.ref D) ce) (fun r z => match r with
          | .ok _ => ∃ m, m < n ∧ ∃ i H', Inv (X.blk s3 H3 sc ce fp) [] (wipe σ (own.map (·.2))) H' z ∧ tn i z.heap ∧ (∀ b ∈ fp, H' b = none) ∧ P i m H'
          | .error _ => False) s11 := by
        refine loop_in (fun k z => ∃ j H', Inv (X.blk s3 H3 sc ce fp) ([] ++ pinsAt fp s7.heap) (wipe σ8 us) H' z ∧ tm j z.heap ∧ (∀ b ∈ fq, H' b = none) ∧ R j k H') ?_ k0 ⟨0, H11, I11.weak (wipe_length _ _) (fun j v e => (wipe_some e).1), sq11, fun b hb => (fq11 b hb).1, r0⟩
        rintro k s12 ⟨j, H12, I12, sq12, no12, r12⟩
        rcases turn1 j k H12 r12 with ⟨stop1, nx1⟩ | ⟨go1, O, hO, step1⟩
        · refine thnF (TL.done (X.blk s3 H3 sc ce fp) rfl rfl rfl hc j _ s12 (wipe σ8 us) H12 (fun _ _ => False) I12 (stat1 no12) sq12 stop1) ?_
          rintro r s13 ⟨rfl, I13⟩
          exact fin I13 (l8.trans (wipe_length σ8 us).symm) s8k nx1
        · refine thnF (TL.item (X.blk s3 H3 sc ce fp) rfl rfl rfl hc j _ s12 (wipe σ8 us) H12 (fun _ _ => False) I12 (stat1 no12) sq12 go1) ?_
          rintro r s13 ⟨u1, rfl, h13⟩
          refine thnF h13 ?_
          rintro _ s14 ⟨x1, H14, I14, r14, y14, sq14, no14⟩
          have J14 := I14.pinned (stat1 no14) (TL.obj _ _ sq14)
          refine thnF (ph.run _ s14 (wipe σ8 us) H14 x1 u1 _ J14 r14 (step1 x1 H14 y14)) ?_
          rintro _ s15 ⟨σ15, H15, I15, w15, q15⟩
          refine thnF (pk.run _ s15 σ15 H15 _ I15 q15) ?_
          rintro a1 s16 ⟨yk, H16, I16, r16, q16⟩
          refine thnF (pv.run _ s16 σ15 H16 _ I16 q16) ?_
          rintro a2 s17 ⟨yv, H17, I17, r17, kvs, ky, rfl, hD17, z17, nx⟩
          refine d_dictSet (X := X.blk s3 H3 sc ce fp) I17 hD17 z17 r16 r17 ?_
          intro s18 I18
          obtain ⟨k', hk', r'⟩ := hO _ nx
          have held : ∀ b ∈ fq, ∀ o, s14.heap.get? b = some o → s18.heap.get? b = some o ∧ (upd H17 D (.dK (putK kvs ky yv))) b = none := fun b hb o e => by
            have y := I18.pin (b, o) (List.mem_append_right _ (List.mem_append_right _ (mem_pinsAt hb e)))
            exact ⟨y.1, y.2.1⟩
          refine ⟨k', hk', j + 1, _, I18.unpinned.weak (by rw [← w15, wipe_length]) (fun j v e => by rw [← w15] at e; exact (wipe_some e).1), TL.keep _ _ _ sq14 fun b hb o e => (held b hb o e).1, fun b hb => ?_, r'⟩
          obtain ⟨o, e, _⟩ := TL.obj _ _ sq14 b hb
          exact (held b hb o e).2
      exact start_in inner (TL.self X.A 0 _ _ _ sq11 inner)
  exact codeAny_compStart_dict loop (T.self X.A 0 _ _ _ st4 loop)
theorem pe_dc2 (hc : X.calm = true) (hN : X.N.Nodup) (hi : PI X t0 i0 wi) (ok : BlkOk X.N X.env.scope sc own) (hus : ∀ i ∈ us, i ∈ own.map (·.2))
    (hg : ∀ (s : Shared) (H : Hp) (C : Addr) (cs : List (Str × Addr)) (fp : List Addr), PG (X.blk s H sc (compEnvC sc cs C X.env) fp) t0 g)
    (hj : ∀ (s : Shared) (H : Hp) (C : Addr) (cs : List (Str × Addr)) (fp : List Addr), PI (X.blk s H sc (compEnvC sc cs C X.env) fp) t1 i1 wj)
    (hh : ∀ (s : Shared) (H : Hp) (C : Addr) (cs : List (Str × Addr)) (fp : List Addr), PG (X.blk s H sc (compEnvC sc cs C X.env) fp) t1 h)
    (hk : ∀ (s : Shared) (H : Hp) (C : Addr) (cs : List (Str × Addr)) (fp : List Addr), PE (X.blk s H sc (compEnvC sc cs C X.env) fp) kx tk)
    (hv : ∀ (s : Shared) (H : Hp) (C : Addr) (cs : List (Str × Addr)) (fp : List Addr), PE (X.blk s H sc (compEnvC sc cs C X.env) fp) vx tv)
    (f0 : ∀ x, foldedSetIterable i0 X.env x = pure x) (f1 : ∀ env x, foldedSetIterable i1 env x = pure x) :
    PE X (dc2 kx vx t0 i0 t1 i1 sc pos) (tDc2 wi g wj h tk tv (own.map (·.2)) us) := by
  constructor
  intro pins s σ H Q I hq
  rw [arm_eval_DictComp]
  refine dc2_core I hq ?_ hc hN hi ok hus hg hj hh hk hv f0 f1
  intro D C z m H' I' q hn f
  refine ⟨m, hn, fun h'' sb => ?_⟩
  obtain ⟨f0, f1, f2, f3, f4, f5⟩ := f
  exact ⟨.ref D, H', I'.turned (t' := z.toks) (fun b o hb e => (sb.2 b hb).trans e) f0 f1 f3 f4 f5, rfl, q⟩
/-- name = {..}, the name a local: the dict is sealed ahead of the store -/
theorem ps_setDc2 {i : Nat} {y : Str} {py spos : Pos} (hy : X.N[i]? = some y) (hyl : X.env.scope.names.lookup y = some .local)
    (hsw : swapsWith (dc2 kx vx t0 i0 t1 i1 sc pos) (some (.Name y py)) spos.line X.env = pure true) (hc : X.calm = true) (hN : X.N.Nodup) (hi : PI X t0 i0 wi) (ok : BlkOk X.N X.env.scope sc own) (hus : ∀ i ∈ us, i ∈ own.map (·.2))
    (hg : ∀ (s : Shared) (H : Hp) (C : Addr) (cs : List (Str × Addr)) (fp : List Addr), PG (X.blk s H sc (compEnvC sc cs C X.env) fp) t0 g)
    (hj : ∀ (s : Shared) (H : Hp) (C : Addr) (cs : List (Str × Addr)) (fp : List Addr), PI (X.blk s H sc (compEnvC sc cs C X.env) fp) t1 i1 wj)
    (hh : ∀ (s : Shared) (H : Hp) (C : Addr) (cs : List (Str × Addr)) (fp : List Addr), PG (X.blk s H sc (compEnvC sc cs C X.env) fp) t1 h)
    (hk : ∀ (s : Shared) (H : Hp) (C : Addr) (cs : List (Str × Addr)) (fp : List Addr), PE (X.blk s H sc (compEnvC sc cs C X.env) fp) kx tk)
    (hv : ∀ (s : Shared) (H : Hp) (C : Addr) (cs : List (Str × Addr)) (fp : List Addr), PE (X.blk s H sc (compEnvC sc cs C X.env) fp) vx tv)
    (f0 : ∀ x, foldedSetIterable i0 X.env x = pure x) (f1 : ∀ env x, foldedSetIterable i1 env x = pure x) :
    PS X (.Assign [.Name y py] (dc2 kx vx t0 i0 t1 i1 sc pos) spos) (fun D σ H => tDc2 wi g wj h tk tv (own.map (·.2)) us σ H fun v H1 => ∃ d u, H1 d = some u ∧ Mut (some u) ∧ ∀ od, gName i v σ (upd H1 d (.frz od u)) D.nx) := by
  constructor
  intro pins s σ H D I hq
  rw [exec_Assign_Name_used _ _ _ _ hsw]
  apply wpAny_bind
  apply wpAny_standAt
  apply wpAny_bind
  show wpAny _ X.A (do let _ ← comprehension (dc2 kx vx t0 i0 t1 i1 sc pos) sc X.env (firstIterPos [⟨t0, i0, [], 0⟩, ⟨t1, i1, [], 0⟩] pos) newDict false (eval i0 X.env) (some (assign (.Name y py) X.env))) _ _ s
  apply wpAny_bind
  refine thn (dc2_core (Qf := fun _ z => SP X pins D .next z) I hq ?_ hc hN hi ok hus hg hj hh hk hv f0 f1) fun _ z q => wpAny_pure (wpAny_pure q)
  rintro L C z m H' I' ⟨d, u, hd, mu, q⟩ hn f
  obtain ⟨od, I2⟩ := I'.lock hd mu
  show wpAny _ _ (assign (.Name y py) X.env (.ref L)) _ _ _
  apply wpAny_assign_Name
  refine store_ok2 (v := V.ref L) I2 hN hy (.inl hyl) rfl ?_ (.inr hyl)
  rintro z2 I3 ⟨a, sb, ha⟩
  obtain ⟨f0, f1, f2, f3, f4, f5⟩ := f
  have ne : C ≠ a := by
    rcases ha with e | e
    · rw [e]
      exact f1
    · exact fun e' => f4 y a e e'.symm
  refine ⟨m, hn.sameBut sb ne, fun h3 sb3 => ?_⟩
  have hCd : (upd H' d (.frz od u)) C = none := by
    rw [upd_ne (fun e => by rw [e, hd] at f0; cases f0)]
    exact f0
  exact ⟨_, upd H' d (.frz od u), I3.turned (t' := z2.toks) (fun b o hb e => (sb3.2 b hb).trans e) hCd f1 f3 f4 f5, q od⟩
end
end Fn

set_option maxRecDepth 100000
set_option maxHeartbeats 8000000
namespace Fn
open PySem PySem.Spec PyProof.Rows L2

/-! ### .. as a function of the variables -/
def dc2Go (vs us : List Nat) (t0 : Tg) (src1 : M (List D)) (t1 : Tg) (kx vx : M D) : List D → List Key → List D → M (List Key × List D)
  | [], ks, xs => M.ret (ks, xs)
  | d :: ds, ks, xs => fun ρ => match t0.set d ρ with
    | none => none
    | some ρ1 => match src1 ρ1 with
      | some (.ok es, ρ2) => match dcGo us t1 mYes kx vx es ks xs (wipeE ρ2 us) with
        | some (.ok (ks2, xs2), ρ3) => dc2Go vs us t0 src1 t1 kx vx ds ks2 xs2 (wipeE ρ3 vs)
        | _ => none
      | _ => none
def eDComp2 (vs us : List Nat) (t0 : Tg) (src : M (List D)) (t1 : Tg) (src1 : M (List D)) (kx vx : M D) : M D := M.bind src fun ds ρ => match dc2Go vs us t0 src1 t1 kx vx ds [] [] (wipeE ρ vs) with
  | some (.ok (ks, xs), ρ') => if ρ'.length = ρ.length then some (.ok (.rk ks xs), restE ρ ρ' vs) else none
  | _ => none
section
variable {cl : Nms} {X : Cx} {W : WX}
theorem dcomp2_core {K : PySem.W.Frag} {P0 : Program} {w0 : World} {G H : Hp} {σ : L2.St} {ρ : En} {Q : VK} {vs us : List Nat} {t t1 : Tg} {src src1 : M (List D)} {km vm : M D} (k : Ok ⟨K, cl, P0, w0⟩ G H σ ρ) (a : At rD ⟨K, cl, P0, w0⟩ W (eDComp2 vs us t src t1 src1 km vm) G ρ σ H Q) (hsl : ∀ i ∈ t.sl, i ∈ vs) (hsl1 : ∀ i ∈ t1.sl, i ∈ us) (huv : ∀ i ∈ us, i ∈ vs) :
    tDc2 (tX rI ⟨K, cl, P0, w0⟩ W src) (TgOk K t) (tX rI ⟨K, cl, P0, w0⟩ W0 src1) (TgOk K t1) (tX rD ⟨K, cl, P0, w0⟩ W0 km) (tX rD ⟨K, cl, P0, w0⟩ W0 vm) vs us σ H fun v H1 => ∃ d u, H1 d = some u ∧ Mut (some u) ∧ ∀ od, Q v (upd H1 d (.frz od u)) := by
  refine at_tX k (At.bind (Ra := rI) rD_back a fun ds ρ1 J G1 H1 n1 k1 hsrc a1 => fun D hD => ?_)
  obtain ⟨r, ρ', e, oo⟩ := a1
  dsimp only at e
  split at e
  case h_2 => cases e
  rename_i fks fxs ρ2 hgo
  split at e
  case isFalse => cases e
  rename_i hlen
  cases e
  obtain ⟨kw, up⟩ := k1.wipe (vs := vs)
  let St : Nat → Hp → Prop := fun i H' => ∃ G' ρi ks acc kvs, dc2Go vs us t src1 t1 km vm (ds.drop i) ks acc ρi = some (.ok (fks, fxs), ρ2) ∧ Nx G1 H1 (Owns (wipe σ vs) (wipeE ρ1 vs)) G' H' (Owns (wipe σ vs) ρi) ∧ Ok ⟨K, cl, P0, w0⟩ G' H' (wipe σ vs) ρi ∧
    (∀ j : Nat, j ∉ vs → kd ρi[j]? = kd ρ1[j]?) ∧ H' D = some (.dK kvs) ∧ G' D = none ∧ kvs.map (·.1) = ks ∧ RepL ⟨K, cl, P0, w0⟩ G' acc (kvs.map (·.2)) ∧ ¬ Owns (wipe σ vs) ρi D
  refine ⟨fun i m H' => m = ds.length - i ∧ i ≤ ds.length ∧ St i H', ⟨_, rfl, Nat.zero_le _, ?_⟩, ?_⟩
  · obtain ⟨n, k', gD, nD⟩ := new_own (o := .dK []) hD kw
    exact ⟨G1, wipeE ρ1 vs, [], [], [], hgo, n.toNx, k', fun j hj => by rw [wipeE_off hj], upd_same, gD, rfl, rfl, nD⟩
  rintro i m H' ⟨rfl, hi', G', ρi, ks, acc, kvs, hgo', n', k', kk, dD, gD, eK, rD', nD⟩
  by_cases hlt : i < ds.length
  · refine .inr ?_
    obtain ⟨hgo1, hyl⟩ := (hsrc G' H' n'.g k'.sub).1 i ds[i] (by simp [hlt])
    refine ⟨hgo1, St (i + 1), fun H'' st => ⟨_, by omega, rfl, hlt, st⟩, fun x H2 hy => ?_⟩
    obtain ⟨G2, x1, x2, x3, x4, x5⟩ := hyl x H2 hy
    obtain ⟨n2, k2⟩ := grow_ok k' x1 x2 x3 x4
    have dD2 : H2 D = some (.dK kvs) := x2 _ _ dD
    have none_of : ∀ {Ga Gb Ha : Hp} {u : HO}, Ga D = none → (∀ a, Ga a = none → Gb a ≠ none → Ha a = none) → Ha D = some u → Gb D = none := fun {Ga Gb Ha u} g1 g2 g3 => by
      cases q : Gb D with
      | none => rfl
      | some w =>
        have z := g2 D g1 (by rw [q]; simp)
        rw [g3] at z
        cases z
    have gD2 : G2 D = none := none_of gD x4 dD
    rw [List.drop_eq_getElem_cons hlt] at hgo'
    unfold dc2Go at hgo'
    split at hgo'
    case h_1 => cases hgo'
    rename_i ρa hset
    obtain ⟨σ', k3, f3, o3, q3⟩ := tg_ok k2 x5 hset
    refine q3 _ ?_
    have hw : wipe σ' vs = wipe σ vs := (wipe_same f3.1 fun j hj => (f3.2 j fun z => hj (hsl j z)).1).trans wipe_idem
    refine ⟨hw, ?_⟩
    have nD3 : ¬ Owns σ' ρa D := fun z => nD (o3 D z)
    have l3 : RepO ⟨K, cl, P0, w0⟩ G2 H2 (.dk ks acc) (.ref D) := ⟨D, kvs, rfl, dD2, gD2, eK, RepL.mono x1 _ _ rD'⟩
    have stay : ∀ {τ : L2.St} {Ga Ha Gb Hb : Hp} {ρx ρy : En} {js : List Key} {as : List Fn.D}, RepO ⟨K, cl, P0, w0⟩ Ga Ha (.dk js as) (.ref D) → ¬ Owns τ ρx D → Nk Ga Ha τ ρx Gb Hb ρy → RepO ⟨K, cl, P0, w0⟩ Gb Hb (.dk js as) (.ref D) ∧ ¬ Owns τ ρy D := fun {τ Ga Ha Gb Hb ρx ρy js as} l no n => by
      refine ⟨l.keep n.toNx fun _ a ea => by
        cases ea
        exact no, fun z => ?_⟩
      rcases n.own D z with q | q
      · exact no q
      · obtain ⟨_, _, ea, h, _⟩ := l
        cases ea
        rw [h] at q
        cases q
    split at hgo'
    case h_2 => cases hgo'
    rename_i es ρb hes
    split at hgo'
    case h_2 => cases hgo'
    rename_i ks2 xs2 ρc hin
    refine ⟨G2, ρa, k3, _, _, hes, fun L G3 H3 n3 k3' hsrc1 => ?_⟩
    obtain ⟨l4, nD4⟩ := stay l3 nD3 n3
    obtain ⟨_, kvs4, ea, dD4, gD4, eK4, rL4⟩ := l4
    cases ea
    obtain ⟨kz, upz⟩ := k3'.wipe (vs := us)
    let St1 : Nat → Hp → Prop := fun j H' => ∃ G' ρj js as kvj, dcGo us t1 mYes km vm (es.drop j) js as ρj = some (.ok (ks2, xs2), ρc) ∧ Ex G3 G' ∧ Nx G1 H1 (Owns (wipe σ vs) (wipeE ρ1 vs)) G' H' (Owns (wipe σ' us) ρj) ∧ Ok ⟨K, cl, P0, w0⟩ G' H' (wipe σ' us) ρj ∧
      (∀ i : Nat, i ∉ us → kd ρj[i]? = kd ρb[i]?) ∧ H' D = some (.dK kvj) ∧ G' D = none ∧ kvj.map (·.1) = js ∧ RepL ⟨K, cl, P0, w0⟩ G' as (kvj.map (·.2)) ∧ ¬ Owns (wipe σ' us) ρj D
    refine ⟨fun j m H' => m = es.length - j ∧ j ≤ es.length ∧ St1 j H', ⟨_, rfl, Nat.zero_le _, G3, wipeE ρb us, ks, acc, kvs4, hin, Ex.refl _, n'.trans (n2.toNx.trans ((Nx.less o3).trans (n3.toNx.trans (Nx.less upz)))), kz, fun j hj => by rw [wipeE_off hj], dD4, gD4, eK4, rL4, fun z => nD4 (upz D z)⟩, ?_⟩
    rintro j m H4 ⟨rfl, hj', G4, ρj, js, as, kvj, hgo4, e4, n4, k4, kk4, dD5, gD5, eK5, rL5, nD5⟩
    by_cases hlt1 : j < es.length
    · refine .inr ?_
      obtain ⟨hgo5, hyl5⟩ := (hsrc1 G4 H4 e4 k4.sub).1 j es[j] (by simp [hlt1])
      refine ⟨hgo5, St1 (j + 1), fun H'' st => ⟨_, by omega, rfl, hlt1, st⟩, fun x H6 hy6 => ?_⟩
      obtain ⟨G6, y1, y2, y3, y4, y5⟩ := hyl5 x H6 hy6
      obtain ⟨n6, k6⟩ := grow_ok k4 y1 y2 y3 y4
      have dD6 : H6 D = some (.dK kvj) := y2 _ _ dD5
      have gD6 : G6 D = none := none_of gD5 y4 dD5
      rw [List.drop_eq_getElem_cons hlt1] at hgo4
      unfold dcGo at hgo4
      split at hgo4
      case h_1 => cases hgo4
      rename_i ρd hset1
      obtain ⟨τ, k7, f7, o7, q7⟩ := tg_ok k6 y5 hset1
      refine q7 _ ?_
      have hw1 : wipe τ us = wipe σ' us := (wipe_same f7.1 fun j hj => (f7.2 j fun z => hj (hsl1 j z)).1).trans wipe_idem
      refine ⟨hw1, ?_⟩
      have nD7 : ¬ Owns τ ρd D := fun z => nD5 (o7 D z)
      have l7 : RepO ⟨K, cl, P0, w0⟩ G6 H6 (.dk js as) (.ref D) := ⟨D, kvj, rfl, dD6, gD6, eK5, RepL.mono y1 _ _ rL5⟩
      have hyes : mYes ρd = some (.ok true, ρd) := rfl
      rw [hyes] at hgo4
      dsimp only at hgo4
      split at hgo4
      case h_2 => cases hgo4
      rename_i y ρe hy2
      split at hgo4
      case h_2 => cases hgo4
      rename_i z ρf hz2
      split at hgo4
      case h_2 => cases hgo4
      rename_i ky hky
      by_cases hal : hasK js ky = false ∧ js.length < lim
      · rw [if_pos hal] at hgo4
        refine ⟨G6, ρd, k7, _, _, hy2, fun v G8 H8 n8 k8 rv => ?_⟩
        obtain ⟨l8, nD8⟩ := stay l7 nD7 n8
        refine ⟨G8, ρe, k8, _, _, hz2, fun u G9 H9 n9 k9 ru => ?_⟩
        obtain ⟨l9, nD9⟩ := stay l8 nD8 n9
        obtain ⟨_, kv9, ea, dD9, gD9, eK9, rL9⟩ := l9
        cases ea
        have hk9 : kv9.length = js.length := by rw [← eK9, List.length_map]
        obtain rfl := asKey_rep1 hky rv
        refine ⟨kv9, ky, rfl, dD9, lim_lt (by rw [hk9]; exact hal.2), ?_⟩
        obtain ⟨kq, upq⟩ := k9.wipe (vs := us)
        rw [hw1] at kq upq
        have nn : Nx G1 H1 (Owns (wipe σ vs) (wipeE ρ1 vs)) G9 H9 (Owns (wipe σ' us) (wipeE ρf us)) := n4.trans (n6.toNx.trans ((Nx.less o7).trans (n8.toNx.trans (n9.toNx.trans (Nx.less upq)))))
        rw [putK_app (by rw [eK9]; exact hal.1)]
        have ok9 := tmp_ok (o := .dK (kv9 ++ [(ky, u)])) kq gD9 dD9 fun z => nD9 (upq D z)
        refine ⟨G9, wipeE ρf us, js ++ [ky], as ++ [z], kv9 ++ [(ky, u)], hgo4, Ex.trans e4 (Ex.trans n6.g (Ex.trans n8.g n9.g)), nn.tmp hD dD9, ok9, fun i hi => ?_, upd_same, gD9, by rw [List.map_append, eK9]; rfl, by rw [List.map_append]; exact rL9.append ⟨u, [], rfl, ru, rfl⟩, fun z => nD9 (upq D z)⟩
        rw [wipeE_off hi, n9.kp i, n8.kp i, (f7.2 i fun z => hi (hsl1 i z)).2]
        exact kk4 i hi
      · rw [if_neg hal] at hgo4
        split at hgo4
        case isFalse => cases hgo4
        rename_i hal2
        refine ⟨G6, ρd, k7, _, _, hy2, fun v G8 H8 n8 k8 rv => ?_⟩
        obtain ⟨l8, nD8⟩ := stay l7 nD7 n8
        refine ⟨G8, ρe, k8, _, _, hz2, fun u G9 H9 n9 k9 ru => ?_⟩
        obtain ⟨l9, nD9⟩ := stay l8 nD8 n9
        obtain ⟨_, kv9, ea, dD9, gD9, eK9, rL9⟩ := l9
        cases ea
        have hk9 : kv9.length = js.length := by rw [← eK9, List.length_map]
        obtain rfl := asKey_rep1 hky rv
        refine ⟨kv9, ky, rfl, dD9, lim_lt (by rw [hk9]; exact hal2.2.1), ?_⟩
        obtain ⟨kq, upq⟩ := k9.wipe (vs := us)
        rw [hw1] at kq upq
        have nn : Nx G1 H1 (Owns (wipe σ vs) (wipeE ρ1 vs)) G9 H9 (Owns (wipe σ' us) (wipeE ρf us)) := n4.trans (n6.toNx.trans ((Nx.less o7).trans (n8.toNx.trans (n9.toNx.trans (Nx.less upq)))))
        have hmem : ky ∈ kv9.map (·.1) := by rw [eK9]; exact hasK_mem hal2.1
        have hnd : (kv9.map (·.1)).Nodup := by rw [eK9]; exact hal2.2.2
        have ok9 := tmp_ok (o := .dK (putK kv9 ky u)) kq gD9 dD9 fun z => nD9 (upq D z)
        refine ⟨G9, wipeE ρf us, js, dPut js as ky z, putK kv9 ky u, hgo4, Ex.trans e4 (Ex.trans n6.g (Ex.trans n8.g n9.g)), nn.tmp hD dD9, ok9, fun i hi => ?_, upd_same, gD9, (putK_keys hmem).trans eK9, by rw [← eK9]; exact putK_rep ru rL9 hmem hnd, fun z => nD9 (upq D z)⟩
        rw [wipeE_off hi, n9.kp i, n8.kp i, (f7.2 i fun z => hi (hsl1 i z)).2]
        exact kk4 i hi
    · refine .inl ?_
      have e : j = es.length := by omega
      subst e
      refine ⟨(hsrc1 G4 H4 e4 k4.sub).2, ?_⟩
      rw [List.drop_length] at hgo4
      cases hgo4
      obtain ⟨kq, upq⟩ := k4.wipe (vs := vs)
      have hw2 : wipe (wipe σ' us) vs = wipe σ vs := (wipe_same (wipe_length ..) fun j hj => wipe_off fun z => hj (huv j z)).trans hw
      rw [hw2] at kq upq
      have nn : Nx G1 H1 (Owns (wipe σ vs) (wipeE ρ1 vs)) G4 H4 (Owns (wipe σ vs) (wipeE ρc vs)) := n4.trans (Nx.less upq)
      refine ⟨G4, wipeE ρc vs, ks2, xs2, kvj, hgo', nn, kq, fun i hi => ?_, dD5, gD5, eK5, rL5, fun z => nD5 (upq D z)⟩
      rw [wipeE_off hi, kk4 i (fun z => hi (huv i z)), n3.kp i, (f3.2 i fun z => hi (hsl i z)).2]
      exact kk i hi
  · refine .inl ?_
    have e : i = ds.length := by omega
    subst e
    refine ⟨(hsrc G' H' n'.g k'.sub).2, D, _, dD, trivial, fun od => ?_⟩
    rw [List.drop_length] at hgo'
    cases hgo'
    obtain ⟨n9, k9⟩ := k1.unwipe k' n' kk hlen
    have no9 : ¬ Owns σ (restE ρ1 ρ2 vs) D := fun z => by
      obtain ⟨j, o, h1, h2, h3⟩ := z
      by_cases hj : j ∈ vs
      · rw [restE_on hlen hj] at h1
        obtain ⟨b, u, e1, e2, _⟩ := (k1.at_ h1 h3).there h2
        cases e1
        rw [hD] at e2
        cases e2
      · rw [restE_off hj] at h1
        exact nD ⟨j, o, h1, h2, by rw [wipe_off hj]; exact h3⟩
    exact oo (.ref D) (upd G' D (.frz od (.dK kvs))) (upd H' D (.frz od (.dK kvs))) (seal_nk n9 gD dD hD) (seal_ok k9 gD dD no9) ⟨D, od, kvs, rfl, upd_same, eK, RepL.mono (fun b u e => by
      rw [upd_ne (ne_of_none e gD)]
      exact e) _ _ rD'⟩
theorem ed_dcomp2 {kx vx tg iter tg1 iter1 : Expr} {scope : Scope} {own : List (Str × Nat)} {us : List Nat} {pos : Pos} {t t1 : Tg} {src src1 : M (List D)} {km vm : M D} (hc : X.calm = true) (hN : X.N.Nodup) (hi : EI cl X W tg iter src) (ok : BlkOk X.N X.env.scope scope own)
    (hg : ∀ (s : Shared) (H : Hp) (C : Addr) (cs : List (Str × Addr)) (fp : List Addr), PG (X.blk s H scope (compEnvC scope cs C X.env) fp) tg (TgOk X.K t))
    (hj : ∀ (s : Shared) (H : Hp) (C : Addr) (cs : List (Str × Addr)) (fp : List Addr), EI cl (X.blk s H scope (compEnvC scope cs C X.env) fp) W0 tg1 iter1 src1)
    (hh : ∀ (s : Shared) (H : Hp) (C : Addr) (cs : List (Str × Addr)) (fp : List Addr), PG (X.blk s H scope (compEnvC scope cs C X.env) fp) tg1 (TgOk X.K t1))
    (hk : ∀ (s : Shared) (H : Hp) (C : Addr) (cs : List (Str × Addr)) (fp : List Addr), ED cl (X.blk s H scope (compEnvC scope cs C X.env) fp) W0 kx km)
    (he : ∀ (s : Shared) (H : Hp) (C : Addr) (cs : List (Str × Addr)) (fp : List Addr), ED cl (X.blk s H scope (compEnvC scope cs C X.env) fp) W0 vx vm)
    (hsl : ∀ i ∈ t.sl, i ∈ own.map (·.2)) (hsl1 : ∀ i ∈ t1.sl, i ∈ us) (huv : ∀ i ∈ us, i ∈ own.map (·.2)) (hs : ∀ x, foldedSetIterable iter X.env x = pure x := by intro _; rfl) (hs1 : ∀ env x, foldedSetIterable iter1 env x = pure x := by intro _ _; rfl) :
    ED cl X W (.DictComp kx vx [⟨tg, iter, [], 0⟩, ⟨tg1, iter1, [], 0⟩] scope pos) (eDComp2 (own.map (·.2)) us t src t1 src1 km vm) := by
  have base : PE X (.DictComp kx vx [⟨tg, iter, [], 0⟩, ⟨tg1, iter1, [], 0⟩] scope pos) (tDc2 (tX rI (csX X cl) W src) (TgOk X.K t) (tX rI (csX X cl) W0 src1) (TgOk X.K t1) (tX rD (csX X cl) W0 km) (tX rD (csX X cl) W0 vm) (own.map (·.2)) us) :=
    pe_dc2 hc hN hi ok huv hg (fun s H C cs fp => hj s H C cs fp) hh (fun s H C cs fp => hk s H C cs fp) (fun s H C cs fp => he s H C cs fp) hs hs1
  generalize own.map (·.2) = vs at base hsl huv ⊢
  exact EX.by (pe_seal base) fun G ρ σ H Q k a => dcomp2_core k a hsl hsl1 huv
end
end Fn

set_option maxRecDepth 100000
set_option maxHeartbeats 4000000
namespace Fn
open PySem PySem.Spec PyProof.Rows L2

/-! ### a sealed dict walked by its keys -/
def keyD : Key → D
  | .inl i => .int i
  | .inr x => .str x
def iKeyM (m : M D) : M (List D) := M.bind m fun d => match d with
  | .rk ks _ => M.ret (ks.map keyD)
  | _ => M.stuck
section
variable {T : Cs} {G H : Hp} {cl : Nms} {X : Cx} {W : WX} {tg e : Expr}
theorem keyD_rep (k : Key) : Rep T G (keyD k) (kV k) := by
  cases k <;> rfl
theorem src_keys {a : Addr} {o : Obj} {kvs : List (Key × V)} (h : G a = some (.frz o (.dK kvs))) : Src T (Itk a o kvs) ((kvs.map (·.1)).map keyD) G H := fun G' H' e1 e2 => by
  have q : H' a = some (.frz o (.dK kvs)) := e2 _ _ (e1 _ _ h)
  refine ⟨fun i d hd => ?_, ⟨q, by rw [List.length_map, List.length_map]; exact Nat.le_refl _⟩⟩
  rw [List.map_map, List.getElem?_map] at hd
  cases z : kvs[i]? with
  | none =>
    rw [z] at hd
    cases hd
  | some p =>
    rw [z] at hd
    cases hd
    refine ⟨⟨q, (List.getElem?_eq_some_iff.mp z).1⟩, fun x H2 y => ?_⟩
    obtain ⟨rfl, k, v, h1, rfl⟩ := y
    rw [z] at h1
    cases h1
    exact ⟨G', Ex.refl _, Ex.refl _, e2, fun a h h' => absurd h h', keyD_rep _⟩
theorem ei_keys {m : M D} (h : ED cl X W e m) : EI cl X W tg e (iKeyM m) := EI.by (pi_keys h) fun G ρ σ H Q k x => at_tX k (At.bind (Ra := rD) rI_back x fun d ρ1 v G1 H1 n1 k1 r1 a1 => by
  cases d with
  | rk ks ds =>
    obtain ⟨a, o, kvs, rfl, h1, rfl, h2⟩ := r1
    exact ⟨a, o, rfl, .inl ⟨kvs, k1.sub _ _ h1, a1.ret k1 (src_keys h1)⟩⟩
  | _ =>
    obtain ⟨r, ρ', e, _⟩ := a1
    cases e)
/-- a list, a tuple, a text, a sealed dict -/
def seqE : D → Option (List D)
  | .lst ds => some ds
  | .ro ds => some ds
  | .tup ds => some ds
  | .str z => some (letters z)
  | .rk ks _ => some (ks.map keyD)
  | _ => none
def iAll (m : M D) : M (List D) := M.bind m fun d => M.lift (seqE d)
theorem ei_all {m : M D} (h : ED cl X W e m) : EI cl X W tg e (iAll m) := EI.by (PI.or (ei_any (W := W) h) (ei_keys (W := W) h)) fun G ρ σ H Q k x => by
  obtain ⟨r, ρ', e, o⟩ := id x
  have to : ∀ {m' : M (List D)}, iAll m ρ = m' ρ → tX rI (csX X cl) W m' σ H Q := fun {m'} q => ⟨G, ρ, k, r, ρ', by rw [← q]; exact e, o⟩
  rcases At.look x with ⟨d, ρ1, r1, ρ2, e1, e2⟩ | ⟨c, ns, vs, ρ1, e1⟩
  · have st : ∀ {q : D}, seqE q = none → d = q → False := fun {q} z w => by
      rw [w, z] at e2
      cases e2
    cases d with
    | lst ds => exact .inl (to (bind_same e1 rfl))
    | ro ds => exact .inl (to (bind_same e1 rfl))
    | tup ds => exact .inl (to (bind_same e1 rfl))
    | str z => exact .inl (to (bind_same e1 rfl))
    | rk ks ds => exact .inr (to (bind_same e1 rfl))
    | _ => exact (st rfl rfl).elim
  · exact .inl (to (bind_er e1))
end
end Fn

set_option maxRecDepth 100000
set_option maxHeartbeats 4000000
namespace Fn
open PySem PySem.Spec PyProof.Rows L2

/-! ### words for what the defs of a class promise -/
/-- the method m of the class c makes F of the object and n - 1 arguments -/
def CalM (T : At0) (k n : Nat) (c m : Str) (F : Fx) : Prop := ∃ C fa fd ps, T.cl.o c = some C ∧ Cls T.K C ∧ Meth T.K C m fa ∧ FnS T.P T.w T.K T.mg T.base (L2.CX T.P T.w) k fa fd ps (spF ⟨T.K, T.cl, T.P, T.w⟩ n F) ∧ Binds T.K fd ps []
def CalP (T : At0) (k : Nat) (c f : Str) (F : Fx) : Prop := ∃ C p fa fd ps, T.cl.o c = some C ∧ Cls T.K C ∧ PropOf T.K C f p fa ∧ FnS T.P T.w T.K T.mg T.base (L2.CX T.P T.w) k fa fd ps (spF ⟨T.K, T.cl, T.P, T.w⟩ 1 F) ∧ Binds T.K fd ps []
/-- c is a class whose __init__ makes F of the new object and n arguments -/
def CalN (T : At0) (k n : Nat) (c : Str) (F : Fx) : Prop := ∃ C fa fd ps, T.cl.o c = some C ∧ Mk T.K C fa ∧ T.mg c = some (.ref C) ∧ FnS T.P T.w T.K T.mg T.base (L2.CX T.P T.w) k fa fd ps (spF ⟨T.K, T.cl, T.P, T.w⟩ (n + 1) F) ∧ Binds T.K fd ps []
section
variable {cl : Nms} {X : Cx} {W : WX} {k n : Nat} {x : Str} {p pos apos q : Pos} {o e : Expr} {es : List Expr} {as : M (List Rf)} {F : Fx} {mo : M Rf} {c f m : Str} {ml : M (List D)}
theorem c_meth {pl : Sem Bool} (G : CalM (atX cl X) k (n + 1) c m F) (hx : WThru X (L2.CX X.prog X.w) W) (hgd : X.A.guards = some []) (hr : Room k X.A) (ho : ER cl X W o mo) (ha : EA cl X W (e :: es) as) (hn : ALen n as)
    (hst : starEach (e :: es) X.env = (false, eval e X.env) :: starEach es X.env := by rfl) (hpl : (backTo pos (starEach es X.env)).any (·.1) = false := by rfl)
    (ht : eval (.Call (.Attribute o m apos) (e :: es) [] pos) X.env = (do
      let ov ← eval o X.env
      standAt apos.atName
      let (f, first) ← holding [ov] (getMethod ov m pl)
      callWith pos f first (backTo pos (starEach (e :: es) X.env)) (backToKw pos (keywordEach [] X.env))) := by rfl) :
    EO cl X W (.Call (.Attribute o m apos) (e :: es) [] pos) (eMeth c m F mo as) := by
  obtain ⟨C, fa, fd, ps, h1, h2, h3, h4, h5⟩ := G
  exact eo_meth h1 h2 h3 h4 hx hgd hr h5 ho ha hn hst hpl ht
theorem c_meth0 {pl : Sem Bool} (G : CalM (atX cl X) k 1 c m F) (hx : WThru X (L2.CX X.prog X.w) W) (hgd : X.A.guards = some []) (hr : Room k X.A) (ho : ER cl X W o mo)
    (ht : eval (.Call (.Attribute o m apos) [] [] pos) X.env = (do
      let ov ← eval o X.env
      standAt apos.atName
      let (f, first) ← holding [ov] (getMethod ov m pl)
      callWith pos f first (backTo pos (starEach [] X.env)) (backToKw pos (keywordEach [] X.env))) := by rfl) :
    EO cl X W (.Call (.Attribute o m apos) [] [] pos) (eMeth c m F mo aNil) := by
  obtain ⟨C, fa, fd, ps, h1, h2, h3, h4, h5⟩ := G
  exact eo_meth0 h1 h2 h3 h4 hx hgd hr h5 ho ht
theorem c_prop (G : CalP (atX cl X) k c f F) (hgd : X.A.guards = some []) (hr : Room (k + 1) X.A) (ho : ER cl X W o mo) (hab : attributeBase o f X.env (eval o X.env) = eval o X.env := by rfl) : EO cl X W (.Attribute o f pos) (eProp c F mo) := by
  obtain ⟨C, p, fa, fd, ps, h1, h2, h3, h4, h5⟩ := G
  exact eo_prop h1 h2 h3 h4 pass_no hgd hr h5 ho hab
theorem c_new (G : CalN (atX cl X) k n c F) (hx : WThru X (L2.CX X.prog X.w) W) (hgd : X.A.guards = some []) (hr : Room (k + 1) X.A) (hg : Gl X c) (ha : EA cl X W (e :: es) as) (hn : ALen n as) (hdb : (c == ("__debug__" : Str)) = false := by decide)
    (he : starEach (e :: es) X.env = (false, eval e X.env) :: starEach es X.env := by rfl) (hpl : (backTo pos (starEach es X.env)).any (·.1) = false := by rfl) : EO cl X W (.Call (.Name c p) (e :: es) [] pos) (eNew c F as) := by
  obtain ⟨C, fa, fd, ps, h1, h2, h3, h4, h5⟩ := G
  exact eo_new h4 h2 h1 hx hgd hr hg h3 h5 ha hn hdb he hpl
/-! words for the built-ins -/
theorem bt_tuple : bootBuiltins "tuple" = some (.type "tuple") := by decide +kernel
theorem bt_list : bootBuiltins "list" = some (.type "list") := by decide +kernel
theorem bt_set : bootBuiltins "set" = some (.type "set") := by decide +kernel
theorem bt_sum : bootBuiltins "sum" = some (.builtin "sum") := by decide +kernel
theorem bt_all : bootBuiltins "all" = some (.builtin "all") := by decide +kernel
theorem bt_any : bootBuiltins "any" = some (.builtin "any") := by decide +kernel
theorem bt_sorted : bootBuiltins "sorted" = some (.builtin "sorted") := by decide +kernel
theorem c_tuple (hg : Gl X "tuple") (hm : X.mg "tuple" = none) (ha : EA cl X W [e] as) (he : starEach [e] X.env = (false, eval e X.env) :: starEach [] X.env := by rfl) : EO cl X W (.Call (.Name "tuple" p) [e] [] pos) (eFunO fTuple as) := eo_ty call_tuple_of hop_tuple hg hm bt_tuple ha (he := he) (hpl := by rfl)
theorem c_list (hc : X.calm = true) (hg : Gl X "list") (hm : X.mg "list" = none) (ha : EA cl X W [e] as) (he : starEach [e] X.env = (false, eval e X.env) :: starEach [] X.env := by rfl) : EO cl X W (.Call (.Name "list" p) [e] [] pos) (eFunO fList as) := eo_ty (CallR.or call_list_of (call_listD hc)) hop_list hg hm bt_list ha (he := he) (hpl := by rfl)
theorem c_set1 (hc : X.calm = true) (hg : Gl X "set") (hm : X.mg "set" = none) (ha : EA cl X W [e] as) (he : starEach [e] X.env = (false, eval e X.env) :: starEach [] X.env := by rfl) : EO cl X W (.Call (.Name "set" p) [e] [] pos) (eFunO fSet1 as) := eo_ty (call_setT hc) hop_set1 hg hm bt_set ha (he := he) (hpl := by rfl)
theorem c_sum (hc : X.calm = true) (hg : Gl X "sum") (hm : X.mg "sum" = none) (ha : EA cl X W [e] as) (he : starEach [e] X.env = (false, eval e X.env) :: starEach [] X.env := by rfl) : ED cl X W (.Call (.Name "sum" p) [e] [] pos) (eFun fSum as) := ed_blt (cr_sum hc) hop_sum hg hm bt_sum ha (he := he) (hpl := by rfl)
theorem c_all (hc : X.calm = true) (hg : Gl X "all") (hm : X.mg "all" = none) (ha : EA cl X W [e] as) (he : starEach [e] X.env = (false, eval e X.env) :: starEach [] X.env := by rfl) : ED cl X W (.Call (.Name "all" p) [e] [] pos) (eFun fAll as) := ed_blt (cr_all hc) hop_all hg hm bt_all ha (he := he) (hpl := by rfl)
theorem c_any (hc : X.calm = true) (hg : Gl X "any") (hm : X.mg "any" = none) (ha : EA cl X W [e] as) (he : starEach [e] X.env = (false, eval e X.env) :: starEach [] X.env := by rfl) : ED cl X W (.Call (.Name "any" p) [e] [] pos) (eFun fAny as) := ed_blt (cr_any hc) hop_any hg hm bt_any ha (he := he) (hpl := by rfl)
theorem c_lenA (hg : Gl X "len") (hm : X.mg "len" = none) (ha : EA cl X W [e] as) (he : starEach [e] X.env = (false, eval e X.env) :: starEach [] X.env := by rfl) : ED cl X W (.Call (.Name "len" p) [e] [] pos) (eFun fLenA as) := ed_blt (CallR.or call_lenS call_len) hop_lenA hg hm bt_len ha (he := he) (hpl := by rfl)
/-! sorted -/
theorem hop_sorted : HopF rO cl X W fSorted (rSortT (csX X cl)) := fun G H σ ρ ds o vs Q k e q h => by
  unfold fSorted at e
  split at e
  · obtain ⟨es, e1, rfl⟩ := Option.map_eq_some_iff.mp e
    obtain ⟨v, rfl, q1⟩ := q.one
    obtain ⟨a, xs, rfl, h1, h2⟩ := q1.lst k
    exact ⟨a, xs, _, es, rfl, .inl (SqL.of h1), RepL.mono' k.sub h2, e1, fun l ws hr hl => h.newL k (hr G h2) l hl⟩
  · obtain ⟨es, e1, rfl⟩ := Option.map_eq_some_iff.mp e
    obtain ⟨v, rfl, q1⟩ := q.one
    obtain ⟨a, xs, rfl, h1, h2⟩ := q1.ro k
    exact ⟨a, xs, _, es, rfl, .inl h1, RepL.mono' k.sub h2, e1, fun l ws hr hl => h.newL k (hr G h2) l hl⟩
  · obtain ⟨es, e1, rfl⟩ := Option.map_eq_some_iff.mp e
    obtain ⟨v, rfl, q1⟩ := q.one
    obtain ⟨a, xs, rfl, h1, h2, _⟩ := q1.tup k
    exact ⟨a, xs, _, es, rfl, .inr h1, RepL.mono' k.sub h2, e1, fun l ws hr hl => h.newL k (hr G h2) l hl⟩
  · cases e
theorem c_sorted (hk : SysK X.K) (hu : X.A.units + 64 < cLine) (hg : Gl X "sorted") (hm : X.mg "sorted" = none) (ha : EA cl X W [e] as) (he : starEach [e] X.env = (false, eval e X.env) :: starEach [] X.env := by rfl) : EO cl X W (.Call (.Name "sorted" p) [e] [] pos) (eFunO fSorted as) := eo_blt (call_sortT hk hu) hop_sorted hg hm bt_sorted ha (he := he) (hpl := by rfl)
/-! in, not in -/
theorem c_in {a b : Expr} {ma mb : M Rf} (hk : SysK X.K) (hu : X.A.units + 64 < cLine) (ha : ER cl X W a ma) (hb : ER cl X W b mb) (hm : behindInMarks .In b = false := by rfl) : ED cl X W (.Compare a [.In] [b] pos) (eBinD fIn ma mb) := ed_cmp (op_inT hk hu) hop_in hm ha hb
theorem c_nin {a b : Expr} {ma mb : M Rf} (hk : SysK X.K) (hu : X.A.units + 64 < cLine) (ha : ER cl X W a ma) (hb : ER cl X W b mb) (hm : behindInMarks .NotIn b = false := by rfl) : ED cl X W (.Compare a [.NotIn] [b] pos) (eBinD fNin ma mb) := ed_cmp (op_ninT hk hu) hop_nin hm ha hb
theorem t_in {a b : Expr} {ma mb : M Rf} (hk : SysK X.K) (hu : X.A.units + 64 < cLine) (ha : ER cl X W a ma) (hb : ER cl X W b mb) (hm : behindInMarks .In b = false := by rfl) : ET cl X W (.Compare a [.In] [b] pos) (eT (eBinD fIn ma mb)) := et_cmp (op_inT hk hu) hop_in hm ha hb
theorem t_nin {a b : Expr} {ma mb : M Rf} (hk : SysK X.K) (hu : X.A.units + 64 < cLine) (ha : ER cl X W a ma) (hb : ER cl X W b mb) (hm : behindInMarks .NotIn b = false := by rfl) : ET cl X W (.Compare a [.NotIn] [b] pos) (eT (eBinD fNin ma mb)) := et_cmp (op_ninT hk hu) hop_nin hm ha hb
/-- a <= b <= c -/
theorem c_lele {a b d : Expr} {ma mb md : M Rf} (ha : ER cl X W a ma) (hb : ER cl X W b mb) (hd : ER cl X W d md) (hm : lastMarks [.LtE, .LtE] [b, d] = false := by with_unfolding_all rfl) : ED cl X W (.Compare a [.LtE, .LtE] [b, d] pos) (eCh fLe fLe ma mb md) := ed_chain opLe hop_le opLe hop_le ha hb hd hm
theorem t_lele {a b d : Expr} {ma mb md : M Rf} (ha : ER cl X W a ma) (hb : ER cl X W b mb) (hd : ER cl X W d md) (hm : lastMarks [.LtE, .LtE] [b, d] = false := by with_unfolding_all rfl) : ET cl X W (.Compare a [.LtE, .LtE] [b, d] pos) (eT (eCh fLe fLe ma mb md)) :=
  ET.by (pt_chain opLe opLe ha hb hd hm) fun G ρ σ H Q k h => by
    have key : At rD (csX X cl) W (eCh fLe fLe ma mb md) G ρ σ H fun x H' => ∃ c, x = .bl c ∧ Q c H' := At.bind (Ra := rD) rB_back h fun d ρ1 v G1 H1 n1 k1 r1 a1 => by
      cases d with
      | bl b =>
        obtain rfl : v = .bl b := r1
        exact ⟨b, rfl, a1.ret k1 rfl⟩
      | _ =>
        obtain ⟨r, ρ', e, _⟩ := a1
        cases e
    exact at_tX k (At.bind (Ra := rR) rD_back key fun x ρ1 v1 G1 H1 n1 k1 r1 h1 => at_tX k1 (At.bind (Ra := rR) rD_back h1 fun y ρ2 v2 G2 H2 n2 k2 r2 h2 => by
      obtain ⟨d1, q1, h3⟩ := At.get h2 k2 (rR_keep n2 r1)
      obtain ⟨d2, q2, h4⟩ := At.get h3 k2 r2
      obtain ⟨o, e, h5⟩ := h4.lift2
      refine hop_le (W := W) _ _ _ _ _ _ _ _ _ _ k2 e q1 q2 ⟨.ok o, ρ2, rfl, fun v G3 H3 n3 k3 r3 => ?_⟩
      have h6 := h5.shift rD_back n3
      cases o with
      | bl z =>
        obtain rfl : v = .bl z := r3
        refine ⟨z, rfl, ?_⟩
        cases z with
        | true =>
          refine at_tX k3 (At.bind (Ra := rR) rD_back h6 fun z ρ4 v4 G4 H4 n4 k4 r4 h7 => ?_)
          obtain ⟨d3, q3, h8⟩ := At.get h7 k4 (rR_keep n4 (rR_keep n3 r2))
          obtain ⟨d4, q4, h9⟩ := At.get h8 k4 r4
          obtain ⟨o2, e2, h10⟩ := h9.lift
          exact hop_le (W := W) _ _ _ _ _ _ _ _ _ _ k4 e2 q3 q4 h10
        | false => exact h6.ret k3 rfl
      | _ =>
        obtain ⟨_, _, e, _⟩ := h6
        cases e))
end
end Fn

set_option maxRecDepth 100000
set_option maxHeartbeats 4000000
namespace Fn
open PySem PySem.Spec PyProof.Rows L2

def vNeg (m : M D) : M D := M.bind m fun d => match d with
  | .int i => M.ret (.int (-i))
  | _ => M.stuck
section
variable {cl : Nms} {X : Cx} {W : WX} {a : Expr} {pos : Pos}
theorem ed_neg {m : M D} (h : ED cl X W a m) : ED cl X W (.UnaryOp .USub a pos) (vNeg m) := EX.by (pe_un un_neg h) fun G ρ σ H Q k x => at_tX k (At.bind (Ra := rD) rD_back x fun d ρ1 v G1 H1 n1 k1 r1 a1 => by
  cases d with
  | int i =>
    obtain rfl : v = .int i := r1
    exact ⟨i, rfl, a1.ret k1 rfl⟩
  | _ =>
    obtain ⟨r, ρ', e, _⟩ := a1
    cases e)
end
end Fn

set_option maxRecDepth 100000
set_option maxHeartbeats 4000000
namespace Fn
open PySem PySem.Spec PyProof.Rows L2

/-! ### a name is given a comprehension; range(a, b, c) -/
theorem swaps_dict {kx vx : Expr} {gs : List Comprehension} {sc : Scope} {pos py : Pos} {y : Str} {l : Nat} {env : Env} (hk : env.scope.kind = .function) (hy : env.scope.names.lookup y = some .local) (hl : (py.line == pos.line) = true)
    (ha : (sc.names.any fun (n, k) => n == y && (k == .local || k == .cell)) = false) : swapsWith (.DictComp kx vx gs sc pos) (some (.Name y py)) l env = pure true := by
  have k1 : env.kindOf y = some .local := hy
  have k2 : env.blockKind = .function := by
    unfold Env.blockKind
    rw [hk]
    rfl
  unfold swapsWith
  simp only [k2, k1, ha, Expr.pos, hl]
  rfl
section
variable {X : Cx} {kx vx t0 i0 : Expr} {ifs : List Expr} {sc : Scope} {own : List (Str × Nat)} {pos : Pos} {wi : TI} {g : TG} {tt : TT} {tk tv : TE}
theorem ps_setDc {i : Nat} {y : Str} {py spos : Pos} (hy : X.N[i]? = some y) (hyl : X.env.scope.names.lookup y = some .local) (hsw : swapsWith (.DictComp kx vx [⟨t0, i0, ifs, 0⟩] sc pos) (some (.Name y py)) spos.line X.env = pure true)
    (hc : X.calm = true) (hN : X.N.Nodup) (hi : PI X t0 i0 wi) (ok : BlkOk X.N X.env.scope sc own)
    (hg : ∀ (s : Shared) (H : Hp) (C : Addr) (cs : List (Str × Addr)) (fp : List Addr), PG (X.blk s H sc (compEnvC sc cs C X.env) fp) t0 g)
    (ht : ∀ (s : Shared) (H : Hp) (C : Addr) (cs : List (Str × Addr)) (fp : List Addr), PTs (X.blk s H sc (compEnvC sc cs C X.env) fp) ifs tt)
    (hk : ∀ (s : Shared) (H : Hp) (C : Addr) (cs : List (Str × Addr)) (fp : List Addr), PE (X.blk s H sc (compEnvC sc cs C X.env) fp) kx tk)
    (hv : ∀ (s : Shared) (H : Hp) (C : Addr) (cs : List (Str × Addr)) (fp : List Addr), PE (X.blk s H sc (compEnvC sc cs C X.env) fp) vx tv)
    (f0 : ∀ x, foldedSetIterable i0 X.env x = pure x) :
    PS X (.Assign [.Name y py] (.DictComp kx vx [⟨t0, i0, ifs, 0⟩] sc pos) spos) (fun D σ H => tDc wi g tt tk tv (own.map (·.2)) σ H fun v H1 => ∃ d u, H1 d = some u ∧ Mut (some u) ∧ ∀ od, gName i v σ (upd H1 d (.frz od u)) D.nx) := by
  constructor
  intro pins s σ H D I hq
  rw [exec_Assign_Name_used _ _ _ _ hsw]
  apply wpAny_bind
  apply wpAny_standAt
  apply wpAny_bind
  show wpAny _ X.A (do let _ ← comprehension (.DictComp kx vx [⟨t0, i0, ifs, 0⟩] sc pos) sc X.env (firstIterPos [⟨t0, i0, ifs, 0⟩] pos) newDict false (eval i0 X.env) (some (assign (.Name y py) X.env))) _ _ s
  apply wpAny_bind
  refine thn (dc_core (Qf := fun _ z => SP X pins D .next z) hc hN I hi ok hg ht hk hv f0 hq ?_) fun _ z q => wpAny_pure (wpAny_pure q)
  rintro L C z m H' I' ⟨d, u, hd, mu, q⟩ hn f
  obtain ⟨od, I2⟩ := I'.lock hd mu
  show wpAny _ _ (assign (.Name y py) X.env (.ref L)) _ _ _
  apply wpAny_assign_Name
  refine store_ok2 (v := V.ref L) I2 hN hy (.inl hyl) rfl ?_ (.inr hyl)
  rintro z2 I3 ⟨a, sb, ha⟩
  obtain ⟨f0, f1, f2, f3, f4, f5⟩ := f
  have ne : C ≠ a := by
    rcases ha with e | e
    · rw [e]
      exact f1
    · exact fun e' => f4 y a e e'.symm
  refine ⟨m, hn.sameBut sb ne, fun h3 sb3 => ?_⟩
  have hCd : (upd H' d (.frz od u)) C = none := by
    rw [upd_ne (fun e => by rw [e, hd] at f0; cases f0)]
    exact f0
  exact ⟨_, upd H' d (.frz od u), I3.turned (t' := z2.toks) (fun b o hb e => (sb3.2 b hb).trans e) hCd f1 f3 f4 f5, q od⟩
end
section
variable {cl : Nms} {X : Cx} {W : WX} {np : Nat}
/-- the store of what has come -/
theorem store_at {T : Cs} {G H : Hp} {σ : L2.St} {ρ : En} {D : Ends} {i : Nat} {m : M O} (a : AtS T W np (sSet np i m) G ρ D σ H) : At rO T W m G ρ σ H (fun v H1 => gName i v σ H1 D.nx) :=
  a.then0 (R := rO) fun x ρ1 v G1 H1 n1 k1 r1 ⟨fl, ρ', e, o⟩ => by
    split at e
    · rename_i hp
      cases e
      obtain ⟨n2, k2⟩ := set_ok (np := np) n1 k1 r1 hp.1 hp.2
      exact o G1 H1 _ n2 k2
    · cases e
theorem es_setLc {i : Nat} {y : Str} {py : Pos} {elt tg iter : Expr} {ifs : List Expr} {scope : Scope} {own : List (Str × Nat)} {pos spos : Pos} {t : Tg} {src : M (List D)} {ttm : M Bool} {em : M D} (hc : X.calm = true) (hN : X.N.Nodup) (hy : X.N[i]? = some y) (hyl : X.env.scope.names.lookup y = some .local)
    (hsw : swapsWith (.ListComp elt [⟨tg, iter, ifs, 0⟩] scope pos) (some (.Name y py)) spos.line X.env = pure true) (hi : EI cl X W tg iter src) (ok : BlkOk X.N X.env.scope scope own)
    (hg : ∀ (s : Shared) (H : Hp) (C : Addr) (cs : List (Str × Addr)) (fp : List Addr), PG (X.blk s H scope (compEnvC scope cs C X.env) fp) tg (TgOk X.K t))
    (ht : ∀ (s : Shared) (H : Hp) (C : Addr) (cs : List (Str × Addr)) (fp : List Addr), PTs (X.blk s H scope (compEnvC scope cs C X.env) fp) ifs (tX rB (csX X cl) W0 ttm))
    (he : ∀ (s : Shared) (H : Hp) (C : Addr) (cs : List (Str × Addr)) (fp : List Addr), ED cl (X.blk s H scope (compEnvC scope cs C X.env) fp) W0 elt em)
    (hsl : ∀ i ∈ t.sl, i ∈ own.map (·.2)) (hs : ∀ x, foldedSetIterable iter X.env x = pure x := by intro _; rfl) :
    ES cl X W np (.Assign [.Name y py] (.ListComp elt [⟨tg, iter, ifs, 0⟩] scope pos) spos) (sSet np i (eComp (own.map (·.2)) t src ttm em)) := by
  have base : PS X (.Assign [.Name y py] (.ListComp elt [⟨tg, iter, ifs, 0⟩] scope pos) spos) (tAsg (tLc (tX rI (csX X cl) W src) (TgOk X.K t) (tX rB (csX X cl) W0 ttm) (tX rD (csX X cl) W0 em) (own.map (·.2))) (gName i)) := ps_setLc hc hN hy hyl hsw hi ok hg ht (fun s H C cs fp => he s H C cs fp) hs
  generalize own.map (·.2) = vs at base hsl ⊢
  exact ES.by base fun G ρ D σ H k a => comp_core k (store_at a) hsl
theorem dat_at {T : Cs} {G H : Hp} {σ : L2.St} {ρ : En} {m : M D} {Q : VK} (a : At rO T W (M.map O.dat m) G ρ σ H Q) : At rD T W m G ρ σ H Q := At.bind (Ra := rD) rO_back a fun d ρ1 v G1 H1 n1 k1 r1 a1 => a1.ret k1 ⟨r1, Fresh.dat⟩
theorem es_setDc {i : Nat} {y : Str} {py : Pos} {kx vx tg iter : Expr} {ifs : List Expr} {scope : Scope} {own : List (Str × Nat)} {pos spos : Pos} {t : Tg} {src : M (List D)} {ttm : M Bool} {km vm : M D} (hc : X.calm = true) (hN : X.N.Nodup) (hy : X.N[i]? = some y) (hyl : X.env.scope.names.lookup y = some .local)
    (hsw : swapsWith (.DictComp kx vx [⟨tg, iter, ifs, 0⟩] scope pos) (some (.Name y py)) spos.line X.env = pure true) (hi : EI cl X W tg iter src) (ok : BlkOk X.N X.env.scope scope own)
    (hg : ∀ (s : Shared) (H : Hp) (C : Addr) (cs : List (Str × Addr)) (fp : List Addr), PG (X.blk s H scope (compEnvC scope cs C X.env) fp) tg (TgOk X.K t))
    (ht : ∀ (s : Shared) (H : Hp) (C : Addr) (cs : List (Str × Addr)) (fp : List Addr), PTs (X.blk s H scope (compEnvC scope cs C X.env) fp) ifs (tX rB (csX X cl) W0 ttm))
    (hk : ∀ (s : Shared) (H : Hp) (C : Addr) (cs : List (Str × Addr)) (fp : List Addr), ED cl (X.blk s H scope (compEnvC scope cs C X.env) fp) W0 kx km)
    (he : ∀ (s : Shared) (H : Hp) (C : Addr) (cs : List (Str × Addr)) (fp : List Addr), ED cl (X.blk s H scope (compEnvC scope cs C X.env) fp) W0 vx vm)
    (hsl : ∀ i ∈ t.sl, i ∈ own.map (·.2)) (hs : ∀ x, foldedSetIterable iter X.env x = pure x := by intro _; rfl) :
    ES cl X W np (.Assign [.Name y py] (.DictComp kx vx [⟨tg, iter, ifs, 0⟩] scope pos) spos) (sSet np i (M.map O.dat (eDComp (own.map (·.2)) t src ttm km vm))) := by
  have base := ps_setDc (X := X) (tk := tX rD (csX X cl) W0 km) (tv := tX rD (csX X cl) W0 vm) (tt := tX rB (csX X cl) W0 ttm) (wi := tX rI (csX X cl) W src) (g := TgOk X.K t) (spos := spos) hy hyl hsw hc hN hi ok hg ht (fun s H C cs fp => hk s H C cs fp) (fun s H C cs fp => he s H C cs fp) hs
  generalize own.map (·.2) = vs at base hsl ⊢
  exact ES.by base fun G ρ D σ H k a => dcomp_core k (dat_at (store_at a)) hsl
theorem es_setDc2 {i : Nat} {y : Str} {py : Pos} {kx vx tg iter tg1 iter1 : Expr} {scope : Scope} {own : List (Str × Nat)} {us : List Nat} {pos spos : Pos} {t t1 : Tg} {src src1 : M (List D)} {km vm : M D} (hc : X.calm = true) (hN : X.N.Nodup) (hy : X.N[i]? = some y) (hyl : X.env.scope.names.lookup y = some .local)
    (hsw : swapsWith (.DictComp kx vx [⟨tg, iter, [], 0⟩, ⟨tg1, iter1, [], 0⟩] scope pos) (some (.Name y py)) spos.line X.env = pure true) (hi : EI cl X W tg iter src) (ok : BlkOk X.N X.env.scope scope own)
    (hg : ∀ (s : Shared) (H : Hp) (C : Addr) (cs : List (Str × Addr)) (fp : List Addr), PG (X.blk s H scope (compEnvC scope cs C X.env) fp) tg (TgOk X.K t))
    (hj : ∀ (s : Shared) (H : Hp) (C : Addr) (cs : List (Str × Addr)) (fp : List Addr), EI cl (X.blk s H scope (compEnvC scope cs C X.env) fp) W0 tg1 iter1 src1)
    (hh : ∀ (s : Shared) (H : Hp) (C : Addr) (cs : List (Str × Addr)) (fp : List Addr), PG (X.blk s H scope (compEnvC scope cs C X.env) fp) tg1 (TgOk X.K t1))
    (hk : ∀ (s : Shared) (H : Hp) (C : Addr) (cs : List (Str × Addr)) (fp : List Addr), ED cl (X.blk s H scope (compEnvC scope cs C X.env) fp) W0 kx km)
    (he : ∀ (s : Shared) (H : Hp) (C : Addr) (cs : List (Str × Addr)) (fp : List Addr), ED cl (X.blk s H scope (compEnvC scope cs C X.env) fp) W0 vx vm)
    (hsl : ∀ i ∈ t.sl, i ∈ own.map (·.2)) (hsl1 : ∀ i ∈ t1.sl, i ∈ us) (huv : ∀ i ∈ us, i ∈ own.map (·.2)) (hs : ∀ x, foldedSetIterable iter X.env x = pure x := by intro _; rfl) (hs1 : ∀ env x, foldedSetIterable iter1 env x = pure x := by intro _ _; rfl) :
    ES cl X W np (.Assign [.Name y py] (.DictComp kx vx [⟨tg, iter, [], 0⟩, ⟨tg1, iter1, [], 0⟩] scope pos) spos) (sSet np i (M.map O.dat (eDComp2 (own.map (·.2)) us t src t1 src1 km vm))) := by
  have base := ps_setDc2 (X := X) (tk := tX rD (csX X cl) W0 km) (tv := tX rD (csX X cl) W0 vm) (wi := tX rI (csX X cl) W src) (wj := tX rI (csX X cl) W0 src1) (g := TgOk X.K t) (h := TgOk X.K t1) (spos := spos) hy hyl hsw hc hN hi ok huv hg (fun s H C cs fp => hj s H C cs fp) hh (fun s H C cs fp => hk s H C cs fp) (fun s H C cs fp => he s H C cs fp) hs hs1
  generalize own.map (·.2) = vs at base hsl huv ⊢
  exact ES.by base fun G ρ D σ H k a => dcomp2_core k (dat_at (store_at a)) hsl hsl1 huv
/-! range(a, b, c), c above nought -/
def rangeUp (lo c : Int) (n : Nat) : List D := (List.range n).map fun (k : Nat) => D.int (lo + (k : Int) * c)
theorem src_rangeC {T : Cs} {G H : Hp} {lo c : Int} {n : Nat} : Src T (Itc lo c n) (rangeUp lo c n) G H := fun G' H' e1 e2 => by
  refine ⟨fun i d hd => ?_, by show n ≤ (rangeUp lo c n).length; unfold rangeUp; rw [List.length_map, List.length_range]; exact Nat.le_refl _⟩
  unfold rangeUp at hd
  rw [List.getElem?_map] at hd
  cases q : (List.range n)[i]? with
  | none =>
    rw [q] at hd
    cases hd
  | some k =>
    rw [q] at hd
    cases hd
    obtain ⟨hl, e⟩ := List.getElem?_eq_some_iff.mp q
    have ek : i = k := by simpa using e
    subst ek
    refine ⟨by have z := hl; simp at z; exact z, fun x H2 y => ?_⟩
    obtain ⟨y1, y2⟩ := y
    subst y1
    subst y2
    exact ⟨G', Ex.refl _, Ex.refl _, e2, fun a h h' => absurd h h', rfl⟩
def iRange3 (as : M (List Rf)) : M (List D) := M.bind as fun rs => M.bind (getL rs) fun ds => match ds with
  | [.int i, .int j, .int c] => M.bind (M.chk (decide (c ≠ 0 ∧ c.natAbs < 1073741824) && (Builtin.Range.small i j c && decide (Builtin.Range.rangeSize i j c = ((Builtin.Range.rangeSize i j c).toNat : Int))))) fun _ => M.ret (rangeUp i c (Builtin.Range.rangeSize i j c).toNat)
  | _ => M.stuck
theorem ei_range3 {tg a b c : Expr} {p pos : Pos} {as : M (List Rf)} (hg : Gl X "range") (hm : X.mg "range" = none) (ha : EA cl X W [a, b, c] as)
    (hs : starEach [a, b, c] X.env = (false, eval a X.env) :: starEach [b, c] X.env := by rfl) (hpl : (backTo pos (starEach [b, c] X.env)).any (·.1) = false := by rfl) : EI cl X W tg (.Call (.Name "range" p) [a, b, c] [] pos) (iRange3 as) :=
  EI.by (pi_range3 hg hm ha hs hpl) fun G ρ σ H Q k x => at_tX k (At.bind (Ra := rA) rI_back x fun rs ρ1 vs G1 H1 n1 k1 r1 a1 => by
    obtain ⟨ds, q1, a2⟩ := At.getL a1 k1 r1
    split at a2
    · rename_i i j c
      obtain ⟨hk, a3⟩ := a2.chk
      have hk' := Bool.and_eq_true_iff.mp hk
      have hc := of_decide_eq_true hk'.1
      obtain ⟨v1, w1, e1, z1, z2⟩ := q1
      obtain ⟨v2, w2, e2, z3, z4⟩ := z2
      obtain ⟨v3, w3, e3, z5, z6⟩ := z4
      obtain rfl := z1.int
      obtain rfl := z3.int
      obtain rfl := z5.int
      obtain rfl : w3 = [] := z6
      subst e3
      subst e2
      subst e1
      have h2 := Bool.and_eq_true_iff.mp hk'.2
      exact ⟨i, j, c, _, rfl, ⟨hc.1, hc.2, h2.1, of_decide_eq_true h2.2⟩, a3.ret k1 src_rangeC⟩
    · obtain ⟨_, _, e, _⟩ := a2
      cases e)
end
end Fn

set_option maxRecDepth 100000
set_option maxHeartbeats 4000000
namespace Fn
open PySem PySem.Spec PyProof.Rows L2
section
variable {cl : Nms} {X : Cx} {W : WX} {p pos : Pos} {e : Expr} {as : M (List Rf)}
/-! len of dicts too -/
def fLenB : List D → Option D
  | [.dk ks _] => some (.int ks.length)
  | [.rk ks _] => some (.int ks.length)
  | ds => fLenA ds
theorem call_lenK : CallR X (.builtin "len") (fun xs H Q => ∃ a kvs, xs = [V.ref a] ∧ Rd H a (.dK kvs) ∧ Q (.int kvs.length) H) := by
  intro pins s σ H xs us Q I r h
  obtain ⟨a, kvs, rfl, ha, q⟩ := h
  rw [Vals.ref1 r]
  exact d_len I ha fun t s' I' => ⟨.int kvs.length, H, I', ⟨t, rfl⟩, q⟩
theorem hop_lenB : HopF rD cl X W fLenB (fun xs H Q => (∃ a kvs, xs = [V.ref a] ∧ Rd H a (.dK kvs) ∧ Q (.int kvs.length) H) ∨ ((∃ (a : Addr) (ks : List Key), xs = [.ref a] ∧ H a = some (setO (csX X cl) a ks) ∧ ks.length < 2000 ∧ Q (.int ks.length) H) ∨ ∃ x n, xs = [x] ∧ LenV X.K x H n ∧ Q (.int n) H)) := fun G H σ ρ ds o vs Q k e q h => by
  unfold fLenB at e
  split at e
  · cases e
    obtain ⟨v, rfl, r⟩ := q.one
    obtain ⟨a, kvs, rfl, h1, rfl, h2⟩ := r.inH k
    exact .inl ⟨a, kvs, rfl, h1, h.ret k (by rw [List.length_map]; rfl)⟩
  · cases e
    obtain ⟨v, rfl, r⟩ := q.one
    obtain ⟨a, oo, kvs, rfl, h1, rfl, h2⟩ := r.inH k
    exact .inl ⟨a, kvs, rfl, .inr ⟨oo, h1⟩, h.ret k (by rw [List.length_map]; rfl)⟩
  · exact .inr (hop_lenA _ _ _ _ _ _ _ _ k e q h)
theorem c_lenB (hg : Gl X "len") (hm : X.mg "len" = none) (ha : EA cl X W [e] as) (he : starEach [e] X.env = (false, eval e X.env) :: starEach [] X.env := by rfl) : ED cl X W (.Call (.Name "len" p) [e] [] pos) (eFun fLenB as) := ed_blt (CallR.or call_lenK (CallR.or call_lenS call_len)) hop_lenB hg hm bt_len ha (he := he) (hpl := by rfl)
end
/-! == and != of dicts -/
def dEq1 (a b : D) : Option Bool := match toPy a, toPy b with
  | some p, some q => if SeqAt.shaped p = true ∧ SeqAt.shaped q = true ∧ p.depth ≤ 63 then some (PyData.eqv p q) else none
  | _, _ => none
def hitsD (ks' : List Key) (ds' : List D) : List Key → List D → Option Bool
  | [], _ => some true
  | k :: ks, d :: ds => match dLook ks' ds' k with
    | none => some false
    | some e => (dEq1 d e).bind fun b => (hitsD ks' ds' ks ds).map (b && ·)
  | _ :: _, [] => none
def dEqK (ks : List Key) (ds : List D) (ks' : List Key) (ds' : List D) : Option Bool := if ks.length = ks'.length then hitsD ks' ds' ks ds else some false
def dEqB : D → D → Option Bool
  | .rk ks ds, .rk ks' ds' => dEqK ks ds ks' ds'
  | .dk ks ds, .dk ks' ds' => dEqK ks ds ks' ds'
  | .rk ks ds, .dk ks' ds' => dEqK ks ds ks' ds'
  | .dk ks ds, .rk ks' ds' => dEqK ks ds ks' ds'
  | a, b => dEq a b
def fEqB (a b : D) : Option D := (dEqB a b).map D.bl
def fNeB (a b : D) : Option D := (dEqB a b).map fun c => D.bl (!c)
def rEqB (T : Cs) (f : Bool → Bool) : R2 := fun x y H Q => ∃ d e c, Rep T H d x ∧ Rep T H e y ∧ dEqB d e = some c ∧ Q (.bl (f c)) H
theorem dLook_none {T : Cs} {G : Hp} {k : Key} : ∀ {kvs : List (Key × V)} {ds : List D}, RepL T G ds (kvs.map (·.2)) → dLook (kvs.map (·.1)) ds k = none → valV kvs k = none
  | [], ds, h, e => rfl
  | (k', v) :: kvs, ds, h, e => by
    cases ds with
    | nil => cases (show ((k', v) :: kvs).map (·.2) = [] from h)
    | cons d' ds =>
      obtain ⟨v', r, e1, h1, h2⟩ := h
      rw [List.map_cons] at e1
      obtain ⟨rfl, rfl⟩ := List.cons.inj e1
      have e' : (if k' = k then some d' else dLook (kvs.map (·.1)) ds k) = none := e
      by_cases q : k' = k
      · rw [if_pos q] at e'
        cases e'
      · rw [if_neg q] at e'
        rw [← dLook_none h2 e']
        unfold valV
        simp [q]
section
variable {cl : Nms} {X : Cx} {W : WX} {pins : List (Addr × Obj)} {σ : L2.St} {H : Hp} {s : Shared}
theorem dEq1_some {a b : D} {c : Bool} (h : dEq1 a b = some c) : ∃ p q, toPy a = some p ∧ toPy b = some q ∧ SeqAt.shaped p = true ∧ SeqAt.shaped q = true ∧ p.depth ≤ 63 ∧ c = PyData.eqv p q := by
  unfold dEq1 at h
  split at h
  · rename_i p q h1 h2
    split at h
    · rename_i hs
      cases h
      exact ⟨p, q, h1, h2, hs.1, hs.2.1, hs.2.2, rfl⟩
    · cases h
  · cases h
theorem hits_of (I : Inv X pins σ H s) (hk : SysK X.K) (hu : X.A.units + 64 < cLine) {kvs' : List (Key × V)} {vs' : List (Key × Value)} {ds' : List D} (r' : RepL (csX X cl) H ds' (kvs'.map (·.2))) (q' : KV kvs' vs') :
    ∀ {kvs : List (Key × V)} {vs : List (Key × Value)} {ds : List D} {b : Bool}, RepL (csX X cl) H ds (kvs.map (·.2)) → KV kvs vs → hitsD (kvs'.map (·.1)) ds' (kvs.map (·.1)) ds = some b → PySem.W.KeqHits X.A.in1 s vs' vs b
  | _, _, ds, b, h, .nil, e => by
    cases (show some true = some b from e)
    exact .nil
  | _, _, [], b, h, .cons .., e => by cases (show (none : Option Bool) = some b from e)
  | (k, v) :: kvs, (k', u) :: vs, d :: ds, b, h, .cons r1 r2, e => by
    obtain ⟨v', r, e1, h1, h2⟩ := h
    rw [List.map_cons] at e1
    obtain ⟨rfl, rfl⟩ := List.cons.inj e1


    obtain ⟨ek, rv⟩ := r1
    obtain rfl : k = k' := ek
    have e' : (match dLook (kvs'.map (·.1)) ds' k with | none => some false | some e => (dEq1 d e).bind fun b => (hitsD (kvs'.map (·.1)) ds' (kvs.map (·.1)) ds).map (b && ·)) = some b := e
    cases l : dLook (kvs'.map (·.1)) ds' k with
    | none =>
      rw [l] at e'
      cases e'
      exact .miss (RelO.none_of (by rw [← dLook_none r' l]; exact q'.val k))
    | some y =>
      rw [l] at e'
      obtain ⟨b1, f1, f2⟩ := Option.bind_eq_some_iff.mp e'
      obtain ⟨b2, f3, rfl⟩ := Option.map_eq_some_iff.mp f2
      obtain ⟨w, g1, g2⟩ := dLook_rep r' l
      obtain ⟨u', g3, g4⟩ := RelO.some_of (v := w) (o := valueAt vs' k) (by rw [← g1]; exact q'.val k)
      obtain ⟨p1, p2, z1, z2, z3, z4, z5, rfl⟩ := dEq1_some f1
      obtain ⟨as, y1, _⟩ := Rep.reads I (noSys I hk) d v u p1 h1 z1 rv
      obtain ⟨bs, y2, _⟩ := Rep.reads I (noSys I hk) y w u' p2 g2 z2 g4
      refine .hit g3 (SeqAt.eqAt_reads p1 p2 X.A.in1 s u u' as bs y1 y2 (SeqAt.canLay_of_shaped z3) (SeqAt.canLay_of_shaped z4) ?_) (hits_of I hk hu r' q' h2 r2 f3)
      show X.A.units + 1 + _ < _
      have : min p1.depth p2.depth ≤ p1.depth := Nat.min_le_left _ _
      omega
/-- a dict, whatever it is -/
def AnyK (T : Cs) (H : Hp) (ks : List Key) (ds : List D) (v : V) : Prop := ∃ a kvs, v = .ref a ∧ Rd H a (.dK kvs) ∧ kvs.map (·.1) = ks ∧ RepL T H ds (kvs.map (·.2))
theorem anyK_rk {T : Cs} {ks : List Key} {ds : List D} {v : V} (h : Rep T H (.rk ks ds) v) : AnyK T H ks ds v := by
  obtain ⟨a, o, kvs, h1, h2, h3, h4⟩ := h
  exact ⟨a, kvs, h1, .inr ⟨o, h2⟩, h3, h4⟩
theorem anyK_dk {T : Cs} {ks : List Key} {ds : List D} {v : V} (h : Rep T H (.dk ks ds) v) : AnyK T H ks ds v := h
theorem op_eqK (hk : SysK X.K) (hu : X.A.units + 64 < cLine) {ks ks' : List Key} {ds ds' : List D} {x y : V} {v u : Value} {c : Bool} {Q : Value → Shared → Prop} {E : Value → Shared → Prop} (I : Inv X pins σ H s) (rx : RelV x v) (ry : RelV y u) (hd : AnyK (csX X cl) H ks ds x) (he : AnyK (csX X cl) H ks' ds' y) (hc : dEqK ks ds ks' ds' = some c) :
    (Q (.bool c) s → wpAny (model X.prog X.w) X.A (compareOp .Eq v u) Q E s) ∧ (Q (.bool (!c)) s → wpAny (model X.prog X.w) X.A (compareOp .NotEq v u) Q E s) := by
  obtain ⟨a, kvs, rfl, h1, rfl, h2⟩ := hd
  obtain ⟨b, kvs', rfl, h3, rfl, h4⟩ := he
  cases rx
  cases ry
  obtain ⟨_, s1, vs, k1, d1⟩ := dk_rd I.hok h1
  obtain ⟨_, s2, vs', k2, d2⟩ := dk_rd I.hok h3
  have l1 : kvs.length = vs.length := k1.length
  have l2 : kvs'.length = vs'.length := k2.length
  have hu1 : X.A.units < cLine := by omega
  unfold dEqK at hc
  rw [List.length_map, List.length_map] at hc
  by_cases hl : kvs.length = kvs'.length
  · rw [if_pos hl] at hc
    have ht := hits_of I hk hu h4 k2 h2 k1 hc
    have hb : (vs.length == vs'.length && c) = c := by rw [← l1, ← l2, hl]; simp
    exact ⟨fun q => PySem.W.keq_eq s1 s2 d1 d2 hu1 (fun _ => ht) (by rw [hb]; exact q), fun q => PySem.W.keq_ne s1 s2 d1 d2 hu1 (fun _ => ht) (by rw [hb]; exact q)⟩
  · rw [if_neg hl] at hc
    cases hc
    have hb : (vs.length == vs'.length && true) = false := by rw [← l1, ← l2]; simp [hl]
    have no : vs.length = vs'.length → PySem.W.KeqHits X.A.in1 s vs' vs true := fun z => absurd (by rw [l1, l2, z]) hl
    exact ⟨fun q => PySem.W.keq_eq s1 s2 d1 d2 hu1 no (by rw [hb]; exact q), fun q => PySem.W.keq_ne s1 s2 d1 d2 hu1 no (by rw [hb]; exact q)⟩
theorem op_eqB (hk : SysK X.K) (hu : X.A.units + 64 < cLine) : OpR X (compareOp .Eq) (rEqB (csX X cl) id) := by
  intro pins s σ H x y v u Q I rx ry h
  obtain ⟨d, e, c, hd, he, hc, q⟩ := h
  have fin : EP X pins σ Q (.bool c) s := ⟨.bl c, H, I, rfl, q⟩
  unfold dEqB at hc
  split at hc
  · exact (op_eqK hk hu I rx ry (anyK_rk hd) (anyK_rk he) hc).1 fin
  · exact (op_eqK hk hu I rx ry (anyK_dk hd) (anyK_dk he) hc).1 fin
  · exact (op_eqK hk hu I rx ry (anyK_rk hd) (anyK_dk he) hc).1 fin
  · exact (op_eqK hk hu I rx ry (anyK_dk hd) (anyK_rk he) hc).1 fin
  · exact op_eqT hk hu pins s σ H x y v u Q I rx ry ⟨d, e, c, hd, he, hc, q⟩
theorem op_neB (hk : SysK X.K) (hu : X.A.units + 64 < cLine) : OpR X (compareOp .NotEq) (rEqB (csX X cl) (!·)) := by
  intro pins s σ H x y v u Q I rx ry h
  obtain ⟨d, e, c, hd, he, hc, q⟩ := h
  have fin : EP X pins σ Q (.bool (!c)) s := ⟨.bl (!c), H, I, rfl, q⟩
  unfold dEqB at hc
  split at hc
  · exact (op_eqK hk hu I rx ry (anyK_rk hd) (anyK_rk he) hc).2 fin
  · exact (op_eqK hk hu I rx ry (anyK_dk hd) (anyK_dk he) hc).2 fin
  · exact (op_eqK hk hu I rx ry (anyK_rk hd) (anyK_dk he) hc).2 fin
  · exact (op_eqK hk hu I rx ry (anyK_dk hd) (anyK_rk he) hc).2 fin
  · exact op_neT hk hu pins s σ H x y v u Q I rx ry ⟨d, e, c, hd, he, hc, q⟩
theorem hop_eqB : HopD cl X W fEqB (rEqB (csX X cl) id) := fun G H σ ρ d1 d2 o v1 v2 Q k e q1 q2 h => by
  obtain ⟨c, e1, rfl⟩ := Option.map_eq_some_iff.mp (show (dEqB d1 d2).map D.bl = some o from e)
  exact ⟨d1, d2, c, q1.inH k, q2.inH k, e1, h.ret k rfl⟩
theorem hop_neB : HopD cl X W fNeB (rEqB (csX X cl) (!·)) := fun G H σ ρ d1 d2 o v1 v2 Q k e q1 q2 h => by
  obtain ⟨c, e1, rfl⟩ := Option.map_eq_some_iff.mp (show (dEqB d1 d2).map (fun c => D.bl (!c)) = some o from e)
  exact ⟨d1, d2, c, q1.inH k, q2.inH k, e1, h.ret k rfl⟩
end
section
variable {cl : Nms} {X : Cx} {W : WX} {a b : Expr} {ma mb : M Rf} {pos : Pos}
theorem cB_eq (hk : SysK X.K) (hu : X.A.units + 64 < cLine) (hm : behindInMarks .Eq b = false) (ha : ER cl X W a ma) (hb : ER cl X W b mb) : ED cl X W (.Compare a [.Eq] [b] pos) (eBinD fEqB ma mb) := ed_cmp (op_eqB hk hu) hop_eqB hm ha hb
theorem cB_ne (hk : SysK X.K) (hu : X.A.units + 64 < cLine) (hm : behindInMarks .NotEq b = false) (ha : ER cl X W a ma) (hb : ER cl X W b mb) : ED cl X W (.Compare a [.NotEq] [b] pos) (eBinD fNeB ma mb) := ed_cmp (op_neB hk hu) hop_neB hm ha hb
theorem tB_eq (hk : SysK X.K) (hu : X.A.units + 64 < cLine) (hm : behindInMarks .Eq b = false) (ha : ER cl X W a ma) (hb : ER cl X W b mb) : ET cl X W (.Compare a [.Eq] [b] pos) (eT (eBinD fEqB ma mb)) := et_cmp (op_eqB hk hu) hop_eqB hm ha hb
theorem tB_ne (hk : SysK X.K) (hu : X.A.units + 64 < cLine) (hm : behindInMarks .NotEq b = false) (ha : ER cl X W a ma) (hb : ER cl X W b mb) : ET cl X W (.Compare a [.NotEq] [b] pos) (eT (eBinD fNeB ma mb)) := et_cmp (op_neB hk hu) hop_neB hm ha hb
end
end Fn

set_option maxRecDepth 100000
set_option maxHeartbeats 4000000
namespace Fn
open PySem PySem.Spec PyProof.Rows L2

/-! ### zip of two sequences, each a list or a tuple -/
/-- true: a list, false: a tuple -/
def SqB (b : Bool) (K : PySem.W.Frag) (H : Hp) (a : Addr) (xs : List V) : Prop := match b with
  | true => SqL K H a xs
  | false => SqT K H a xs
def ItB (b : Bool) (h : Heap) (it a : Addr) (i : Nat) : Prop := match b with
  | true => h.IsListIter it a i
  | false => h.IsTupleIter it a i
def CtB (b : Bool) (h : Heap) (a : Addr) (its : Array Value) : Prop := match b with
  | true => h.IsList a its
  | false => h.IsTuple a its
theorem ItB.at {b : Bool} {h h' : Heap} {it a : Addr} {i : Nat} (x : ItB b h it a i) (e : ∀ o, h.get? it = some o → h'.get? it = some o) : ItB b h' it a i := by
  cases b with
  | true => exact Heap.IsListIter.at x e
  | false => exact Heap.IsTupleIter.at x e
theorem ItB.obj {b : Bool} {h : Heap} {it a : Addr} {i : Nat} (x : ItB b h it a i) : ∃ o, h.get? it = some o ∧ ∀ v, o.data ≠ .cell v := by
  cases b with
  | true =>
    obtain ⟨o, e, _, d⟩ := x
    exact ⟨o, e, fun v q => by rw [d] at q; cases q⟩
  | false =>
    obtain ⟨o, e, _, d⟩ := x
    exact ⟨o, e, fun v q => by rw [d] at q; cases q⟩
theorem drawB {P : Program} {w : World} {A : Around} (hh : A.handled = none) (b : Bool) (it a : Addr) (hne : a ≠ it) (its : Array Value) :
    Draws P w A it [it, a] its.size (fun i v => its[i]? = some v) (fun i h => ItB b h it a i ∧ CtB b h a its) := by
  cases b with
  | true => exact Draws.list hh it a hne its
  | false => exact Draws.tuple hh it a hne its
theorem paired_le : ∀ {xs ys : List D}, (paired xs ys).length ≤ xs.length ∧ (paired xs ys).length ≤ ys.length
  | [], _ => ⟨Nat.zero_le _, Nat.zero_le _⟩
  | x :: xs, [] => ⟨Nat.zero_le _, Nat.zero_le _⟩
  | x :: xs, y :: ys => ⟨Nat.succ_le_succ (paired_le (xs := xs) (ys := ys)).1, Nat.succ_le_succ (paired_le (xs := xs) (ys := ys)).2⟩
def firstB (b : Bool) (a : Addr) : Obj := match b with
  | true => { cls := .type "list_iterator", data := .fields #[.ref a, .int 0 0] }
  | false => { cls := .type "tuple_iterator", data := .fields #[.ref a, .int 0 0] }
theorem beginB (b : Bool) (a : Addr) (its : Array Value) : Begins (.ref a) (firstB b a) fun h => CtB b h a its := by
  cases b with
  | true => exact begins_list a its
  | false => exact begins_tuple a its
theorem firstB_it {b : Bool} {h : Heap} {it a : Addr} (e : h.get? it = some (firstB b a)) : ItB b h it a 0 := by
  cases b with
  | true => exact ⟨_, e, rfl, rfl⟩
  | false => exact ⟨_, e, rfl, rfl⟩
section
variable {X : Cx} {pins : List (Addr × Obj)} {σ : L2.St} {H : Hp} {s : Shared}
theorem sqB (I : Inv X pins σ H s) {b : Bool} {a : Addr} {xs : List V} (h : SqB b X.K H a xs) : ∃ its : List Value, Vals xs its ∧ CtB b s.heap a its.toArray ∧ a < s.heap.objs.size := by
  cases b with
  | true =>
    obtain ⟨its, r, p, _⟩ := I.list h
    exact ⟨its, r, p.isList, p.lt⟩
  | false =>
    obtain ⟨its, r, p, _⟩ := I.tuple h
    have p' := p
    obtain ⟨o, e, _⟩ := p'
    exact ⟨its, r, p, Heap.lt_size e⟩
theorem sqB_inj (I : Inv X pins σ H s) {b : Bool} {a : Addr} {xs ys : List V} (h : SqB b X.K H a xs) (h' : SqB b X.K H a ys) : xs = ys := by
  cases b with
  | true => exact I.list_inj h h'
  | false => exact I.tuple_inj h h'
end
def ItzB (c d : Bool) (K : PySem.W.Frag) (a b : Addr) : It :=
  ⟨fun i H => ∃ (xs ys : List V) (x y : V), SqB c K H a xs ∧ SqB d K H b ys ∧ xs[i]? = some x ∧ ys[i]? = some y,
    fun i H v H' => ∃ T x y, v = .ref T ∧ H T = none ∧ H' = upd H T (.tup [x, y]) ∧ (∀ xs, SqB c K H a xs → xs[i]? = some x) ∧ ∀ ys, SqB d K H b ys → ys[i]? = some y,
    fun i H => ∃ xs ys : List V, SqB c K H a xs ∧ SqB d K H b ys ∧ i ≤ xs.length ∧ i ≤ ys.length ∧ (i = xs.length ∨ i = ys.length)⟩
theorem sepB {z TI TO i1 i2 a b : Addr} (D : ZipApart z TI TO i1 i2 a b) : ZipSep2 z TI TO i1 i2 [i1, a] [i2, b] where
  TIz := D.TIz
  TOz := D.TOz
  TITO := D.TITO
  TIi1 := D.TIi1
  mem1 := List.mem_cons_self
  zf1 := fun h => by
    rcases List.mem_cons.mp h with e | e
    · exact D.i1z e.symm
    · exact D.l1z (List.mem_singleton.mp e).symm
  Tf1 := fun h => by
    rcases List.mem_cons.mp h with e | e
    · exact D.TOi1 e
    · exact D.l1TO (List.mem_singleton.mp e).symm
  TIi2 := D.TIi2
  mem2 := List.mem_cons_self
  zf2 := fun h => by
    rcases List.mem_cons.mp h with e | e
    · exact D.i2z e.symm
    · exact D.l2z (List.mem_singleton.mp e).symm
  Tf2 := fun h => by
    rcases List.mem_cons.mp h with e | e
    · exact D.TOi2 e
    · exact D.l2TO (List.mem_singleton.mp e).symm
  sep1_2 := fun h => by
    rcases List.mem_cons.mp h with e | e
    · exact D.i12 e
    · exact D.l2i1 (List.mem_singleton.mp e).symm
  sep2_1 := fun h => by
    rcases List.mem_cons.mp h with e | e
    · exact D.i12 e.symm
    · exact D.l1i2 (List.mem_singleton.mp e).symm
theorem five {a b c d e x : Addr} (h : x ∈ [a, b, c, d, e]) : x = a ∨ x = b ∨ x = c ∨ x = d ∨ x = e := by simpa using h
theorem turnB {P : Program} {w : World} {K : PySem.W.Frag} {elts : List Expr} {kk : Nat} {tpos : Pos} {c d : Bool} {a b z TI TO i1 i2 : Addr} (D : ZipApart z TI TO i1 i2 a b) :
    Turn P w K (.Tuple elts kk tpos) (ItzB c d K a b) [z, TI, TO, i1, i2] z (fun i h => IsZip h z TI TO .none ∧ IsTupOf2 h TI (.ref i1) (.ref i2) ∧ (∃ x y, IsTupOf2 h TO x y) ∧ ItB c h i1 a i ∧ ItB d h i2 b i) where
  mem := List.mem_cons_self
  obj := fun i h st x hx => by
    obtain ⟨hz, hTI, ⟨u, v, hTO⟩, h1, h2⟩ := st
    rcases five hx with q | q | q | q | q <;> rw [q]
    · exact ⟨_, hz, fun v q => nomatch q⟩
    · exact ⟨_, hTI, fun v q => nomatch q⟩
    · exact ⟨_, hTO, fun v q => nomatch q⟩
    · exact h1.obj
    · exact h2.obj
  keep := fun i h h' st k => by
    obtain ⟨hz, hTI, ⟨x, y, hTO⟩, h1, h2⟩ := st
    refine ⟨k z (by simp) _ hz, k TI (by simp) _ hTI, ⟨x, y, k TO (by simp) _ hTO⟩, h1.at (k i1 (by simp)), h2.at (k i2 (by simp))⟩
  item := by
    intro X hP hw hK hc i pins s σ H E I hf st hg
    subst hP hw hK
    obtain ⟨hz, hTI, ⟨x0, y0, hTO⟩, h1, h2⟩ := st
    obtain ⟨xs, ys, x, y, g1, g2, hx, hy⟩ := hg
    obtain ⟨us, r1, p1, _⟩ := sqB I g1
    obtain ⟨vs, r2, p2, _⟩ := sqB I g2
    obtain ⟨u, hu, ru⟩ := r1.get hx
    obtain ⟨v, hv, rv⟩ := r2.get hy
    have big : z < s.heap.objs.size := Heap.lt_size hz
    have l1 : i < us.toArray.size := by
      obtain ⟨q, _⟩ := List.getElem?_eq_some_iff.mp hu
      simpa using q
    have l2 : i < vs.toArray.size := by
      obtain ⟨q, _⟩ := List.getElem?_eq_some_iff.mp hv
      simpa using q
    refine wpAny_pyNext_zipD2_item (sepB D) (drawB (P := X.prog) (w := X.w) (A := X.A.in1) (show X.A.in1.handled = none from I.ok.hd hc) c i1 a D.l1i1 us.toArray) (drawB (P := X.prog) (w := X.w) (A := X.A.in1) (show X.A.in1.handled = none from I.ok.hd hc) d i2 b D.l2i2 vs.toArray) hz hTI hTO ⟨h1, p1⟩ ⟨h2, p2⟩ l1 l2 ?_
    intro u' v' h' tk e1 e2 z' TO' n1 n2 nT size hk
    have eu : u' = u := by
      have q : us[i]? = some u' := by simpa using e1
      rw [hu] at q
      exact (Option.some.inj q).symm
    have ev : v' = v := by
      have q : vs[i]? = some v' := by simpa using e2
      rw [hv] at q
      exact (Option.some.inj q).symm
    subst eu
    subst ev
    refine ⟨_, rfl, wpAny_letOwnedTupleGo_zip (s := { s with heap := h', toks := tk }) z' fun h'' z'' sb => ?_⟩
    have hT2 : h''.get? s.heap.objs.size = some { cls := .type "tuple", data := .seq #[u', v'] } := (sb.2 _ (Nat.ne_of_gt big)).trans nT
    have new : ObjOk X.prog X.w (upd H s.heap.objs.size (.tup [x, y])) h'' s.heap.objs.size (.tup [x, y]) := by
      refine ⟨by show 2 ≤ sizeLine; decide, [u', v'], .cons ru (.cons rv .nil), _, hT2, rfl, _, rfl⟩
    have off : ∀ {m : Addr}, ¬ m ∈ [z, TI, TO, i1, i2] → m ≠ z ∧ m ≠ TO ∧ m ≠ i1 ∧ m ≠ i2 := fun {m} q => ⟨fun e => q (by simp [e]), fun e => q (by simp [e]), fun e => q (by simp [e]), fun e => q (by simp [e])⟩
    have I1 : Inv X pins σ (upd H s.heap.objs.size (.tup [x, y])) { s with heap := h'', toks := tk } :=
      I.turnedNew (t' := tk) (ch := [z, TI, TO, i1, i2]) (fun m o hb q => (sb.2 m (off hb).1).trans (hk m o (off hb).1 (off hb).2.1 (off hb).2.2.1 (off hb).2.2.2 q)) hf (Nat.le_refl _) new
    refine ⟨.ref s.heap.objs.size, _, I1, rfl, ⟨_, x, y, rfl, I.hok.fresh (Nat.le_refl _), rfl, fun l hl => ?_, fun l hl => ?_⟩, ⟨z'', ?_, ⟨u', v', ?_⟩, ?_, ?_⟩, fun m hm => ?_⟩
    · rw [sqB_inj I hl g1]
      exact hx
    · rw [sqB_inj I hl g2]
      exact hy
    · exact (sb.2 _ D.TIz).trans (hk _ _ D.TIz D.TITO D.TIi1 D.TIi2 hTI)
    · exact (sb.2 _ D.TOz).trans TO'
    · exact n1.1.at fun o q => (sb.2 _ D.i1z).trans q
    · exact n2.1.at fun o q => (sb.2 _ D.i2z).trans q
    · have hlt : m < s.heap.objs.size := by
        rcases five hm with q | q | q | q | q <;> rw [q]
        · exact big
        · exact Heap.lt_size hTI
        · exact Heap.lt_size hTO
        · obtain ⟨_, e, _⟩ := h1.obj
          exact Heap.lt_size e
        · obtain ⟨_, e, _⟩ := h2.obj
          exact Heap.lt_size e
      rw [upd_ne (Nat.ne_of_lt hlt)]
      exact (hf m hm).1
  done := by
    intro X hP hw hK hc i pins s σ H E I hf st hg
    subst hP hw hK
    obtain ⟨hz, hTI, ⟨x0, y0, hTO⟩, h1, h2⟩ := st
    obtain ⟨xs, ys, g1, g2, le1, le2, hend⟩ := hg
    obtain ⟨us, r1, p1, _⟩ := sqB I g1
    obtain ⟨vs, r2, p2, _⟩ := sqB I g2
    have e1 : us.toArray.size = xs.length := by rw [r1.length]; simp
    have e2 : vs.toArray.size = ys.length := by rw [r2.length]; simp
    refine wpAny_pyNext_zipD2_end (sepB D) (drawB (P := X.prog) (w := X.w) (A := X.A.in1) (show X.A.in1.handled = none from I.ok.hd hc) c i1 a D.l1i1 us.toArray) (drawB (P := X.prog) (w := X.w) (A := X.A.in1) (show X.A.in1.handled = none from I.ok.hd hc) d i2 b D.l2i2 vs.toArray) hz hTI hTO ⟨h1, p1⟩ ⟨h2, p2⟩ (by rw [e1]; exact le1) (by rw [e2]; exact le2) (by rw [e1, e2]; exact hend) fun h' tk hk => ⟨rfl, ?_⟩
    exact I.turnedL (t' := tk) (ch := [z, TI, TO, i1, i2]) (fun m o hb q => hk m o (fun e => hb (by simp [e])) (fun e => hb (by simp [e])) (fun e => hb (by simp [e])) (fun e => hb (by simp [e])) q) hf
  self := fun A i s Q E st h => wpAny_pyIter_zip st.1 h
def iZipB (K : PySem.W.Frag) (ta : TA) : TI := fun σ H R => ta σ H fun vs H1 => ∃ c d a b xs ys, vs = [.ref a, .ref b] ∧ SqB c K H1 a xs ∧ SqB d K H1 b ys ∧ R (ItzB c d K a b) H1
theorem pi_zipB {X : Cx} {e e2 : Expr} {ta : TA} {p pos tpos : Pos} {elts : List Expr} {kk : Nat} (hg : Gl X "zip") (hm : X.mg "zip" = none) (ha : PA X [e, e2] ta)
    (hs : starEach [e, e2] X.env = (false, eval e X.env) :: starEach [e2] X.env := by rfl) (hpl : (backTo pos (starEach [e2] X.env)).any (·.1) = false := by rfl) :
    PI X (.Tuple elts kk tpos) (.Call (.Name "zip" p) [e, e2] [] pos) (iZipB X.K ta) := by
  constructor
  intro pins s σ H R I h
  refine Call_ (ld_blt I hg hm PyProof.Rows.boot_zip (PyProof.Rows.callWith_type1 (thn (ha.run pos pins s σ H _ I h) ?_) hs hpl))
  rintro us s1 ⟨vs, H1, I1, r1, c, d, a, b, xs, ys, rfl, g1, g2, q⟩
  cases r1 with
  | cons r rr =>
    cases rr with
    | cons r' rr =>
      cases rr
      cases r
      cases r'
      obtain ⟨its, rv, p1, l1⟩ := sqB I1 g1
      obtain ⟨its2, rv2, p2, l2⟩ := sqB I1 g2
      refine zip_begins2 (beginB c a its.toArray) (beginB d b its2.toArray) p1 p2 fun h' hz hTI hTO h1 h2 hsz hk => wpAny_pyIter_zip hz ?_
      have I2 : Inv X pins σ H1 { s1 with heap := h' } := I1.kept (t' := s1.toks) hk
      refine ⟨s1.heap.objs.size + 4, [s1.heap.objs.size + 4, s1.heap.objs.size + 2, s1.heap.objs.size + 3, s1.heap.objs.size, s1.heap.objs.size + 1], _, _, H1, rfl, I2, turnB (PySem.W.ktu_apart s1.heap.objs.size a b l1 l2), ⟨hz, hTI, ⟨_, _, hTO⟩, firstB_it h1, firstB_it h2⟩, fun m hm => ?_, q⟩
      have hle : s1.heap.objs.size ≤ m := by
        rcases five hm with z | z | z | z | z <;> rw [z]
        · exact Nat.le_add_right _ _
        · exact Nat.le_add_right _ _
        · exact Nat.le_add_right _ _
        · exact Nat.le_refl _
        · exact Nat.le_add_right _ _
      exact I1.fpOk hle (I1.hok.fresh hle)
/-! over the layer -/
section
variable {cl : Nms} {X : Cx} {W : WX} {tg e e2 : Expr} {p pos : Pos}
theorem src_zipB {T : Cs} {G H : Hp} {c d : Bool} {a b : Addr} {xs ys : List V} {ds es : List D} (h : SqB c T.K G a xs) (h' : SqB d T.K G b ys) (r : RepL T G ds xs) (r' : RepL T G es ys) : Src T (ItzB c d T.K a b) (paired ds es) G H := fun G' H' e1 e2 => by
  have up : ∀ {b' : Bool} {F F' : Hp} {m : Addr} {zs : List V}, Ex F F' → SqB b' T.K F m zs → SqB b' T.K F' m zs := fun {b' F F' m zs} z q => by
    cases b' with
    | true => exact ex_l z q
    | false => exact ex_t z q
  have q := up e2 (up e1 h)
  have q' := up e2 (up e1 h')
  refine ⟨fun i d hd => ?_, ⟨xs, ys, q, q', ?_⟩⟩
  · obtain ⟨x, y, h1, h2, rfl⟩ := paired_get hd
    obtain ⟨v, h3, h4⟩ := r.get h1
    obtain ⟨w, h5, h6⟩ := r'.get h2
    refine ⟨⟨xs, ys, v, w, q, q', h3, h5⟩, fun y H2 z => ?_⟩
    obtain ⟨p, v', w', rfl, hp, rfl, hv, hw⟩ := z
    have e : some v = some v' := h3.symm.trans (hv xs q)
    have e' : some w = some w' := h5.symm.trans (hw ys q')
    cases e
    cases e'
    exact give_tup e2 hp (RepL.cons (Rep.mono e1 _ _ h4) (RepL.cons (Rep.mono e1 _ _ h6) RepL.nil))
  · have z := paired_len (xs := ds) (ys := es)
    rw [r.length, r'.length]
    have := paired_le (xs := ds) (ys := es)
    omega
def seqB : D → Option (List D)
  | .tup xs => some xs
  | .lst xs => some xs
  | .ro xs => some xs
  | _ => none
def iZpB (as : M (List D)) : M (List D) := M.bind as fun ds => match ds with
  | [x, y] => match seqB x, seqB y with
    | some xs, some ys => M.ret (paired xs ys)
    | _, _ => M.stuck
  | _ => M.stuck
theorem seqB_rep {T : Cs} {G : Hp} {d : D} {xs : List D} {v : V} (h : seqB d = some xs) (r : Rep T G d v) : ∃ (b : Bool) (a : Addr) (vs : List V), v = .ref a ∧ SqB b T.K G a vs ∧ RepL T G xs vs := by
  cases d with
  | tup ds =>
    cases h
    obtain ⟨a, vs, e, h1, h2⟩ := r
    exact ⟨false, a, vs, e, h1, h2⟩
  | lst ds =>
    cases h
    obtain ⟨a, vs, e, h1, h2⟩ := r
    exact ⟨true, a, vs, e, SqL.of h1, h2⟩
  | ro ds =>
    cases h
    obtain ⟨a, vs, e, h1, h2⟩ := r
    exact ⟨true, a, vs, e, h1, h2⟩
  | _ => cases h
theorem SqB.up {K : PySem.W.Frag} {b : Bool} {F F' : Hp} {m : Addr} {zs : List V} (z : Ex F F') (q : SqB b K F m zs) : SqB b K F' m zs := by
  cases b with
  | true => exact ex_l z q
  | false => exact ex_t z q
theorem ei_zipB {ml : M (List D)} {elts : List Expr} {kk : Nat} {tpos : Pos} (hg : Gl X "zip") (hm : X.mg "zip" = none) (ha : EL cl X W [e, e2] ml)
    (hs : starEach [e, e2] X.env = (false, eval e X.env) :: starEach [e2] X.env := by rfl) (hpl : (backTo pos (starEach [e2] X.env)).any (·.1) = false := by rfl) :
    EI cl X W (.Tuple elts kk tpos) (.Call (.Name "zip" p) [e, e2] [] pos) (iZpB ml) := EI.by (pi_zipB hg hm ha hs hpl) fun G ρ σ H Q k x => at_tX k (At.bind (Ra := rLs) rI_back x fun ds ρ1 vs G1 H1 n1 k1 r1 a1 => by
  split at a1
  · rename_i d1 d2
    split at a1
    · rename_i xs ys q1 q2
      obtain ⟨v, w, rfl, r2, v', w', rfl, r3, r4⟩ := r1
      obtain rfl : w' = [] := r4
      obtain ⟨b1, a, as, rfl, h1, h2⟩ := seqB_rep q1 r2
      obtain ⟨b2, b, bs, rfl, h3, h4⟩ := seqB_rep q2 r3
      exact ⟨b1, b2, a, b, as, bs, rfl, h1.up k1.sub, h3.up k1.sub, a1.ret k1 (src_zipB h1 h3 h2 h4)⟩
    · obtain ⟨_, _, e, _⟩ := a1
      cases e
  · obtain ⟨_, _, e, _⟩ := a1
    cases e)
end
end Fn

set_option maxRecDepth 100000
set_option maxHeartbeats 4000000
namespace Fn
open PySem PySem.Spec PyProof.Rows L2

/-! ### what the top has written: classes of objects, their methods and properties, constants, tables -/
/-- a def named x, somewhere -/
def FnE (K : PySem.W.Frag) (x : Str) (st : Stmt) : Prop := ∃ f, FnAt K x st f
section
variable {K : PySem.W.Frag} {x m qual : Str} {st : Stmt} {C f p : Addr} {oc : Value} {od an : Option Addr} {kV dc pm cd ct u : Value} {sl : Array (Option Value)} {rest : List Value}
theorem fnE_mk (a : PySem.W.nsIn K mainGlobals x = some (some (.ref f))) (l : K.lookup f = some ⟨oc, od, .func (PySem.W.fnOf x x (defArgs st) (defBody st) (defScope st) .none kV dc pm an cd ct), sl⟩) (c : PySem.W.codeIn K cd x = true) (k : PySem.W.keepIn K (.ref f) = true) : FnE K x st := ⟨f, fnAt_mk a l c k⟩
/-- the method m of the class at C, at f -/
def MtAt (K : PySem.W.Frag) (C : Addr) (m qual : Str) (st : Stmt) (f : Addr) : Prop := ∃ (oc : Value) (od an : Option Addr) (kV dc pm cd ct : Value) (sl : Array (Option Value)), PySem.W.findIn K (.ref C) m = some (some (.ref f)) ∧
  K.lookup f = some ⟨oc, od, .func (PySem.W.fnOf m qual (defArgs st) (defBody st) (defScope st) .none kV dc pm an cd ct), sl⟩ ∧ PySem.W.codeIn K cd qual = true ∧ PySem.W.keepIn K (.ref f) = true ∧ PySem.W.isFn K (.ref f) = true
def MtE (K : PySem.W.Frag) (C : Addr) (m qual : Str) (st : Stmt) : Prop := ∃ f, MtAt K C m qual st f
theorem mtE_mk (a : PySem.W.findIn K (.ref C) m = some (some (.ref f))) (l : K.lookup f = some ⟨oc, od, .func (PySem.W.fnOf m qual (defArgs st) (defBody st) (defScope st) .none kV dc pm an cd ct), sl⟩) (c : PySem.W.codeIn K cd qual = true) (k : PySem.W.keepIn K (.ref f) = true) (i : PySem.W.isFn K (.ref f) = true) : MtE K C m qual st :=
  ⟨f, _, _, _, _, _, _, _, _, _, a, l, c, k, i⟩
/-- the property m of the class at C -/
def PrE (K : PySem.W.Frag) (C : Addr) (m qual : Str) (st : Stmt) : Prop := ∃ (p f : Addr) (oc : Value) (od an : Option Addr) (kV dc pm cd ct : Value) (sl : Array (Option Value)), PropOf K C m p f ∧
  K.lookup f = some ⟨oc, od, .func (PySem.W.fnOf m qual (defArgs st) (defBody st) (defScope st) .none kV dc pm an cd ct), sl⟩ ∧ PySem.W.codeIn K cd qual = true ∧ PySem.W.keepIn K (.ref f) = true
theorem prE_mk (a : PySem.W.findIn K (.ref C) m = some (some (.ref p))) (r : PySem.W.recIn K p "property" = some (.ref f :: rest)) (g : PySem.W.specialIn K (.ref p) "__get__" = some (some (.builtin "property.__get__"))) (t : PySem.W.takesIn K (.ref p) = some true)
    (l : K.lookup f = some ⟨oc, od, .func (PySem.W.fnOf m qual (defArgs st) (defBody st) (defScope st) .none kV dc pm an cd ct), sl⟩) (c : PySem.W.codeIn K cd qual = true) (k : PySem.W.keepIn K (.ref f) = true) : PrE K C m qual st :=
  ⟨p, f, _, _, _, _, _, _, _, _, _, ⟨a, g, t, ⟨rest, r⟩⟩, l, c, k⟩
/-- the class x, at C, makes objects -/
def OcAt (K : PySem.W.Frag) (x : Str) (C : Addr) : Prop := PySem.W.nsIn K mainGlobals x = some (some (.ref C)) ∧ PySem.W.makesIn K C = true ∧ PySem.W.keepIn K (.ref C) = true ∧ Cls K C
def ock (K : PySem.W.Frag) (C : Addr) (fs : List Str) : Bool :=
  PySem.W.makesIn K C && (PySem.W.keepIn K (.ref C) && (PySem.W.plainGet K C Str.empty && (PySem.W.hasDictIn K C && (PySem.W.plainOver K C && (decide (PySem.W.findIn K (.ref C) "__setattr__" = some (some (.builtin "object.__setattr__"))) && fs.all fun f => decide (PySem.W.findIn K (.ref C) f = some none))))))
theorem ock_ok {fs : List Str} (a : PySem.W.nsIn K mainGlobals x = some (some (.ref C))) (h : ock K C fs = true) : OcAt K x C ∧ ∀ f ∈ fs, NoAttr K C f := by
  unfold ock at h
  simp only [Bool.and_eq_true] at h
  obtain ⟨h1, h2, h3, h4, h5, h6, h7⟩ := h
  exact ⟨⟨a, h1, h2, ⟨h3, h4, h5, of_decide_eq_true h6⟩⟩, fun f hf => show PySem.W.findIn K (.ref C) f = some none from of_decide_eq_true (List.all_eq_true.mp h7 f hf)⟩
end
section
variable {T : At0} {h : Heap} {k n : Nat} {x m qual : Str} {st : Stmt} {C f : Addr} {F : Fx} {ps : List Str}
theorem calE_of (X : T.K.In h) (G : h.Ns mainGlobals T.mg) (A : FnE T.K x st)
    (ok : ∀ f fd, L2.Fun T.K x x st f fd → FnS T.P T.w T.K T.mg T.base (L2.CX T.P T.w) k f fd ps (spF ⟨T.K, T.cl, T.P, T.w⟩ n F))
    (hb : ∀ (kV doc pm : Value) (an : Option Addr) (cdv ct : Value) (us : List Value), us.length = ps.length → bindArgs (PySem.W.fnOf x x (defArgs st) (defBody st) (defScope st) .none kV doc pm an cdv ct) ⟨us, []⟩ = pure (ps.zip us)) : Cal T k n x F := by
  obtain ⟨f, A⟩ := A
  exact cal_of X G A (ok f) hb
theorem calM_of {c : Str} (ho : T.cl.o c = some C) (hC : Cls T.K C) (A : MtE T.K C m qual st)
    (ok : ∀ f fd, L2.Fun T.K m qual st f fd → FnS T.P T.w T.K T.mg T.base (L2.CX T.P T.w) k f fd ps (spF ⟨T.K, T.cl, T.P, T.w⟩ n F))
    (hb : ∀ (kV doc pm : Value) (an : Option Addr) (cdv ct : Value) (us : List Value), us.length = ps.length → bindArgs (PySem.W.fnOf m qual (defArgs st) (defBody st) (defScope st) .none kV doc pm an cdv ct) ⟨us, []⟩ = pure (ps.zip us)) : CalM T k n c m F := by
  obtain ⟨f, oc, od, an, kV, dc, pm, cd, ct, sl, i1, i2, i3, i4, i5⟩ := A
  have Fu := fun_mk i2 i3 i4
  exact ⟨C, f, _, ps, ho, hC, ⟨i1, i5, i4⟩, ok f _ Fu, Fu.binds hb⟩
theorem calN_of {c : Str} (X : T.K.In h) (G : h.Ns mainGlobals T.mg) (ho : T.cl.o c = some C) (O : OcAt T.K c C) (A : MtE T.K C "__init__" qual st)
    (ok : ∀ f fd, L2.Fun T.K "__init__" qual st f fd → FnS T.P T.w T.K T.mg T.base (L2.CX T.P T.w) k f fd ps (spF ⟨T.K, T.cl, T.P, T.w⟩ (n + 1) F))
    (hb : ∀ (kV doc pm : Value) (an : Option Addr) (cdv ct : Value) (us : List Value), us.length = ps.length → bindArgs (PySem.W.fnOf "__init__" qual (defArgs st) (defBody st) (defScope st) .none kV doc pm an cdv ct) ⟨us, []⟩ = pure (ps.zip us)) : CalN T k n c F := by
  obtain ⟨f, oc, od, an, kV, dc, pm, cd, ct, sl, i1, i2, i3, i4, i5⟩ := A
  have Fu := fun_mk i2 i3 i4
  exact ⟨C, f, _, ps, ho, ⟨O.2.1, i1, i5, O.2.2.1⟩, PySem.W.mg_of X G O.1, ok f _ Fu, Fu.binds hb⟩
theorem calP_of {c : Str} (ho : T.cl.o c = some C) (hC : Cls T.K C) (A : PrE T.K C m qual st)
    (ok : ∀ f fd, L2.Fun T.K m qual st f fd → FnS T.P T.w T.K T.mg T.base (L2.CX T.P T.w) k f fd ps (spF ⟨T.K, T.cl, T.P, T.w⟩ 1 F))
    (hb : ∀ (kV doc pm : Value) (an : Option Addr) (cdv ct : Value) (us : List Value), us.length = ps.length → bindArgs (PySem.W.fnOf m qual (defArgs st) (defBody st) (defScope st) .none kV doc pm an cdv ct) ⟨us, []⟩ = pure (ps.zip us)) : CalP T k c m F := by
  obtain ⟨p, f, oc, od, an, kV, dc, pm, cd, ct, sl, hp, i2, i3, i4⟩ := A
  have Fu := fun_mk i2 i3 i4
  exact ⟨C, p, f, _, ps, ho, hC, hp, ok f _ Fu, Fu.binds hb⟩
/-- a def that a table names -/
theorem calV_of (hf : T.cl.f x = some f) (A : FnAt T.K x st f)
    (ok : ∀ fd, L2.Fun T.K x x st f fd → FnS T.P T.w T.K T.mg T.base (L2.CX T.P T.w) k f fd ps (spF ⟨T.K, T.cl, T.P, T.w⟩ n F))
    (hb : ∀ (kV doc pm : Value) (an : Option Addr) (cdv ct : Value) (us : List Value), us.length = ps.length → bindArgs (PySem.W.fnOf x x (defArgs st) (defBody st) (defScope st) .none kV doc pm an cdv ct) ⟨us, []⟩ = pure (ps.zip us)) : CalV T k n x F := by
  obtain ⟨oc, od, an, kV, dc, pm, cd, ct, sl, i1, i2, i3, i4⟩ := A
  have Fu := fun_mk i2 i3 i4
  exact ⟨f, _, ps, ok _ Fu, hf, i4, Fu.binds hb⟩
/-- constants of the top -/
theorem con_int (X : T.K.In h) (G : h.Ns mainGlobals T.mg) {i : Int} {t : Tok} (a : PySem.W.nsIn T.K mainGlobals x = some (some (.int i t))) : Con T x (.int i) := ⟨_, PySem.W.mg_of X G a, .inl ⟨i, rfl, t, rfl⟩⟩
theorem con_str (X : T.K.In h) (G : h.Ns mainGlobals T.mg) {z : Str} {t : Tok} (a : PySem.W.nsIn T.K mainGlobals x = some (some (.str z t))) : Con T x (.str z) := ⟨_, PySem.W.mg_of X G a, .inr ⟨z, rfl, t, rfl⟩⟩
/-- the keys and values of a dict whose keys are texts, as they stand -/
def pairsOf : List DictEntry → Option (List (Str × Value))
  | [] => some []
  | e :: es => match e.key with
    | .str z _ => (pairsOf es).map ((z, e.val) :: ·)
    | _ => none
theorem pairs_find (z : Str) : ∀ {es : List DictEntry} {ps : List (Str × Value)}, pairsOf es = some ps → (es.find? (·.key.isStr z)).map (·.val) = ps.lookup z ∧ es.any (·.refKey) = false
  | [], ps, h => by
    cases h
    exact ⟨rfl, rfl⟩
  | e :: es, ps, h => by
    have h' : (match e.key with | .str y _ => (pairsOf es).map ((y, e.val) :: ·) | _ => none) = some ps := h
    cases q : e.key with
    | str y t =>
      rw [q] at h'
      obtain ⟨ps', h1, rfl⟩ := Option.map_eq_some_iff.mp h'
      obtain ⟨i1, i2⟩ := pairs_find z h1
      have r : e.refKey = false := by
        unfold DictEntry.refKey
        rw [q]
      have s : e.key.isStr z = (y == z) := by
        rw [q]
        rfl
      refine ⟨?_, by rw [List.any_cons, r, i2]; rfl⟩
      by_cases w : y = z
      · subst w
        rw [List.find?_cons_of_pos (by rw [s]; simp)]
        simp
      · have w1 : (y == z) = false := by simpa using w
        have w2 : (z == y) = false := by simpa using Ne.symm w
        rw [List.find?_cons_of_neg (by rw [s, w1]; simp), i1, List.lookup_cons, w2]
    | _ =>
      rw [q] at h'
      cases h'
theorem nsIn_tab {K : PySem.W.Frag} {d : Addr} {c : Value} {dd : Option Addr} {es : Array DictEntry} {n : Nat} {sl : Array (Option Value)} {ps : List (Str × Value)} (l : K.lookup d = some ⟨c, dd, .dict es n, sl⟩) (p : pairsOf es.toList = some ps) (z : Str) : PySem.W.nsIn K d z = some (ps.lookup z) := by
  obtain ⟨h1, h2⟩ := pairs_find z p
  unfold PySem.W.nsIn
  rw [l]
  dsimp only
  cases q : es.toList.find? (·.key.isStr z) with
  | some e =>
    rw [q] at h1
    rw [← h1]
    rfl
  | none =>
    rw [q] at h1
    rw [← h1, h2]
    rfl
def tabOk (cf : Str → Option Addr) : List (Str × Str) → List (Str × Value) → Bool
  | [], [] => true
  | (x, y) :: t, (x', v) :: p => decide (x = x') && ((cf y).isSome && (decide ((cf y).map Value.ref = some v) && tabOk cf t p))
  | _, _ => false
theorem tabOk_look {cf : Str → Option Addr} : ∀ {t : List (Str × Str)} {p : List (Str × Value)}, tabOk cf t p = true → (∀ z, (match t.lookup z with | some y => (cf y).map Value.ref | none => none) = p.lookup z) ∧ ∀ z y, t.lookup z = some y → (cf y).isSome = true
  | [], [], h => ⟨fun z => rfl, fun z y e => by cases e⟩
  | [], _ :: _, h => by cases h
  | _ :: _, [], h => by cases h
  | (x, y) :: t, (x', v) :: p, h => by
    have h' : (decide (x = x') && ((cf y).isSome && (decide ((cf y).map Value.ref = some v) && tabOk cf t p))) = true := h
    simp only [Bool.and_eq_true] at h'
    obtain ⟨h1, h2, h3, h4⟩ := h'
    obtain rfl : x = x' := of_decide_eq_true h1
    have h3' := of_decide_eq_true h3
    obtain ⟨i1, i2⟩ := tabOk_look h4
    refine ⟨fun z => ?_, fun z y' e => ?_⟩
    · rw [List.lookup_cons, List.lookup_cons]
      cases q : z == x with
      | true => exact h3'
      | false => exact i1 z
    · rw [List.lookup_cons] at e
      cases q : z == x with
      | true =>
        rw [q] at e
        cases e
        exact h2
      | false =>
        rw [q] at e
        exact i2 z y' e
theorem ktab_of (X : T.K.In h) (G : h.Ns mainGlobals T.mg) {d : Addr} {es : Array DictEntry} {n : Nat} {ps : List (Str × Value)} {tab : List (Str × Str)} (a : PySem.W.nsIn T.K mainGlobals x = some (some (.ref d))) (l : T.K.lookup d = some ⟨.type "dict", none, .dict es n, #[]⟩)
    (lit : PySem.W.KeysLit T.w.params es.toList) (low : (d == sysModules) = false) (p : pairsOf es.toList = some ps) (ok : tabOk T.cl.f tab ps = true) : KTab T x tab := by
  obtain ⟨h1, h2⟩ := tabOk_look ok
  exact ⟨d, es, n, ⟨l, lit, low⟩, PySem.W.mg_of X G a, fun z => by rw [nsIn_tab l p z, ← h1 z]; rfl, h2⟩
/-! a def that is stuck wherever it is called: a recursion's ground -/
theorem ess_none {cl : Nms} {X : Cx} {W : WX} {np : Nat} {sts : List Stmt} : ESs cl X W np sts (fun _ => none) := ⟨fun pins s σ H D I h => by
  obtain ⟨_, _, _, _, _, e, _⟩ := h
  cases e⟩
theorem calNone_of {N : List Str} (X : T.K.In h) (G : h.Ns mainGlobals T.mg) (A : FnE T.K x st) (Sc : FnScope N ps (defScope st))
    (hb : ∀ (kV doc pm : Value) (an : Option Addr) (cdv ct : Value) (us : List Value), us.length = ps.length → bindArgs (PySem.W.fnOf x x (defArgs st) (defBody st) (defScope st) .none kV doc pm an cdv ct) ⟨us, []⟩ = pure (ps.zip us)) : Cal T (k + 1) ps.length x (fun _ => none) :=
  calE_of X G A (fun f fd F => by
    have z : (fun _ => none : Fx) = defF N.length (fun _ => none) := rfl
    rw [z]
    exact def_ok (k := k) (N := N) (den := fun _ => none) F Sc rfl fun cdv A outer s H E hgd hr => ess_none) hb
end
end Fn

set_option maxRecDepth 100000
set_option maxHeartbeats 4000000
namespace Fn
open PySem PySem.Spec PyProof.Rows L2

/-! ### >= that is reckoned where the left one is not known but for being above nought -/
def leN : Nat → Nat → Bool
  | 0, _ => true
  | _ + 1, 0 => false
  | a + 1, b + 1 => leN a b
theorem leN_eq : ∀ a b : Nat, leN a b = decide (a ≤ b)
  | 0, b => by simp [leN]
  | a + 1, 0 => by simp [leN]
  | a + 1, b + 1 => by
    rw [leN, leN_eq a b]
    simp
def geI : Int → Int → Bool
  | .ofNat a, .ofNat b => leN b a
  | .ofNat _, .negSucc _ => true
  | .negSucc _, .ofNat _ => false
  | .negSucc a, .negSucc b => leN a b
theorem geI_eq : ∀ a b : Int, geI a b = decide (b ≤ a)
  | .ofNat a, .ofNat b => by
    show leN b a = _
    rw [leN_eq]
    simp
  | .ofNat a, .negSucc b => by
    show true = _
    rw [eq_comm, decide_eq_true_eq]
    have z : Int.ofNat a = (a : Int) := rfl
    omega
  | .negSucc a, .ofNat b => by
    show false = _
    rw [eq_comm, decide_eq_false_iff_not]
    have z : Int.ofNat b = (b : Int) := rfl
    omega
  | .negSucc a, .negSucc b => by
    show leN a b = _
    rw [leN_eq]
    have : (a ≤ b) ↔ (Int.negSucc b ≤ Int.negSucc a) := by omega
    simp only [this]
def fGeP : D → D → Option D
  | .int a, .int b => some (.bl (geI a b))
  | a, b => fGe a b
theorem fGeP_eq : fGeP = fGe := by
  funext a b
  unfold fGeP
  split
  · rename_i i j
    rw [geI_eq]
    first | rfl | simp [fGe]
  · rfl
section
variable {cl : Nms} {X : Cx} {W : WX} {a b : Expr} {ma mb : M Rf} {pos : Pos}
theorem cP_ge (hm : behindInMarks .GtE b = false) (ha : ER cl X W a ma) (hb : ER cl X W b mb) : ED cl X W (.Compare a [.GtE] [b] pos) (eBinD fGeP ma mb) := by
  rw [fGeP_eq]
  exact c_ge hm ha hb
theorem tP_ge (hm : behindInMarks .GtE b = false) (ha : ER cl X W a ma) (hb : ER cl X W b mb) : ET cl X W (.Compare a [.GtE] [b] pos) (eT (eBinD fGeP ma mb)) := by
  rw [fGeP_eq]
  exact t_ge hm ha hb
end
theorem keysLit_nil {P : Params} : PySem.W.KeysLit P [] := True.intro
theorem keysLit_cons {P : Params} {e : DictEntry} {r : List DictEntry} {x : Str} {t : Tok} (h1 : e.key = .str x t) (h2 : e.hash = PyData.keyHash P x) (h3 : PySem.W.KeysLit P r) : PySem.W.KeysLit P (e :: r) := ⟨⟨x, t, h1, h2⟩, h3⟩
/-- an address is shown -/
def ShowA (x : Str) (a : Addr) : Prop := x = x ∧ a = a
theorem showA_mk {K : PySem.W.Frag} {h : Heap} {x : Str} {a : Addr} (X : K.In h) (e : PySem.W.nsIn K mainGlobals x = some (some (.ref a))) : ShowA x a := ⟨rfl, rfl⟩
end Fn

set_option maxRecDepth 100000
set_option maxHeartbeats 4000000
namespace Fn
open PySem PySem.Spec PyProof.Rows L2

/-! ### is None, is not None; is and is not of bools -/
def isNon : D → Bool
  | .non => true
  | _ => false
theorem rep_non {T : Cs} {G : Hp} {d : D} {v : V} (h : Rep T G d v) : decide (v = V.non) = isNon d := by
  cases d with
  | non =>
    obtain rfl : v = .non := h
    rfl
  | bl b =>
    obtain rfl : v = .bl b := h
    rfl
  | int i =>
    obtain rfl : v = .int i := h
    rfl
  | str x =>
    obtain rfl : v = .str x := h
    rfl
  | lst ds =>
    obtain ⟨a, _, rfl, _⟩ := h
    rfl
  | ro ds =>
    obtain ⟨a, _, rfl, _⟩ := h
    rfl
  | tup ds =>
    obtain ⟨a, _, rfl, _⟩ := h
    rfl
  | dk ks ds =>
    obtain ⟨a, _, rfl, _⟩ := h
    rfl
  | exc c ns ds =>
    obtain ⟨a, _, rfl, _⟩ := h
    rfl
  | obj c ns ds =>
    obtain ⟨a, _, _, _, rfl, _⟩ := h
    rfl
  | fn x =>
    obtain ⟨f, _, rfl⟩ := h
    rfl
  | set ks =>
    obtain ⟨a, rfl, _⟩ := h
    rfl
  | dt ks ds =>
    obtain ⟨a, _, rfl, _⟩ := h
    rfl
  | rk ks ds =>
    obtain ⟨a, _, _, rfl, _⟩ := h
    rfl
def fIs (f : Bool → Bool) : D → D → Option D
  | d, .non => some (.bl (f (isNon d)))
  | .bl a, .bl b => some (.bl (f (decide (a = b))))
  | _, _ => none
section
variable {cl : Nms} {X : Cx} {W : WX} {a b : Expr} {ma mb : M Rf} {pos : Pos}
def rIsA (T : Cs) (f : Bool → Bool) : R2 := fun x y H Q => (y = .non ∧ Q (.bl (f (decide (x = .non)))) H) ∨ ∃ a b : Bool, x = .bl a ∧ y = .bl b ∧ Q (.bl (f (decide (a = b)))) H
theorem op_isA : OpR X (compareOp .Is) (rIsA (csX X cl) id) := OpR.or op_isN op_isBl
theorem op_isnotA : OpR X (compareOp .IsNot) (rIsA (csX X cl) (!·)) := OpR.or op_notN op_notBl
theorem hop_isA (f : Bool → Bool) : HopD cl X W (fIs f) (rIsA (csX X cl) f) := fun G H σ ρ d1 d2 o v1 v2 Q k e q1 q2 h => by
  unfold fIs at e
  split at e
  · cases e
    have r2 : Rep (csX X cl) H .non v2 := q2.inH k
    obtain rfl : v2 = .non := r2
    exact .inl ⟨rfl, by rw [rep_non (q1.inH k)]; exact h.ret k rfl⟩
  · rename_i x y
    cases e
    have r1 : Rep (csX X cl) H (.bl x) v1 := q1.inH k
    have r2 : Rep (csX X cl) H (.bl y) v2 := q2.inH k
    obtain rfl : v1 = .bl x := r1
    obtain rfl : v2 = .bl y := r2
    exact .inr ⟨x, y, rfl, rfl, h.ret k rfl⟩
  · cases e
theorem c_is (hm : behindInMarks .Is b = false) (ha : ER cl X W a ma) (hb : ER cl X W b mb) : ED cl X W (.Compare a [.Is] [b] pos) (eBinD (fIs id) ma mb) := ed_cmp op_isA (hop_isA id) hm ha hb
theorem c_isnot (hm : behindInMarks .IsNot b = false) (ha : ER cl X W a ma) (hb : ER cl X W b mb) : ED cl X W (.Compare a [.IsNot] [b] pos) (eBinD (fIs (!·)) ma mb) := ed_cmp op_isnotA (hop_isA (!·)) hm ha hb
theorem t_is (hm : behindInMarks .Is b = false) (ha : ER cl X W a ma) (hb : ER cl X W b mb) : ET cl X W (.Compare a [.Is] [b] pos) (eT (eBinD (fIs id) ma mb)) := et_cmp op_isA (hop_isA id) hm ha hb
theorem t_isnot (hm : behindInMarks .IsNot b = false) (ha : ER cl X W a ma) (hb : ER cl X W b mb) : ET cl X W (.Compare a [.IsNot] [b] pos) (eT (eBinD (fIs (!·)) ma mb)) := et_cmp op_isnotA (hop_isA (!·)) hm ha hb
end
end Fn

set_option maxRecDepth 100000
set_option maxHeartbeats 4000000
namespace Fn
open PySem PySem.Spec PyProof.Rows L2

/-! ### xs.pop(i), xs a list of a variable's own -/
def popM (y : Rf) (i : Int) : M D := fun ρ => match y with
  | .s j => match ρ[j]? with
    | some (some (.lst ds)) => match ixN ds.length i with
      | some k => match ds[k]? with
        | some d => if -(2 ^ 63) ≤ i ∧ i < 2 ^ 63 then some (.ok d, ρ.set j (some (.lst (ds.eraseIdx k)))) else none
        | none => none
      | none => none
    | _ => none
  | .d _ => none
def ePopAt (mo : M Rf) (mi : M D) : M D := M.bind mo fun y => M.bind y.get fun d0 => match d0 with
  | .lst _ => M.bind mi fun x => match x with
    | .int i => popM y i
    | _ => M.stuck
  | _ => M.stuck
theorem RepL.erase {T : Cs} {G : Hp} : ∀ {ds : List D} {vs : List V} {k : Nat}, RepL T G ds vs → RepL T G (ds.eraseIdx k) (vs.eraseIdx k)
  | [], vs, k, h => by
    obtain rfl : vs = [] := h
    rfl
  | d :: ds, vs, 0, h => by
    obtain ⟨v, r, rfl, h2, h3⟩ := h
    exact h3
  | d :: ds, vs, k + 1, h => by
    obtain ⟨v, r, rfl, h2, h3⟩ := h
    exact ⟨v, r.eraseIdx k, rfl, h2, RepL.erase h3⟩
section
variable {cl : Nms} {X : Cx} {W : WX} {o e : Expr} {mo : M Rf} {md : M D} {apos cpos : Pos} {T : Cs} {G H : Hp} {σ : L2.St} {ρ : En}
theorem kd_same {ρ : En} {j : Nat} {u u' : O} (hj : ρ[j]? = some (some u)) (hu : kd (some (some u)) = kd (some (some u'))) (i : Nat) : kd (ρ.set j (some u'))[i]? = kd ρ[i]? := by
  by_cases q : j = i
  · subst q
    rw [List.getElem?_set_self (List.getElem?_eq_some_iff.mp hj).1, hj, hu]
  · rw [List.getElem?_set_ne q]
theorem ed_popAt (ho : ER cl X W o mo) (he : ED cl X W e md)
    (hbase : attributeBase o "pop" X.env (eval o X.env) = eval o X.env := by rfl)
    (hfew : ((backTo cpos (starEach [e] X.env)).all (fun x => !x.1) && (backToKw cpos (keywordEach [] X.env)).all (fun x => x.1.isSome)
      && decide ([e].length + ([] : List Keyword).length + (if ([] : List Keyword).isEmpty then 0 else 1) < 30)) = true := by rfl)
    (hline : (apos.endLine == cpos.line) = true := by rfl) (hst : starEach [e] X.env = (false, eval e X.env) :: starEach [] X.env := by rfl) (hplain : (backTo cpos (starEach [] X.env)).any (·.1) = false := by rfl) :
    ED cl X W (.Call (.Attribute o "pop" apos) [e] [] cpos) (ePopAt mo md) :=
  EX.by (pe_bm PySem.F.plainAttrs_list PySem.F.slot_list_pop PySem.F.type_list_pop mt_popAt ho (pa_cons he pa_nil hst) hbase hfew hline hst hplain) fun G ρ σ H Q k a => at_tX k (At.bind (Ra := rR) rD_back a fun y ρ1 v1 G1 H1 n1 k1 r1 a1 => by
    obtain ⟨d0, q0, a2⟩ := At.get a1 k1 r1
    cases d0 with
    | lst ds0 =>
      obtain ⟨p0, xs0, rfl, h0, _⟩ := q0.lst k1
      refine ⟨.inl ⟨rfl, _, SqL.of h0⟩, at_tX k1 (At.bind (Ra := rD) rD_back a2 fun x ρ2 v2 G2 H2 n2 k2 r2 a3 => ?_)⟩
      cases x with
      | int i =>
        obtain ⟨r, ρ3, e3, oo⟩ := a3
        have e3' : popM y i ρ2 = some (r, ρ3) := e3
        unfold popM at e3'
        cases y with
        | d _ => cases e3'
        | s j =>
          dsimp only at e3'
          split at e3'
          case h_2 => cases e3'
          rename_i ds hj
          split at e3'
          case h_2 => cases e3'
          rename_i kk hk
          split at e3'
          case h_2 => cases e3'
          rename_i d hd
          split at e3'
          case isFalse => cases e3'
          rename_i hb
          cases e3'
          have hy : rR (csX X cl) H2 σ ρ2 G2 H2 (.s j) (.ref p0) := rR_keep n2 r1
          have hv : σ[j]? = some (some (V.ref p0)) := hy
          obtain ⟨p, xs, ep, h1, h2, h3⟩ := k2.at_ hj hv
          cases ep
          obtain ⟨w, hw, rw⟩ := h3.get hd
          obtain rfl : v2 = .int i := r2
          have hlen : xs.length = ds.length := h3.length
          obtain ⟨n4, k4⟩ := upd_ok (np := 0) (u' := .lst (ds.eraseIdx kk)) (ho := .lst (xs.eraseIdx kk)) k2 hj rfl rfl hv ⟨p0, xs.eraseIdx kk, rfl, upd_same, h2, RepL.erase h3⟩
          refine ⟨p0, xs, i, kk, w, rfl, rfl, h1, hb.1, hb.2, by rw [hlen]; exact (ixN_seq hk).1, hw, ?_⟩
          exact oo w G2 _ { n4.toNx with kp := kd_same hj rfl } k4 rw
      | _ =>
        obtain ⟨_, _, e, _⟩ := a3
        cases e
    | _ =>
      obtain ⟨_, _, e, _⟩ := a2
      cases e)
end
end Fn

set_option maxRecDepth 100000
set_option maxHeartbeats 4000000
namespace Fn
open PySem PySem.Spec PyProof.Rows L2

/-! ### d.get(k, x) -/
def isDk : D → Bool
  | .dk _ _ => true
  | .rk _ _ => true
  | _ => false
def fGet2 (d k z : D) : Option D := match d with
  | .dk ks ds => (asKey k).map fun k => (dLook ks ds k).getD z
  | .rk ks ds => (asKey k).map fun k => (dLook ks ds k).getD z
  | _ => none
def eDGet2 (mo : M Rf) (mk md : M D) : M D := M.bind mo fun y => M.bind y.get fun d0 => if isDk d0 = true then M.bind mk fun k => M.bind md fun z => M.bind y.get fun d => M.lift (fGet2 d k z) else M.stuck
section
variable {cl : Nms} {X : Cx} {W : WX} {o e f : Expr} {mo : M Rf} {mk md : M D} {apos cpos : Pos}
theorem isDk_rep {T : Cs} {G H : Hp} {σ : L2.St} {ρ : En} {d : D} {v : V} (h : isDk d = true) (r : RepT T G H d v) (k : Ok T G H σ ρ) : ∃ a, v = .ref a ∧ IsD H a := by
  cases d with
  | dk ks ds =>
    obtain ⟨a, kvs, rfl, h1, _⟩ := r.dk k
    exact ⟨a, rfl, .inl ⟨kvs, h1⟩⟩
  | rk ks ds =>
    obtain ⟨a, oo, kvs, rfl, h1, _⟩ := r.rk k
    exact ⟨a, rfl, .inl ⟨kvs, .inr ⟨oo, h1⟩⟩⟩
  | _ => cases h
/-- what such a dict has at a key -/
theorem get2_rep {T : Cs} {G : Hp} {k : Key} {ks : List Key} {ds : List D} {kvs : List (Key × V)} {z : D} {u : V} (g : RepL T G ds (kvs.map (·.2))) (hz : Rep T G z u) (ek : kvs.map (·.1) = ks) : ∃ o, valV kvs k = o ∧ Rep T G ((dLook ks ds k).getD z) (o.getD u) := by
  subst ek
  cases q : dLook (kvs.map (·.1)) ds k with
  | none => exact ⟨none, dLook_none g q, hz⟩
  | some d =>
    obtain ⟨w, h1, h2⟩ := dLook_rep g q
    exact ⟨some w, h1, h2⟩
theorem ed_dget2 (hu : X.A.units + 1 < cLine) (m : M2 X o "get" apos e f cpos) (ho : ER cl X W o mo) (he : ED cl X W e mk) (hf : ED cl X W f md) : ED cl X W (.Call (.Attribute o "get" apos) [e, f] [] cpos) (eDGet2 mo mk md) :=
  EX.by (pe_dget2 hu ho he hf m) fun G ρ σ H Q k a => at_tX k (At.bind (Ra := rR) rD_back a fun y ρ1 v1 G1 H1 n1 k1 r1 a1 => by
    obtain ⟨d0, q0, a2⟩ := At.get a1 k1 r1
    by_cases c : isDk d0 = true
    · rw [if_pos c] at a2
      obtain ⟨p, rfl, hd⟩ := isDk_rep c q0 k1
      refine ⟨p, rfl, hd, at_tX k1 (At.bind (Ra := rD) rD_back a2 fun kx ρ2 v2 G2 H2 n2 k2 r2 a3 => at_tX k2 (At.bind (Ra := rD) rD_back a3 fun zx ρ3 v3 G3 H3 n3 k3 r3 a4 => ?_))⟩
      obtain ⟨d, q1, a5⟩ := At.get a4 k3 (rR_keep n3 (rR_keep n2 r1))
      obtain ⟨x, ex, a6⟩ := a5.lift
      unfold fGet2 at ex
      split at ex
      · obtain ⟨p', kvs, ep, g1, g2, g3⟩ := q1.dk k3
        cases ep
        obtain ⟨ky, e1, rfl⟩ := Option.map_eq_some_iff.mp ex
        obtain rfl := asKey_rep1 e1 r2
        obtain ⟨oo, h1, h2⟩ := get2_rep (k := ky) g3 r3 g2
        exact ⟨oo, .inl ⟨kvs, ky, g1, rfl, h1.symm⟩, a6.ret k3 h2⟩
      · obtain ⟨p', fo, kvs, ep, g1, g2, g3⟩ := q1.rk k3
        cases ep
        obtain ⟨ky, e1, rfl⟩ := Option.map_eq_some_iff.mp ex
        obtain rfl := asKey_rep1 e1 r2
        obtain ⟨oo, h1, h2⟩ := get2_rep (k := ky) g3 r3 g2
        exact ⟨oo, .inl ⟨kvs, ky, .inr ⟨fo, g1⟩, rfl, h1.symm⟩, a6.ret k3 h2⟩
      · cases ex
    · rw [if_neg c] at a2
      obtain ⟨_, _, e, _⟩ := a2
      cases e)
end
end Fn

set_option maxRecDepth 100000
set_option maxHeartbeats 4000000
namespace Fn
open PySem PySem.Spec PyProof.Rows L2

/-! ### break, continue -/
def sBreak : S := fun ρ => some (.bk, ρ)
def sCont : S := fun ρ => some (.ct, ρ)
section
variable {cl : Nms} {X : Cx} {W : WX} {np : Nat} {pos : Pos}
theorem es_break : ES cl X W np (.Break pos) sBreak := ES.by ps_break fun G ρ D σ H k ⟨fl, ρ', e, o⟩ => by
  cases e
  exact o G H σ (Ns.refl ..) k
theorem es_cont : ES cl X W np (.Continue pos) sCont := ES.by ps_continue fun G ρ D σ H k ⟨fl, ρ', e, o⟩ => by
  cases e
  exact o G H σ (Ns.refl ..) k
end
end Fn

set_option maxRecDepth 100000
set_option maxHeartbeats 4000000
namespace Fn
open PySem PySem.Spec PyProof.Rows L2

/-! ### a text asked without arguments; tuples of the top; x += e; reversed(xs); xs.index(y) -/
def fTxt (f : Str → Bool) : D → Option D
  | .str x => some (.bl (f x))
  | _ => none
def eTxt (f : Str → Bool) (mo : M Rf) : M D := M.bind mo fun y => M.bind y.get fun d => M.lift (fTxt f d)
section
variable {cl : Nms} {X : Cx} {W : WX} {o e tg : Expr} {mo : M Rf} {md : M D} {apos cpos pos p : Pos} {np : Nat}
theorem ed_txt {id : String} {name : Str} {f : Str → Bool} (slot : Slot "str" name id) (ty : typeOf (.builtin id) = pure (.type "method_descriptor"))
    (rule : MtR X id (fun x xs H Q => ∃ a, x = .str a ∧ xs = [] ∧ True ∧ Q (.bl (f a)) H)) (ho : ER cl X W o mo)
    (hbase : attributeBase o name X.env (eval o X.env) = eval o X.env := by rfl) (hline : (apos.endLine == cpos.line) = true := by rfl) : ED cl X W (.Call (.Attribute o name apos) [] [] cpos) (eTxt f mo) :=
  EX.by (pe_m0 slot ty rule ho hbase hline) fun G ρ σ H Q k a => at_tX k (At.bind (Ra := rR) rD_back a fun y ρ1 v1 G1 H1 n1 k1 r1 a1 => by
    obtain ⟨d, q0, a2⟩ := At.get a1 k1 r1
    obtain ⟨x, ex, a3⟩ := a2.lift
    cases d with
    | str z =>
      cases ex
      obtain rfl := q0.str
      exact ⟨⟨z, rfl⟩, z, rfl, rfl, trivial, a3.ret k1 rfl⟩
    | _ => cases ex)
theorem ed_isascii (ho : ER cl X W o mo) (hbase : attributeBase o "isascii" X.env (eval o X.env) = eval o X.env := by rfl) (hline : (apos.endLine == cpos.line) = true := by rfl) : ED cl X W (.Call (.Attribute o "isascii" apos) [] [] cpos) (eTxt Txt.isascii mo) :=
  ed_txt PySem.F.slot_str_isascii PySem.F.type_str_isascii mt_isascii ho hbase hline
theorem ed_isalpha (ho : ER cl X W o mo) (hbase : attributeBase o "isalpha" X.env (eval o X.env) = eval o X.env := by rfl) (hline : (apos.endLine == cpos.line) = true := by rfl) : ED cl X W (.Call (.Attribute o "isalpha" apos) [] [] cpos) (eTxt Txt.isalpha mo) :=
  ed_txt PySem.F.slot_str_isalpha PySem.F.type_str_isalpha mt_isalpha ho hbase hline
theorem ed_islower (ho : ER cl X W o mo) (hbase : attributeBase o "islower" X.env (eval o X.env) = eval o X.env := by rfl) (hline : (apos.endLine == cpos.line) = true := by rfl) : ED cl X W (.Call (.Attribute o "islower" apos) [] [] cpos) (eTxt Txt.islower mo) :=
  ed_txt PySem.F.slot_str_islower PySem.F.type_str_islower mt_islower ho hbase hline
theorem ed_isdigit (ho : ER cl X W o mo) (hbase : attributeBase o "isdigit" X.env (eval o X.env) = eval o X.env := by rfl) (hline : (apos.endLine == cpos.line) = true := by rfl) : ED cl X W (.Call (.Attribute o "isdigit" apos) [] [] cpos) (eTxt Txt.isdigit mo) :=
  ed_txt PySem.F.slot_str_isdigit PySem.F.type_str_isdigit mt_isdigit ho hbase hline
/-- a datum that the top names, whatever the heap -/
def ConT (T : At0) (x : Str) (d : D) : Prop := ∃ u v, T.mg x = some u ∧ RelV v u ∧ ∀ G, Rep ⟨T.K, T.cl, T.P, T.w⟩ G d v
theorem ed_conT {x : Str} {d : D} (h : ConT (atX cl X) x d) (hg : Gl X x) (hd : (x == ("__debug__" : Str)) = false := by decide) : ED cl X W (.Name x pos) (eC d) := by
  obtain ⟨u, v, h1, r, h2⟩ := h
  exact EX.by (pe_glob hg h1 r hd) fun G ρ σ H Q k h => h.ret k (h2 G)
/-- x += e, x a number -/
def sAug (np i : Nat) (m : M D) : S := fun ρ => match ρ[i]? with
  | some (some (.dat (.int a))) => m.then_ (fun d ρ1 => match d with
    | .int b => if i < ρ1.length ∧ ¬ (i < np ∧ kd ρ1[i]? = 3) then some (.nx, ρ1.set i (some (.dat (.int (a + b))))) else none
    | _ => none) ρ
  | _ => none
theorem es_aug {i : Nat} {x : Str} {pos' : Pos} (hN : X.N.Nodup) (hi : X.N[i]? = some x) (hx : Loc X.env.scope x) (h : ED cl X W e md)
    (hf : X.fn x = true ∨ X.env.scope.names.lookup x = some .local := by first | exact .inl rfl | exact .inr rfl | assumption) : ES cl X W np (.AugAssign (.Name x pos') .Add e pos) (sAug np i md) :=
  ES.by (ps_aug hN hi hx h ip_add hf) fun G ρ D σ H k a => by
    obtain ⟨fl, ρ', e, o⟩ := a
    unfold sAug at e
    split at e
    case h_2 => cases e
    rename_i a ha
    obtain ⟨v, hv, rv⟩ := k.rep i _ ha
    obtain rfl : v = .int a := rv
    refine ⟨_, hv, at_tX k ?_⟩
    have A : AtS (csX X cl) W np (md.then_ (fun d ρ1 => match d with
      | .int b => if i < ρ1.length ∧ ¬ (i < np ∧ kd ρ1[i]? = 3) then some (.nx, ρ1.set i (some (.dat (.int (a + b))))) else none
      | _ => none)) G ρ D σ H := ⟨fl, ρ', e, o⟩
    refine A.then0 (R := rD) fun d ρ1 w G1 H1 n1 k1 r1 ⟨fl, ρ2, e2, o2⟩ => ?_
    cases d with
    | int b =>
      dsimp only at e2
      split at e2
      case isFalse => cases e2
      rename_i hp
      cases e2
      obtain rfl : w = .int b := r1
      obtain ⟨n2, k2⟩ := set_ok (np := np) (o := .dat (.int (a + b))) (v := .int (a + b)) n1 k1 ⟨rfl, Fresh.dat⟩ hp.1 hp.2
      exact ⟨a, b, rfl, rfl, o2 G1 H1 _ n2 k2⟩
    | _ => cases e2
/-- for x in reversed(xs) -/
theorem src_rev {T : Cs} {G H : Hp} {a : Addr} {xs : List V} {ds : List D} (h : SqL T.K G a xs) (r : RepL T G ds xs) : Src T (Itv T.K a xs.length) ds.reverse G H := fun G' H' e1 e2 => by
  have q : SqL T.K H' a xs := ex_l e2 (ex_l e1 h)
  have hl := r.length
  refine ⟨fun i d hd => ?_, (by show xs.length ≤ ds.reverse.length; rw [List.length_reverse, hl]; exact Nat.le_refl _)⟩
  have hi : i < ds.length := by
    have := (List.getElem?_eq_some_iff.mp hd).1
    rwa [List.length_reverse] at this
  rw [List.getElem?_reverse hi] at hd
  obtain ⟨v, h1, h2⟩ := r.get hd
  have ei : xs.length - 1 - i = ds.length - 1 - i := by rw [hl]
  refine ⟨⟨by rw [hl]; exact hi, xs, v, q, by rw [ei]; exact h1⟩, fun x H2 y => ?_⟩
  obtain ⟨y1, y2⟩ := y
  subst y1
  have y3 := y2 xs q
  rw [ei] at y3
  have e : some v = some x := h1.symm.trans y3
  cases e
  exact ⟨G', Ex.refl _, Ex.refl _, e2, fun a h h' => absurd h h', Rep.mono e1 d v h2⟩
theorem src_revT {T : Cs} {G H : Hp} {a : Addr} {xs : List V} {ds : List D} (h : SqT T.K G a xs) (r : RepL T G ds xs) : Src T (RT.ItvT T.K a xs.length) ds.reverse G H := fun G' H' e1 e2 => by
  have q : SqT T.K H' a xs := ex_t e2 (ex_t e1 h)
  have hl := r.length
  refine ⟨fun i d hd => ?_, (by show xs.length ≤ ds.reverse.length; rw [List.length_reverse, hl]; exact Nat.le_refl _)⟩
  have hi : i < ds.length := by
    have := (List.getElem?_eq_some_iff.mp hd).1
    rwa [List.length_reverse] at this
  rw [List.getElem?_reverse hi] at hd
  obtain ⟨v, h1, h2⟩ := r.get hd
  have ei : xs.length - 1 - i = ds.length - 1 - i := by rw [hl]
  refine ⟨⟨by rw [hl]; exact hi, xs, v, q, by rw [ei]; exact h1⟩, fun x H2 y => ?_⟩
  obtain ⟨y1, y2⟩ := y
  subst y1
  have y3 := y2 xs q
  rw [ei] at y3
  have e : some v = some x := h1.symm.trans y3
  cases e
  exact ⟨G', Ex.refl _, Ex.refl _, e2, fun a h h' => absurd h h', Rep.mono e1 d v h2⟩
def iRev (m : M D) : M (List D) := M.bind m fun d => match d with
  | .lst ds => M.ret ds.reverse
  | .ro ds => M.ret ds.reverse
  | .tup ds => M.ret ds.reverse
  | _ => M.stuck
theorem ei_rev {m : M D} (hg : Gl X "reversed") (hm : X.mg "reversed" = none) (h : ED cl X W e m) (hs : starEach [e] X.env = (false, eval e X.env) :: starEach [] X.env := by rfl) : EI cl X W tg (.Call (.Name "reversed" p) [e] [] pos) (iRev m) :=
  EI.by (RT.pi_revA hg hm h hs) fun G ρ σ H Q k x => at_tX k (At.bind (Ra := rD) rI_back x fun d ρ1 v G1 H1 n1 k1 r1 a1 => by
    cases d with
    | lst ds =>
      obtain ⟨a, xs, rfl, h1, h2⟩ := r1
      exact ⟨a, xs, rfl, .inl ⟨SqL.of (k1.sub _ _ h1), a1.ret k1 (src_rev (SqL.of h1) h2)⟩⟩
    | ro ds =>
      obtain ⟨a, xs, rfl, h1, h2⟩ := r1
      exact ⟨a, xs, rfl, .inl ⟨ex_l k1.sub h1, a1.ret k1 (src_rev h1 h2)⟩⟩
    | tup ds =>
      obtain ⟨a, xs, rfl, h1, h2⟩ := r1
      exact ⟨a, xs, rfl, .inr ⟨ex_t k1.sub h1, a1.ret k1 (src_revT h1 h2)⟩⟩
    | _ =>
      obtain ⟨r, ρ', e, _⟩ := a1
      cases e)
end
end Fn

set_option maxRecDepth 100000
set_option maxHeartbeats 4000000
namespace Fn
open PySem PySem.Spec PyProof.Rows L2

/-! ### xs.index(y) -/
def idxL (ds : List D) (y : D) : Option D := match toPy y, toPyL ds with
  | some p, some ps => if SeqAt.shaped p = true ∧ SeqAt.shaped (.list ps) = true then (ps.findIdx? fun z => PyData.eqv z p).map fun j => .int (j : Nat) else none
  | _, _ => none
def fIndex : D → D → Option D
  | .lst ds, y => idxL ds y
  | .ro ds, y => idxL ds y
  | _, _ => none
def isLs : D → Bool
  | .lst _ => true
  | .ro _ => true
  | _ => false
def eIndex (mo : M Rf) (me : M D) : M D := M.bind mo fun y => M.bind y.get fun d0 => if isLs d0 = true then M.bind me fun x => M.bind y.get fun d => M.lift (fIndex d x) else M.stuck
def rIndexR (T : Cs) : V → List V → Hp → VK → Prop := fun x xs H Q => ∃ (a : Addr) (vs : List V) (y : V) (ds : List D) (d : D) (p : PyData) (ps : List PyData) (j : Nat), x = V.ref a ∧ xs = [y] ∧ SqL T.K H a vs ∧ RepL T H ds vs ∧ Rep T H d y ∧
  toPy d = some p ∧ toPyL ds = some ps ∧ SeqAt.shaped p = true ∧ SeqAt.shaped (.list ps) = true ∧ (ps.findIdx? fun z => PyData.eqv z p) = some j ∧ Q (.int (j : Nat)) H
section
variable {cl : Nms} {X : Cx} {W : WX} {o e : Expr} {mo : M Rf} {md : M D} {apos cpos : Pos}
theorem mt_indexR (hk : SysK X.K) (hu : X.A.units + 65 < cLine) : MtR X "list.index" (rIndexR (csX X cl)) := by
  intro pins s σ H x xs v us Q I rx rxs h
  obtain ⟨a, vs, y, dl, dd, d, ds, j, rfl, rfl, hs, hl, hy, e1, e2, sd, sl, hj, q⟩ := h
  cases rx
  cases rxs with
  | cons ry rt =>
    rename_i uy ut
    cases rt
    obtain ⟨bs, r1, _⟩ := Rep.reads I (noSys I hk) dd y uy d hy e1 ry
    have hxs : PyData.canLayAll0 ds = true := SeqAt.canLay_of_shaped sl
    have hroom : X.A.units + 1 + min (PyData.depthAll ds) d.depth < cLine := by
      have := depthAll_list sl
      omega
    obtain ⟨its, rv, ⟨⟨cls, dd, data, sls⟩, n, ho, hc, hdn, hdt⟩, hlen⟩ := I.list hs
    simp only at hc hdt
    subst hc hdt
    obtain ⟨as, h4, _⟩ := RepL.reads I (noSys I hk) dl vs its ds hl e2 rv
    have hn : its.length = ds.length := SeqAt.ReadsAll.length ds its as h4
    have hmap : its.map (SeqAt.readOf s.heap) = ds := SeqAt.readsAll_map ds its as hxs h4
    have hvl := rv.length
    have hsl := sizeLine_eq
    obtain ⟨hjd, hjt, hjn⟩ := List.findIdx?_eq_some_iff_getElem.mp hj
    have hjl : j < its.length := by omega
    have hj' : j < its.toArray.size := by simpa using hjl
    have at_ : ∀ (m : Nat) (hm : m < its.toArray.size) (z' : PyData), ds[m]? = some z' → SeqAt.readOf s.heap its.toArray[m] = z' := by
      intro m hm z' hz'
      have hml : m < its.length := by simpa using hm
      rw [← hmap, List.getElem?_map, List.getElem?_eq_getElem hml] at hz'
      have e1 : SeqAt.readOf s.heap its[m] = z' := Option.some.inj (show some (SeqAt.readOf s.heap its[m]) = some z' from hz')
      simpa using e1
    refine call_meets PySem.F.slot_list_index ⟨_, ho, rfl⟩ PySem.F.entry_list_index (PySem.F.args_list_index_2 _ _)
      (SeqAt.list_indexAt a its.toArray n dd sls uy (fun u => PyData.eqv (SeqAt.readOf s.heap u) d) j hj' (by omega) ?_ ?_) ⟨ho, SeqAt.items_eqAt (vs := its.toArray) (show ReadsAll s.heap its.toArray.toList ds as from h4) r1 hxs (SeqAt.canLay_of_shaped sd) hroom, ?_⟩
    · show PyData.eqv (SeqAt.readOf s.heap its.toArray[j]) d = true
      rw [at_ j hj' ds[j] (List.getElem?_eq_getElem hjd)]
      exact hjt
    · intro m hm hmj
      have hmd : m < ds.length := by omega
      show PyData.eqv (SeqAt.readOf s.heap its.toArray[m]) d = false
      rw [at_ m hm _ (List.getElem?_eq_getElem hmd)]
      simpa using hjn m hmj
    · exact ⟨.int (j : Nat), H, I.tok _, ⟨_, rfl⟩, q⟩
theorem isLs_rep {T : Cs} {G H : Hp} {σ : L2.St} {ρ : En} {d : D} {v : V} (h : isLs d = true) (r : RepT T G H d v) (k : Ok T G H σ ρ) : ∃ a vs, v = .ref a ∧ SqL T.K H a vs := by
  cases d with
  | lst ds =>
    obtain ⟨a, xs, rfl, h1, _⟩ := r.lst k
    exact ⟨a, xs, rfl, SqL.of h1⟩
  | ro ds =>
    obtain ⟨a, xs, rfl, h1, _⟩ := r.ro k
    exact ⟨a, xs, rfl, h1⟩
  | _ => cases h
theorem idxL_some {ds : List D} {y z : D} (h : idxL ds y = some z) : ∃ p ps j, toPy y = some p ∧ toPyL ds = some ps ∧ SeqAt.shaped p = true ∧ SeqAt.shaped (.list ps) = true ∧ (ps.findIdx? fun z => PyData.eqv z p) = some j ∧ z = .int (j : Nat) := by
  unfold idxL at h
  split at h
  · rename_i p ps h1 h2
    split at h
    · rename_i hs
      obtain ⟨j, h3, rfl⟩ := Option.map_eq_some_iff.mp h
      exact ⟨p, ps, j, h1, h2, hs.1, hs.2, h3, rfl⟩
    · cases h
  · cases h
theorem ed_index (hk : SysK X.K) (hu : X.A.units + 65 < cLine) (ho : ER cl X W o mo) (he : ED cl X W e md)
    (hbase : attributeBase o "index" X.env (eval o X.env) = eval o X.env := by rfl)
    (hfew : ((backTo cpos (starEach [e] X.env)).all (fun x => !x.1) && (backToKw cpos (keywordEach [] X.env)).all (fun x => x.1.isSome)
      && decide ([e].length + ([] : List Keyword).length + (if ([] : List Keyword).isEmpty then 0 else 1) < 30)) = true := by rfl)
    (hline : (apos.endLine == cpos.line) = true := by rfl) (hst : starEach [e] X.env = (false, eval e X.env) :: starEach [] X.env := by rfl) (hplain : (backTo cpos (starEach [] X.env)).any (·.1) = false := by rfl) :
    ED cl X W (.Call (.Attribute o "index" apos) [e] [] cpos) (eIndex mo md) :=
  EX.by (pe_bm PySem.F.plainAttrs_list PySem.F.slot_list_index PySem.F.type_list_index (mt_indexR (cl := cl) hk hu) ho (pa_cons he pa_nil hst) hbase hfew hline hst hplain) fun G ρ σ H Q k a => at_tX k (At.bind (Ra := rR) rD_back a fun y ρ1 v1 G1 H1 n1 k1 r1 a1 => by
    obtain ⟨d0, q0, a2⟩ := At.get a1 k1 r1
    by_cases c : isLs d0 = true
    · rw [if_pos c] at a2
      obtain ⟨p0, xs0, rfl, h0⟩ := isLs_rep c q0 k1
      refine ⟨.inl ⟨rfl, _, h0⟩, at_tX k1 (At.bind (Ra := rD) rD_back a2 fun x ρ2 v2 G2 H2 n2 k2 r2 a3 => ?_)⟩
      obtain ⟨d, q1, a4⟩ := At.get a3 k2 (rR_keep n2 r1)
      obtain ⟨z, ez, a5⟩ := a4.lift
      unfold fIndex at ez
      split at ez
      · obtain ⟨p, ps, j, h1, h2, h3, h4, h5, rfl⟩ := idxL_some ez
        obtain ⟨a, ys, ea, g1, g2⟩ := q1.lst k2
        cases ea
        exact ⟨_, ys, _, _, _, p, ps, j, rfl, rfl, SqL.of g1, RepL.mono k2.sub _ _ g2, Rep.mono k2.sub _ _ r2, h1, h2, h3, h4, h5, a5.ret k2 rfl⟩
      · obtain ⟨p, ps, j, h1, h2, h3, h4, h5, rfl⟩ := idxL_some ez
        obtain ⟨a, ys, ea, g1, g2⟩ := q1.ro k2
        cases ea
        exact ⟨_, ys, _, _, _, p, ps, j, rfl, rfl, g1, RepL.mono k2.sub _ _ g2, Rep.mono k2.sub _ _ r2, h1, h2, h3, h4, h5, a5.ret k2 rfl⟩
      · cases ez
    · rw [if_neg c] at a2
      obtain ⟨_, _, e, _⟩ := a2
      cases e)
end
end Fn

set_option maxRecDepth 100000
set_option maxHeartbeats 4000000
namespace Fn
open PySem PySem.Spec PyProof.Rows L2

/-! ### list(range(n)) -/
def eLstRg (m : M D) : M O := M.bind m fun d => match d with
  | .int n => M.bind (M.chk (decide (0 ≤ n ∧ n ≤ 1000000))) fun _ => M.ret (.lst (rangeD 0 n.toNat))
  | _ => M.stuck
theorem rangeD_rep {T : Cs} {G : Hp} : ∀ (n : Nat) (lo : Int), RepL T G ((List.range n).map fun (k : Nat) => D.int (lo + (k : Int))) ((List.range n).map fun (k : Nat) => V.int (lo + (k : Int)))
  | 0, lo => RepL.nil
  | n + 1, lo => by
    rw [List.range_succ, List.map_append, List.map_append]
    exact RepL.append (rangeD_rep n lo) (RepL.cons rfl RepL.nil)
section
variable {cl : Nms} {X : Cx} {W : WX} {e : Expr} {m : M D} {p p2 pos pos2 : Pos}
theorem eo_lstRg (hc : X.calm = true) (hgl : Gl X "list") (hml : X.mg "list" = none) (hg : Gl X "range") (hm : X.mg "range" = none) (he : ED cl X W e m)
    (n1 : starEach [e] X.env = (false, eval e X.env) :: starEach [] X.env := by rfl) (n2 : starEach [.Call (.Name "range" p2) [e] [] pos2] X.env = (false, eval (.Call (.Name "range" p2) [e] [] pos2) X.env) :: starEach [] X.env := by rfl) :
    EO cl X W (.Call (.Name "list" p) [.Call (.Name "range" p2) [e] [] pos2] [] pos) (eLstRg m) :=
  EX.by (pe_listRg hc hgl hml (prg_1 hg hm he n1) n2) fun G ρ σ H Q k a => at_tX k (At.bind (Ra := rD) rO_back a fun d ρ1 v1 G1 H1 n1 k1 r1 a1 => by
    cases d with
    | int n =>
      obtain ⟨c, a3⟩ := a1.chk
      obtain ⟨c1, c2⟩ := of_decide_eq_true c
      refine ⟨n, r1, RgOk.of_le (by omega) (by omega) (by omega) (by omega), fun q hq => ?_⟩
      have e : rgV 0 n = (List.range n.toNat).map fun (k : Nat) => V.int (0 + (k : Int)) := by
        unfold rgV
        rw [Int.sub_zero]
      rw [e]
      exact a3.newL k1 (rangeD_rep _ _) q hq
    | _ =>
      obtain ⟨_, _, e, _⟩ := a1
      cases e)
end
end Fn
theorem Fn.units65 {k : Nat} {A : PySem.Around} (r : L2.Room k A) : A.units + 65 < PySem.cLine := by
  have := r.un
  omega

set_option maxRecDepth 100000
set_option maxHeartbeats 4000000
namespace Fn
open PySem PySem.Spec PyProof.Rows L2

/-! ### a list of lists of a variable's own, whose last one grows:
x = []; y = a; for t in src: { if c: x.append([]); y = b; if w not in x[-1]: x[-1].append(v) }; return x -/
/-- y = a, y no parameter's own -/
def setY (np j : Nat) (m : M O) : En → Option En := fun ρ => match m ρ with
  | some (.ok o, ρ1) => if j < ρ1.length ∧ ¬ (j < np ∧ kd ρ1[j]? = 3) then some (ρ1.set j (some o)) else none
  | _ => none
def llTurn (np j : Nat) (c1 : M Bool) (m2 : M O) (w w2 : M D) (ρ : En) (xss : List (List D)) : Option (En × List (List D)) := match c1 ρ with
  | some (.ok b, ρ1) =>
    let xs1 := if b = true then xss ++ [[]] else xss
    match setY np j m2 ρ1 with
    | some ρ2 => match w ρ2 with
      | some (.ok d, ρ3) => match xs1.getLast? with
        | some l => match inSeq d l with
          | some true => some (ρ3, xs1)
          | some false => match w2 ρ3 with
            | some (.ok d2, ρ4) => if xs1.length < lim ∧ l.length < lim then some (ρ4, xs1.dropLast ++ [l ++ [d2]]) else none
            | _ => none
          | none => none
        | none => none
      | _ => none
    | none => none
  | _ => none
def llGo (np c j : Nat) (t : Tg) (c1 : M Bool) (m2 : M O) (w w2 : M D) : List D → En → List (List D) → Option (En × List (List D))
  | [], ρ, xss => some (ρ, xss)
  | d :: ds, ρ, xss => if free np t ρ = true ∧ c ∉ t.sl ∧ xss.length < lim then match t.set d ρ with
    | some ρ1 => match llTurn np j c1 m2 w w2 ρ1 xss with
      | some (ρ2, xs2) => llGo np c j t c1 m2 w w2 ds ρ2 xs2
      | none => none
    | none => none
    else none
def unset : Option (Option O) → Bool
  | some none => true
  | _ => false
def sLL (np c j : Nat) (m1 : M O) (t : Tg) (src : M (List D)) (c1 : M Bool) (m2 : M O) (w w2 : M D) : S := fun ρ => if np ≤ c ∧ c ≠ j ∧ unset ρ[c]? = true then match setY np j m1 ρ with
  | some ρ1 => match src ρ1 with
    | some (.ok ds, ρ2) => match llGo np c j t c1 m2 w w2 ds ρ2 [] with
      | some (ρ3, xss) => some (.rt (.lst (xss.map D.lst)), ρ3)
      | none => none
    | _ => none
  | none => none
  else none
end Fn

set_option maxRecDepth 100000
set_option maxHeartbeats 4000000
namespace Fn
open PySem PySem.Spec PyProof.Rows L2

theorem unset_kd {o : Option (Option O)} : unset o = true ↔ kd o = 1 := by
  cases o with
  | none => simp [unset, kd]
  | some z => cases z with
    | none => simp [unset, kd]
    | some u => cases u <;> simp [unset, kd]
theorem unset_eq {o : Option (Option O)} (h : unset o = true) : o = some none := by
  cases o with
  | none => cases h
  | some z => cases z with
    | none => rfl
    | some u => cases h
def Hid (a : Addr) (bs : List Addr) (z : Addr) : Prop := z = a ∨ z ∈ bs
def LLs (T : Cs) (G H : Hp) (σ : L2.St) (ρ : En) : List (List D) → List Addr → Prop
  | [], [] => True
  | xs :: xss, b :: bs => (∃ ys, H b = some (.lst ys) ∧ RepL T G xs ys) ∧ G b = none ∧ ¬ Owns σ ρ b ∧ LLs T G H σ ρ xss bs
  | _, _ => False
structure LL (T : Cs) (G H : Hp) (σ : L2.St) (ρ : En) (c : Nat) (xss : List (List D)) (a : Addr) (bs : List Addr) : Prop where
  ic : unset ρ[c]? = true
  sc : σ[c]? = some (some (.ref a))
  ha : H a = some (.lst (bs.map V.ref))
  ga : G a = none
  na : ¬ Owns σ ρ a
  nd : (a :: bs).Nodup
  it : LLs T G H σ ρ xss bs
structure Sn (np : Nat) (G0 H0 : Hp) (σ0 : L2.St) (ρ0 : En) (G H : Hp) (σ : L2.St) (ρ : En) (a : Addr) (bs : List Addr) : Prop where
  nx : Nx G0 H0 (Owns σ0 ρ0) G H (fun z => Owns σ ρ z ∨ Hid a bs z)
  lk : ∀ i : Nat, i < np → kd ρ0[i]? = 3 → σ[i]? = σ0[i]? ∧ kd ρ[i]? = 3
  a0 : H0 a = none
section
variable {T : Cs} {np c : Nat} {G H G1 H1 G0 H0 : Hp} {σ σ1 σ0 : L2.St} {ρ ρ1 ρ0 : En} {xss : List (List D)} {a : Addr} {bs : List Addr}
theorem Nx.orP {S S' P : Addr → Prop} (n : Nx G H S G1 H1 S') : Nx G H (fun z => S z ∨ P z) G1 H1 (fun z => S' z ∨ P z) :=
  ⟨n.g, fun z h h' => (n.new z h h').imp id .inl, fun z o h hn => n.keep z o h fun q => hn (.inl q), n.there, fun z h => by
    rcases h with h | h
    · exact (n.own z h).imp .inl id
    · exact .inl (.inr h)⟩
theorem LLs.len : ∀ {xss : List (List D)} {bs : List Addr}, LLs T G H σ ρ xss bs → bs.length = xss.length
  | [], [], _ => rfl
  | xs :: xss, b :: bs, h => by rw [List.length_cons, List.length_cons, LLs.len h.2.2.2]
  | [], _ :: _, h => h.elim
  | _ :: _, [], h => h.elim
theorem LLs.keep (n : Nx G H (Owns σ ρ) G1 H1 (Owns σ1 ρ1)) : ∀ {xss : List (List D)} {bs : List Addr}, LLs T G H σ ρ xss bs → LLs T G1 H1 σ1 ρ1 xss bs
  | [], [], _ => trivial
  | xs :: xss, b :: bs, ⟨⟨ys, h1, h2⟩, h3, h4, h5⟩ => by
    refine ⟨⟨ys, n.keep b _ h1 h4, RepL.mono n.g _ _ h2⟩, ?_, fun z => ?_, LLs.keep n h5⟩
    · by_cases q : G1 b = none
      · exact q
      · rcases n.new b h3 q with z | z
        · rw [h1] at z
          cases z
        · exact absurd z h4
    · rcases n.own b z with y | y
      · exact h4 y
      · rw [h1] at y
        cases y
  | [], _ :: _, h => h.elim
  | _ :: _, [], h => h.elim
theorem LL.keep (L : LL T G H σ ρ c xss a bs) (n : Nx G H (Owns σ ρ) G1 H1 (Owns σ1 ρ1)) (hi : unset ρ1[c]? = true) (hs : σ1[c]? = σ[c]?) : LL T G1 H1 σ1 ρ1 c xss a bs := by
  refine ⟨hi, hs.trans L.sc, n.keep a _ L.ha L.na, ?_, fun z => ?_, L.nd, L.it.keep n⟩
  · by_cases q : G1 a = none
    · exact q
    · rcases n.new a L.ga q with z | z
      · rw [L.ha] at z
        cases z
      · exact absurd z L.na
  · rcases n.own a z with y | y
    · exact L.na y
    · rw [L.ha] at y
      cases y
theorem LL.keepK (L : LL T G H σ ρ c xss a bs) (n : Nk G H σ ρ G1 H1 ρ1) : LL T G1 H1 σ ρ1 c xss a bs :=
  L.keep n.toNx (unset_kd.mpr ((n.kp c).trans (unset_kd.mp L.ic))) rfl
theorem Sn.keep (s : Sn np G0 H0 σ0 ρ0 G H σ ρ a bs) (n : Nx G H (Owns σ ρ) G1 H1 (Owns σ1 ρ1)) (lk : ∀ i : Nat, i < np → kd ρ[i]? = 3 → σ1[i]? = σ[i]? ∧ kd ρ1[i]? = 3) : Sn np G0 H0 σ0 ρ0 G1 H1 σ1 ρ1 a bs :=
  ⟨s.nx.trans n.orP, fun i hi h => by
    obtain ⟨e1, e2⟩ := s.lk i hi h
    obtain ⟨e3, e4⟩ := lk i hi e2
    exact ⟨e3.trans e1, e4⟩, s.a0⟩
theorem Sn.keepK (s : Sn np G0 H0 σ0 ρ0 G H σ ρ a bs) (n : Nk G H σ ρ G1 H1 ρ1) : Sn np G0 H0 σ0 ρ0 G1 H1 σ ρ1 a bs := s.keep n.toNx fun i _ h => ⟨rfl, (n.kp i).trans h⟩
/-- a list of the hidden ones is changed, or a new one joins them -/
theorem Ok.hid {z : Addr} {u : HO} (k : Ok T G H σ ρ) (gz : G z = none) (nz : ¬ Owns σ ρ z) : Ok T G (upd H z u) σ ρ := by
  refine ⟨fun b o e => ?_, k.len, fun i o hi => ?_, k.dis⟩
  · rw [upd_ne (ne_of_none e gz)]
    exact k.sub b o e
  · obtain ⟨v, h1, h2⟩ := k.rep i o hi
    refine ⟨v, h1, ?_⟩
    have n : Nx G H (fun b => b = z) G (upd H z u) (fun b => b = z) := ⟨Ex.refl _, fun b p q => absurd p q, fun b w e ne => by rw [upd_ne ne]; exact e, fun b e => by
      by_cases q : b = z
      · subst q
        rw [upd_same] at e
        cases e
      · rw [upd_ne q] at e
        exact e, fun b e => .inl e⟩
    exact h2.keep n fun p b e q => nz ⟨i, o, hi, p, by rw [h1, e, q]⟩
theorem LLs.upd {z : Addr} {u : HO} : ∀ {xss : List (List D)} {bs : List Addr}, LLs T G H σ ρ xss bs → z ∉ bs → LLs T G (upd H z u) σ ρ xss bs
  | [], [], _, _ => trivial
  | xs :: xss, b :: bs, ⟨⟨ys, h1, h2⟩, h3, h4, h5⟩, hn => by
    have n1 : b ≠ z := fun e => hn (by rw [e]; exact List.mem_cons_self)
    exact ⟨⟨ys, by rw [upd_ne n1]; exact h1, h2⟩, h3, h4, LLs.upd h5 fun q => hn (List.mem_cons_of_mem _ q)⟩
  | [], _ :: _, h, _ => h.elim
  | _ :: _, [], h, _ => h.elim
theorem LLs.snoc {xs : List D} {b : Addr} {ys : List V} (h1 : H b = some (.lst ys)) (h2 : RepL T G xs ys) (h3 : G b = none) (h4 : ¬ Owns σ ρ b) : ∀ {xss : List (List D)} {bs : List Addr}, LLs T G H σ ρ xss bs → LLs T G H σ ρ (xss ++ [xs]) (bs ++ [b])
  | [], [], _ => ⟨⟨ys, h1, h2⟩, h3, h4, trivial⟩
  | ws :: xss, d :: bs, ⟨g1, g2, g3, g4⟩ => ⟨g1, g2, g3, LLs.snoc h1 h2 h3 h4 g4⟩
  | [], _ :: _, h => h.elim
  | _ :: _, [], h => h.elim
theorem LLs.unsnoc {l : List D} : ∀ {xss : List (List D)} {bs : List Addr}, LLs T G H σ ρ xss bs → xss.getLast? = some l → ∃ b cs ys, bs = cs ++ [b] ∧ H b = some (.lst ys) ∧ RepL T G l ys ∧ G b = none ∧ ¬ Owns σ ρ b ∧ LLs T G H σ ρ xss.dropLast cs
  | [], [], _, e => by cases e
  | [xs], [b], ⟨⟨ys, g1, g2⟩, g3, g4, _⟩, e => by
    cases e
    exact ⟨b, [], ys, rfl, g1, g2, g3, g4, trivial⟩
  | xs :: w :: xss, b :: bs, ⟨g1, g2, g3, g4⟩, e => by
    rw [List.getLast?_cons_cons] at e
    obtain ⟨b', cs, ys, rfl, h1, h2, h3, h4, h5⟩ := LLs.unsnoc g4 e
    exact ⟨b', b :: cs, ys, rfl, h1, h2, h3, h4, g1, g2, g3, h5⟩
  | [_], _ :: _ :: _, h, _ => h.2.2.2.elim
  | [], _ :: _, h, _ => h.elim
  | _ :: _, [], h, _ => h.elim
theorem hid_nx {z : Addr} {u w : HO} (hz : H z = some w) (P P' : Addr → Prop) (hp : P z) (hs : ∀ b, P' b → P b) : Nx G H P G (upd H z u) P' :=
  ⟨Ex.refl _, fun b p q => absurd p q, fun b v e ne => by
    rw [upd_ne fun q => ne (by rw [q]; exact hp)]
    exact e, fun b e => by
    by_cases q : b = z
    · subst q
      rw [upd_same] at e
      cases e
    · rw [upd_ne q] at e
      exact e, fun b e => .inl (hs b e)⟩
/-- x.append([]): a new list joins -/
theorem LL.more {p : Addr} (k : Ok T G H σ ρ) (L : LL T G H σ ρ c xss a bs) (s : Sn np G0 H0 σ0 ρ0 G H σ ρ a bs) (hp : H p = none) :
    Ok T G (upd (upd H p (.lst [])) a (.lst (bs.map V.ref ++ [.ref p]))) σ ρ ∧ LL T G (upd (upd H p (.lst [])) a (.lst (bs.map V.ref ++ [.ref p]))) σ ρ c (xss ++ [[]]) a (bs ++ [p]) ∧
    Sn np G0 H0 σ0 ρ0 G (upd (upd H p (.lst [])) a (.lst (bs.map V.ref ++ [.ref p]))) σ ρ a (bs ++ [p]) := by
  obtain ⟨n1, k1, gp, np'⟩ := new_own (o := .lst []) hp k
  have ne : a ≠ p := fun e => by
    have := L.ha
    rw [e, hp] at this
    cases this
  have nb : p ∉ bs := fun h => by
    have : ∀ {xss : List (List D)} {bs : List Addr}, LLs T G H σ ρ xss bs → p ∈ bs → H p ≠ none := fun {xss bs} => by
      induction bs generalizing xss with
      | nil => exact fun _ h => by cases h
      | cons b bs ih =>
        intro l m
        cases xss with
        | nil => exact l.elim
        | cons xs xss =>
          obtain ⟨⟨ys, h1, _⟩, _, _, h5⟩ := l
          rcases List.mem_cons.mp m with rfl | m
          · rw [h1]
            exact fun z => by cases z
          · exact ih h5 m
    exact this L.it h hp
  have L1 := L.keepK n1
  have anb : a ∉ bs := (List.nodup_cons.mp L.nd).1
  refine ⟨k1.hid L.ga L.na, ⟨L.ic, L.sc, by rw [upd_same, List.map_append]; rfl, L.ga, L.na, ?_, ?_⟩, ⟨?_, s.lk, s.a0⟩⟩
  · rw [List.nodup_cons, List.nodup_append]
    refine ⟨fun m => ?_, (List.nodup_cons.mp L.nd).2, by simp, fun x hx y hy => ?_⟩
    · rcases List.mem_append.mp m with m | m
      · exact anb m
      · exact ne (List.mem_singleton.mp m)
    · obtain rfl := List.mem_singleton.mp hy
      exact fun e => nb (by rw [← e]; exact hx)
  · refine LLs.snoc (ys := []) ?_ RepL.nil gp np' (L1.it.upd anb)
    rw [upd_ne ne.symm, upd_same]
  · have st1 : Nx G H (fun z => Owns σ ρ z ∨ Hid a bs z) G (upd H p (.lst [])) (fun z => Owns σ ρ z ∨ Hid a (bs ++ [p]) z) := by
      have n2 := n1.toNx.orP (P := Hid a bs)
      refine ⟨n2.g, n2.new, n2.keep, n2.there, fun z h => ?_⟩
      rcases h with h | h | h
      · exact n2.own z (.inl h)
      · exact n2.own z (.inr (.inl h))
      · rcases List.mem_append.mp h with h | h
        · exact n2.own z (.inr (.inr h))
        · rw [List.mem_singleton.mp h]
          exact .inr hp
    exact (s.nx.trans st1).trans (hid_nx L1.ha _ _ (.inr (.inl rfl)) fun b h => h)
/-- x[-1].append(v) -/
theorem LL.grow {l : List D} {d : D} {v : V} (k : Ok T G H σ ρ) (L : LL T G H σ ρ c xss a bs) (s : Sn np G0 H0 σ0 ρ0 G H σ ρ a bs) (hl : xss.getLast? = some l) (r : Rep T G d v) :
    ∃ b cs ys, bs = cs ++ [b] ∧ H b = some (.lst ys) ∧ RepL T G l ys ∧ Ok T G (upd H b (.lst (ys ++ [v]))) σ ρ ∧ LL T G (upd H b (.lst (ys ++ [v]))) σ ρ c (xss.dropLast ++ [l ++ [d]]) a bs ∧ Sn np G0 H0 σ0 ρ0 G (upd H b (.lst (ys ++ [v]))) σ ρ a bs := by
  obtain ⟨b, cs, ys, rfl, h1, h2, h3, h4, h5⟩ := L.it.unsnoc hl
  have nd := List.nodup_cons.mp L.nd
  have hb : b ∈ cs ++ [b] := List.mem_append.mpr (.inr (List.mem_singleton.mpr rfl))
  have nab : a ≠ b := fun e => nd.1 (by rw [e]; exact hb)
  have ncs : b ∉ cs := fun h => by
    have := (List.nodup_append.mp nd.2).2.2 b h b (List.mem_singleton.mpr rfl)
    exact this rfl
  refine ⟨b, cs, ys, rfl, h1, h2, k.hid h3 h4, ⟨L.ic, L.sc, by rw [upd_ne nab]; exact L.ha, L.ga, L.na, L.nd, LLs.snoc (ys := ys ++ [v]) upd_same (RepL.append h2 (RepL.cons r RepL.nil)) h3 h4 (h5.upd ncs)⟩, ⟨s.nx.trans (hid_nx h1 _ _ (.inr (.inr hb)) fun b h => h), s.lk, s.a0⟩⟩
/-- all become data -/
def frzs (G H : Hp) (bs : List Addr) : Hp := fun z => if z ∈ bs then H z else G z
theorem LL.seal (k : Ok T G H σ ρ) (L : LL T G H σ ρ c xss a bs) (s : Sn np G0 H0 σ0 ρ0 G H σ ρ a bs) :
    ∃ G', Ns np G0 H0 σ0 ρ0 G' H σ ρ ∧ Ok T G' H σ ρ ∧ rO T H0 σ ρ G' H (.lst (xss.map D.lst)) (.ref a) := by
  have nd := List.nodup_cons.mp L.nd
  have all : ∀ {xss : List (List D)} {bs : List Addr}, LLs T G H σ ρ xss bs → ∀ b ∈ bs, G b = none ∧ ¬ Owns σ ρ b := fun {xss bs} => by
    induction bs generalizing xss with
    | nil => exact fun _ b h => by cases h
    | cons b bs ih =>
      intro l z m
      cases xss with
      | nil => exact l.elim
      | cons xs xss =>
        obtain ⟨_, h3, h4, h5⟩ := l
        rcases List.mem_cons.mp m with rfl | m
        · exact ⟨h3, h4⟩
        · exact ih h5 z m
  have al := all L.it
  have ex : Ex G (frzs G H bs) := fun b o e => by
    unfold frzs
    rw [if_neg fun m => by rw [(al b m).1] at e; cases e]
    exact e
  have n : Nx G H (fun z => z ∈ bs) (frzs G H bs) H (fun z => z ∈ bs) := ⟨ex, fun b h h' => by
    unfold frzs at h'
    by_cases m : b ∈ bs
    · exact .inr m
    · rw [if_neg m] at h'
      exact absurd h h', fun b o e _ => e, fun b e => e, fun b h => .inl h⟩
  have rl : ∀ {xss : List (List D)} {cs : List Addr}, LLs T G H σ ρ xss cs → (∀ b ∈ cs, b ∈ bs) → RepL T (frzs G H bs) (xss.map D.lst) (cs.map V.ref) := fun {xss cs} => by
    induction cs generalizing xss with
    | nil =>
      intro l _
      cases xss with
      | nil => exact RepL.nil
      | cons _ _ => exact l.elim
    | cons b cs ih =>
      intro l sub
      cases xss with
      | nil => exact l.elim
      | cons xs xss =>
        obtain ⟨⟨ys, h1, h2⟩, _, _, h5⟩ := l
        exact RepL.cons ⟨b, ys, rfl, by unfold frzs; rw [if_pos (sub b List.mem_cons_self)]; exact h1, RepL.mono ex _ _ h2⟩ (ih h5 fun z hz => sub z (List.mem_cons_of_mem _ hz))
  refine ⟨frzs G H bs, ⟨⟨Ex.trans s.nx.g ex, fun b h h' => ?_, s.nx.keep, s.nx.there, fun b h => s.nx.own b (.inl h)⟩, s.lk⟩, ⟨fun b o e => ?_, k.len, fun i o hi => ?_, k.dis⟩, ⟨a, bs.map V.ref, rfl, L.ha, ?_, rl L.it fun _ h => h⟩, fun _ b e => ?_⟩
  · by_cases m : b ∈ bs
    · rcases s.nx.own b (.inr (.inr m)) with z | z
      · exact .inr z
      · exact .inl z
    · unfold frzs at h'
      rw [if_neg m] at h'
      exact s.nx.new b h h'
  · unfold frzs at e
    by_cases m : b ∈ bs
    · rw [if_pos m] at e
      exact e
    · rw [if_neg m] at e
      exact k.sub b o e
  · obtain ⟨v, h1, h2⟩ := k.rep i o hi
    exact ⟨v, h1, h2.keep n fun p b e m => (al b m).2 ⟨i, o, hi, p, by rw [h1, e]⟩⟩
  · unfold frzs
    rw [if_neg nd.1]
    exact L.ga
  · cases e
    exact ⟨s.a0, L.na⟩
end
end Fn

set_option maxRecDepth 100000
set_option maxHeartbeats 4000000
namespace Fn
open PySem PySem.Spec PyProof.Rows L2

theorem atI_last {α : Type} {xs : List α} {x : α} : atI (xs ++ [x]) (-1) = some x := by
  unfold atI ixN
  rw [if_neg (by decide), if_pos (by simp; omega)]
  have e : (-1 + ((xs.length : Int) + 1)).toNat = xs.length := by omega
  simp [e]
theorem setY_some {np j : Nat} {m : M O} {ρ ρ' : En} (h : setY np j m ρ = some ρ') : ∃ o ρ1, m ρ = some (.ok o, ρ1) ∧ j < ρ1.length ∧ ¬ (j < np ∧ kd ρ1[j]? = 3) ∧ ρ' = ρ1.set j (some o) := by
  unfold setY at h
  split at h
  · rename_i o ρ1 e
    split at h
    · rename_i hc
      cases h
      exact ⟨o, ρ1, e, hc.1, hc.2, rfl⟩
    · cases h
  · cases h
section
variable {cl : Nms} {X : Cx} {W : WX} {np c j : Nat} {x y : Str} {tg iter e1 e2 ce we we2 ie : Expr} {t : Tg} {src : M (List D)} {mc : M Bool} {m1 m2 : M O} {w w2 : M D}
variable {G H G0 H0 Gb : Hp} {σ σ0 : L2.St} {ρ ρ0 ρ' : En} {xss xss' : List (List D)}
/-- where the lists are, in a loop's course -/
def LAt (cl : Nms) (X : Cx) (Gb : Hp) (np c : Nat) (G0 H0 : Hp) (σ0 : L2.St) (ρ0 : En) (ρ : En) (xss : List (List D)) (σ : L2.St) (H : Hp) : Prop :=
  ∃ G a bs, Ok (csX X cl) G H σ ρ ∧ LL (csX X cl) G H σ ρ c xss a bs ∧ Sn np G0 H0 σ0 ρ0 G H σ ρ a bs ∧ Ex Gb G
theorem at_of {α β : Type} {R : RelT α β} {T : Cs} {m : M α} {b : α} {ρ1 : En} {Q : Wi β} (k : Ok T G H σ ρ) (e : m ρ = some (.ok b, ρ1)) (h : ∀ v G' H', Nk G H σ ρ G' H' ρ1 → Ok T G' H' σ ρ1 → R T H σ ρ1 G' H' b v → Q v H') : tX R T W m σ H Q :=
  ⟨G, ρ, k, .ok b, ρ1, e, h⟩
/-- y = a -/
theorem ll_set {o : O} {ρ1 : En} {D : L2.St → Hp → Prop} (hcj : c ≠ j) (L : LAt cl X Gb np c G0 H0 σ0 ρ0 ρ xss σ H) (e : m1 ρ = some (.ok o, ρ1)) (hj : j < ρ1.length) (hp : ¬ (j < np ∧ kd ρ1[j]? = 3))
    (fin : ∀ σ' H', LAt cl X Gb np c G0 H0 σ0 ρ0 (ρ1.set j (some o)) xss σ' H' → D σ' H') : tX rO (csX X cl) W m1 σ H fun v H1 => gName j v σ H1 D := by
  obtain ⟨G, a, bs, k, ll, sn, x0⟩ := L
  refine at_of k e fun v G1 H1 n1 k1 r1 => ?_
  obtain ⟨n2, k2⟩ := set_ok (np := np) n1 k1 r1 hj hp
  refine fin _ _ ⟨G1, a, bs, k2, ll.keep n2.toNx ?_ ?_, sn.keep n2.toNx n2.lk, Ex.trans x0 n2.g⟩
  · rw [List.getElem?_set_ne (Ne.symm hcj)]
    exact (ll.keepK n1).ic
  · rw [List.getElem?_set_ne (Ne.symm hcj)]
/-- x.append([]) -/
theorem ll_more {D : L2.St → Hp → Prop} (L : LAt cl X Gb np c G0 H0 σ0 ρ0 ρ xss σ H) (hl : xss.length < lim) (fin : ∀ σ' H', LAt cl X Gb np c G0 H0 σ0 ρ0 ρ (xss ++ [[]]) σ' H' → D σ' H') :
    tBM X.K "list" rAppend (tVar c) (tCons (tLst tNil) tNil) σ H fun _ H1 => D σ H1 := by
  obtain ⟨G, a, bs, k, ll, sn, x0⟩ := L
  refine ⟨_, ll.sc, .inl ⟨rfl, _, SqL.of ll.ha⟩, by simp, fun p hp => ?_⟩
  obtain ⟨k1, l1, s1⟩ := ll.more k sn hp
  have ne : a ≠ p := fun e => by
    have := ll.ha
    rw [e, hp] at this
    cases this
  exact ⟨a, bs.map V.ref, .ref p, rfl, rfl, by rw [upd_ne ne]; exact ll.ha, lim_lt (by rw [List.length_map, ll.it.len]; exact hl), fin _ _ ⟨G, a, _, k1, l1, s1, x0⟩⟩
/-- x[-1].append(e) -/
theorem ll_grow {mi : M D} {l : List D} {d : D} {ρ1 : En} {D : L2.St → Hp → Prop} (hi : ∀ ρ, mi ρ = some (.ok (.int (-1)), ρ)) (L : LAt cl X Gb np c G0 H0 σ0 ρ0 ρ xss σ H) (hl : xss.getLast? = some l) (e : w2 ρ = some (.ok d, ρ1)) (hn : l.length < lim)
    (fin : ∀ σ' H', LAt cl X Gb np c G0 H0 σ0 ρ0 ρ1 (xss.dropLast ++ [l ++ [d]]) σ' H' → D σ' H') :
    tBM X.K "list" rAppend (tOp (rIx X.K) (tVar c) (tX rD (csX X cl) W mi)) (tCons (tX rD (csX X cl) W w2) tNil) σ H fun _ H1 => D σ H1 := by
  obtain ⟨G, a, bs, k, ll, sn, x0⟩ := L
  refine ⟨_, ll.sc, at_of k (hi ρ) fun v G1 H1 n1 k1 r1 => ?_⟩
  obtain rfl : v = .int (-1) := r1
  have ll1 := ll.keepK n1
  have sn1 := sn.keepK n1
  obtain ⟨b, cs, ys, rfl, h1, _⟩ := ll1.it.unsnoc hl
  refine .inl ⟨a, (cs ++ [b]).map V.ref, -1, .ref b, rfl, rfl, SqL.of ll1.ha, by rw [List.map_append]; exact atI_last, .inl ⟨rfl, ys, SqL.of h1⟩, at_of k1 e fun v2 G2 H2 n2 k2 r2 => ?_⟩
  have ll2 := ll1.keepK n2
  have sn2 := sn1.keepK n2
  obtain ⟨b', cs', ys', eb, g1, g2, k3, l3, s3⟩ := ll2.grow k2 sn2 hl r2
  obtain ⟨rfl, eb2⟩ := List.append_inj' eb rfl
  obtain rfl : b = b' := by simpa using eb2
  exact ⟨b, ys', v2, rfl, rfl, g1, lim_lt (by rw [g2.length]; exact hn), fin _ _ ⟨G2, a, _, k3, l3, s3, Ex.trans x0 (Ex.trans n1.g n2.g)⟩⟩
/-- e not in x[-1] -/
theorem ll_nin {mi : M D} {l : List D} {d : D} {z : Bool} {ρ1 : En} {D : Bool → Hp → Prop} (hi : ∀ ρ, mi ρ = some (.ok (.int (-1)), ρ)) (L : LAt cl X Gb np c G0 H0 σ0 ρ0 ρ xss σ H) (hl : xss.getLast? = some l) (e : w ρ = some (.ok d, ρ1)) (hz : inSeq d l = some z)
    (fin : ∀ H', LAt cl X Gb np c G0 H0 σ0 ρ0 ρ1 xss σ H' → D (!z) H') :
    tTest (tOp (rInT (csX X cl) (!·)) (tX rD (csX X cl) W w) (tOp (rIx X.K) (tVar c) (tX rD (csX X cl) W mi))) σ H D := by
  obtain ⟨G, a, bs, k, ll, sn, x0⟩ := L
  refine at_of k e fun v G1 H1 n1 k1 r1 => ?_
  have ll1 := ll.keepK n1
  have sn1 := sn.keepK n1
  refine ⟨_, ll1.sc, at_of k1 (hi ρ1) fun v2 G2 H2 n2 k2 r2 => ?_⟩
  obtain rfl : v2 = .int (-1) := r2
  have ll2 := ll1.keepK n2
  have sn2 := sn1.keepK n2
  obtain ⟨b, cs, ys, rfl, h1, g2, _⟩ := ll2.it.unsnoc hl
  refine .inl ⟨a, (cs ++ [b]).map V.ref, -1, .ref b, rfl, rfl, SqL.of ll2.ha, by rw [List.map_append]; exact atI_last, d, .lst l, z, Rep.mono (Ex.trans n2.g k2.sub) _ _ r1, ⟨b, ys, rfl, h1, RepL.mono k2.sub _ _ g2⟩, hz, ⟨!z, rfl, fin _ ⟨G2, a, _, k2, ll2, sn2, Ex.trans x0 (Ex.trans n1.g n2.g)⟩⟩⟩
theorem ess_ll {p1 p2 p3 p4 p5 p6 p7 p8 p9 p10 p11 p12 p13 p14 p15 p16 p17 p18 p19 p20 p21 p22 p23 p24 p25 p26 p27 p28 p29 : Pos} {j1 j2}
    (hN : X.N.Nodup) (hc : X.N[c]? = some x) (hj : X.N[j]? = some y) (lc : Loc X.env.scope x) (lj : Loc X.env.scope y) (vx : Vis X.env.scope x) (hk : SysK X.K) (hu : X.A.units + 64 < cLine) (hp : PassesOwn (model X.prog X.w) X.A X.env X.xe) (hm : X.calm = true)
    (h1 : EO cl X W e1 m1) (hs : EI cl X W tg iter src) (hg : PG X tg (TgOk X.K t)) (hce : ET cl X W ce mc) (h2 : EO cl X W e2 m2) (hw : ED cl X W we w) (hw2 : ED cl X W we2 w2)
    (fx : X.fn x = true ∨ X.env.scope.names.lookup x = some .local := by first | exact .inl rfl | exact .inr rfl | assumption)
    (fy : X.fn y = true ∨ X.env.scope.names.lookup y = some .local := by first | exact .inl rfl | exact .inr rfl | assumption)
    (dx : (x == ("__debug__" : Str)) = false := by decide) (dx2 : (x == ("__classdict__" : Str)) = false := by decide)
    (w3 : swapsWith (.List [] p2) (some (.Name x p1)) p3.line X.env = pure false := by rfl)
    (w4 : swapsWith e1 (some (.Name y p4)) p5.line X.env = pure false := by rfl)
    (w5 : swapsWith e2 (some (.Name y p12)) p13.line X.env = pure false := by rfl)
    (hf : ∀ x, foldedSetIterable iter X.env x = pure x := by intro _; rfl)
    (b1 : attributeBase (.Name x p6) "append" X.env (eval (.Name x p6) X.env) = eval (.Name x p6) X.env := by rfl)
    (b2 : ((backTo p9 (starEach [.List [] p8] X.env)).all (fun x => !x.1) && (backToKw p9 (keywordEach [] X.env)).all (fun x => x.1.isSome)
      && decide ([Expr.List [] p8].length + ([] : List Keyword).length + (if ([] : List Keyword).isEmpty then 0 else 1) < 30)) = true := by rfl)
    (b3 : (p7.endLine == p9.line) = true := by rfl) (b4 : starEach [.List [] p8] X.env = (false, eval (.List [] p8) X.env) :: starEach [] X.env := by rfl) (b5 : (backTo p9 (starEach [] X.env)).any (·.1) = false := by rfl)
    (b6 : swapsWith (.Call (.Attribute (.Name x p6) "append" p7) [.List [] p8] [] p9) none p10.line X.env = pure false := by rfl)
    (g0 : behindInMarks .NotIn (.Subscript (.Name x p14) (.UnaryOp .USub (.Constant (.int 1) j1 p15) p16) p17) = false := by rfl)
    (g1 : PlainIx (.UnaryOp .USub (.Constant (.int 1) j1 p15) p16) := by intros _ _; rfl) (g2 : PlainIx (.UnaryOp .USub (.Constant (.int 1) j2 p20) p21) := by intros _ _; rfl)
    (d1 : attributeBase (.Subscript (.Name x p19) (.UnaryOp .USub (.Constant (.int 1) j2 p20) p21) p22) "append" X.env (eval (.Subscript (.Name x p19) (.UnaryOp .USub (.Constant (.int 1) j2 p20) p21) p22) X.env) = eval (.Subscript (.Name x p19) (.UnaryOp .USub (.Constant (.int 1) j2 p20) p21) p22) X.env := by rfl)
    (d2 : ((backTo p24 (starEach [we2] X.env)).all (fun x => !x.1) && (backToKw p24 (keywordEach [] X.env)).all (fun x => x.1.isSome)
      && decide ([we2].length + ([] : List Keyword).length + (if ([] : List Keyword).isEmpty then 0 else 1) < 30)) = true := by rfl)
    (d3 : (p23.endLine == p24.line) = true := by rfl) (d4 : starEach [we2] X.env = (false, eval we2 X.env) :: starEach [] X.env := by rfl) (d5 : (backTo p24 (starEach [] X.env)).any (·.1) = false := by rfl)
    (d6 : swapsWith (.Call (.Attribute (.Subscript (.Name x p19) (.UnaryOp .USub (.Constant (.int 1) j2 p20) p21) p22) "append" p23) [we2] [] p24) none p25.line X.env = pure false := by rfl) :
    ESs cl X W np [.Assign [.Name x p1] (.List [] p2) p3, .Assign [.Name y p4] e1 p5,
      .For tg iter [.If ce [.Expr (.Call (.Attribute (.Name x p6) "append" p7) [.List [] p8] [] p9) p10] [] p11, .Assign [.Name y p12] e2 p13,
        .If (.Compare we [.NotIn] [.Subscript (.Name x p14) (.UnaryOp .USub (.Constant (.int 1) j1 p15) p16) p17] p18)
          [.Expr (.Call (.Attribute (.Subscript (.Name x p19) (.UnaryOp .USub (.Constant (.int 1) j2 p20) p21) p22) "append" p23) [we2] [] p24) p25] [] p26] [] p27,
      .Return (some (.Name x p28)) p29] (sLL np c j m1 t src mc m2 w w2) := by
  have hi1 : ED cl X W (.UnaryOp .USub (.Constant (.int 1) j1 p15) p16) (vNeg (eC (.int 1))) := ed_neg ed_int
  have hi2 : ED cl X W (.UnaryOp .USub (.Constant (.int 1) j2 p20) p21) (vNeg (eC (.int 1))) := ed_neg ed_int
  have hv : ∀ ρ, vNeg (eC (.int 1)) ρ = some (.ok (.int (-1)), ρ) := fun ρ => rfl
  have turn := pss_cons (ps_if (pos := p11) hce (pss_one (ps_expr (pos := p10) (pe_bm PySem.F.plainAttrs_list PySem.F.slot_list_append PySem.F.type_list_append mt_append (pe_var hc vx dx dx2) (pa_cons (pe_lst pa_nil) pa_nil b4) b1 b2 b3 b4 b5) b6)) pss_nil)
    (pss_cons (ps_set (pos := p13) (pos' := p12) hN hj lj h2 w5 fy)
      (pss_one (ps_if (pos := p26) (pt_cmpR (pos := p18) (op_ninT (cl := cl) hk hu) hw (pe_ix (pos := p17) ix_seq (pe_var hc vx dx dx2) hi1 g1) g0)
        (pss_one (ps_expr (pos := p25) (pe_bm PySem.F.plainAttrs_list PySem.F.slot_list_append PySem.F.type_list_append mt_append (pe_ix (pos := p22) ix_seq (pe_var hc vx dx dx2) hi2 g2) (pa_cons hw2 pa_nil d4) d1 d2 d3 d4 d5) d6)) pss_nil)))
  refine ESs.by (pss_cons (ps_set (pos' := p1) hN hc lc (pe_lst pa_nil) w3 fx) (pss_cons (ps_set (pos' := p4) hN hj lj h1 w4 fy) (pss_cons (ps_for (pos := p27) hp hm hs hg turn hf) (pss_one (ps_ret (pos := p29) (pe_var (pos := p28) hc vx dx dx2)))))) fun G ρ D σ H k ⟨fl, ρ', e, oo⟩ => ?_
  unfold sLL at e
  split at e
  case isFalse => cases e
  rename_i hA
  obtain ⟨ac, acj, au⟩ := hA
  split at e
  case h_2 => cases e
  rename_i ρ1 q1
  split at e
  case h_2 => cases e
  rename_i ds ρ2 q2
  split at e
  case h_2 => cases e
  rename_i ρ3 xs3 q3
  cases e
  refine ⟨by simp, fun p hp0 => ?_⟩
  obtain ⟨n0, k0, gp, np0⟩ := new_own (o := .lst []) hp0 k
  have hcl : c < σ.length := by
    rw [← k.len]
    exact (List.getElem?_eq_some_iff.mp (unset_eq au)).1
  have ow : ∀ a, Owns (σ.set c (some (.ref p))) ρ a ↔ Owns σ ρ a := fun a => by
    constructor
    · rintro ⟨i, o, h1, h2, h3⟩
      refine ⟨i, o, h1, h2, ?_⟩
      rwa [List.getElem?_set_ne (fun q => by rw [← q, unset_eq au] at h1; cases h1)] at h3
    · rintro ⟨i, o, h1, h2, h3⟩
      refine ⟨i, o, h1, h2, ?_⟩
      rwa [List.getElem?_set_ne (fun q => by rw [← q, unset_eq au] at h1; cases h1)]
  have L0 : LAt cl X G np c G H σ ρ ρ [] (σ.set c (some (.ref p))) (upd H p (.lst [])) := by
    refine ⟨G, p, [], ⟨k0.sub, by rw [List.length_set]; exact k0.len, fun i o hi => ?_, fun i i' o o' a h1 h2 p1 p2 s1 s2 => ?_⟩, ⟨au, by rw [List.getElem?_set_self hcl], upd_same, gp, fun z => np0 ((ow p).mp z), by simp, trivial⟩, ⟨⟨Ex.refl _, n0.new, n0.keep, n0.there, fun z h => ?_⟩, fun i hi h => ?_, hp0⟩, Ex.refl _⟩
    · obtain ⟨v, h1, h2⟩ := k0.rep i o hi
      refine ⟨v, ?_, h2⟩
      rw [List.getElem?_set_ne (fun q => by rw [← q, unset_eq au] at hi; cases hi)]
      exact h1
    · rw [List.getElem?_set_ne (fun q => by rw [← q, unset_eq au] at h1; cases h1)] at s1
      rw [List.getElem?_set_ne (fun q => by rw [← q, unset_eq au] at h2; cases h2)] at s2
      exact k0.dis i i' o o' a h1 h2 p1 p2 s1 s2
    · rcases h with h | h | h
      · exact .inl ((ow z).mp h)
      · rw [h]
        exact .inr hp0
      · cases h
    · refine ⟨?_, h⟩
      rw [List.getElem?_set_ne (by omega)]
  obtain ⟨o1, ρa, em, hj1, hp1, rfl⟩ := setY_some q1
  refine ll_set acj L0 em hj1 hp1 fun σ1 H1 L1 => ?_
  obtain ⟨G1, a1, bs1, k1, ll1, sn1, x1⟩ := L1
  refine at_of k1 q2 fun J G2 H2 n2 k2 hsrc => ?_
  refine ⟨fun i m σ' H' => m = ds.length - i ∧ i ≤ ds.length ∧ ∃ ρi xi, llGo np c j t mc m2 w w2 (ds.drop i) ρi xi = some (ρ', xs3) ∧ LAt cl X G2 np c G H σ ρ ρi xi σ' H', ⟨_, rfl, Nat.zero_le _, _, _, q3, G2, a1, bs1, k2, ll1.keepK n2, sn1.keepK n2, Ex.refl _⟩, ?_⟩
  rintro i m σ' H' ⟨rfl, hi', ρi, xi, hgo, L⟩
  by_cases hlt : i < ds.length
  · refine .inr ?_
    obtain ⟨G', a, bs, k', ll, sn, x0⟩ := L
    obtain ⟨hgo1, hyl⟩ := (hsrc G' H' x0 k'.sub).1 i ds[i] (by simp [hlt])
    refine ⟨hgo1, fun σ'' H'' => ∃ ρi xi, llGo np c j t mc m2 w w2 (ds.drop (i + 1)) ρi xi = some (ρ', xs3) ∧ LAt cl X G2 np c G H σ ρ ρi xi σ'' H'', fun σ'' H'' st => ⟨_, by omega, rfl, hlt, st⟩, fun v H3 hy => ?_⟩
    obtain ⟨G3, y1, y2, y3, y4, y5⟩ := hyl v H3 hy
    obtain ⟨n3, k3⟩ := grow_ok k' y1 y2 y3 y4
    rw [List.drop_eq_getElem_cons hlt] at hgo
    unfold llGo at hgo
    split at hgo
    case isFalse => cases hgo
    rename_i hfree
    obtain ⟨hfr, hct, hxl⟩ := hfree
    split at hgo
    case h_2 => cases hgo
    rename_i ρb hset
    split at hgo
    case h_2 => cases hgo
    rename_i ρc xc hturn
    obtain ⟨σb, k4, f4, o4, q4⟩ := tg_ok k3 y5 hset
    refine q4 _ ?_
    have nb : Nx G3 H3 (Owns σ' ρi) G3 H3 (Owns σb ρb) := Nx.less o4
    have L4 : LAt cl X G2 np c G H σ ρ ρb xi σb H3 := by
      refine ⟨G3, a, bs, k4, (ll.keepK n3).keep nb ?_ (f4.2 c hct).1, (sn.keepK n3).keep nb fun i hi h => ?_, Ex.trans x0 n3.g⟩
      · rw [(f4.2 c hct).2]
        exact (ll.keepK n3).ic
      · obtain ⟨z1, z2⟩ := f4.2 i (free_off hfr hi h)
        rw [z1, z2]
        exact ⟨rfl, h⟩
    unfold llTurn at hturn
    split at hturn
    case h_2 => cases hturn
    rename_i b1v ρd hc1
    dsimp only at hturn
    split at hturn
    case h_2 => cases hturn
    rename_i ρe hset2
    split at hturn
    case h_2 => cases hturn
    rename_i dw ρf hw1
    split at hturn
    case h_2 => cases hturn
    rename_i l hlast
    obtain ⟨o2, ρg, em2, hj2, hp2, rfl⟩ := setY_some hset2
    -- if c: x.append([])
    obtain ⟨G4, a4, bs4, k5, ll5, sn5, x5⟩ := L4
    refine at_of k5 hc1 fun bv G6 H6 n6 k6 r6 => ?_
    obtain rfl : b1v = bv := r6
    have L6 : LAt cl X G2 np c G H σ ρ ρd xi σb H6 := ⟨G6, a4, bs4, k6, ll5.keepK n6, sn5.keepK n6, Ex.trans x5 n6.g⟩
    have rest : ∀ (E : Ends), (∀ σ' H', (∃ ρi xi, llGo np c j t mc m2 w w2 (ds.drop (i + 1)) ρi xi = some (ρ', xs3) ∧ LAt cl X G2 np c G H σ ρ ρi xi σ' H') → E.nx σ' H') →
        ∀ σ7 H7, LAt cl X G2 np c G H σ ρ ρd (if b1v = true then xi ++ [[]] else xi) σ7 H7 → tSeq (tAsg (tX rO (csX X cl) W m2) (gName j)) (tIfS (tTest (tOp (rInT (csX X cl) (!·)) (tX rD (csX X cl) W w) (tOp (rIx X.K) (tVar c) (tX rD (csX X cl) W (vNeg (eC (.int 1)))))))
        (tDrop (tBM X.K "list" rAppend (tOp (rIx X.K) (tVar c) (tX rD (csX X cl) W (vNeg (eC (.int 1))))) (tCons (tX rD (csX X cl) W w2) tNil))) tNext) E σ7 H7 := fun E hE σ7 H7 L7 => by
      refine ll_set acj L7 em2 hj2 hp2 fun σ8 H8 L8 => ?_
      split at hturn
      · rename_i hz
        cases hturn
        refine ll_nin hv L8 hlast hw1 hz fun H9 L9 => ?_
        exact hE _ _ ⟨_, _, hgo, L9⟩
      · rename_i hz
        split at hturn
        · rename_i d2 ρh hw2e
          by_cases hlen : (if b1v = true then xi ++ [[]] else xi).length < lim ∧ l.length < lim
          · rw [if_pos hlen] at hturn
            cases hturn
            refine ll_nin hv L8 hlast hw1 hz fun H9 L9 => ?_
            exact ll_grow (D := E.nx) hv L9 hlast hw2e hlen.2 fun σ10 H10 L10 => hE _ _ ⟨_, _, hgo, L10⟩
          · rw [if_neg hlen] at hturn
            cases hturn
        · cases hturn
      · cases hturn
    cases b1v with
    | true => exact ll_more (D := fun σ H => tSeq _ _ _ σ H) L6 hxl fun σ7 H7 L7 => rest _ (fun _ _ h => h) σ7 H7 L7
    | false => exact rest _ (fun _ _ h => h) _ _ L6
  · have hi2 : i = ds.length := by omega
    subst hi2
    rw [List.drop_length] at hgo
    cases hgo
    obtain ⟨G', a, bs, k', ll, sn, x0⟩ := L
    refine .inl ⟨(hsrc G' H' x0 k'.sub).2, _, ll.sc, ?_⟩
    obtain ⟨G9, n9, k9, r9⟩ := ll.seal k' sn
    exact oo _ G9 H' σ' n9 k9 r9
end
end Fn

set_option maxRecDepth 100000
set_option maxHeartbeats 4000000
namespace Fn
open PySem PySem.Spec PyProof.Rows L2

/-! ### a, b, c = a list -/
def sAsgL (np : Nat) (is : List Nat) (m : M D) : S := m.then_ fun d ρ => match d with
  | .lst ds => if free np (.t is) ρ = true then (match setAll is ds ρ with
    | some ρ' => some (.nx, ρ')
    | none => none) else none
  | _ => none
theorem setAll_len : ∀ {is : List Nat} {ds : List D} {ρ ρ' : En}, setAll is ds ρ = some ρ' → ds.length = is.length
  | [], [], _, _, _ => rfl
  | [], _ :: _, _, _, e => by cases e
  | _ :: _, [], _, _, e => by cases e
  | i :: is, d :: ds, ρ, ρ', e => by
    have e' : (if i < ρ.length then setAll is ds (ρ.set i (some (O.dat d))) else none) = some ρ' := e
    split at e'
    · rw [List.length_cons, List.length_cons, setAll_len e']
    · cases e'
section
variable {cl : Nms} {X : Cx} {W : WX} {np : Nat} {e : Expr} {md : M D} {pos tp : Pos} {es : List Expr} {kk : Nat}
theorem es_asgL {is : List Nat} (he : ED cl X W e md) (hg : PG X (.Tuple es kk tp) (gLst X.K is.length (is.foldr (fun i t => gCons (gName i) t) gNil))) (hs : swapsWithSole [.Tuple es kk tp] e pos.line X.env = pure false := by rfl) (hw : swappedStores [.Tuple es kk tp] e X.env = pure none := by rfl)
    (h1 : (assignEach [.Tuple es kk tp] X.env).map (·.2) = [assign (.Tuple es kk tp) X.env] := by rfl) : ES cl X W np (.Assign [.Tuple es kk tp] e pos) (sAsgL np is md) :=
  ES.by (ps_asg he hg hs hw h1) fun G ρ D σ H k a => at_tX k (a.then_ (R := rD) fun x ρ1 v G1 H1 n1 k1 r1 ⟨fl, ρ', e, oo⟩ => by
    dsimp only at e
    split at e
    case h_2 => cases e
    rename_i ds
    split at e
    case isFalse => cases e
    rename_i hfree
    split at e
    case h_2 => cases e
    rename_i ρa hset
    cases e
    obtain ⟨a, xs, rfl, g1, g2⟩ := r1
    obtain ⟨σa, k3, f3, o3, q3⟩ := setAll_ok k1 g2 hset
    refine ⟨a, xs, rfl, SqL.of (k1.sub _ _ g1), by rw [g2.length, setAll_len hset], q3 _ (oo G1 H1 σa ⟨Nx.less o3, fun j hj hk => ?_⟩ k3)⟩
    obtain ⟨e1, e2⟩ := f3.2 j (free_off (t := .t is) hfree hj hk)
    rw [e1, e2]
    exact ⟨rfl, hk⟩)
end
end Fn

set_option maxRecDepth 100000
set_option maxHeartbeats 4000000
namespace Fn
open PySem PySem.Spec PyProof.Rows L2

/-! ### a tuple of numbers that the top has written -/
def CtAt (K : PySem.W.Frag) (x : Str) (is : List Int) : Prop := ∃ (a : Addr) (od : Option Addr) (its : Array Value) (n : Nat) (sl : Array (Option Value)), PySem.W.nsIn K mainGlobals x = some (some (.ref a)) ∧
  K.lookup a = some ⟨.type "tuple", od, .seq its n, sl⟩ ∧ its.size ≤ sizeLine ∧ Vals (is.map V.int) its.toList
theorem ctAt_mk {K : PySem.W.Frag} {x : Str} {is : List Int} {a : Addr} {od : Option Addr} {its : Array Value} {n : Nat} {sl : Array (Option Value)} (h : PySem.W.nsIn K mainGlobals x = some (some (.ref a))) (l : K.lookup a = some ⟨.type "tuple", od, .seq its n, sl⟩)
    (z : its.size ≤ sizeLine) (v : Vals (is.map V.int) its.toList) : CtAt K x is := ⟨a, od, its, n, sl, h, l, z, v⟩
theorem reps_int {T : Cs} {G : Hp} : ∀ ns : List Int, RepL T G (ns.map D.int) (ns.map V.int)
  | [] => rfl
  | n :: ns => ⟨_, _, rfl, rfl, reps_int ns⟩
theorem conT_of {T : At0} {h : Heap} {x : Str} {is : List Int} (X : T.K.In h) (G : h.Ns mainGlobals T.mg) (A : CtAt T.K x is) : ConT T x (.tup (is.map D.int)) := by
  obtain ⟨a, od, its, n, sl, h1, l, z, v⟩ := A
  exact ⟨_, .ref a, PySem.W.mg_of X G h1, rfl, fun H => ⟨a, is.map V.int, rfl, .inr ⟨_, its, n, l, rfl, rfl, z, v⟩, reps_int is⟩⟩
end Fn

set_option maxRecDepth 100000
set_option maxHeartbeats 4000000
namespace Fs
open PySem PySem.Spec PyProof.Rows L2 Fn
/-! Fs: denotations reckoned by simp, numbers unknown -/
abbrev sh (a b : Int) : D := .tup [.int a, .int b]
theorem ty_tt : subTy "tuple" (.ty "tuple") = some true := by decide
theorem ty_ti : subTy "tuple" (.ty "int") = some false := by decide
theorem ty_ts : subTy "tuple" (.ty "str") = some false := by decide
theorem ty_tl : subTy "tuple" (.ty "list") = some false := by decide
theorem ty_tb : subTy "tuple" (.ty "bool") = some false := by decide
theorem ty_tn : subTy "tuple" (.ty "NoneType") = some false := by decide
theorem ty_td : subTy "tuple" (.ty "dict") = some false := by decide
theorem ty_it : subTy "int" (.ty "tuple") = some false := by decide
theorem ty_ii : subTy "int" (.ty "int") = some true := by decide
theorem ty_is : subTy "int" (.ty "str") = some false := by decide
theorem ty_il : subTy "int" (.ty "list") = some false := by decide
theorem ty_ib : subTy "int" (.ty "bool") = some true := by decide
theorem ty_in : subTy "int" (.ty "NoneType") = some false := by decide
theorem ty_id : subTy "int" (.ty "dict") = some false := by decide
theorem ty_bt : subTy "bool" (.ty "tuple") = some false := by decide
theorem ty_bi : subTy "bool" (.ty "int") = some false := by decide
theorem ty_bs : subTy "bool" (.ty "str") = some false := by decide
theorem ty_bl : subTy "bool" (.ty "list") = some false := by decide
theorem ty_bb : subTy "bool" (.ty "bool") = some true := by decide
theorem ty_bn : subTy "bool" (.ty "NoneType") = some false := by decide
theorem ty_bd : subTy "bool" (.ty "dict") = some false := by decide
theorem ty_st : subTy "str" (.ty "tuple") = some false := by decide
theorem ty_si : subTy "str" (.ty "int") = some false := by decide
theorem ty_ss : subTy "str" (.ty "str") = some true := by decide
theorem ty_sl : subTy "str" (.ty "list") = some false := by decide
theorem ty_sb : subTy "str" (.ty "bool") = some false := by decide
theorem ty_sn : subTy "str" (.ty "NoneType") = some false := by decide
theorem ty_sd : subTy "str" (.ty "dict") = some false := by decide
theorem ty_lt : subTy "list" (.ty "tuple") = some false := by decide
theorem ty_li : subTy "list" (.ty "int") = some false := by decide
theorem ty_ls : subTy "list" (.ty "str") = some false := by decide
theorem ty_ll : subTy "list" (.ty "list") = some true := by decide
theorem ty_lb : subTy "list" (.ty "bool") = some false := by decide
theorem ty_ln : subTy "list" (.ty "NoneType") = some false := by decide
theorem ty_ld : subTy "list" (.ty "dict") = some false := by decide
abbrev Is (F : Fx) (ds : List D) (d : D) : Prop := F (ds.map O.dat) = some (.ok (.dat d), ds.map O.dat)
abbrev IsO (F : Fx) (ds : List D) (o : O) : Prop := F (ds.map O.dat) = some (.ok o, ds.map O.dat)
/-! == -/
theorem tru_bl {b : Bool} : fTru (.bl b) = some b := rfl
theorem eq_ii {a b : Int} : fEqB (.int a) (.int b) = some (.bl (decide (a = b))) := by
  simp [fEqB, dEqB, dEq, toPy, SeqAt.shaped, PyData.canLay0, PyData.depth, PyData.eqv, BEq.beq]
theorem ne_ii {a b : Int} : fNeB (.int a) (.int b) = some (.bl (!decide (a = b))) := by
  simp [fNeB, dEqB, dEq, toPy, SeqAt.shaped, PyData.canLay0, PyData.depth, PyData.eqv, BEq.beq]
theorem eq_hh {a b c d : Int} : fEqB (sh a b) (sh c d) = some (.bl (decide (a = c) && decide (b = d))) := by
  simp [fEqB, dEqB, dEq, toPy, toPyL, SeqAt.shaped, PyData.canLay0, PyData.canLayAll0, PyData.depth, PyData.depthAll, PyData.eqv, PyData.eqvAll, BEq.beq]
theorem ne_hh {a b c d : Int} : fNeB (sh a b) (sh c d) = some (.bl (!(decide (a = c) && decide (b = d)))) := by
  simp [fNeB, dEqB, dEq, toPy, toPyL, SeqAt.shaped, PyData.canLay0, PyData.canLayAll0, PyData.depth, PyData.depthAll, PyData.eqv, PyData.eqvAll, BEq.beq]
theorem q_cut_cut : fEqB (.str "cut") (.str "cut") = some (.bl true) := by kernel_rfl
theorem q_cut_read : fEqB (.str "cut") (.str "read") = some (.bl false) := by kernel_rfl
theorem q_cut_pair : fEqB (.str "cut") (.str "pair") = some (.bl false) := by kernel_rfl
theorem q_cut_at : fEqB (.str "cut") (.str "at") = some (.bl false) := by kernel_rfl
theorem q_cut_above : fEqB (.str "cut") (.str "above") = some (.bl false) := by kernel_rfl
theorem q_read_cut : fEqB (.str "read") (.str "cut") = some (.bl false) := by kernel_rfl
theorem q_read_read : fEqB (.str "read") (.str "read") = some (.bl true) := by kernel_rfl
theorem q_read_pair : fEqB (.str "read") (.str "pair") = some (.bl false) := by kernel_rfl
theorem q_read_at : fEqB (.str "read") (.str "at") = some (.bl false) := by kernel_rfl
theorem q_read_above : fEqB (.str "read") (.str "above") = some (.bl false) := by kernel_rfl
theorem q_pair_cut : fEqB (.str "pair") (.str "cut") = some (.bl false) := by kernel_rfl
theorem q_pair_read : fEqB (.str "pair") (.str "read") = some (.bl false) := by kernel_rfl
theorem q_pair_pair : fEqB (.str "pair") (.str "pair") = some (.bl true) := by kernel_rfl
theorem q_pair_at : fEqB (.str "pair") (.str "at") = some (.bl false) := by kernel_rfl
theorem q_pair_above : fEqB (.str "pair") (.str "above") = some (.bl false) := by kernel_rfl
theorem q_at_cut : fEqB (.str "at") (.str "cut") = some (.bl false) := by kernel_rfl
theorem q_at_read : fEqB (.str "at") (.str "read") = some (.bl false) := by kernel_rfl
theorem q_at_pair : fEqB (.str "at") (.str "pair") = some (.bl false) := by kernel_rfl
theorem q_at_at : fEqB (.str "at") (.str "at") = some (.bl true) := by kernel_rfl
theorem q_at_above : fEqB (.str "at") (.str "above") = some (.bl false) := by kernel_rfl
theorem q_above_cut : fEqB (.str "above") (.str "cut") = some (.bl false) := by kernel_rfl
theorem q_above_read : fEqB (.str "above") (.str "read") = some (.bl false) := by kernel_rfl
theorem q_above_pair : fEqB (.str "above") (.str "pair") = some (.bl false) := by kernel_rfl
theorem q_above_at : fEqB (.str "above") (.str "at") = some (.bl false) := by kernel_rfl
theorem q_above_above : fEqB (.str "above") (.str "above") = some (.bl true) := by kernel_rfl
/-- a number that may be reckoned with -/
def Sm (i : Int) : Prop := bits i ≤ 9000
theorem mul_i {i j : Int} (hi : Sm i) (hj : Sm j) : fMul (.int i) (.int j) = some (.dat (.int (i * j))) := by
  unfold Sm at hi hj
  have : bits i + bits j ≤ 100000000 := by omega
  simp [fMul, this]
theorem div_i {i j : Int} (h0 : 0 < j) (hj : Sm j) : fDiv (.int i) (.int j) = some (.int (i / j)) := by
  have : bits j ≤ 9000 := hj
  simp [fDiv, h0, this]
theorem sm_le {i : Int} (h0 : 0 ≤ i) (h : i < 2 ^ 200) : Sm i := by
  have := bits_small (k := 200) h0 h (by decide)
  unfold Sm
  omega
/-! a loop's turn, once the variables are known -/
theorem wh_cons {c : M Bool} {b : S} {n : Nat} {o : Option O} {ρ : En} : whGo c b (n + 1) (o :: ρ) = match c (o :: ρ) with
    | some (.ok true, ρ1) => (match b ρ1 with
      | some (.nx, ρ2) => whGo c b n ρ2
      | some (.ct, ρ2) => whGo c b n ρ2
      | some (.bk, ρ2) => some (.nx, ρ2)
      | r => r)
    | some (.ok false, ρ1) => some (.nx, ρ1)
    | some (.er c ns vs, ρ1) => some (.er c ns vs, ρ1)
    | none => none := by
  (conv => lhs; unfold whGo) <;> rfl
theorem for_nil {np : Nat} {t : Tg} {b : S} {ρ : En} : forGo np t b [] ρ = some (.nx, ρ) := rfl
theorem for_cons {np : Nat} {t : Tg} {b : S} {d : D} {ds : List D} {o : Option O} {ρ : En} : forGo np t b (d :: ds) (o :: ρ) = if free np t (o :: ρ) = true then match t.set d (o :: ρ) with
    | none => none
    | some ρ1 => match b ρ1 with
      | some (.nx, ρ2) => forGo np t b ds ρ2
      | some (.ct, ρ2) => forGo np t b ds ρ2
      | some (.bk, ρ2) => some (.nx, ρ2)
      | r => r
    else none := by
  (conv => lhs; unfold forGo) <;> rfl
theorem comp_nil {vs : List Nat} {t : Tg} {tt : M Bool} {e : M D} {acc : List D} {ρ : En} : compGo vs t tt e [] acc ρ = some (.ok acc, ρ) := rfl
theorem comp_cons {vs : List Nat} {t : Tg} {tt : M Bool} {e : M D} {d : D} {ds acc : List D} {o : Option O} {ρ : En} : compGo vs t tt e (d :: ds) acc (o :: ρ) = match t.set d (o :: ρ) with
    | none => none
    | some ρ1 => match tt ρ1 with
      | some (.ok true, ρ2) => match e ρ2 with
        | some (.ok x, ρ3) => if acc.length < lim then compGo vs t tt e ds (acc ++ [x]) (wipeE ρ3 vs) else none
        | _ => none
      | some (.ok false, ρ2) => compGo vs t tt e ds acc (wipeE ρ2 vs)
      | _ => none := by
  (conv => lhs; unfold compGo) <;> rfl
theorem rg2 : List.range 2 = [0, 1] := rfl
theorem rg3 : List.range 3 = [0, 1, 2] := rfl
theorem rg4 : List.range 4 = [0, 1, 2, 3] := rfl
theorem rg5 : List.range 5 = [0, 1, 2, 3, 4] := rfl
theorem rg6 : List.range 6 = [0, 1, 2, 3, 4, 5] := rfl
theorem rg7 : List.range 7 = [0, 1, 2, 3, 4, 5, 6] := rfl
theorem rg8 : List.range 8 = [0, 1, 2, 3, 4, 5, 6, 7] := rfl
theorem tru_l {xs : List D} : fTru (.lst xs) = some (!xs.isEmpty) := rfl
theorem tru_t {xs : List D} : fTru (.tup xs) = some (!xs.isEmpty) := rfl
theorem tru_i {i : Int} : fTru (.int i) = some (i != 0) := rfl
end Fs

set_option maxRecDepth 100000
set_option maxHeartbeats 4000000
namespace Law
open PySem PySem.Spec PyProof.Rows L2 Fn

def top (i : Nat) : Stmt := PySem.Challenge.pw_talkedalike_k50_forms_by_hand.main.body.getD i (.Pass ⟨0, 0, 0, 0⟩)
def inCls (i j : Nat) : Stmt := (C8.clsBody (top i)).getD j (.Pass ⟨0, 0, 0, 0⟩)
def flds : List Str := []
def attrs : List Str := ["_form", "_marks", "numbers", "words"]
def blts : List Str := ["len", "int", "max", "min", "isinstance", "range", "tuple", "list", "set", "dict", "zip", "enumerate", "sorted", "sum", "all", "any", "str", "bool", "repr", "reversed"]
/-- what the defs find -/
structure Env2 (T : At0) : Prop where
  hB : ∀ x, x ∈ blts → T.mg x = none
  hS : SysK T.K
  hX : Xs T.K T.cl flds
  hO : ObjK T.K T.cl attrs
  hGcd : T.mg "gcd" = some (.builtin "math.gcd")
  hC_LONGEST_NAME : Con T "LONGEST_NAME" (.int 8)
  hC_NOTHING : ConT T "NOTHING" (.tup [.int 0, .int 1])
  hC_ALL : ConT T "ALL" (.tup [.int 1, .int 1])
variable {T : At0}
abbrev s_law_tape : Stmt := top 42
def N_law_tape : List Str := ["script", "first", "mixed", "cell", "digits"]
def den_law_tape : S := (sSeq (sSet 2 2 (eBin fAdd (M.map Rf.d (eC (.int 101))) (M.map Rf.d (eBin fMul (rVar 1) (M.map Rf.d (eC (.int 53)))).fr)))
    (sSeq (sFor 2 (.n 3) (iAll (eVar 0)) (sSet 2 2 (eBin fAdd (M.map Rf.d (eBinD fMod (M.map Rf.d (eFun fInt (aCons (M.map Rf.d (eBinD fPow (M.map Rf.d (eBin fAdd (M.map Rf.d (eBin fAdd (M.map Rf.d (eBin fMul (rVar 2) (M.map Rf.d (eC (.int 30029)))).fr) (M.map Rf.d (eBin fMul (rVar 3) (rVar 3)).fr)).fr) (M.map Rf.d (eC (.int 13)))).fr) (M.map Rf.d (eC (.int 2))))) aNil))) (M.map Rf.d (eC (.int 2147483563))))) (M.map Rf.d (eC (.int 2))))))
    (sSeq (sSet 2 4 (M.map O.dat (eIf (mAnd (eT (eBinD fLt (rVar 1) (M.map Rf.d (eFun fLenB (aCons (rVar 0) aNil))))) (eT (eBinD fGe (M.map Rf.d (eBinD fIx (rVar 0) (rVar 1))) (M.map Rf.d (eBinD fPow (M.map Rf.d (eC (.int 10))) (M.map Rf.d (eC (.int 18)))))))) (eBinD fSub (M.map Rf.d (eBinD fIx (rVar 0) (rVar 1))) (M.map Rf.d (eBinD fPow (M.map Rf.d (eC (.int 10))) (M.map Rf.d (eC (.int 18)))))) (eC (.int 0)))))
    (sRet (eDict [((eC (.str "digits")), (eVar 4)), ((eC (.str "mixed")), (eVar 2))])))))
def F_law_tape : Fx := defF 5 den_law_tape
theorem sc_law_tape : FnScope N_law_tape ["script", "first"] (defScope s_law_tape) := ⟨rfl, rfl, rfl, by decide +kernel, rfl, by decide +kernel, by decide +kernel⟩
theorem ok_law_tape {f : Addr} {fd : FuncData} (F : L2.Fun T.K "_law_tape" "_law_tape" s_law_tape f fd) (Y : Env2 T) : FnS T.P T.w T.K T.mg T.base (L2.CX T.P T.w) (0 + 1) f fd ["script", "first"] (spF ⟨T.K, T.cl, T.P, T.w⟩ 2 F_law_tape) := by
  obtain ⟨hB, hS, hX, hO, hGcd, hC_LONGEST_NAME, hC_NOTHING, hC_ALL⟩ := Y
  have nd := sc_law_tape.nd
  refine def_ok (k := 0) (N := N_law_tape) (den := den_law_tape) F sc_law_tape rfl fun cdv A outer s H E hgd hr => ?_
  have hu := hr.units
  have hu65 := Fn.units65 hr
  have hu1 := Nat.lt_of_le_of_lt (Nat.add_le_add_left (by decide : 1 ≤ 64) _) hu
  exact (ess_cons (es_set (i := 2) nd rfl (by first | exact Or.inl rfl | exact Or.inr rfl) (eo_add (ER.of _ ed_int) (ER.of _ (ED.fr (eo_mul (er_var (i := 1) rfl (by first | exact Or.inl rfl | exact Or.inr (Or.inl rfl) | exact Or.inr (Or.inr rfl))) (ER.of _ ed_int))))))
      (ess_cons (es_for own_fn rfl (ei_all (ed_var (i := 0) rfl (by first | exact Or.inl rfl | exact Or.inr (Or.inl rfl) | exact Or.inr (Or.inr rfl)))) (pg_name (i := 3) nd rfl (by first | exact Or.inl rfl | exact Or.inr rfl)) (ess_one (es_set (i := 2) nd rfl (by first | exact Or.inl rfl | exact Or.inr rfl) (eo_add (ER.of _ (ed_mod (ER.of _ (c_int rfl (hB "int" (by decide)) (ea_cons (ER.of _ (ed_pow (ER.of _ (ED.fr (eo_add (ER.of _ (ED.fr (eo_add (ER.of _ (ED.fr (eo_mul (er_var (i := 2) rfl (by first | exact Or.inl rfl | exact Or.inr (Or.inl rfl) | exact Or.inr (Or.inr rfl))) (ER.of _ ed_int)))) (ER.of _ (ED.fr (eo_mul (er_var (i := 3) rfl (by first | exact Or.inl rfl | exact Or.inr (Or.inl rfl) | exact Or.inr (Or.inr rfl))) (er_var (i := 3) rfl (by first | exact Or.inl rfl | exact Or.inr (Or.inl rfl) | exact Or.inr (Or.inr rfl))))))))) (ER.of _ ed_int)))) (ER.of _ ed_int))) ea_nil))) (ER.of _ ed_int))) (ER.of _ ed_int)))))
      (ess_cons (es_set (i := 4) nd rfl (by first | exact Or.inl rfl | exact Or.inr rfl) (EO.of _ (ex_if rD_back (et_w (ew_and (t_lt (nomark _) (er_var (i := 1) rfl (by first | exact Or.inl rfl | exact Or.inr (Or.inl rfl) | exact Or.inr (Or.inr rfl))) (ER.of _ (c_lenB rfl (hB "len" (by decide)) (ea_cons (er_var (i := 0) rfl (by first | exact Or.inl rfl | exact Or.inr (Or.inl rfl) | exact Or.inr (Or.inr rfl))) ea_nil)))) (ew_and1 (t_ge (nomark _) (ER.of _ (ed_ix (er_var (i := 0) rfl (by first | exact Or.inl rfl | exact Or.inr (Or.inl rfl) | exact Or.inr (Or.inr rfl))) (er_var (i := 1) rfl (by first | exact Or.inl rfl | exact Or.inr (Or.inl rfl) | exact Or.inr (Or.inr rfl))) (fun _ _ => rfl))) (ER.of _ (ed_pow (ER.of _ ed_int) (ER.of _ ed_int))))))) (ed_sub (ER.of _ (ed_ix (er_var (i := 0) rfl (by first | exact Or.inl rfl | exact Or.inr (Or.inl rfl) | exact Or.inr (Or.inr rfl))) (er_var (i := 1) rfl (by first | exact Or.inl rfl | exact Or.inr (Or.inl rfl) | exact Or.inr (Or.inr rfl))) (fun _ _ => rfl))) (ER.of _ (ed_pow (ER.of _ ed_int) (ER.of _ ed_int)))) ed_int)))
      (ess_one (es_ret (eo_dict (ps := [((eC (.str "digits")), (eVar 4)), ((eC (.str "mixed")), (eVar 2))]) (pps_cons ed_str (ed_var (i := 4) rfl (by first | exact Or.inl rfl | exact Or.inr (Or.inl rfl) | exact Or.inr (Or.inr rfl))) (pps_cons ed_str (ed_var (i := 2) rfl (by first | exact Or.inl rfl | exact Or.inr (Or.inl rfl) | exact Or.inr (Or.inr rfl))) pps_nil)) rfl rfl (by simp) (by decide)))))))

abbrev s_law_pick : Stmt := top 43
def N_law_pick : List Str := ["tape", "many", "found", "once"]
def den_law_pick : S := (sSeq (sIf (eT (eBinD fGe (M.map Rf.d (eBinD fDGet (rVar 0) (M.map Rf.d (eC (.str "digits"))))) (rVar 1))) (sSeq (sSet 2 2 (M.map O.dat (eBinD fMod (M.map Rf.d (eFun fInt (aCons (M.map Rf.d (eBinD fDGet (rVar 0) (M.map Rf.d (eC (.str "digits"))))) aNil))) (rVar 1))))
    (sSeq (sDPutS (rVar 0) (M.map Rf.d (eC (.str "digits"))) (eBinD fDiv (M.map Rf.d (eBinD fDGet (rVar 0) (M.map Rf.d (eC (.str "digits"))))) (rVar 1)))
    (sRet (M.map O.dat (eVar 2))))) sPass)
    (sSeq (sDPutS (rVar 0) (M.map Rf.d (eC (.str "mixed"))) (eBinD fMod (M.map Rf.d (eFun fInt (aCons (M.map Rf.d (eBin fAdd (M.map Rf.d (eBin fMul (M.map Rf.d (eBinD fDGet (rVar 0) (M.map Rf.d (eC (.str "mixed"))))) (M.map Rf.d (eC (.int 40014)))).fr) (M.map Rf.d (eC (.int 1031)))).fr) aNil))) (M.map Rf.d (eC (.int 2147483563)))))
    (sSeq (sSet 2 3 (M.map O.dat (eBinD fMod (M.map Rf.d (eFun fInt (aCons (M.map Rf.d (eBinD fPow (M.map Rf.d (eBinD fDGet (rVar 0) (M.map Rf.d (eC (.str "mixed"))))) (M.map Rf.d (eC (.int 2))))) aNil))) (M.map Rf.d (eC (.int 2147483399))))))
    (sRet (M.map O.dat (eBinD fMod (M.map Rf.d (eFun fInt (aCons (M.map Rf.d (eBinD fDiv (M.map Rf.d (eBinD fMod (M.map Rf.d (eFun fInt (aCons (M.map Rf.d (eBinD fPow (rVar 3) (M.map Rf.d (eC (.int 3))))) aNil))) (M.map Rf.d (eC (.int 998244353))))) (M.map Rf.d (eC (.int 13))))) aNil))) (rVar 1)))))))
def F_law_pick : Fx := defF 4 den_law_pick
theorem sc_law_pick : FnScope N_law_pick ["tape", "many"] (defScope s_law_pick) := ⟨rfl, rfl, rfl, by decide +kernel, rfl, by decide +kernel, by decide +kernel⟩
theorem ok_law_pick {f : Addr} {fd : FuncData} (F : L2.Fun T.K "_law_pick" "_law_pick" s_law_pick f fd) (Y : Env2 T) : FnS T.P T.w T.K T.mg T.base (L2.CX T.P T.w) (0 + 1) f fd ["tape", "many"] (spF ⟨T.K, T.cl, T.P, T.w⟩ 2 F_law_pick) := by
  obtain ⟨hB, hS, hX, hO, hGcd, hC_LONGEST_NAME, hC_NOTHING, hC_ALL⟩ := Y
  have nd := sc_law_pick.nd
  refine def_ok (k := 0) (N := N_law_pick) (den := den_law_pick) F sc_law_pick rfl fun cdv A outer s H E hgd hr => ?_
  have hu := hr.units
  have hu65 := Fn.units65 hr
  have hu1 := Nat.lt_of_le_of_lt (Nat.add_le_add_left (by decide : 1 ≤ 64) _) hu
  exact (ess_cons (es_if (t_ge (nomark _) (ER.of _ (ed_dget hu1 (er_var (i := 0) rfl (by first | exact Or.inl rfl | exact Or.inr (Or.inl rfl) | exact Or.inr (Or.inr rfl))) (ER.of _ ed_str) (fun _ _ => rfl))) (er_var (i := 1) rfl (by first | exact Or.inl rfl | exact Or.inr (Or.inl rfl) | exact Or.inr (Or.inr rfl)))) (ess_cons (es_set (i := 2) nd rfl (by first | exact Or.inl rfl | exact Or.inr rfl) (EO.of _ (ed_mod (ER.of _ (c_int rfl (hB "int" (by decide)) (ea_cons (ER.of _ (ed_dget hu1 (er_var (i := 0) rfl (by first | exact Or.inl rfl | exact Or.inr (Or.inl rfl) | exact Or.inr (Or.inr rfl))) (ER.of _ ed_str) (fun _ _ => rfl))) ea_nil))) (er_var (i := 1) rfl (by first | exact Or.inl rfl | exact Or.inr (Or.inl rfl) | exact Or.inr (Or.inr rfl))))))
      (ess_cons (es_dput hu1 (er_var (i := 0) rfl (by first | exact Or.inl rfl | exact Or.inr (Or.inl rfl) | exact Or.inr (Or.inr rfl))) (ER.of _ ed_str) (ed_div (ER.of _ (ed_dget hu1 (er_var (i := 0) rfl (by first | exact Or.inl rfl | exact Or.inr (Or.inl rfl) | exact Or.inr (Or.inr rfl))) (ER.of _ ed_str) (fun _ _ => rfl))) (er_var (i := 1) rfl (by first | exact Or.inl rfl | exact Or.inr (Or.inl rfl) | exact Or.inr (Or.inr rfl)))))
      (ess_one (es_ret (EO.of _ (ed_var (i := 2) rfl (by first | exact Or.inl rfl | exact Or.inr (Or.inl rfl) | exact Or.inr (Or.inr rfl)))))))) ess_nil)
      (ess_cons (es_dput hu1 (er_var (i := 0) rfl (by first | exact Or.inl rfl | exact Or.inr (Or.inl rfl) | exact Or.inr (Or.inr rfl))) (ER.of _ ed_str) (ed_mod (ER.of _ (c_int rfl (hB "int" (by decide)) (ea_cons (ER.of _ (ED.fr (eo_add (ER.of _ (ED.fr (eo_mul (ER.of _ (ed_dget hu1 (er_var (i := 0) rfl (by first | exact Or.inl rfl | exact Or.inr (Or.inl rfl) | exact Or.inr (Or.inr rfl))) (ER.of _ ed_str) (fun _ _ => rfl))) (ER.of _ ed_int)))) (ER.of _ ed_int)))) ea_nil))) (ER.of _ ed_int)))
      (ess_cons (es_set (i := 3) nd rfl (by first | exact Or.inl rfl | exact Or.inr rfl) (EO.of _ (ed_mod (ER.of _ (c_int rfl (hB "int" (by decide)) (ea_cons (ER.of _ (ed_pow (ER.of _ (ed_dget hu1 (er_var (i := 0) rfl (by first | exact Or.inl rfl | exact Or.inr (Or.inl rfl) | exact Or.inr (Or.inr rfl))) (ER.of _ ed_str) (fun _ _ => rfl))) (ER.of _ ed_int))) ea_nil))) (ER.of _ ed_int))))
      (ess_one (es_ret (EO.of _ (ed_mod (ER.of _ (c_int rfl (hB "int" (by decide)) (ea_cons (ER.of _ (ed_div (ER.of _ (ed_mod (ER.of _ (c_int rfl (hB "int" (by decide)) (ea_cons (ER.of _ (ed_pow (er_var (i := 3) rfl (by first | exact Or.inl rfl | exact Or.inr (Or.inl rfl) | exact Or.inr (Or.inr rfl))) (ER.of _ ed_int))) ea_nil))) (ER.of _ ed_int))) (ER.of _ ed_int))) ea_nil))) (er_var (i := 1) rfl (by first | exact Or.inl rfl | exact Or.inr (Or.inl rfl) | exact Or.inr (Or.inr rfl))))))))))

abbrev s_law_one_of : Stmt := top 44
def N_law_one_of : List Str := ["tape", "things"]
def den_law_one_of : S := (sRet (M.map O.dat (eBinD fIx (rVar 1) (M.map Rf.d (eCall F_law_pick (aCons (rVar 0) (aCons (M.map Rf.d (eFun fLenB (aCons (rVar 1) aNil))) aNil))).fr))))
def F_law_one_of : Fx := defF 2 den_law_one_of
theorem sc_law_one_of : FnScope N_law_one_of ["tape", "things"] (defScope s_law_one_of) := ⟨rfl, rfl, rfl, by decide +kernel, rfl, by decide +kernel, by decide +kernel⟩
theorem ok_law_one_of {f : Addr} {fd : FuncData} (F : L2.Fun T.K "_law_one_of" "_law_one_of" s_law_one_of f fd) (Y : Env2 T) (c_law_pick : Cal T 1 2 "_law_pick" F_law_pick) : FnS T.P T.w T.K T.mg T.base (L2.CX T.P T.w) (1 + 1) f fd ["tape", "things"] (spF ⟨T.K, T.cl, T.P, T.w⟩ 2 F_law_one_of) := by
  obtain ⟨hB, hS, hX, hO, hGcd, hC_LONGEST_NAME, hC_NOTHING, hC_ALL⟩ := Y
  have nd := sc_law_one_of.nd
  refine def_ok (k := 1) (N := N_law_one_of) (den := den_law_one_of) F sc_law_one_of rfl fun cdv A outer s H E hgd hr => ?_
  have hu := hr.units
  have hu65 := Fn.units65 hr
  have hu1 := Nat.lt_of_le_of_lt (Nat.add_le_add_left (by decide : 1 ≤ 64) _) hu
  exact (ess_one (es_ret (EO.of _ (ed_ix (er_var (i := 1) rfl (by first | exact Or.inl rfl | exact Or.inr (Or.inl rfl) | exact Or.inr (Or.inr rfl))) (ER.of _ (ED.fr (c_call c_law_pick thru_fn hgd (hr.mono (by first | decide | omega)) rfl (ea_cons (er_var (i := 0) rfl (by first | exact Or.inl rfl | exact Or.inr (Or.inl rfl) | exact Or.inr (Or.inr rfl))) (ea_cons (ER.of _ (c_lenB rfl (hB "len" (by decide)) (ea_cons (er_var (i := 1) rfl (by first | exact Or.inl rfl | exact Or.inr (Or.inl rfl) | exact Or.inr (Or.inr rfl))) ea_nil))) ea_nil)) (alen1 (alen1 alen0))))) (fun _ _ => rfl)))))

abbrev s_is_integer : Stmt := top 6
def N_is_integer : List Str := ["value"]
def den_is_integer : S := (sRet (M.map O.dat (vAnd (eIsi (subTy "int") (rVar 0)) (vNot (eIsi (subTy "bool") (rVar 0))))))
def F_is_integer : Fx := defF 1 den_is_integer
theorem sc_is_integer : FnScope N_is_integer ["value"] (defScope s_is_integer) := ⟨rfl, rfl, rfl, by decide +kernel, rfl, by decide +kernel, by decide +kernel⟩
theorem ok_is_integer {f : Addr} {fd : FuncData} (F : L2.Fun T.K "is_integer" "is_integer" s_is_integer f fd) (Y : Env2 T) : FnS T.P T.w T.K T.mg T.base (L2.CX T.P T.w) (0 + 1) f fd ["value"] (spF ⟨T.K, T.cl, T.P, T.w⟩ 1 F_is_integer) := by
  obtain ⟨hB, hS, hX, hO, hGcd, hC_LONGEST_NAME, hC_NOTHING, hC_ALL⟩ := Y
  have nd := sc_is_integer.nd
  refine def_ok (k := 0) (N := N_is_integer) (den := den_is_integer) F sc_is_integer rfl fun cdv A outer s H E hgd hr => ?_
  have hu := hr.units
  have hu65 := Fn.units65 hr
  have hu1 := Nat.lt_of_le_of_lt (Nat.add_le_add_left (by decide : 1 ≤ 64) _) hu
  exact (ess_one (es_ret (EO.of _ (ed_and (c_isi (.ty "int" (hB "int" (by decide)) (by decide +kernel) (by decide) sub_int) hX (er_var (i := 0) rfl (by first | exact Or.inl rfl | exact Or.inr (Or.inl rfl) | exact Or.inr (Or.inr rfl))) rfl (hB "isinstance" (by decide)) rfl) (ed_one (ed_not (c_isi (.ty "bool" (hB "bool" (by decide)) (by decide +kernel) (by decide) sub_bool) hX (er_var (i := 0) rfl (by first | exact Or.inl rfl | exact Or.inr (Or.inl rfl) | exact Or.inr (Or.inr rfl))) rfl (hB "isinstance" (by decide)) rfl)))))))

abbrev s_is_name : Stmt := top 5
def N_is_name : List Str := ["value"]
def den_is_name : S := (sSeq (sIf (mOr (mNot (eTru (M.map Rf.d (eIsi (subTy "str") (rVar 0))))) (mNot (eT (eCh fLe fLe (M.map Rf.d (eC (.int 1))) (M.map Rf.d (eFun fLenB (aCons (rVar 0) aNil))) (M.map Rf.d (eC (.int 8))))))) (sRet (M.map O.dat (eC (.bl false)))) sPass)
    (sRet (M.map O.dat (vAnd (eTxt Txt.isascii (rVar 0)) (vAnd (eTxt Txt.isalpha (rVar 0)) (eTxt Txt.islower (rVar 0)))))))
def F_is_name : Fx := defF 1 den_is_name
theorem sc_is_name : FnScope N_is_name ["value"] (defScope s_is_name) := ⟨rfl, rfl, rfl, by decide +kernel, rfl, by decide +kernel, by decide +kernel⟩
theorem ok_is_name {f : Addr} {fd : FuncData} (F : L2.Fun T.K "is_name" "is_name" s_is_name f fd) (Y : Env2 T) : FnS T.P T.w T.K T.mg T.base (L2.CX T.P T.w) (0 + 1) f fd ["value"] (spF ⟨T.K, T.cl, T.P, T.w⟩ 1 F_is_name) := by
  obtain ⟨hB, hS, hX, hO, hGcd, hC_LONGEST_NAME, hC_NOTHING, hC_ALL⟩ := Y
  have nd := sc_is_name.nd
  refine def_ok (k := 0) (N := N_is_name) (den := den_is_name) F sc_is_name rfl fun cdv A outer s H E hgd hr => ?_
  have hu := hr.units
  have hu65 := Fn.units65 hr
  have hu1 := Nat.lt_of_le_of_lt (Nat.add_le_add_left (by decide : 1 ≤ 64) _) hu
  exact (ess_cons (es_if (et_w (ew_or (et_not (et_tru (ER.of _ (c_isi (.ty "str" (hB "str" (by decide)) (by decide +kernel) (by decide) sub_str) hX (er_var (i := 0) rfl (by first | exact Or.inl rfl | exact Or.inr (Or.inl rfl) | exact Or.inr (Or.inr rfl))) rfl (hB "isinstance" (by decide)) rfl)))) (ew_or1 (et_not (t_lele (ER.of _ ed_int) (ER.of _ (c_lenB rfl (hB "len" (by decide)) (ea_cons (er_var (i := 0) rfl (by first | exact Or.inl rfl | exact Or.inr (Or.inl rfl) | exact Or.inr (Or.inr rfl))) ea_nil))) (ER.of _ (ed_con hC_LONGEST_NAME rfl))))))) (ess_one (es_ret (EO.of _ ed_bl))) ess_nil)
      (ess_one (es_ret (EO.of _ (ed_and (ed_isascii (er_var (i := 0) rfl (by first | exact Or.inl rfl | exact Or.inr (Or.inl rfl) | exact Or.inr (Or.inr rfl)))) (ed_and (ed_isalpha (er_var (i := 0) rfl (by first | exact Or.inl rfl | exact Or.inr (Or.inl rfl) | exact Or.inr (Or.inr rfl)))) (ed_one (ed_islower (er_var (i := 0) rfl (by first | exact Or.inl rfl | exact Or.inr (Or.inl rfl) | exact Or.inr (Or.inr rfl)))))))))))

abbrev s_is_plain : Stmt := top 23
def N_is_plain : List Str := ["value"]
def den_is_plain : S := (sRet (M.map O.dat (vOr (eCall F_is_integer (aCons (rVar 0) aNil)).fr (eCall F_is_name (aCons (rVar 0) aNil)).fr)))
def F_is_plain : Fx := defF 1 den_is_plain
theorem sc_is_plain : FnScope N_is_plain ["value"] (defScope s_is_plain) := ⟨rfl, rfl, rfl, by decide +kernel, rfl, by decide +kernel, by decide +kernel⟩
theorem ok_is_plain {f : Addr} {fd : FuncData} (F : L2.Fun T.K "_is_plain" "_is_plain" s_is_plain f fd) (Y : Env2 T) (c_is_integer : Cal T 1 1 "is_integer" F_is_integer) (c_is_name : Cal T 1 1 "is_name" F_is_name) : FnS T.P T.w T.K T.mg T.base (L2.CX T.P T.w) (1 + 1) f fd ["value"] (spF ⟨T.K, T.cl, T.P, T.w⟩ 1 F_is_plain) := by
  obtain ⟨hB, hS, hX, hO, hGcd, hC_LONGEST_NAME, hC_NOTHING, hC_ALL⟩ := Y
  have nd := sc_is_plain.nd
  refine def_ok (k := 1) (N := N_is_plain) (den := den_is_plain) F sc_is_plain rfl fun cdv A outer s H E hgd hr => ?_
  have hu := hr.units
  have hu65 := Fn.units65 hr
  have hu1 := Nat.lt_of_le_of_lt (Nat.add_le_add_left (by decide : 1 ≤ 64) _) hu
  exact (ess_one (es_ret (EO.of _ (ed_or (ED.fr (c_call c_is_integer thru_fn hgd (hr.mono (by first | decide | omega)) rfl (ea_cons (er_var (i := 0) rfl (by first | exact Or.inl rfl | exact Or.inr (Or.inl rfl) | exact Or.inr (Or.inr rfl))) ea_nil) (alen1 alen0))) (ed_one (ED.fr (c_call c_is_name thru_fn hgd (hr.mono (by first | decide | omega)) rfl (ea_cons (er_var (i := 0) rfl (by first | exact Or.inl rfl | exact Or.inr (Or.inl rfl) | exact Or.inr (Or.inr rfl))) ea_nil) (alen1 alen0))))))))

abbrev s_is_share : Stmt := top 11
def N_is_share : List Str := ["value", "thing"]
def den_is_share : S := (sSeq (sIf (mOr (mNot (eTru (M.map Rf.d (eIsi (subTy "tuple") (rVar 0))))) (mOr (eT (eBinD fNeB (M.map Rf.d (eFun fLenB (aCons (rVar 0) aNil))) (M.map Rf.d (eC (.int 2))))) (mNot (eTru (M.map Rf.d (eFun fAll (aCons (M.map Rf.d (eComp [1] (.n 1) (iAll (eVar 0)) mYes (eCall F_is_integer (aCons (rVar 1) aNil)).fr).fr) aNil))))))) (sRet (M.map O.dat (eC (.bl false)))) sPass)
    (sRet (M.map O.dat (vAnd (eCh fLe fLe (M.map Rf.d (eC (.int 0))) (M.map Rf.d (eBinD fIx (rVar 0) (M.map Rf.d (eC (.int 0))))) (M.map Rf.d (eBinD fIx (rVar 0) (M.map Rf.d (eC (.int 1)))))) (eBinD fEqB (M.map Rf.d (eFun fGcd (aCons (M.map Rf.d (eBinD fIx (rVar 0) (M.map Rf.d (eC (.int 0))))) (aCons (M.map Rf.d (eBinD fIx (rVar 0) (M.map Rf.d (eC (.int 1))))) aNil)))) (M.map Rf.d (eC (.int 1))))))))
def F_is_share : Fx := defF 2 den_is_share
theorem sc_is_share : FnScope N_is_share ["value"] (defScope s_is_share) := ⟨rfl, rfl, rfl, by decide +kernel, rfl, by decide +kernel, by decide +kernel⟩
theorem ok_is_share {f : Addr} {fd : FuncData} (F : L2.Fun T.K "is_share" "is_share" s_is_share f fd) (Y : Env2 T) (c_is_integer : Cal T 1 1 "is_integer" F_is_integer) : FnS T.P T.w T.K T.mg T.base (L2.CX T.P T.w) (1 + 1) f fd ["value"] (spF ⟨T.K, T.cl, T.P, T.w⟩ 1 F_is_share) := by
  obtain ⟨hB, hS, hX, hO, hGcd, hC_LONGEST_NAME, hC_NOTHING, hC_ALL⟩ := Y
  have nd := sc_is_share.nd
  refine def_ok (k := 1) (N := N_is_share) (den := den_is_share) F sc_is_share rfl fun cdv A outer s H E hgd hr => ?_
  have hu := hr.units
  have hu65 := Fn.units65 hr
  have hu1 := Nat.lt_of_le_of_lt (Nat.add_le_add_left (by decide : 1 ≤ 64) _) hu
  exact (ess_cons (es_if (et_w (ew_or (et_not (et_tru (ER.of _ (c_isi (.ty "tuple" (hB "tuple" (by decide)) (by decide +kernel) (by decide) sub_tuple) hX (er_var (i := 0) rfl (by first | exact Or.inl rfl | exact Or.inr (Or.inl rfl) | exact Or.inr (Or.inr rfl))) rfl (hB "isinstance" (by decide)) rfl)))) (ew_or (tB_ne hS hu (nomark _) (ER.of _ (c_lenB rfl (hB "len" (by decide)) (ea_cons (er_var (i := 0) rfl (by first | exact Or.inl rfl | exact Or.inr (Or.inl rfl) | exact Or.inr (Or.inr rfl))) ea_nil))) (ER.of _ ed_int)) (ew_or1 (et_not (et_tru (ER.of _ (c_all rfl rfl (hB "all" (by decide)) (ea_cons (ER.of _ (ED.fr (eo_comp (own := [("thing", 1)]) rfl nd (ei_all (ed_var (i := 0) rfl (by first | exact Or.inl rfl | exact Or.inr (Or.inl rfl) | exact Or.inr (Or.inr rfl)))) (blkOk_by (by kernel_rfl)) (fun _ _ _ _ _ => (pg_name (i := 1) nd rfl (by first | exact Or.inl rfl | exact Or.inr rfl))) (fun _ _ _ _ _ => ets_nil) (fun _ _ _ _ _ => (ED.fr (c_call c_is_integer thru_blk hgd (hr.mono (by first | decide | omega)) rfl (ea_cons (er_var (i := 1) rfl (by first | exact Or.inl rfl | exact Or.inr (Or.inl rfl) | exact Or.inr (Or.inr rfl))) ea_nil) (alen1 alen0)))) (by decide)))) ea_nil))))))))) (ess_one (es_ret (EO.of _ ed_bl))) ess_nil)
      (ess_one (es_ret (EO.of _ (ed_and (c_lele (ER.of _ ed_int) (ER.of _ (ed_ix (er_var (i := 0) rfl (by first | exact Or.inl rfl | exact Or.inr (Or.inl rfl) | exact Or.inr (Or.inr rfl))) (ER.of _ ed_int) (fun _ _ => rfl))) (ER.of _ (ed_ix (er_var (i := 0) rfl (by first | exact Or.inl rfl | exact Or.inr (Or.inl rfl) | exact Or.inr (Or.inr rfl))) (ER.of _ ed_int) (fun _ _ => rfl)))) (ed_one (cB_eq hS hu (nomark _) (ER.of _ (c_gcd rfl hGcd (ea_cons (ER.of _ (ed_ix (er_var (i := 0) rfl (by first | exact Or.inl rfl | exact Or.inr (Or.inl rfl) | exact Or.inr (Or.inr rfl))) (ER.of _ ed_int) (fun _ _ => rfl))) (ea_cons (ER.of _ (ed_ix (er_var (i := 0) rfl (by first | exact Or.inl rfl | exact Or.inr (Or.inl rfl) | exact Or.inr (Or.inr rfl))) (ER.of _ ed_int) (fun _ _ => rfl))) ea_nil)))) (ER.of _ ed_int))))))))

abbrev s_is_cut : Stmt := top 26
def N_is_cut : List Str := ["value"]
def den_is_cut : S := (sSeq (sIf (mOr (mNot (eTru (M.map Rf.d (eIsi (subTy "tuple") (rVar 0))))) (mOr (eT (eBinD fNeB (M.map Rf.d (eFun fLenB (aCons (rVar 0) aNil))) (M.map Rf.d (eC (.int 3))))) (mOr (mNot (eTru (M.map Rf.d (eCall F_is_share (aCons (M.map Rf.d (eBinD fIx (rVar 0) (M.map Rf.d (eC (.int 1))))) aNil)).fr))) (mNot (eTru (M.map Rf.d (eCall F_is_plain (aCons (M.map Rf.d (eBinD fIx (rVar 0) (M.map Rf.d (eC (.int 2))))) aNil)).fr)))))) (sRet (M.map O.dat (eC (.bl false)))) sPass)
    (sRet (M.map O.dat (vOr (vAnd (eBinD fEqB (M.map Rf.d (eBinD fIx (rVar 0) (M.map Rf.d (eC (.int 0))))) (M.map Rf.d (eC (.str "at")))) (eBinD fNeB (M.map Rf.d (eBinD fIx (rVar 0) (M.map Rf.d (eC (.int 1))))) (M.map Rf.d (eC (.tup [.int 0, .int 1]))))) (vAnd (eBinD fEqB (M.map Rf.d (eBinD fIx (rVar 0) (M.map Rf.d (eC (.int 0))))) (M.map Rf.d (eC (.str "above")))) (eBinD fNeB (M.map Rf.d (eBinD fIx (rVar 0) (M.map Rf.d (eC (.int 1))))) (M.map Rf.d (eC (.tup [.int 1, .int 1])))))))))
def F_is_cut : Fx := defF 1 den_is_cut
theorem sc_is_cut : FnScope N_is_cut ["value"] (defScope s_is_cut) := ⟨rfl, rfl, rfl, by decide +kernel, rfl, by decide +kernel, by decide +kernel⟩
theorem ok_is_cut {f : Addr} {fd : FuncData} (F : L2.Fun T.K "_is_cut" "_is_cut" s_is_cut f fd) (Y : Env2 T) (c_is_share : Cal T 2 1 "is_share" F_is_share) (c_is_plain : Cal T 2 1 "_is_plain" F_is_plain) : FnS T.P T.w T.K T.mg T.base (L2.CX T.P T.w) (2 + 1) f fd ["value"] (spF ⟨T.K, T.cl, T.P, T.w⟩ 1 F_is_cut) := by
  obtain ⟨hB, hS, hX, hO, hGcd, hC_LONGEST_NAME, hC_NOTHING, hC_ALL⟩ := Y
  have nd := sc_is_cut.nd
  refine def_ok (k := 2) (N := N_is_cut) (den := den_is_cut) F sc_is_cut rfl fun cdv A outer s H E hgd hr => ?_
  have hu := hr.units
  have hu65 := Fn.units65 hr
  have hu1 := Nat.lt_of_le_of_lt (Nat.add_le_add_left (by decide : 1 ≤ 64) _) hu
  exact (ess_cons (es_if (et_w (ew_or (et_not (et_tru (ER.of _ (c_isi (.ty "tuple" (hB "tuple" (by decide)) (by decide +kernel) (by decide) sub_tuple) hX (er_var (i := 0) rfl (by first | exact Or.inl rfl | exact Or.inr (Or.inl rfl) | exact Or.inr (Or.inr rfl))) rfl (hB "isinstance" (by decide)) rfl)))) (ew_or (tB_ne hS hu (nomark _) (ER.of _ (c_lenB rfl (hB "len" (by decide)) (ea_cons (er_var (i := 0) rfl (by first | exact Or.inl rfl | exact Or.inr (Or.inl rfl) | exact Or.inr (Or.inr rfl))) ea_nil))) (ER.of _ ed_int)) (ew_or (et_not (et_tru (ER.of _ (ED.fr (c_call c_is_share thru_fn hgd (hr.mono (by first | decide | omega)) rfl (ea_cons (ER.of _ (ed_ix (er_var (i := 0) rfl (by first | exact Or.inl rfl | exact Or.inr (Or.inl rfl) | exact Or.inr (Or.inr rfl))) (ER.of _ ed_int) (fun _ _ => rfl))) ea_nil) (alen1 alen0)))))) (ew_or1 (et_not (et_tru (ER.of _ (ED.fr (c_call c_is_plain thru_fn hgd (hr.mono (by first | decide | omega)) rfl (ea_cons (ER.of _ (ed_ix (er_var (i := 0) rfl (by first | exact Or.inl rfl | exact Or.inr (Or.inl rfl) | exact Or.inr (Or.inr rfl))) (ER.of _ ed_int) (fun _ _ => rfl))) ea_nil) (alen1 alen0))))))))))) (ess_one (es_ret (EO.of _ ed_bl))) ess_nil)
      (ess_one (es_ret (EO.of _ (ed_or (ed_and (cB_eq hS hu (nomark _) (ER.of _ (ed_ix (er_var (i := 0) rfl (by first | exact Or.inl rfl | exact Or.inr (Or.inl rfl) | exact Or.inr (Or.inr rfl))) (ER.of _ ed_int) (fun _ _ => rfl))) (ER.of _ ed_str)) (ed_one (cB_ne hS hu (nomark _) (ER.of _ (ed_ix (er_var (i := 0) rfl (by first | exact Or.inl rfl | exact Or.inr (Or.inl rfl) | exact Or.inr (Or.inr rfl))) (ER.of _ ed_int) (fun _ _ => rfl))) (ER.of _ (ed_conT hC_NOTHING rfl))))) (ed_one (ed_and (cB_eq hS hu (nomark _) (ER.of _ (ed_ix (er_var (i := 0) rfl (by first | exact Or.inl rfl | exact Or.inr (Or.inl rfl) | exact Or.inr (Or.inr rfl))) (ER.of _ ed_int) (fun _ _ => rfl))) (ER.of _ ed_str)) (ed_one (cB_ne hS hu (nomark _) (ER.of _ (ed_ix (er_var (i := 0) rfl (by first | exact Or.inl rfl | exact Or.inr (Or.inl rfl) | exact Or.inr (Or.inr rfl))) (ER.of _ ed_int) (fun _ _ => rfl))) (ER.of _ (ed_conT hC_ALL rfl)))))))))))

abbrev s_is_less : Stmt := top 17
def N_is_less : List Str := ["one", "other"]
def den_is_less : S := (sRet (M.map O.dat (eBinD fLt (M.map Rf.d (eBin fMul (M.map Rf.d (eBinD fIx (rVar 0) (M.map Rf.d (eC (.int 0))))) (M.map Rf.d (eBinD fIx (rVar 1) (M.map Rf.d (eC (.int 1)))))).fr) (M.map Rf.d (eBin fMul (M.map Rf.d (eBinD fIx (rVar 1) (M.map Rf.d (eC (.int 0))))) (M.map Rf.d (eBinD fIx (rVar 0) (M.map Rf.d (eC (.int 1)))))).fr))))
def F_is_less : Fx := defF 2 den_is_less
theorem sc_is_less : FnScope N_is_less ["one", "other"] (defScope s_is_less) := ⟨rfl, rfl, rfl, by decide +kernel, rfl, by decide +kernel, by decide +kernel⟩
theorem ok_is_less {f : Addr} {fd : FuncData} (F : L2.Fun T.K "is_less" "is_less" s_is_less f fd) (Y : Env2 T) : FnS T.P T.w T.K T.mg T.base (L2.CX T.P T.w) (0 + 1) f fd ["one", "other"] (spF ⟨T.K, T.cl, T.P, T.w⟩ 2 F_is_less) := by
  obtain ⟨hB, hS, hX, hO, hGcd, hC_LONGEST_NAME, hC_NOTHING, hC_ALL⟩ := Y
  have nd := sc_is_less.nd
  refine def_ok (k := 0) (N := N_is_less) (den := den_is_less) F sc_is_less rfl fun cdv A outer s H E hgd hr => ?_
  have hu := hr.units
  have hu65 := Fn.units65 hr
  have hu1 := Nat.lt_of_le_of_lt (Nat.add_le_add_left (by decide : 1 ≤ 64) _) hu
  exact (ess_one (es_ret (EO.of _ (c_lt (nomark _) (ER.of _ (ED.fr (eo_mul (ER.of _ (ed_ix (er_var (i := 0) rfl (by first | exact Or.inl rfl | exact Or.inr (Or.inl rfl) | exact Or.inr (Or.inr rfl))) (ER.of _ ed_int) (fun _ _ => rfl))) (ER.of _ (ed_ix (er_var (i := 1) rfl (by first | exact Or.inl rfl | exact Or.inr (Or.inl rfl) | exact Or.inr (Or.inr rfl))) (ER.of _ ed_int) (fun _ _ => rfl)))))) (ER.of _ (ED.fr (eo_mul (ER.of _ (ed_ix (er_var (i := 1) rfl (by first | exact Or.inl rfl | exact Or.inr (Or.inl rfl) | exact Or.inr (Or.inr rfl))) (ER.of _ ed_int) (fun _ _ => rfl))) (ER.of _ (ed_ix (er_var (i := 0) rfl (by first | exact Or.inl rfl | exact Or.inr (Or.inl rfl) | exact Or.inr (Or.inr rfl))) (ER.of _ ed_int) (fun _ _ => rfl))))))))))

abbrev s_is_ahead : Stmt := top 27
def N_is_ahead : List Str := ["mark", "later"]
def den_is_ahead : S := (sSeq (sIf (eT (eBinD fEqB (M.map Rf.d (eBinD fIx (rVar 0) (M.map Rf.d (eC (.int 1))))) (M.map Rf.d (eBinD fIx (rVar 1) (M.map Rf.d (eC (.int 1))))))) (sRet (M.map O.dat (vAnd (eBinD fEqB (M.map Rf.d (eBinD fIx (rVar 0) (M.map Rf.d (eC (.int 0))))) (M.map Rf.d (eC (.str "at")))) (eBinD fEqB (M.map Rf.d (eBinD fIx (rVar 1) (M.map Rf.d (eC (.int 0))))) (M.map Rf.d (eC (.str "above"))))))) sPass)
    (sRet (eCall F_is_less (aCons (M.map Rf.d (eBinD fIx (rVar 0) (M.map Rf.d (eC (.int 1))))) (aCons (M.map Rf.d (eBinD fIx (rVar 1) (M.map Rf.d (eC (.int 1))))) aNil)))))
def F_is_ahead : Fx := defF 2 den_is_ahead
theorem sc_is_ahead : FnScope N_is_ahead ["mark", "later"] (defScope s_is_ahead) := ⟨rfl, rfl, rfl, by decide +kernel, rfl, by decide +kernel, by decide +kernel⟩
theorem ok_is_ahead {f : Addr} {fd : FuncData} (F : L2.Fun T.K "_is_ahead" "_is_ahead" s_is_ahead f fd) (Y : Env2 T) (c_is_less : Cal T 1 2 "is_less" F_is_less) : FnS T.P T.w T.K T.mg T.base (L2.CX T.P T.w) (1 + 1) f fd ["mark", "later"] (spF ⟨T.K, T.cl, T.P, T.w⟩ 2 F_is_ahead) := by
  obtain ⟨hB, hS, hX, hO, hGcd, hC_LONGEST_NAME, hC_NOTHING, hC_ALL⟩ := Y
  have nd := sc_is_ahead.nd
  refine def_ok (k := 1) (N := N_is_ahead) (den := den_is_ahead) F sc_is_ahead rfl fun cdv A outer s H E hgd hr => ?_
  have hu := hr.units
  have hu65 := Fn.units65 hr
  have hu1 := Nat.lt_of_le_of_lt (Nat.add_le_add_left (by decide : 1 ≤ 64) _) hu
  exact (ess_cons (es_if (tB_eq hS hu (nomark _) (ER.of _ (ed_ix (er_var (i := 0) rfl (by first | exact Or.inl rfl | exact Or.inr (Or.inl rfl) | exact Or.inr (Or.inr rfl))) (ER.of _ ed_int) (fun _ _ => rfl))) (ER.of _ (ed_ix (er_var (i := 1) rfl (by first | exact Or.inl rfl | exact Or.inr (Or.inl rfl) | exact Or.inr (Or.inr rfl))) (ER.of _ ed_int) (fun _ _ => rfl)))) (ess_one (es_ret (EO.of _ (ed_and (cB_eq hS hu (nomark _) (ER.of _ (ed_ix (er_var (i := 0) rfl (by first | exact Or.inl rfl | exact Or.inr (Or.inl rfl) | exact Or.inr (Or.inr rfl))) (ER.of _ ed_int) (fun _ _ => rfl))) (ER.of _ ed_str)) (ed_one (cB_eq hS hu (nomark _) (ER.of _ (ed_ix (er_var (i := 1) rfl (by first | exact Or.inl rfl | exact Or.inr (Or.inl rfl) | exact Or.inr (Or.inr rfl))) (ER.of _ ed_int) (fun _ _ => rfl))) (ER.of _ ed_str))))))) ess_nil)
      (ess_one (es_ret (c_call c_is_less thru_fn hgd (hr.mono (by first | decide | omega)) rfl (ea_cons (ER.of _ (ed_ix (er_var (i := 0) rfl (by first | exact Or.inl rfl | exact Or.inr (Or.inl rfl) | exact Or.inr (Or.inr rfl))) (ER.of _ ed_int) (fun _ _ => rfl))) (ea_cons (ER.of _ (ed_ix (er_var (i := 1) rfl (by first | exact Or.inl rfl | exact Or.inr (Or.inl rfl) | exact Or.inr (Or.inr rfl))) (ER.of _ ed_int) (fun _ _ => rfl))) ea_nil)) (alen1 (alen1 alen0))))))

abbrev s_are_cuts : Stmt := top 25
def N_are_cuts : List Str := ["rows", "row", "at"]
def den_are_cuts : S := (sSeq (sIf (mNot (eTru (M.map Rf.d (eFun fAll (aCons (M.map Rf.d (eComp [1] (.n 1) (iAll (eVar 0)) mYes (eCall F_is_cut (aCons (rVar 1) aNil)).fr).fr) aNil))))) (sRet (M.map O.dat (eC (.bl false)))) sPass)
    (sRet (M.map O.dat (eFun fAll (aCons (M.map Rf.d (eComp [2] (.n 2) (iRange2 (aCons (M.map Rf.d (eC (.int 1))) (aCons (M.map Rf.d (eFun fLenB (aCons (rVar 0) aNil))) aNil))) mYes (eCall F_is_ahead (aCons (M.map Rf.d (eBinD fIx (rVar 0) (M.map Rf.d (eBinD fSub (rVar 2) (M.map Rf.d (eC (.int 1))))))) (aCons (M.map Rf.d (eBinD fIx (rVar 0) (rVar 2))) aNil))).fr).fr) aNil)))))
def F_are_cuts : Fx := defF 3 den_are_cuts
theorem sc_are_cuts : FnScope N_are_cuts ["rows"] (defScope s_are_cuts) := ⟨rfl, rfl, rfl, by decide +kernel, rfl, by decide +kernel, by decide +kernel⟩
theorem ok_are_cuts {f : Addr} {fd : FuncData} (F : L2.Fun T.K "_are_cuts" "_are_cuts" s_are_cuts f fd) (Y : Env2 T) (c_is_cut : Cal T 3 1 "_is_cut" F_is_cut) (c_is_ahead : Cal T 2 2 "_is_ahead" F_is_ahead) : FnS T.P T.w T.K T.mg T.base (L2.CX T.P T.w) (3 + 1) f fd ["rows"] (spF ⟨T.K, T.cl, T.P, T.w⟩ 1 F_are_cuts) := by
  obtain ⟨hB, hS, hX, hO, hGcd, hC_LONGEST_NAME, hC_NOTHING, hC_ALL⟩ := Y
  have nd := sc_are_cuts.nd
  refine def_ok (k := 3) (N := N_are_cuts) (den := den_are_cuts) F sc_are_cuts rfl fun cdv A outer s H E hgd hr => ?_
  have hu := hr.units
  have hu65 := Fn.units65 hr
  have hu1 := Nat.lt_of_le_of_lt (Nat.add_le_add_left (by decide : 1 ≤ 64) _) hu
  exact (ess_cons (es_if (et_not (et_tru (ER.of _ (c_all rfl rfl (hB "all" (by decide)) (ea_cons (ER.of _ (ED.fr (eo_comp (own := [("row", 1)]) rfl nd (ei_all (ed_var (i := 0) rfl (by first | exact Or.inl rfl | exact Or.inr (Or.inl rfl) | exact Or.inr (Or.inr rfl)))) (blkOk_by (by kernel_rfl)) (fun _ _ _ _ _ => (pg_name (i := 1) nd rfl (by first | exact Or.inl rfl | exact Or.inr rfl))) (fun _ _ _ _ _ => ets_nil) (fun _ _ _ _ _ => (ED.fr (c_call c_is_cut thru_blk hgd (hr.mono (by first | decide | omega)) rfl (ea_cons (er_var (i := 1) rfl (by first | exact Or.inl rfl | exact Or.inr (Or.inl rfl) | exact Or.inr (Or.inr rfl))) ea_nil) (alen1 alen0)))) (by decide)))) ea_nil))))) (ess_one (es_ret (EO.of _ ed_bl))) ess_nil)
      (ess_one (es_ret (EO.of _ (c_all rfl rfl (hB "all" (by decide)) (ea_cons (ER.of _ (ED.fr (eo_comp (own := [("at", 2)]) rfl nd (ei_range2 rfl (hB "range" (by decide)) (ea_cons (ER.of _ ed_int) (ea_cons (ER.of _ (c_lenB rfl (hB "len" (by decide)) (ea_cons (er_var (i := 0) rfl (by first | exact Or.inl rfl | exact Or.inr (Or.inl rfl) | exact Or.inr (Or.inr rfl))) ea_nil))) ea_nil))) (blkOk_by (by kernel_rfl)) (fun _ _ _ _ _ => (pg_name (i := 2) nd rfl (by first | exact Or.inl rfl | exact Or.inr rfl))) (fun _ _ _ _ _ => ets_nil) (fun _ _ _ _ _ => (ED.fr (c_call c_is_ahead thru_blk hgd (hr.mono (by first | decide | omega)) rfl (ea_cons (ER.of _ (ed_ix (er_var (i := 0) rfl (by first | exact Or.inl rfl | exact Or.inr (Or.inl rfl) | exact Or.inr (Or.inr rfl))) (ER.of _ (ed_sub (er_var (i := 2) rfl (by first | exact Or.inl rfl | exact Or.inr (Or.inl rfl) | exact Or.inr (Or.inr rfl))) (ER.of _ ed_int))) (fun _ _ => rfl))) (ea_cons (ER.of _ (ed_ix (er_var (i := 0) rfl (by first | exact Or.inl rfl | exact Or.inr (Or.inl rfl) | exact Or.inr (Or.inr rfl))) (er_var (i := 2) rfl (by first | exact Or.inl rfl | exact Or.inr (Or.inl rfl) | exact Or.inr (Or.inr rfl))) (fun _ _ => rfl))) ea_nil)) (alen1 (alen1 alen0))))) (by decide)))) ea_nil))))))

abbrev s_is_word : Stmt := top 24
def N_is_word : List Str := ["value"]
def den_is_word (R : Fx) : S := (sSeq (sIf (eTru (M.map Rf.d (eIsi (subTy "tuple") (rVar 0)))) (sRet (M.map O.dat (vAnd (eBinD fEqB (M.map Rf.d (eFun fLenB (aCons (rVar 0) aNil))) (M.map Rf.d (eC (.int 2)))) (vAnd (eCall R (aCons (M.map Rf.d (eBinD fIx (rVar 0) (M.map Rf.d (eC (.int 0))))) aNil)).fr (eCall R (aCons (M.map Rf.d (eBinD fIx (rVar 0) (M.map Rf.d (eC (.int 1))))) aNil)).fr)))) sPass)
    (sRet (eCall F_is_plain (aCons (rVar 0) aNil))))
def FR_is_word : Nat → Fx
  | 0 => fun _ => none
  | n + 1 => defF 1 (den_is_word (FR_is_word n))
def F_is_word : Fx := FR_is_word 3
theorem sc_is_word : FnScope N_is_word ["value"] (defScope s_is_word) := ⟨rfl, rfl, rfl, by decide +kernel, rfl, by decide +kernel, by decide +kernel⟩
theorem ok_is_word {f : Addr} {fd : FuncData} (F : L2.Fun T.K "_is_word" "_is_word" s_is_word f fd) (Y : Env2 T) (c_is_plain : Cal T 2 1 "_is_plain" F_is_plain) (m : Nat) (R : Fx) (c_is_word : Cal T (3 + m) 1 "_is_word" R) : FnS T.P T.w T.K T.mg T.base (L2.CX T.P T.w) (3 + m + 1) f fd ["value"] (spF ⟨T.K, T.cl, T.P, T.w⟩ 1 (defF 1 (den_is_word R))) := by
  obtain ⟨hB, hS, hX, hO, hGcd, hC_LONGEST_NAME, hC_NOTHING, hC_ALL⟩ := Y
  have nd := sc_is_word.nd
  refine def_ok (k := 3 + m) (N := N_is_word) (den := (den_is_word R)) F sc_is_word rfl fun cdv A outer s H E hgd hr => ?_
  have hu := hr.units
  have hu65 := Fn.units65 hr
  have hu1 := Nat.lt_of_le_of_lt (Nat.add_le_add_left (by decide : 1 ≤ 64) _) hu
  exact (ess_cons (es_if (et_tru (ER.of _ (c_isi (.ty "tuple" (hB "tuple" (by decide)) (by decide +kernel) (by decide) sub_tuple) hX (er_var (i := 0) rfl (by first | exact Or.inl rfl | exact Or.inr (Or.inl rfl) | exact Or.inr (Or.inr rfl))) rfl (hB "isinstance" (by decide)) rfl))) (ess_one (es_ret (EO.of _ (ed_and (cB_eq hS hu (nomark _) (ER.of _ (c_lenB rfl (hB "len" (by decide)) (ea_cons (er_var (i := 0) rfl (by first | exact Or.inl rfl | exact Or.inr (Or.inl rfl) | exact Or.inr (Or.inr rfl))) ea_nil))) (ER.of _ ed_int)) (ed_and (ED.fr (c_call c_is_word thru_fn hgd (hr.mono (by first | decide | omega)) rfl (ea_cons (ER.of _ (ed_ix (er_var (i := 0) rfl (by first | exact Or.inl rfl | exact Or.inr (Or.inl rfl) | exact Or.inr (Or.inr rfl))) (ER.of _ ed_int) (fun _ _ => rfl))) ea_nil) (alen1 alen0))) (ed_one (ED.fr (c_call c_is_word thru_fn hgd (hr.mono (by first | decide | omega)) rfl (ea_cons (ER.of _ (ed_ix (er_var (i := 0) rfl (by first | exact Or.inl rfl | exact Or.inr (Or.inl rfl) | exact Or.inr (Or.inr rfl))) (ER.of _ ed_int) (fun _ _ => rfl))) ea_nil) (alen1 alen0))))))))) ess_nil)
      (ess_one (es_ret (c_call c_is_plain thru_fn hgd (hr.mono (by first | decide | omega)) rfl (ea_cons (er_var (i := 0) rfl (by first | exact Or.inl rfl | exact Or.inr (Or.inl rfl) | exact Or.inr (Or.inr rfl))) ea_nil) (alen1 alen0)))))

abbrev s_are_readings : Stmt := top 28
def N_are_readings : List Str := ["rows", "row", "firsts", "at"]
def den_are_readings : S := (sSeq (sFor 1 (.n 1) (iAll (eVar 0)) (sIf (mOr (mNot (eTru (M.map Rf.d (eIsi (subTy "tuple") (rVar 1))))) (mOr (eT (eBinD fNeB (M.map Rf.d (eFun fLenB (aCons (rVar 1) aNil))) (M.map Rf.d (eC (.int 2))))) (mOr (mNot (eTru (M.map Rf.d (eCall F_is_word (aCons (M.map Rf.d (eBinD fIx (rVar 1) (M.map Rf.d (eC (.int 0))))) aNil)).fr))) (mNot (eTru (M.map Rf.d (eCall F_is_plain (aCons (M.map Rf.d (eBinD fIx (rVar 1) (M.map Rf.d (eC (.int 1))))) aNil)).fr)))))) (sRet (M.map O.dat (eC (.bl false)))) sPass))
    (sSeq (sSet 1 2 (eComp [1] (.n 1) (iAll (eVar 0)) mYes (eBinD fIx (rVar 1) (M.map Rf.d (eC (.int 0))))))
    (sRet (M.map O.dat (eFun fAll (aCons (M.map Rf.d (eComp [3] (.n 3) (iRange2 (aCons (M.map Rf.d (eC (.int 1))) (aCons (M.map Rf.d (eFun fLenB (aCons (rVar 2) aNil))) aNil))) mYes (eBinD fNin (M.map Rf.d (eBinD fIx (rVar 2) (rVar 3))) (M.map Rf.d (eSlice (rVar 2) pNone (pInt (eVar 3))).fr))).fr) aNil))))))
def F_are_readings : Fx := defF 4 den_are_readings
theorem sc_are_readings : FnScope N_are_readings ["rows"] (defScope s_are_readings) := ⟨rfl, rfl, rfl, by decide +kernel, rfl, by decide +kernel, by decide +kernel⟩
theorem ok_are_readings {f : Addr} {fd : FuncData} (F : L2.Fun T.K "_are_readings" "_are_readings" s_are_readings f fd) (Y : Env2 T) (c_is_word : Cal T 6 1 "_is_word" F_is_word) (c_is_plain : Cal T 2 1 "_is_plain" F_is_plain) : FnS T.P T.w T.K T.mg T.base (L2.CX T.P T.w) (6 + 1) f fd ["rows"] (spF ⟨T.K, T.cl, T.P, T.w⟩ 1 F_are_readings) := by
  obtain ⟨hB, hS, hX, hO, hGcd, hC_LONGEST_NAME, hC_NOTHING, hC_ALL⟩ := Y
  have nd := sc_are_readings.nd
  refine def_ok (k := 6) (N := N_are_readings) (den := den_are_readings) F sc_are_readings rfl fun cdv A outer s H E hgd hr => ?_
  have hu := hr.units
  have hu65 := Fn.units65 hr
  have hu1 := Nat.lt_of_le_of_lt (Nat.add_le_add_left (by decide : 1 ≤ 64) _) hu
  exact (ess_cons (es_for own_fn rfl (ei_all (ed_var (i := 0) rfl (by first | exact Or.inl rfl | exact Or.inr (Or.inl rfl) | exact Or.inr (Or.inr rfl)))) (pg_name (i := 1) nd rfl (by first | exact Or.inl rfl | exact Or.inr rfl)) (ess_one (es_if (et_w (ew_or (et_not (et_tru (ER.of _ (c_isi (.ty "tuple" (hB "tuple" (by decide)) (by decide +kernel) (by decide) sub_tuple) hX (er_var (i := 1) rfl (by first | exact Or.inl rfl | exact Or.inr (Or.inl rfl) | exact Or.inr (Or.inr rfl))) rfl (hB "isinstance" (by decide)) rfl)))) (ew_or (tB_ne hS hu (nomark _) (ER.of _ (c_lenB rfl (hB "len" (by decide)) (ea_cons (er_var (i := 1) rfl (by first | exact Or.inl rfl | exact Or.inr (Or.inl rfl) | exact Or.inr (Or.inr rfl))) ea_nil))) (ER.of _ ed_int)) (ew_or (et_not (et_tru (ER.of _ (ED.fr (c_call c_is_word thru_fn hgd (hr.mono (by first | decide | omega)) rfl (ea_cons (ER.of _ (ed_ix (er_var (i := 1) rfl (by first | exact Or.inl rfl | exact Or.inr (Or.inl rfl) | exact Or.inr (Or.inr rfl))) (ER.of _ ed_int) (fun _ _ => rfl))) ea_nil) (alen1 alen0)))))) (ew_or1 (et_not (et_tru (ER.of _ (ED.fr (c_call c_is_plain thru_fn hgd (hr.mono (by first | decide | omega)) rfl (ea_cons (ER.of _ (ed_ix (er_var (i := 1) rfl (by first | exact Or.inl rfl | exact Or.inr (Or.inl rfl) | exact Or.inr (Or.inr rfl))) (ER.of _ ed_int) (fun _ _ => rfl))) ea_nil) (alen1 alen0))))))))))) (ess_one (es_ret (EO.of _ ed_bl))) ess_nil)))
      (ess_cons (es_set (i := 2) nd rfl (by first | exact Or.inl rfl | exact Or.inr rfl) (eo_comp (own := [("row", 1)]) rfl nd (ei_all (ed_var (i := 0) rfl (by first | exact Or.inl rfl | exact Or.inr (Or.inl rfl) | exact Or.inr (Or.inr rfl)))) (blkOk_by (by kernel_rfl)) (fun _ _ _ _ _ => (pg_name (i := 1) nd rfl (by first | exact Or.inl rfl | exact Or.inr rfl))) (fun _ _ _ _ _ => ets_nil) (fun _ _ _ _ _ => (ed_ix (er_var (i := 1) rfl (by first | exact Or.inl rfl | exact Or.inr (Or.inl rfl) | exact Or.inr (Or.inr rfl))) (ER.of _ ed_int) (fun _ _ => rfl))) (by decide)))
      (ess_one (es_ret (EO.of _ (c_all rfl rfl (hB "all" (by decide)) (ea_cons (ER.of _ (ED.fr (eo_comp (own := [("at", 3)]) rfl nd (ei_range2 rfl (hB "range" (by decide)) (ea_cons (ER.of _ ed_int) (ea_cons (ER.of _ (c_lenB rfl (hB "len" (by decide)) (ea_cons (er_var (i := 2) rfl (by first | exact Or.inl rfl | exact Or.inr (Or.inl rfl) | exact Or.inr (Or.inr rfl))) ea_nil))) ea_nil))) (blkOk_by (by kernel_rfl)) (fun _ _ _ _ _ => (pg_name (i := 3) nd rfl (by first | exact Or.inl rfl | exact Or.inr rfl))) (fun _ _ _ _ _ => ets_nil) (fun _ _ _ _ _ => (c_nin hS hu (ER.of _ (ed_ix (er_var (i := 2) rfl (by first | exact Or.inl rfl | exact Or.inr (Or.inl rfl) | exact Or.inr (Or.inr rfl))) (er_var (i := 3) rfl (by first | exact Or.inl rfl | exact Or.inr (Or.inl rfl) | exact Or.inr (Or.inr rfl))) (fun _ _ => rfl))) (ER.of _ (ED.fr (eo_slice (er_var (i := 2) rfl (by first | exact Or.inl rfl | exact Or.inr (Or.inl rfl) | exact Or.inr (Or.inr rfl))) ep_none (ep_some (ed_var (i := 3) rfl (by first | exact Or.inl rfl | exact Or.inr (Or.inl rfl) | exact Or.inr (Or.inr rfl))))))))) (by decide)))) ea_nil)))))))

abbrev s_is_form : Stmt := top 12
def N_is_form : List Str := ["value"]
def den_is_form (R : Fx) : S := (sSeq (sIf (mOr (mNot (eTru (M.map Rf.d (eIsi (subTy "tuple") (rVar 0))))) (eT (eBinD fNeB (M.map Rf.d (eFun fLenB (aCons (rVar 0) aNil))) (M.map Rf.d (eC (.int 3)))))) (sRet (M.map O.dat (eC (.bl false)))) sPass)
    (sSeq (sIf (eT (eBinD fEqB (M.map Rf.d (eBinD fIx (rVar 0) (M.map Rf.d (eC (.int 0))))) (M.map Rf.d (eC (.str "cut"))))) (sRet (M.map O.dat (vAnd (eCall F_is_plain (aCons (M.map Rf.d (eBinD fIx (rVar 0) (M.map Rf.d (eC (.int 1))))) aNil)).fr (vAnd (eIsi (subTy "tuple") (M.map Rf.d (eBinD fIx (rVar 0) (M.map Rf.d (eC (.int 2)))))) (eCall F_are_cuts (aCons (M.map Rf.d (eBinD fIx (rVar 0) (M.map Rf.d (eC (.int 2))))) aNil)).fr)))) sPass)
    (sSeq (sIf (eT (eBinD fEqB (M.map Rf.d (eBinD fIx (rVar 0) (M.map Rf.d (eC (.int 0))))) (M.map Rf.d (eC (.str "read"))))) (sRet (M.map O.dat (vAnd (eCall R (aCons (M.map Rf.d (eBinD fIx (rVar 0) (M.map Rf.d (eC (.int 1))))) aNil)).fr (vAnd (eIsi (subTy "tuple") (M.map Rf.d (eBinD fIx (rVar 0) (M.map Rf.d (eC (.int 2)))))) (eCall F_are_readings (aCons (M.map Rf.d (eBinD fIx (rVar 0) (M.map Rf.d (eC (.int 2))))) aNil)).fr)))) sPass)
    (sRet (M.map O.dat (vAnd (eBinD fEqB (M.map Rf.d (eBinD fIx (rVar 0) (M.map Rf.d (eC (.int 0))))) (M.map Rf.d (eC (.str "pair")))) (vAnd (eCall R (aCons (M.map Rf.d (eBinD fIx (rVar 0) (M.map Rf.d (eC (.int 1))))) aNil)).fr (eCall R (aCons (M.map Rf.d (eBinD fIx (rVar 0) (M.map Rf.d (eC (.int 2))))) aNil)).fr)))))))
def FR_is_form : Nat → Fx
  | 0 => fun _ => none
  | n + 1 => defF 1 (den_is_form (FR_is_form n))
def F_is_form : Fx := FR_is_form 3
theorem sc_is_form : FnScope N_is_form ["value"] (defScope s_is_form) := ⟨rfl, rfl, rfl, by decide +kernel, rfl, by decide +kernel, by decide +kernel⟩
theorem ok_is_form {f : Addr} {fd : FuncData} (F : L2.Fun T.K "is_form" "is_form" s_is_form f fd) (Y : Env2 T) (c_is_plain : Cal T 2 1 "_is_plain" F_is_plain) (c_are_cuts : Cal T 4 1 "_are_cuts" F_are_cuts) (c_are_readings : Cal T 7 1 "_are_readings" F_are_readings) (m : Nat) (R : Fx) (c_is_form : Cal T (8 + m) 1 "is_form" R) : FnS T.P T.w T.K T.mg T.base (L2.CX T.P T.w) (8 + m + 1) f fd ["value"] (spF ⟨T.K, T.cl, T.P, T.w⟩ 1 (defF 1 (den_is_form R))) := by
  obtain ⟨hB, hS, hX, hO, hGcd, hC_LONGEST_NAME, hC_NOTHING, hC_ALL⟩ := Y
  have nd := sc_is_form.nd
  refine def_ok (k := 8 + m) (N := N_is_form) (den := (den_is_form R)) F sc_is_form rfl fun cdv A outer s H E hgd hr => ?_
  have hu := hr.units
  have hu65 := Fn.units65 hr
  have hu1 := Nat.lt_of_le_of_lt (Nat.add_le_add_left (by decide : 1 ≤ 64) _) hu
  exact (ess_cons (es_if (et_w (ew_or (et_not (et_tru (ER.of _ (c_isi (.ty "tuple" (hB "tuple" (by decide)) (by decide +kernel) (by decide) sub_tuple) hX (er_var (i := 0) rfl (by first | exact Or.inl rfl | exact Or.inr (Or.inl rfl) | exact Or.inr (Or.inr rfl))) rfl (hB "isinstance" (by decide)) rfl)))) (ew_or1 (tB_ne hS hu (nomark _) (ER.of _ (c_lenB rfl (hB "len" (by decide)) (ea_cons (er_var (i := 0) rfl (by first | exact Or.inl rfl | exact Or.inr (Or.inl rfl) | exact Or.inr (Or.inr rfl))) ea_nil))) (ER.of _ ed_int))))) (ess_one (es_ret (EO.of _ ed_bl))) ess_nil)
      (ess_cons (es_if (tB_eq hS hu (nomark _) (ER.of _ (ed_ix (er_var (i := 0) rfl (by first | exact Or.inl rfl | exact Or.inr (Or.inl rfl) | exact Or.inr (Or.inr rfl))) (ER.of _ ed_int) (fun _ _ => rfl))) (ER.of _ ed_str)) (ess_one (es_ret (EO.of _ (ed_and (ED.fr (c_call c_is_plain thru_fn hgd (hr.mono (by first | decide | omega)) rfl (ea_cons (ER.of _ (ed_ix (er_var (i := 0) rfl (by first | exact Or.inl rfl | exact Or.inr (Or.inl rfl) | exact Or.inr (Or.inr rfl))) (ER.of _ ed_int) (fun _ _ => rfl))) ea_nil) (alen1 alen0))) (ed_and (c_isi (.ty "tuple" (hB "tuple" (by decide)) (by decide +kernel) (by decide) sub_tuple) hX (ER.of _ (ed_ix (er_var (i := 0) rfl (by first | exact Or.inl rfl | exact Or.inr (Or.inl rfl) | exact Or.inr (Or.inr rfl))) (ER.of _ ed_int) (fun _ _ => rfl))) rfl (hB "isinstance" (by decide)) rfl) (ed_one (ED.fr (c_call c_are_cuts thru_fn hgd (hr.mono (by first | decide | omega)) rfl (ea_cons (ER.of _ (ed_ix (er_var (i := 0) rfl (by first | exact Or.inl rfl | exact Or.inr (Or.inl rfl) | exact Or.inr (Or.inr rfl))) (ER.of _ ed_int) (fun _ _ => rfl))) ea_nil) (alen1 alen0))))))))) ess_nil)
      (ess_cons (es_if (tB_eq hS hu (nomark _) (ER.of _ (ed_ix (er_var (i := 0) rfl (by first | exact Or.inl rfl | exact Or.inr (Or.inl rfl) | exact Or.inr (Or.inr rfl))) (ER.of _ ed_int) (fun _ _ => rfl))) (ER.of _ ed_str)) (ess_one (es_ret (EO.of _ (ed_and (ED.fr (c_call c_is_form thru_fn hgd (hr.mono (by first | decide | omega)) rfl (ea_cons (ER.of _ (ed_ix (er_var (i := 0) rfl (by first | exact Or.inl rfl | exact Or.inr (Or.inl rfl) | exact Or.inr (Or.inr rfl))) (ER.of _ ed_int) (fun _ _ => rfl))) ea_nil) (alen1 alen0))) (ed_and (c_isi (.ty "tuple" (hB "tuple" (by decide)) (by decide +kernel) (by decide) sub_tuple) hX (ER.of _ (ed_ix (er_var (i := 0) rfl (by first | exact Or.inl rfl | exact Or.inr (Or.inl rfl) | exact Or.inr (Or.inr rfl))) (ER.of _ ed_int) (fun _ _ => rfl))) rfl (hB "isinstance" (by decide)) rfl) (ed_one (ED.fr (c_call c_are_readings thru_fn hgd (hr.mono (by first | decide | omega)) rfl (ea_cons (ER.of _ (ed_ix (er_var (i := 0) rfl (by first | exact Or.inl rfl | exact Or.inr (Or.inl rfl) | exact Or.inr (Or.inr rfl))) (ER.of _ ed_int) (fun _ _ => rfl))) ea_nil) (alen1 alen0))))))))) ess_nil)
      (ess_one (es_ret (EO.of _ (ed_and (cB_eq hS hu (nomark _) (ER.of _ (ed_ix (er_var (i := 0) rfl (by first | exact Or.inl rfl | exact Or.inr (Or.inl rfl) | exact Or.inr (Or.inr rfl))) (ER.of _ ed_int) (fun _ _ => rfl))) (ER.of _ ed_str)) (ed_and (ED.fr (c_call c_is_form thru_fn hgd (hr.mono (by first | decide | omega)) rfl (ea_cons (ER.of _ (ed_ix (er_var (i := 0) rfl (by first | exact Or.inl rfl | exact Or.inr (Or.inl rfl) | exact Or.inr (Or.inr rfl))) (ER.of _ ed_int) (fun _ _ => rfl))) ea_nil) (alen1 alen0))) (ed_one (ED.fr (c_call c_is_form thru_fn hgd (hr.mono (by first | decide | omega)) rfl (ea_cons (ER.of _ (ed_ix (er_var (i := 0) rfl (by first | exact Or.inl rfl | exact Or.inr (Or.inl rfl) | exact Or.inr (Or.inr rfl))) (ER.of _ ed_int) (fun _ _ => rfl))) ea_nil) (alen1 alen0))))))))))))

abbrev s_need_form : Stmt := top 16
def N_need_form : List Str := ["form"]
def den_need_form : S := (sIf (mNot (eTru (M.map Rf.d (eCall F_is_form (aCons (rVar 0) aNil)).fr))) sNo sPass)
def F_need_form : Fx := defF 1 den_need_form
theorem sc_need_form : FnScope N_need_form ["form"] (defScope s_need_form) := ⟨rfl, rfl, rfl, by decide +kernel, rfl, by decide +kernel, by decide +kernel⟩
theorem ok_need_form {f : Addr} {fd : FuncData} (F : L2.Fun T.K "need_form" "need_form" s_need_form f fd) (Y : Env2 T) (c_is_form : Cal T 11 1 "is_form" F_is_form) : FnS T.P T.w T.K T.mg T.base (L2.CX T.P T.w) (11 + 1) f fd ["form"] (spF ⟨T.K, T.cl, T.P, T.w⟩ 1 F_need_form) := by
  obtain ⟨hB, hS, hX, hO, hGcd, hC_LONGEST_NAME, hC_NOTHING, hC_ALL⟩ := Y
  have nd := sc_need_form.nd
  refine def_ok (k := 11) (N := N_need_form) (den := den_need_form) F sc_need_form rfl fun cdv A outer s H E hgd hr => ?_
  have hu := hr.units
  have hu65 := Fn.units65 hr
  have hu1 := Nat.lt_of_le_of_lt (Nat.add_le_add_left (by decide : 1 ≤ 64) _) hu
  exact (ess_one (es_if (et_not (et_tru (ER.of _ (ED.fr (c_call c_is_form thru_fn hgd (hr.mono (by first | decide | omega)) rfl (ea_cons (er_var (i := 0) rfl (by first | exact Or.inl rfl | exact Or.inr (Or.inl rfl) | exact Or.inr (Or.inr rfl))) ea_nil) (alen1 alen0)))))) (ess_one es_no) ess_nil))

abbrev s_side_by_side : Stmt := top 30
def N_side_by_side : List Str := ["one", "other", "marks", "at", "there", "steps", "follows", "side", "share", "_"]
def den_side_by_side : S := (sSeq (sSet 2 2 (eLst (lCons (eTup (lCons (eC (.str "at")) (lCons (eC (.tup [.int 0, .int 1])) (lCons (eTup (lCons (eBinD fIx (M.map Rf.d (eBinD fIx (rVar 0) (M.map Rf.d (eC (.int 0))))) (M.map Rf.d (eC (.int 2)))) (lCons (eBinD fIx (M.map Rf.d (eBinD fIx (rVar 1) (M.map Rf.d (eC (.int 0))))) (M.map Rf.d (eC (.int 2)))) lNil))) lNil)))) lNil)))
    (sSeq (sSet 2 3 (M.map O.dat (eC (.int 1))))
    (sSeq (sSet 2 4 (M.map O.dat (eC (.int 1))))
    (sSeq (whGo (mOr (eT (eBinD fLt (rVar 3) (M.map Rf.d (eFun fLenB (aCons (rVar 0) aNil))))) (eT (eBinD fLt (rVar 4) (M.map Rf.d (eFun fLenB (aCons (rVar 1) aNil)))))) (sSeq (sSet 2 5 (M.map O.dat (vAnd (eBinD fLt (rVar 3) (M.map Rf.d (eFun fLenB (aCons (rVar 0) aNil)))) (vOr (eBinD fEqB (rVar 4) (M.map Rf.d (eFun fLenB (aCons (rVar 1) aNil)))) (vNot (eCall F_is_ahead (aCons (M.map Rf.d (eBinD fIx (rVar 1) (rVar 4))) (aCons (M.map Rf.d (eBinD fIx (rVar 0) (rVar 3))) aNil))).fr)))))
    (sSeq (sSet 2 6 (M.map O.dat (vAnd (eBinD fLt (rVar 4) (M.map Rf.d (eFun fLenB (aCons (rVar 1) aNil)))) (vOr (eBinD fEqB (rVar 3) (M.map Rf.d (eFun fLenB (aCons (rVar 0) aNil)))) (vNot (eCall F_is_ahead (aCons (M.map Rf.d (eBinD fIx (rVar 0) (rVar 3))) (aCons (M.map Rf.d (eBinD fIx (rVar 1) (rVar 4))) aNil))).fr)))))
    (sSeq (sAsg 2 (.t [7, 8, 9]) (eIf (eTru (rVar 5)) (eBinD fIx (rVar 0) (rVar 3)) (eBinD fIx (rVar 1) (rVar 4))))
    (sSeq (sAug 2 3 (eIf (eTru (rVar 5)) (eC (.int 1)) (eC (.int 0))))
    (sSeq (sAug 2 4 (eIf (eTru (rVar 6)) (eC (.int 1)) (eC (.int 0))))
    (sMut isLst fApp (rVar 2) (eTup (lCons (eVar 7) (lCons (eVar 8) (lCons (eTup (lCons (eBinD fIx (M.map Rf.d (eBinD fIx (rVar 0) (M.map Rf.d (eBinD fSub (rVar 3) (M.map Rf.d (eC (.int 1))))))) (M.map Rf.d (eC (.int 2)))) (lCons (eBinD fIx (M.map Rf.d (eBinD fIx (rVar 1) (M.map Rf.d (eBinD fSub (rVar 4) (M.map Rf.d (eC (.int 1))))))) (M.map Rf.d (eC (.int 2)))) lNil))) lNil)))))))))) 400)
    (sRet (M.map O.dat (eVar 2)))))))
def F_side_by_side : Fx := defF 10 den_side_by_side
theorem sc_side_by_side : FnScope N_side_by_side ["one", "other"] (defScope s_side_by_side) := ⟨rfl, rfl, rfl, by decide +kernel, rfl, by decide +kernel, by decide +kernel⟩
theorem ok_side_by_side {f : Addr} {fd : FuncData} (F : L2.Fun T.K "_side_by_side" "_side_by_side" s_side_by_side f fd) (Y : Env2 T) (c_is_ahead : Cal T 2 2 "_is_ahead" F_is_ahead) : FnS T.P T.w T.K T.mg T.base (L2.CX T.P T.w) (2 + 1) f fd ["one", "other"] (spF ⟨T.K, T.cl, T.P, T.w⟩ 2 F_side_by_side) := by
  obtain ⟨hB, hS, hX, hO, hGcd, hC_LONGEST_NAME, hC_NOTHING, hC_ALL⟩ := Y
  have nd := sc_side_by_side.nd
  refine def_ok (k := 2) (N := N_side_by_side) (den := den_side_by_side) F sc_side_by_side rfl fun cdv A outer s H E hgd hr => ?_
  have hu := hr.units
  have hu65 := Fn.units65 hr
  have hu1 := Nat.lt_of_le_of_lt (Nat.add_le_add_left (by decide : 1 ≤ 64) _) hu
  exact (ess_cons (es_set (i := 2) nd rfl (by first | exact Or.inl rfl | exact Or.inr rfl) (eo_lst (el_cons (ed_tup (el_cons ed_str (el_cons (ed_conT hC_NOTHING rfl) (el_cons (ed_tup (el_cons (ed_ix (ER.of _ (ed_ix (er_var (i := 0) rfl (by first | exact Or.inl rfl | exact Or.inr (Or.inl rfl) | exact Or.inr (Or.inr rfl))) (ER.of _ ed_int) (fun _ _ => rfl))) (ER.of _ ed_int) (fun _ _ => rfl)) (el_cons (ed_ix (ER.of _ (ed_ix (er_var (i := 1) rfl (by first | exact Or.inl rfl | exact Or.inr (Or.inl rfl) | exact Or.inr (Or.inr rfl))) (ER.of _ ed_int) (fun _ _ => rfl))) (ER.of _ ed_int) (fun _ _ => rfl)) el_nil))) el_nil)))) el_nil)))
      (ess_cons (es_set (i := 3) nd rfl (by first | exact Or.inl rfl | exact Or.inr rfl) (EO.of _ ed_int))
      (ess_cons (es_set (i := 4) nd rfl (by first | exact Or.inl rfl | exact Or.inr rfl) (EO.of _ ed_int))
      (ess_cons (es_while 400 own_fn (et_w (ew_or (t_lt (nomark _) (er_var (i := 3) rfl (by first | exact Or.inl rfl | exact Or.inr (Or.inl rfl) | exact Or.inr (Or.inr rfl))) (ER.of _ (c_lenB rfl (hB "len" (by decide)) (ea_cons (er_var (i := 0) rfl (by first | exact Or.inl rfl | exact Or.inr (Or.inl rfl) | exact Or.inr (Or.inr rfl))) ea_nil)))) (ew_or1 (t_lt (nomark _) (er_var (i := 4) rfl (by first | exact Or.inl rfl | exact Or.inr (Or.inl rfl) | exact Or.inr (Or.inr rfl))) (ER.of _ (c_lenB rfl (hB "len" (by decide)) (ea_cons (er_var (i := 1) rfl (by first | exact Or.inl rfl | exact Or.inr (Or.inl rfl) | exact Or.inr (Or.inr rfl))) ea_nil))))))) (ess_cons (es_set (i := 5) nd rfl (by first | exact Or.inl rfl | exact Or.inr rfl) (EO.of _ (ed_and (c_lt (nomark _) (er_var (i := 3) rfl (by first | exact Or.inl rfl | exact Or.inr (Or.inl rfl) | exact Or.inr (Or.inr rfl))) (ER.of _ (c_lenB rfl (hB "len" (by decide)) (ea_cons (er_var (i := 0) rfl (by first | exact Or.inl rfl | exact Or.inr (Or.inl rfl) | exact Or.inr (Or.inr rfl))) ea_nil)))) (ed_one (ed_or (cB_eq hS hu (nomark _) (er_var (i := 4) rfl (by first | exact Or.inl rfl | exact Or.inr (Or.inl rfl) | exact Or.inr (Or.inr rfl))) (ER.of _ (c_lenB rfl (hB "len" (by decide)) (ea_cons (er_var (i := 1) rfl (by first | exact Or.inl rfl | exact Or.inr (Or.inl rfl) | exact Or.inr (Or.inr rfl))) ea_nil)))) (ed_one (ed_not (ED.fr (c_call c_is_ahead thru_fn hgd (hr.mono (by first | decide | omega)) rfl (ea_cons (ER.of _ (ed_ix (er_var (i := 1) rfl (by first | exact Or.inl rfl | exact Or.inr (Or.inl rfl) | exact Or.inr (Or.inr rfl))) (er_var (i := 4) rfl (by first | exact Or.inl rfl | exact Or.inr (Or.inl rfl) | exact Or.inr (Or.inr rfl))) (fun _ _ => rfl))) (ea_cons (ER.of _ (ed_ix (er_var (i := 0) rfl (by first | exact Or.inl rfl | exact Or.inr (Or.inl rfl) | exact Or.inr (Or.inr rfl))) (er_var (i := 3) rfl (by first | exact Or.inl rfl | exact Or.inr (Or.inl rfl) | exact Or.inr (Or.inr rfl))) (fun _ _ => rfl))) ea_nil)) (alen1 (alen1 alen0)))))))))))
      (ess_cons (es_set (i := 6) nd rfl (by first | exact Or.inl rfl | exact Or.inr rfl) (EO.of _ (ed_and (c_lt (nomark _) (er_var (i := 4) rfl (by first | exact Or.inl rfl | exact Or.inr (Or.inl rfl) | exact Or.inr (Or.inr rfl))) (ER.of _ (c_lenB rfl (hB "len" (by decide)) (ea_cons (er_var (i := 1) rfl (by first | exact Or.inl rfl | exact Or.inr (Or.inl rfl) | exact Or.inr (Or.inr rfl))) ea_nil)))) (ed_one (ed_or (cB_eq hS hu (nomark _) (er_var (i := 3) rfl (by first | exact Or.inl rfl | exact Or.inr (Or.inl rfl) | exact Or.inr (Or.inr rfl))) (ER.of _ (c_lenB rfl (hB "len" (by decide)) (ea_cons (er_var (i := 0) rfl (by first | exact Or.inl rfl | exact Or.inr (Or.inl rfl) | exact Or.inr (Or.inr rfl))) ea_nil)))) (ed_one (ed_not (ED.fr (c_call c_is_ahead thru_fn hgd (hr.mono (by first | decide | omega)) rfl (ea_cons (ER.of _ (ed_ix (er_var (i := 0) rfl (by first | exact Or.inl rfl | exact Or.inr (Or.inl rfl) | exact Or.inr (Or.inr rfl))) (er_var (i := 3) rfl (by first | exact Or.inl rfl | exact Or.inr (Or.inl rfl) | exact Or.inr (Or.inr rfl))) (fun _ _ => rfl))) (ea_cons (ER.of _ (ed_ix (er_var (i := 1) rfl (by first | exact Or.inl rfl | exact Or.inr (Or.inl rfl) | exact Or.inr (Or.inr rfl))) (er_var (i := 4) rfl (by first | exact Or.inl rfl | exact Or.inr (Or.inl rfl) | exact Or.inr (Or.inr rfl))) (fun _ _ => rfl))) ea_nil)) (alen1 (alen1 alen0)))))))))))
      (ess_cons (es_asg (ex_if rD_back (et_tru (er_var (i := 5) rfl (by first | exact Or.inl rfl | exact Or.inr (Or.inl rfl) | exact Or.inr (Or.inr rfl)))) (ed_ix (er_var (i := 0) rfl (by first | exact Or.inl rfl | exact Or.inr (Or.inl rfl) | exact Or.inr (Or.inr rfl))) (er_var (i := 3) rfl (by first | exact Or.inl rfl | exact Or.inr (Or.inl rfl) | exact Or.inr (Or.inr rfl))) (fun _ _ => rfl)) (ed_ix (er_var (i := 1) rfl (by first | exact Or.inl rfl | exact Or.inr (Or.inl rfl) | exact Or.inr (Or.inr rfl))) (er_var (i := 4) rfl (by first | exact Or.inl rfl | exact Or.inr (Or.inl rfl) | exact Or.inr (Or.inr rfl))) (fun _ _ => rfl))) (pg_tup rfl (pgs_cons (pg_name (i := 7) nd rfl (by first | exact Or.inl rfl | exact Or.inr rfl)) (pgs_cons (pg_name (i := 8) nd rfl (by first | exact Or.inl rfl | exact Or.inr rfl)) (pgs_cons (pg_name (i := 9) nd rfl (by first | exact Or.inl rfl | exact Or.inr rfl)) pgs_nil)))))
      (ess_cons (es_aug (i := 3) nd rfl (by first | exact Or.inl rfl | exact Or.inr rfl) (ex_if rD_back (et_tru (er_var (i := 5) rfl (by first | exact Or.inl rfl | exact Or.inr (Or.inl rfl) | exact Or.inr (Or.inr rfl)))) ed_int ed_int))
      (ess_cons (es_aug (i := 4) nd rfl (by first | exact Or.inl rfl | exact Or.inr rfl) (ex_if rD_back (et_tru (er_var (i := 6) rfl (by first | exact Or.inl rfl | exact Or.inr (Or.inl rfl) | exact Or.inr (Or.inr rfl)))) ed_int ed_int))
      (ess_one (es_app (er_var (i := 2) rfl (by first | exact Or.inl rfl | exact Or.inr (Or.inl rfl) | exact Or.inr (Or.inr rfl))) (ed_tup (el_cons (ed_var (i := 7) rfl (by first | exact Or.inl rfl | exact Or.inr (Or.inl rfl) | exact Or.inr (Or.inr rfl))) (el_cons (ed_var (i := 8) rfl (by first | exact Or.inl rfl | exact Or.inr (Or.inl rfl) | exact Or.inr (Or.inr rfl))) (el_cons (ed_tup (el_cons (ed_ix (ER.of _ (ed_ix (er_var (i := 0) rfl (by first | exact Or.inl rfl | exact Or.inr (Or.inl rfl) | exact Or.inr (Or.inr rfl))) (ER.of _ (ed_sub (er_var (i := 3) rfl (by first | exact Or.inl rfl | exact Or.inr (Or.inl rfl) | exact Or.inr (Or.inr rfl))) (ER.of _ ed_int))) (fun _ _ => rfl))) (ER.of _ ed_int) (fun _ _ => rfl)) (el_cons (ed_ix (ER.of _ (ed_ix (er_var (i := 1) rfl (by first | exact Or.inl rfl | exact Or.inr (Or.inl rfl) | exact Or.inr (Or.inr rfl))) (ER.of _ (ed_sub (er_var (i := 4) rfl (by first | exact Or.inl rfl | exact Or.inr (Or.inl rfl) | exact Or.inr (Or.inr rfl))) (ER.of _ ed_int))) (fun _ _ => rfl))) (ER.of _ ed_int) (fun _ _ => rfl)) el_nil))) el_nil))))))))))))
      (ess_one (es_ret (EO.of _ (ed_var (i := 2) rfl (by first | exact Or.inl rfl | exact Or.inr (Or.inl rfl) | exact Or.inr (Or.inr rfl))))))))))

abbrev s_read : Stmt := top 29
def N_read : List Str := ["rows", "word", "first", "second"]
def den_read : S := (sSeq (sFor 2 (.t [2, 3]) (iAll (eVar 0)) (sIf (eT (eBinD fEqB (rVar 2) (rVar 1))) (sRet (M.map O.dat (eVar 3))) sPass))
    (sRet (M.map O.dat (eVar 1))))
def F_read : Fx := defF 4 den_read
theorem sc_read : FnScope N_read ["rows", "word"] (defScope s_read) := ⟨rfl, rfl, rfl, by decide +kernel, rfl, by decide +kernel, by decide +kernel⟩
theorem ok_read {f : Addr} {fd : FuncData} (F : L2.Fun T.K "_read" "_read" s_read f fd) (Y : Env2 T) : FnS T.P T.w T.K T.mg T.base (L2.CX T.P T.w) (0 + 1) f fd ["rows", "word"] (spF ⟨T.K, T.cl, T.P, T.w⟩ 2 F_read) := by
  obtain ⟨hB, hS, hX, hO, hGcd, hC_LONGEST_NAME, hC_NOTHING, hC_ALL⟩ := Y
  have nd := sc_read.nd
  refine def_ok (k := 0) (N := N_read) (den := den_read) F sc_read rfl fun cdv A outer s H E hgd hr => ?_
  have hu := hr.units
  have hu65 := Fn.units65 hr
  have hu1 := Nat.lt_of_le_of_lt (Nat.add_le_add_left (by decide : 1 ≤ 64) _) hu
  exact (ess_cons (es_for own_fn rfl (ei_all (ed_var (i := 0) rfl (by first | exact Or.inl rfl | exact Or.inr (Or.inl rfl) | exact Or.inr (Or.inr rfl)))) (pg_tup rfl (pgs_cons (pg_name (i := 2) nd rfl (by first | exact Or.inl rfl | exact Or.inr rfl)) (pgs_cons (pg_name (i := 3) nd rfl (by first | exact Or.inl rfl | exact Or.inr rfl)) pgs_nil))) (ess_one (es_if (tB_eq hS hu (nomark _) (er_var (i := 2) rfl (by first | exact Or.inl rfl | exact Or.inr (Or.inl rfl) | exact Or.inr (Or.inr rfl))) (er_var (i := 1) rfl (by first | exact Or.inl rfl | exact Or.inr (Or.inl rfl) | exact Or.inr (Or.inr rfl)))) (ess_one (es_ret (EO.of _ (ed_var (i := 3) rfl (by first | exact Or.inl rfl | exact Or.inr (Or.inl rfl) | exact Or.inr (Or.inr rfl)))))) ess_nil)))
      (ess_one (es_ret (EO.of _ (ed_var (i := 1) rfl (by first | exact Or.inl rfl | exact Or.inr (Or.inl rfl) | exact Or.inr (Or.inr rfl)))))))

abbrev s_marks_of : Stmt := top 20
def N_marks_of : List Str := ["form", "marks", "side", "share", "word", "found", "mark"]
def den_marks_of (R : Fx) : S := (sSeq (sIf (eT (eBinD fEqB (M.map Rf.d (eBinD fIx (rVar 0) (M.map Rf.d (eC (.int 0))))) (M.map Rf.d (eC (.str "pair"))))) (sSet 1 1 (eCall F_side_by_side (aCons (M.map Rf.d (eCall R (aCons (M.map Rf.d (eBinD fIx (rVar 0) (M.map Rf.d (eC (.int 1))))) aNil)).fr) (aCons (M.map Rf.d (eCall R (aCons (M.map Rf.d (eBinD fIx (rVar 0) (M.map Rf.d (eC (.int 2))))) aNil)).fr) aNil)))) (sIf (eT (eBinD fEqB (M.map Rf.d (eBinD fIx (rVar 0) (M.map Rf.d (eC (.int 0))))) (M.map Rf.d (eC (.str "read"))))) (sSet 1 1 (eComp [2, 3, 4] (.t [2, 3, 4]) (iAll (eCall R (aCons (M.map Rf.d (eBinD fIx (rVar 0) (M.map Rf.d (eC (.int 1))))) aNil)).fr) mYes (eTup (lCons (eVar 2) (lCons (eVar 3) (lCons (eCall F_read (aCons (M.map Rf.d (eBinD fIx (rVar 0) (M.map Rf.d (eC (.int 2))))) (aCons (rVar 4) aNil))).fr lNil)))))) (sSet 1 1 (eBin fAdd (M.map Rf.d (eLst (lCons (eTup (lCons (eC (.str "at")) (lCons (eC (.tup [.int 0, .int 1])) (lCons (eBinD fIx (rVar 0) (M.map Rf.d (eC (.int 1)))) lNil)))) lNil)).fr) (M.map Rf.d (eFunO fList (aCons (M.map Rf.d (eBinD fIx (rVar 0) (M.map Rf.d (eC (.int 2))))) aNil)).fr)))))
    (sSeq (sSet 1 5 (eLst (lCons (eBinD fIx (rVar 1) (M.map Rf.d (eC (.int 0)))) lNil)))
    (sSeq (sFor 1 (.n 6) (iAll (eSlice (rVar 1) (pInt (eC (.int 1))) pNone).fr) (sIf (eT (eBinD fNeB (M.map Rf.d (eBinD fIx (rVar 6) (M.map Rf.d (eC (.int 2))))) (M.map Rf.d (eBinD fIx (M.map Rf.d (eBinD fIx (rVar 5) (M.map Rf.d (vNeg (eC (.int 1)))))) (M.map Rf.d (eC (.int 2))))))) (sMut isLst fApp (rVar 5) (eVar 6)) sPass))
    (sRet (M.map O.dat (eVar 5))))))
def FR_marks_of : Nat → Fx
  | 0 => fun _ => none
  | n + 1 => defF 7 (den_marks_of (FR_marks_of n))
def F_marks_of : Fx := FR_marks_of 3
theorem sc_marks_of : FnScope N_marks_of ["form"] (defScope s_marks_of) := ⟨rfl, rfl, rfl, by decide +kernel, rfl, by decide +kernel, by decide +kernel⟩
theorem ok_marks_of {f : Addr} {fd : FuncData} (F : L2.Fun T.K "marks_of" "marks_of" s_marks_of f fd) (Y : Env2 T) (c_side_by_side : Cal T 3 2 "_side_by_side" F_side_by_side) (c_read : Cal T 1 2 "_read" F_read) (m : Nat) (R : Fx) (c_marks_of : Cal T (4 + m) 1 "marks_of" R) : FnS T.P T.w T.K T.mg T.base (L2.CX T.P T.w) (4 + m + 1) f fd ["form"] (spF ⟨T.K, T.cl, T.P, T.w⟩ 1 (defF 7 (den_marks_of R))) := by
  obtain ⟨hB, hS, hX, hO, hGcd, hC_LONGEST_NAME, hC_NOTHING, hC_ALL⟩ := Y
  have nd := sc_marks_of.nd
  refine def_ok (k := 4 + m) (N := N_marks_of) (den := (den_marks_of R)) F sc_marks_of rfl fun cdv A outer s H E hgd hr => ?_
  have hu := hr.units
  have hu65 := Fn.units65 hr
  have hu1 := Nat.lt_of_le_of_lt (Nat.add_le_add_left (by decide : 1 ≤ 64) _) hu
  exact (ess_cons (es_if (tB_eq hS hu (nomark _) (ER.of _ (ed_ix (er_var (i := 0) rfl (by first | exact Or.inl rfl | exact Or.inr (Or.inl rfl) | exact Or.inr (Or.inr rfl))) (ER.of _ ed_int) (fun _ _ => rfl))) (ER.of _ ed_str)) (ess_one (es_set (i := 1) nd rfl (by first | exact Or.inl rfl | exact Or.inr rfl) (c_call c_side_by_side thru_fn hgd (hr.mono (by first | decide | omega)) rfl (ea_cons (ER.of _ (ED.fr (c_call c_marks_of thru_fn hgd (hr.mono (by first | decide | omega)) rfl (ea_cons (ER.of _ (ed_ix (er_var (i := 0) rfl (by first | exact Or.inl rfl | exact Or.inr (Or.inl rfl) | exact Or.inr (Or.inr rfl))) (ER.of _ ed_int) (fun _ _ => rfl))) ea_nil) (alen1 alen0)))) (ea_cons (ER.of _ (ED.fr (c_call c_marks_of thru_fn hgd (hr.mono (by first | decide | omega)) rfl (ea_cons (ER.of _ (ed_ix (er_var (i := 0) rfl (by first | exact Or.inl rfl | exact Or.inr (Or.inl rfl) | exact Or.inr (Or.inr rfl))) (ER.of _ ed_int) (fun _ _ => rfl))) ea_nil) (alen1 alen0)))) ea_nil)) (alen1 (alen1 alen0))))) (ess_one (es_if (tB_eq hS hu (nomark _) (ER.of _ (ed_ix (er_var (i := 0) rfl (by first | exact Or.inl rfl | exact Or.inr (Or.inl rfl) | exact Or.inr (Or.inr rfl))) (ER.of _ ed_int) (fun _ _ => rfl))) (ER.of _ ed_str)) (ess_one (es_setLc (i := 1) (own := [("side", 2), ("share", 3), ("word", 4)]) rfl nd rfl rfl (sw_true rfl rfl rfl (by decide +kernel)) (ei_all (ED.fr (c_call c_marks_of thru_fn hgd (hr.mono (by first | decide | omega)) rfl (ea_cons (ER.of _ (ed_ix (er_var (i := 0) rfl (by first | exact Or.inl rfl | exact Or.inr (Or.inl rfl) | exact Or.inr (Or.inr rfl))) (ER.of _ ed_int) (fun _ _ => rfl))) ea_nil) (alen1 alen0)))) (blkOk_by (by kernel_rfl)) (fun _ _ _ _ _ => (pg_tup rfl (pgs_cons (pg_name (i := 2) nd rfl (by first | exact Or.inl rfl | exact Or.inr rfl)) (pgs_cons (pg_name (i := 3) nd rfl (by first | exact Or.inl rfl | exact Or.inr rfl)) (pgs_cons (pg_name (i := 4) nd rfl (by first | exact Or.inl rfl | exact Or.inr rfl)) pgs_nil))))) (fun _ _ _ _ _ => ets_nil) (fun _ _ _ _ _ => (ed_tup (el_cons (ed_var (i := 2) rfl (by first | exact Or.inl rfl | exact Or.inr (Or.inl rfl) | exact Or.inr (Or.inr rfl))) (el_cons (ed_var (i := 3) rfl (by first | exact Or.inl rfl | exact Or.inr (Or.inl rfl) | exact Or.inr (Or.inr rfl))) (el_cons (ED.fr (c_call c_read thru_blk hgd (hr.mono (by first | decide | omega)) rfl (ea_cons (ER.of _ (ed_ix (er_var (i := 0) rfl (by first | exact Or.inl rfl | exact Or.inr (Or.inl rfl) | exact Or.inr (Or.inr rfl))) (ER.of _ ed_int) (fun _ _ => rfl))) (ea_cons (er_var (i := 4) rfl (by first | exact Or.inl rfl | exact Or.inr (Or.inl rfl) | exact Or.inr (Or.inr rfl))) ea_nil)) (alen1 (alen1 alen0)))) el_nil))))) (by decide))) (ess_one (es_set (i := 1) nd rfl (by first | exact Or.inl rfl | exact Or.inr rfl) (eo_add (ER.of _ (ED.fr (eo_lst (el_cons (ed_tup (el_cons ed_str (el_cons (ed_conT hC_NOTHING rfl) (el_cons (ed_ix (er_var (i := 0) rfl (by first | exact Or.inl rfl | exact Or.inr (Or.inl rfl) | exact Or.inr (Or.inr rfl))) (ER.of _ ed_int) (fun _ _ => rfl)) el_nil)))) el_nil)))) (ER.of _ (ED.fr (c_list rfl rfl (hB "list" (by decide)) (ea_cons (ER.of _ (ed_ix (er_var (i := 0) rfl (by first | exact Or.inl rfl | exact Or.inr (Or.inl rfl) | exact Or.inr (Or.inr rfl))) (ER.of _ ed_int) (fun _ _ => rfl))) ea_nil))))))))))
      (ess_cons (es_set (i := 5) nd rfl (by first | exact Or.inl rfl | exact Or.inr rfl) (eo_lst (el_cons (ed_ix (er_var (i := 1) rfl (by first | exact Or.inl rfl | exact Or.inr (Or.inl rfl) | exact Or.inr (Or.inr rfl))) (ER.of _ ed_int) (fun _ _ => rfl)) el_nil)))
      (ess_cons (es_for own_fn rfl (ei_all (ED.fr (eo_slice (er_var (i := 1) rfl (by first | exact Or.inl rfl | exact Or.inr (Or.inl rfl) | exact Or.inr (Or.inr rfl))) (ep_some ed_int) ep_none))) (pg_name (i := 6) nd rfl (by first | exact Or.inl rfl | exact Or.inr rfl)) (ess_one (es_if (tB_ne hS hu (nomark _) (ER.of _ (ed_ix (er_var (i := 6) rfl (by first | exact Or.inl rfl | exact Or.inr (Or.inl rfl) | exact Or.inr (Or.inr rfl))) (ER.of _ ed_int) (fun _ _ => rfl))) (ER.of _ (ed_ix (ER.of _ (ed_ix (er_var (i := 5) rfl (by first | exact Or.inl rfl | exact Or.inr (Or.inl rfl) | exact Or.inr (Or.inr rfl))) (ER.of _ (ed_neg ed_int)) (fun _ _ => rfl))) (ER.of _ ed_int) (fun _ _ => rfl)))) (ess_one (es_app (er_var (i := 5) rfl (by first | exact Or.inl rfl | exact Or.inr (Or.inl rfl) | exact Or.inr (Or.inr rfl))) (ed_var (i := 6) rfl (by first | exact Or.inl rfl | exact Or.inr (Or.inl rfl) | exact Or.inr (Or.inr rfl))))) ess_nil)))
      (ess_one (es_ret (EO.of _ (ed_var (i := 5) rfl (by first | exact Or.inl rfl | exact Or.inr (Or.inl rfl) | exact Or.inr (Or.inr rfl)))))))))

abbrev s_least_whole : Stmt := top 32
def N_least_whole : List Str := ["low", "low_is_in", "high", "whole"]
def den_least_whole : S := (sSeq (sSet 3 3 (M.map O.dat (eBinD fDiv (M.map Rf.d (eBinD fIx (rVar 0) (M.map Rf.d (eC (.int 0))))) (M.map Rf.d (eBinD fIx (rVar 0) (M.map Rf.d (eC (.int 1))))))))
    (sSeq (sIf (mAnd (eTru (rVar 1)) (eT (eBinD fEqB (M.map Rf.d (eBin fMul (rVar 3) (M.map Rf.d (eBinD fIx (rVar 0) (M.map Rf.d (eC (.int 1)))))).fr) (M.map Rf.d (eBinD fIx (rVar 0) (M.map Rf.d (eC (.int 0)))))))) (sRet (M.map O.dat (eVar 3))) sPass)
    (sRet (M.map O.dat (eIf (eT (eBinD fLt (M.map Rf.d (eBin fMul (M.map Rf.d (eBin fAdd (rVar 3) (M.map Rf.d (eC (.int 1)))).fr) (M.map Rf.d (eBinD fIx (rVar 2) (M.map Rf.d (eC (.int 1)))))).fr) (M.map Rf.d (eBinD fIx (rVar 2) (M.map Rf.d (eC (.int 0))))))) (eBin fAdd (rVar 3) (M.map Rf.d (eC (.int 1)))).fr (eC .non))))))
def F_least_whole : Fx := defF 4 den_least_whole
theorem sc_least_whole : FnScope N_least_whole ["low", "low_is_in", "high"] (defScope s_least_whole) := ⟨rfl, rfl, rfl, by decide +kernel, rfl, by decide +kernel, by decide +kernel⟩
theorem ok_least_whole {f : Addr} {fd : FuncData} (F : L2.Fun T.K "_least_whole" "_least_whole" s_least_whole f fd) (Y : Env2 T) : FnS T.P T.w T.K T.mg T.base (L2.CX T.P T.w) (0 + 1) f fd ["low", "low_is_in", "high"] (spF ⟨T.K, T.cl, T.P, T.w⟩ 3 F_least_whole) := by
  obtain ⟨hB, hS, hX, hO, hGcd, hC_LONGEST_NAME, hC_NOTHING, hC_ALL⟩ := Y
  have nd := sc_least_whole.nd
  refine def_ok (k := 0) (N := N_least_whole) (den := den_least_whole) F sc_least_whole rfl fun cdv A outer s H E hgd hr => ?_
  have hu := hr.units
  have hu65 := Fn.units65 hr
  have hu1 := Nat.lt_of_le_of_lt (Nat.add_le_add_left (by decide : 1 ≤ 64) _) hu
  exact (ess_cons (es_set (i := 3) nd rfl (by first | exact Or.inl rfl | exact Or.inr rfl) (EO.of _ (ed_div (ER.of _ (ed_ix (er_var (i := 0) rfl (by first | exact Or.inl rfl | exact Or.inr (Or.inl rfl) | exact Or.inr (Or.inr rfl))) (ER.of _ ed_int) (fun _ _ => rfl))) (ER.of _ (ed_ix (er_var (i := 0) rfl (by first | exact Or.inl rfl | exact Or.inr (Or.inl rfl) | exact Or.inr (Or.inr rfl))) (ER.of _ ed_int) (fun _ _ => rfl))))))
      (ess_cons (es_if (et_w (ew_and (et_tru (er_var (i := 1) rfl (by first | exact Or.inl rfl | exact Or.inr (Or.inl rfl) | exact Or.inr (Or.inr rfl)))) (ew_and1 (tB_eq hS hu (nomark _) (ER.of _ (ED.fr (eo_mul (er_var (i := 3) rfl (by first | exact Or.inl rfl | exact Or.inr (Or.inl rfl) | exact Or.inr (Or.inr rfl))) (ER.of _ (ed_ix (er_var (i := 0) rfl (by first | exact Or.inl rfl | exact Or.inr (Or.inl rfl) | exact Or.inr (Or.inr rfl))) (ER.of _ ed_int) (fun _ _ => rfl)))))) (ER.of _ (ed_ix (er_var (i := 0) rfl (by first | exact Or.inl rfl | exact Or.inr (Or.inl rfl) | exact Or.inr (Or.inr rfl))) (ER.of _ ed_int) (fun _ _ => rfl))))))) (ess_one (es_ret (EO.of _ (ed_var (i := 3) rfl (by first | exact Or.inl rfl | exact Or.inr (Or.inl rfl) | exact Or.inr (Or.inr rfl)))))) ess_nil)
      (ess_one (es_ret (EO.of _ (ex_if rD_back (t_lt (nomark _) (ER.of _ (ED.fr (eo_mul (ER.of _ (ED.fr (eo_add (er_var (i := 3) rfl (by first | exact Or.inl rfl | exact Or.inr (Or.inl rfl) | exact Or.inr (Or.inr rfl))) (ER.of _ ed_int)))) (ER.of _ (ed_ix (er_var (i := 2) rfl (by first | exact Or.inl rfl | exact Or.inr (Or.inl rfl) | exact Or.inr (Or.inr rfl))) (ER.of _ ed_int) (fun _ _ => rfl)))))) (ER.of _ (ed_ix (er_var (i := 2) rfl (by first | exact Or.inl rfl | exact Or.inr (Or.inl rfl) | exact Or.inr (Or.inr rfl))) (ER.of _ ed_int) (fun _ _ => rfl)))) (ED.fr (eo_add (er_var (i := 3) rfl (by first | exact Or.inl rfl | exact Or.inr (Or.inl rfl) | exact Or.inr (Or.inr rfl))) (ER.of _ ed_int))) ed_non))))))

abbrev s_simplest : Stmt := top 31
def N_simplest : List Str := ["low", "low_is_in", "high", "high_is_in", "wholes", "found", "whole", "top", "bottom"]
def den_simplest : S := (sSeq (sSet 4 4 (eLst lNil))
    (sSeq (sSet 4 5 (eCall F_least_whole (aCons (rVar 0) (aCons (rVar 1) (aCons (rVar 2) aNil)))))
    (sSeq (whGo (eT (eBinD (fIs id) (rVar 5) (M.map Rf.d (eC .non)))) (sSeq (sSet 4 6 (M.map O.dat (eBinD fDiv (M.map Rf.d (eBinD fIx (rVar 0) (M.map Rf.d (eC (.int 0))))) (M.map Rf.d (eBinD fIx (rVar 0) (M.map Rf.d (eC (.int 1))))))))
    (sSeq (sMut isLst fApp (rVar 4) (eVar 6))
    (sSeq (sPar 4 [0, 2] (lCons (eTup (lCons (eBinD fIx (rVar 2) (M.map Rf.d (eC (.int 1)))) (lCons (eBinD fSub (M.map Rf.d (eBinD fIx (rVar 2) (M.map Rf.d (eC (.int 0))))) (M.map Rf.d (eBin fMul (rVar 6) (M.map Rf.d (eBinD fIx (rVar 2) (M.map Rf.d (eC (.int 1)))))).fr)) lNil))) (lCons (eTup (lCons (eBinD fIx (rVar 0) (M.map Rf.d (eC (.int 1)))) (lCons (eBinD fSub (M.map Rf.d (eBinD fIx (rVar 0) (M.map Rf.d (eC (.int 0))))) (M.map Rf.d (eBin fMul (rVar 6) (M.map Rf.d (eBinD fIx (rVar 0) (M.map Rf.d (eC (.int 1)))))).fr)) lNil))) lNil)))
    (sSeq (sPar 4 [1, 3] (lCons (eVar 3) (lCons (eVar 1) lNil)))
    (sSet 4 5 (eCall F_least_whole (aCons (rVar 0) (aCons (rVar 1) (aCons (rVar 2) aNil))))))))) 400)
    (sSeq (sPar 4 [7, 8] (lCons (eVar 5) (lCons (eC (.int 1)) lNil)))
    (sSeq (sFor 4 (.n 6) (iRev (eVar 4)) (sPar 4 [7, 8] (lCons (eBin fAdd (M.map Rf.d (eBin fMul (rVar 6) (rVar 7)).fr) (rVar 8)).fr (lCons (eVar 7) lNil))))
    (sRet (M.map O.dat (eTup (lCons (eVar 7) (lCons (eVar 8) lNil))))))))))
def F_simplest : Fx := defF 9 den_simplest
theorem sc_simplest : FnScope N_simplest ["low", "low_is_in", "high", "high_is_in"] (defScope s_simplest) := ⟨rfl, rfl, rfl, by decide +kernel, rfl, by decide +kernel, by decide +kernel⟩
theorem ok_simplest {f : Addr} {fd : FuncData} (F : L2.Fun T.K "_simplest" "_simplest" s_simplest f fd) (Y : Env2 T) (c_least_whole : Cal T 1 3 "_least_whole" F_least_whole) : FnS T.P T.w T.K T.mg T.base (L2.CX T.P T.w) (1 + 1) f fd ["low", "low_is_in", "high", "high_is_in"] (spF ⟨T.K, T.cl, T.P, T.w⟩ 4 F_simplest) := by
  obtain ⟨hB, hS, hX, hO, hGcd, hC_LONGEST_NAME, hC_NOTHING, hC_ALL⟩ := Y
  have nd := sc_simplest.nd
  refine def_ok (k := 1) (N := N_simplest) (den := den_simplest) F sc_simplest rfl fun cdv A outer s H E hgd hr => ?_
  have hu := hr.units
  have hu65 := Fn.units65 hr
  have hu1 := Nat.lt_of_le_of_lt (Nat.add_le_add_left (by decide : 1 ≤ 64) _) hu
  exact (ess_cons (es_set (i := 4) nd rfl (by first | exact Or.inl rfl | exact Or.inr rfl) (eo_lst el_nil))
      (ess_cons (es_set (i := 5) nd rfl (by first | exact Or.inl rfl | exact Or.inr rfl) (c_call c_least_whole thru_fn hgd (hr.mono (by first | decide | omega)) rfl (ea_cons (er_var (i := 0) rfl (by first | exact Or.inl rfl | exact Or.inr (Or.inl rfl) | exact Or.inr (Or.inr rfl))) (ea_cons (er_var (i := 1) rfl (by first | exact Or.inl rfl | exact Or.inr (Or.inl rfl) | exact Or.inr (Or.inr rfl))) (ea_cons (er_var (i := 2) rfl (by first | exact Or.inl rfl | exact Or.inr (Or.inl rfl) | exact Or.inr (Or.inr rfl))) ea_nil))) (alen1 (alen1 (alen1 alen0)))))
      (ess_cons (es_while 400 own_fn (t_is (nomark _) (er_var (i := 5) rfl (by first | exact Or.inl rfl | exact Or.inr (Or.inl rfl) | exact Or.inr (Or.inr rfl))) (ER.of _ ed_non)) (ess_cons (es_set (i := 6) nd rfl (by first | exact Or.inl rfl | exact Or.inr rfl) (EO.of _ (ed_div (ER.of _ (ed_ix (er_var (i := 0) rfl (by first | exact Or.inl rfl | exact Or.inr (Or.inl rfl) | exact Or.inr (Or.inr rfl))) (ER.of _ ed_int) (fun _ _ => rfl))) (ER.of _ (ed_ix (er_var (i := 0) rfl (by first | exact Or.inl rfl | exact Or.inr (Or.inl rfl) | exact Or.inr (Or.inr rfl))) (ER.of _ ed_int) (fun _ _ => rfl))))))
      (ess_cons (es_app (er_var (i := 4) rfl (by first | exact Or.inl rfl | exact Or.inr (Or.inl rfl) | exact Or.inr (Or.inr rfl))) (ed_var (i := 6) rfl (by first | exact Or.inl rfl | exact Or.inr (Or.inl rfl) | exact Or.inr (Or.inr rfl))))
      (ess_cons (es_par2 (i := 0) (j := 2) rfl nd rfl rfl (by decide) rfl rfl (el_cons (ed_tup (el_cons (ed_ix (er_var (i := 2) rfl (by first | exact Or.inl rfl | exact Or.inr (Or.inl rfl) | exact Or.inr (Or.inr rfl))) (ER.of _ ed_int) (fun _ _ => rfl)) (el_cons (ed_sub (ER.of _ (ed_ix (er_var (i := 2) rfl (by first | exact Or.inl rfl | exact Or.inr (Or.inl rfl) | exact Or.inr (Or.inr rfl))) (ER.of _ ed_int) (fun _ _ => rfl))) (ER.of _ (ED.fr (eo_mul (er_var (i := 6) rfl (by first | exact Or.inl rfl | exact Or.inr (Or.inl rfl) | exact Or.inr (Or.inr rfl))) (ER.of _ (ed_ix (er_var (i := 2) rfl (by first | exact Or.inl rfl | exact Or.inr (Or.inl rfl) | exact Or.inr (Or.inr rfl))) (ER.of _ ed_int) (fun _ _ => rfl))))))) el_nil))) (el_cons (ed_tup (el_cons (ed_ix (er_var (i := 0) rfl (by first | exact Or.inl rfl | exact Or.inr (Or.inl rfl) | exact Or.inr (Or.inr rfl))) (ER.of _ ed_int) (fun _ _ => rfl)) (el_cons (ed_sub (ER.of _ (ed_ix (er_var (i := 0) rfl (by first | exact Or.inl rfl | exact Or.inr (Or.inl rfl) | exact Or.inr (Or.inr rfl))) (ER.of _ ed_int) (fun _ _ => rfl))) (ER.of _ (ED.fr (eo_mul (er_var (i := 6) rfl (by first | exact Or.inl rfl | exact Or.inr (Or.inl rfl) | exact Or.inr (Or.inr rfl))) (ER.of _ (ed_ix (er_var (i := 0) rfl (by first | exact Or.inl rfl | exact Or.inr (Or.inl rfl) | exact Or.inr (Or.inr rfl))) (ER.of _ ed_int) (fun _ _ => rfl))))))) el_nil))) el_nil)) (by kernel_rfl))
      (ess_cons (es_par2 (i := 1) (j := 3) rfl nd rfl rfl (by decide) rfl rfl (el_cons (ed_var (i := 3) rfl (by first | exact Or.inl rfl | exact Or.inr (Or.inl rfl) | exact Or.inr (Or.inr rfl))) (el_cons (ed_var (i := 1) rfl (by first | exact Or.inl rfl | exact Or.inr (Or.inl rfl) | exact Or.inr (Or.inr rfl))) el_nil)) (by kernel_rfl))
      (ess_one (es_set (i := 5) nd rfl (by first | exact Or.inl rfl | exact Or.inr rfl) (c_call c_least_whole thru_fn hgd (hr.mono (by first | decide | omega)) rfl (ea_cons (er_var (i := 0) rfl (by first | exact Or.inl rfl | exact Or.inr (Or.inl rfl) | exact Or.inr (Or.inr rfl))) (ea_cons (er_var (i := 1) rfl (by first | exact Or.inl rfl | exact Or.inr (Or.inl rfl) | exact Or.inr (Or.inr rfl))) (ea_cons (er_var (i := 2) rfl (by first | exact Or.inl rfl | exact Or.inr (Or.inl rfl) | exact Or.inr (Or.inr rfl))) ea_nil))) (alen1 (alen1 (alen1 alen0)))))))))))
      (ess_cons (es_par2 (i := 7) (j := 8) rfl nd rfl rfl (by decide) rfl rfl (el_cons (ed_var (i := 5) rfl (by first | exact Or.inl rfl | exact Or.inr (Or.inl rfl) | exact Or.inr (Or.inr rfl))) (el_cons ed_int el_nil)) (by kernel_rfl))
      (ess_cons (es_for own_fn rfl (ei_rev rfl (hB "reversed" (by decide)) (ed_var (i := 4) rfl (by first | exact Or.inl rfl | exact Or.inr (Or.inl rfl) | exact Or.inr (Or.inr rfl)))) (pg_name (i := 6) nd rfl (by first | exact Or.inl rfl | exact Or.inr rfl)) (ess_one (es_par2 (i := 7) (j := 8) rfl nd rfl rfl (by decide) rfl rfl (el_cons (ED.fr (eo_add (ER.of _ (ED.fr (eo_mul (er_var (i := 6) rfl (by first | exact Or.inl rfl | exact Or.inr (Or.inl rfl) | exact Or.inr (Or.inr rfl))) (er_var (i := 7) rfl (by first | exact Or.inl rfl | exact Or.inr (Or.inl rfl) | exact Or.inr (Or.inr rfl)))))) (er_var (i := 8) rfl (by first | exact Or.inl rfl | exact Or.inr (Or.inl rfl) | exact Or.inr (Or.inr rfl))))) (el_cons (ed_var (i := 7) rfl (by first | exact Or.inl rfl | exact Or.inr (Or.inl rfl) | exact Or.inr (Or.inr rfl))) el_nil)) (by kernel_rfl))))
      (ess_one (es_ret (EO.of _ (ed_tup (el_cons (ed_var (i := 7) rfl (by first | exact Or.inl rfl | exact Or.inr (Or.inl rfl) | exact Or.inr (Or.inr rfl))) (el_cons (ed_var (i := 8) rfl (by first | exact Or.inl rfl | exact Or.inr (Or.inl rfl) | exact Or.inr (Or.inr rfl))) el_nil)))))))))))

abbrev s_simplest_behind : Stmt := top 22
def N_simplest_behind : List Str := ["marks", "at", "side", "low", "_", "until", "high"]
def den_simplest_behind : S := (sSeq (sAsg 2 (.t [2, 3, 4]) (eBinD fIx (rVar 0) (rVar 1)))
    (sSeq (sIf (eT (eBinD fEqB (M.map Rf.d (eBin fAdd (rVar 1) (M.map Rf.d (eC (.int 1)))).fr) (M.map Rf.d (eFun fLenB (aCons (rVar 0) aNil))))) (sRet (eCall F_simplest (aCons (rVar 3) (aCons (M.map Rf.d (eBinD fEqB (rVar 2) (M.map Rf.d (eC (.str "at"))))) (aCons (M.map Rf.d (eC (.tup [.int 1, .int 1]))) (aCons (M.map Rf.d (eC (.bl true))) aNil)))))) sPass)
    (sSeq (sAsg 2 (.t [5, 6, 4]) (eBinD fIx (rVar 0) (M.map Rf.d (eBin fAdd (rVar 1) (M.map Rf.d (eC (.int 1)))).fr)))
    (sRet (eCall F_simplest (aCons (rVar 3) (aCons (M.map Rf.d (eBinD fEqB (rVar 2) (M.map Rf.d (eC (.str "at"))))) (aCons (rVar 6) (aCons (M.map Rf.d (eBinD fEqB (rVar 5) (M.map Rf.d (eC (.str "above"))))) aNil)))))))))
def F_simplest_behind : Fx := defF 7 den_simplest_behind
theorem sc_simplest_behind : FnScope N_simplest_behind ["marks", "at"] (defScope s_simplest_behind) := ⟨rfl, rfl, rfl, by decide +kernel, rfl, by decide +kernel, by decide +kernel⟩
theorem ok_simplest_behind {f : Addr} {fd : FuncData} (F : L2.Fun T.K "simplest_behind" "simplest_behind" s_simplest_behind f fd) (Y : Env2 T) (c_simplest : Cal T 2 4 "_simplest" F_simplest) : FnS T.P T.w T.K T.mg T.base (L2.CX T.P T.w) (2 + 1) f fd ["marks", "at"] (spF ⟨T.K, T.cl, T.P, T.w⟩ 2 F_simplest_behind) := by
  obtain ⟨hB, hS, hX, hO, hGcd, hC_LONGEST_NAME, hC_NOTHING, hC_ALL⟩ := Y
  have nd := sc_simplest_behind.nd
  refine def_ok (k := 2) (N := N_simplest_behind) (den := den_simplest_behind) F sc_simplest_behind rfl fun cdv A outer s H E hgd hr => ?_
  have hu := hr.units
  have hu65 := Fn.units65 hr
  have hu1 := Nat.lt_of_le_of_lt (Nat.add_le_add_left (by decide : 1 ≤ 64) _) hu
  exact (ess_cons (es_asg (ed_ix (er_var (i := 0) rfl (by first | exact Or.inl rfl | exact Or.inr (Or.inl rfl) | exact Or.inr (Or.inr rfl))) (er_var (i := 1) rfl (by first | exact Or.inl rfl | exact Or.inr (Or.inl rfl) | exact Or.inr (Or.inr rfl))) (fun _ _ => rfl)) (pg_tup rfl (pgs_cons (pg_name (i := 2) nd rfl (by first | exact Or.inl rfl | exact Or.inr rfl)) (pgs_cons (pg_name (i := 3) nd rfl (by first | exact Or.inl rfl | exact Or.inr rfl)) (pgs_cons (pg_name (i := 4) nd rfl (by first | exact Or.inl rfl | exact Or.inr rfl)) pgs_nil)))))
      (ess_cons (es_if (tB_eq hS hu (nomark _) (ER.of _ (ED.fr (eo_add (er_var (i := 1) rfl (by first | exact Or.inl rfl | exact Or.inr (Or.inl rfl) | exact Or.inr (Or.inr rfl))) (ER.of _ ed_int)))) (ER.of _ (c_lenB rfl (hB "len" (by decide)) (ea_cons (er_var (i := 0) rfl (by first | exact Or.inl rfl | exact Or.inr (Or.inl rfl) | exact Or.inr (Or.inr rfl))) ea_nil)))) (ess_one (es_ret (c_call c_simplest thru_fn hgd (hr.mono (by first | decide | omega)) rfl (ea_cons (er_var (i := 3) rfl (by first | exact Or.inl rfl | exact Or.inr (Or.inl rfl) | exact Or.inr (Or.inr rfl))) (ea_cons (ER.of _ (cB_eq hS hu (nomark _) (er_var (i := 2) rfl (by first | exact Or.inl rfl | exact Or.inr (Or.inl rfl) | exact Or.inr (Or.inr rfl))) (ER.of _ ed_str))) (ea_cons (ER.of _ (ed_conT hC_ALL rfl)) (ea_cons (ER.of _ ed_bl) ea_nil)))) (alen1 (alen1 (alen1 (alen1 alen0))))))) ess_nil)
      (ess_cons (es_asg (ed_ix (er_var (i := 0) rfl (by first | exact Or.inl rfl | exact Or.inr (Or.inl rfl) | exact Or.inr (Or.inr rfl))) (ER.of _ (ED.fr (eo_add (er_var (i := 1) rfl (by first | exact Or.inl rfl | exact Or.inr (Or.inl rfl) | exact Or.inr (Or.inr rfl))) (ER.of _ ed_int)))) (fun _ _ => rfl)) (pg_tup rfl (pgs_cons (pg_name (i := 5) nd rfl (by first | exact Or.inl rfl | exact Or.inr rfl)) (pgs_cons (pg_name (i := 6) nd rfl (by first | exact Or.inl rfl | exact Or.inr rfl)) (pgs_cons (pg_name (i := 4) nd rfl (by first | exact Or.inl rfl | exact Or.inr rfl)) pgs_nil)))))
      (ess_one (es_ret (c_call c_simplest thru_fn hgd (hr.mono (by first | decide | omega)) rfl (ea_cons (er_var (i := 3) rfl (by first | exact Or.inl rfl | exact Or.inr (Or.inl rfl) | exact Or.inr (Or.inr rfl))) (ea_cons (ER.of _ (cB_eq hS hu (nomark _) (er_var (i := 2) rfl (by first | exact Or.inl rfl | exact Or.inr (Or.inl rfl) | exact Or.inr (Or.inr rfl))) (ER.of _ ed_str))) (ea_cons (er_var (i := 6) rfl (by first | exact Or.inl rfl | exact Or.inr (Or.inl rfl) | exact Or.inr (Or.inr rfl))) (ea_cons (ER.of _ (cB_eq hS hu (nomark _) (er_var (i := 5) rfl (by first | exact Or.inl rfl | exact Or.inr (Or.inl rfl) | exact Or.inr (Or.inr rfl))) (ER.of _ ed_str))) ea_nil)))) (alen1 (alen1 (alen1 (alen1 alen0))))))))))

abbrev s_first_apart : Stmt := top 15
def N_first_apart : List Str := ["first", "second", "both", "apart", "at", "ranked", "share"]
def den_first_apart : S := (sSeq (sDrop (eCall F_need_form (aCons (rVar 0) aNil)).fr)
    (sSeq (sDrop (eCall F_need_form (aCons (rVar 1) aNil)).fr)
    (sSeq (sSet 2 2 (eCall F_side_by_side (aCons (M.map Rf.d (eCall F_marks_of (aCons (rVar 0) aNil)).fr) (aCons (M.map Rf.d (eCall F_marks_of (aCons (rVar 1) aNil)).fr) aNil))))
    (sSeq (sSet 2 3 (eComp [4] (.n 4) (iRange1 (aCons (M.map Rf.d (eFun fLenB (aCons (rVar 2) aNil))) aNil)) (eT (eBinD fNeB (M.map Rf.d (eBinD fIx (M.map Rf.d (eBinD fIx (M.map Rf.d (eBinD fIx (rVar 2) (rVar 4))) (M.map Rf.d (eC (.int 2))))) (M.map Rf.d (eC (.int 0))))) (M.map Rf.d (eBinD fIx (M.map Rf.d (eBinD fIx (M.map Rf.d (eBinD fIx (rVar 2) (rVar 4))) (M.map Rf.d (eC (.int 2))))) (M.map Rf.d (eC (.int 1))))))) (eCall F_simplest_behind (aCons (rVar 2) (aCons (rVar 4) aNil))).fr))
    (sSeq (sSet 2 5 (eFunO fSorted (aCons (M.map Rf.d (eComp [6] (.n 6) (iAll (eVar 3)) mYes (eTup (lCons (eBinD fIx (rVar 6) (M.map Rf.d (eC (.int 1)))) (lCons (eBinD fIx (rVar 6) (M.map Rf.d (eC (.int 0)))) lNil)))).fr) aNil)))
    (sRet (M.map O.dat (eIf (eTru (rVar 5)) (eTup (lCons (eBinD fIx (M.map Rf.d (eBinD fIx (rVar 5) (M.map Rf.d (eC (.int 0))))) (M.map Rf.d (eC (.int 1)))) (lCons (eBinD fIx (M.map Rf.d (eBinD fIx (rVar 5) (M.map Rf.d (eC (.int 0))))) (M.map Rf.d (eC (.int 0)))) lNil))) (eC .non)))))))))
def F_first_apart : Fx := defF 7 den_first_apart
theorem sc_first_apart : FnScope N_first_apart ["first", "second"] (defScope s_first_apart) := ⟨rfl, rfl, rfl, by decide +kernel, rfl, by decide +kernel, by decide +kernel⟩
theorem ok_first_apart {f : Addr} {fd : FuncData} (F : L2.Fun T.K "first_apart" "first_apart" s_first_apart f fd) (Y : Env2 T) (c_need_form : Cal T 12 1 "need_form" F_need_form) (c_side_by_side : Cal T 3 2 "_side_by_side" F_side_by_side) (c_marks_of : Cal T 7 1 "marks_of" F_marks_of) (c_simplest_behind : Cal T 3 2 "simplest_behind" F_simplest_behind) : FnS T.P T.w T.K T.mg T.base (L2.CX T.P T.w) (12 + 1) f fd ["first", "second"] (spF ⟨T.K, T.cl, T.P, T.w⟩ 2 F_first_apart) := by
  obtain ⟨hB, hS, hX, hO, hGcd, hC_LONGEST_NAME, hC_NOTHING, hC_ALL⟩ := Y
  have nd := sc_first_apart.nd
  refine def_ok (k := 12) (N := N_first_apart) (den := den_first_apart) F sc_first_apart rfl fun cdv A outer s H E hgd hr => ?_
  have hu := hr.units
  have hu65 := Fn.units65 hr
  have hu1 := Nat.lt_of_le_of_lt (Nat.add_le_add_left (by decide : 1 ≤ 64) _) hu
  exact (ess_cons (es_drop (ED.fr (c_call c_need_form thru_fn hgd (hr.mono (by first | decide | omega)) rfl (ea_cons (er_var (i := 0) rfl (by first | exact Or.inl rfl | exact Or.inr (Or.inl rfl) | exact Or.inr (Or.inr rfl))) ea_nil) (alen1 alen0))))
      (ess_cons (es_drop (ED.fr (c_call c_need_form thru_fn hgd (hr.mono (by first | decide | omega)) rfl (ea_cons (er_var (i := 1) rfl (by first | exact Or.inl rfl | exact Or.inr (Or.inl rfl) | exact Or.inr (Or.inr rfl))) ea_nil) (alen1 alen0))))
      (ess_cons (es_set (i := 2) nd rfl (by first | exact Or.inl rfl | exact Or.inr rfl) (c_call c_side_by_side thru_fn hgd (hr.mono (by first | decide | omega)) rfl (ea_cons (ER.of _ (ED.fr (c_call c_marks_of thru_fn hgd (hr.mono (by first | decide | omega)) rfl (ea_cons (er_var (i := 0) rfl (by first | exact Or.inl rfl | exact Or.inr (Or.inl rfl) | exact Or.inr (Or.inr rfl))) ea_nil) (alen1 alen0)))) (ea_cons (ER.of _ (ED.fr (c_call c_marks_of thru_fn hgd (hr.mono (by first | decide | omega)) rfl (ea_cons (er_var (i := 1) rfl (by first | exact Or.inl rfl | exact Or.inr (Or.inl rfl) | exact Or.inr (Or.inr rfl))) ea_nil) (alen1 alen0)))) ea_nil)) (alen1 (alen1 alen0))))
      (ess_cons (es_setLc (i := 3) (own := [("at", 4)]) rfl nd rfl rfl (sw_true rfl rfl rfl (by decide +kernel)) (ei_range1 rfl (hB "range" (by decide)) (ea_cons (ER.of _ (c_lenB rfl (hB "len" (by decide)) (ea_cons (er_var (i := 2) rfl (by first | exact Or.inl rfl | exact Or.inr (Or.inl rfl) | exact Or.inr (Or.inr rfl))) ea_nil))) ea_nil)) (blkOk_by (by kernel_rfl)) (fun _ _ _ _ _ => (pg_name (i := 4) nd rfl (by first | exact Or.inl rfl | exact Or.inr rfl))) (fun _ _ _ _ _ => (ets_one (tB_ne hS hu (nomark _) (ER.of _ (ed_ix (ER.of _ (ed_ix (ER.of _ (ed_ix (er_var (i := 2) rfl (by first | exact Or.inl rfl | exact Or.inr (Or.inl rfl) | exact Or.inr (Or.inr rfl))) (er_var (i := 4) rfl (by first | exact Or.inl rfl | exact Or.inr (Or.inl rfl) | exact Or.inr (Or.inr rfl))) (fun _ _ => rfl))) (ER.of _ ed_int) (fun _ _ => rfl))) (ER.of _ ed_int) (fun _ _ => rfl))) (ER.of _ (ed_ix (ER.of _ (ed_ix (ER.of _ (ed_ix (er_var (i := 2) rfl (by first | exact Or.inl rfl | exact Or.inr (Or.inl rfl) | exact Or.inr (Or.inr rfl))) (er_var (i := 4) rfl (by first | exact Or.inl rfl | exact Or.inr (Or.inl rfl) | exact Or.inr (Or.inr rfl))) (fun _ _ => rfl))) (ER.of _ ed_int) (fun _ _ => rfl))) (ER.of _ ed_int) (fun _ _ => rfl)))))) (fun _ _ _ _ _ => (ED.fr (c_call c_simplest_behind thru_blk hgd (hr.mono (by first | decide | omega)) rfl (ea_cons (er_var (i := 2) rfl (by first | exact Or.inl rfl | exact Or.inr (Or.inl rfl) | exact Or.inr (Or.inr rfl))) (ea_cons (er_var (i := 4) rfl (by first | exact Or.inl rfl | exact Or.inr (Or.inl rfl) | exact Or.inr (Or.inr rfl))) ea_nil)) (alen1 (alen1 alen0))))) (by decide))
      (ess_cons (es_set (i := 5) nd rfl (by first | exact Or.inl rfl | exact Or.inr rfl) (c_sorted hS hu rfl (hB "sorted" (by decide)) (ea_cons (ER.of _ (ED.fr (eo_comp (own := [("share", 6)]) rfl nd (ei_all (ed_var (i := 3) rfl (by first | exact Or.inl rfl | exact Or.inr (Or.inl rfl) | exact Or.inr (Or.inr rfl)))) (blkOk_by (by kernel_rfl)) (fun _ _ _ _ _ => (pg_name (i := 6) nd rfl (by first | exact Or.inl rfl | exact Or.inr rfl))) (fun _ _ _ _ _ => ets_nil) (fun _ _ _ _ _ => (ed_tup (el_cons (ed_ix (er_var (i := 6) rfl (by first | exact Or.inl rfl | exact Or.inr (Or.inl rfl) | exact Or.inr (Or.inr rfl))) (ER.of _ ed_int) (fun _ _ => rfl)) (el_cons (ed_ix (er_var (i := 6) rfl (by first | exact Or.inl rfl | exact Or.inr (Or.inl rfl) | exact Or.inr (Or.inr rfl))) (ER.of _ ed_int) (fun _ _ => rfl)) el_nil)))) (by decide)))) ea_nil)))
      (ess_one (es_ret (EO.of _ (ex_if rD_back (et_tru (er_var (i := 5) rfl (by first | exact Or.inl rfl | exact Or.inr (Or.inl rfl) | exact Or.inr (Or.inr rfl)))) (ed_tup (el_cons (ed_ix (ER.of _ (ed_ix (er_var (i := 5) rfl (by first | exact Or.inl rfl | exact Or.inr (Or.inl rfl) | exact Or.inr (Or.inr rfl))) (ER.of _ ed_int) (fun _ _ => rfl))) (ER.of _ ed_int) (fun _ _ => rfl)) (el_cons (ed_ix (ER.of _ (ed_ix (er_var (i := 5) rfl (by first | exact Or.inl rfl | exact Or.inr (Or.inl rfl) | exact Or.inr (Or.inr rfl))) (ER.of _ ed_int) (fun _ _ => rfl))) (ER.of _ ed_int) (fun _ _ => rfl)) el_nil))) ed_non)))))))))

abbrev s_starts : Stmt := top 13
def N_starts : List Str := ["form"]
def den_starts : S := (sSeq (sDrop (eCall F_need_form (aCons (rVar 0) aNil)).fr)
    (sRet (eCall F_marks_of (aCons (rVar 0) aNil))))
def F_starts : Fx := defF 1 den_starts
theorem sc_starts : FnScope N_starts ["form"] (defScope s_starts) := ⟨rfl, rfl, rfl, by decide +kernel, rfl, by decide +kernel, by decide +kernel⟩
theorem ok_starts {f : Addr} {fd : FuncData} (F : L2.Fun T.K "starts" "starts" s_starts f fd) (Y : Env2 T) (c_need_form : Cal T 12 1 "need_form" F_need_form) (c_marks_of : Cal T 7 1 "marks_of" F_marks_of) : FnS T.P T.w T.K T.mg T.base (L2.CX T.P T.w) (12 + 1) f fd ["form"] (spF ⟨T.K, T.cl, T.P, T.w⟩ 1 F_starts) := by
  obtain ⟨hB, hS, hX, hO, hGcd, hC_LONGEST_NAME, hC_NOTHING, hC_ALL⟩ := Y
  have nd := sc_starts.nd
  refine def_ok (k := 12) (N := N_starts) (den := den_starts) F sc_starts rfl fun cdv A outer s H E hgd hr => ?_
  have hu := hr.units
  have hu65 := Fn.units65 hr
  have hu1 := Nat.lt_of_le_of_lt (Nat.add_le_add_left (by decide : 1 ≤ 64) _) hu
  exact (ess_cons (es_drop (ED.fr (c_call c_need_form thru_fn hgd (hr.mono (by first | decide | omega)) rfl (ea_cons (er_var (i := 0) rfl (by first | exact Or.inl rfl | exact Or.inr (Or.inl rfl) | exact Or.inr (Or.inr rfl))) ea_nil) (alen1 alen0))))
      (ess_one (es_ret (c_call c_marks_of thru_fn hgd (hr.mono (by first | decide | omega)) rfl (ea_cons (er_var (i := 0) rfl (by first | exact Or.inl rfl | exact Or.inr (Or.inl rfl) | exact Or.inr (Or.inr rfl))) ea_nil) (alen1 alen0)))))

abbrev s_break_of : Stmt := top 35
def N_break_of : List Str := ["form", "marks", "told", "_", "word", "at", "first", "place"]
def den_break_of : S := (sSeq (sSet 1 1 (eCall F_starts (aCons (rVar 0) aNil)))
    (sSeq (sSet 1 2 (eComp [3, 4] (.t [3, 3, 4]) (iAll (eVar 1)) mYes (eVar 4)))
    (sSeq (sFor 1 (.t [5, 4]) (iEnu (lCons (eVar 2) lNil)) (sSeq (sSet 1 6 (M.map O.dat (eIndex (rVar 2) (eVar 4))))
    (sIf (eT (eBinD fLt (rVar 6) (rVar 5))) (sRet (eFunO fTuple (aCons (M.map Rf.d (eComp [7] (.n 7) (iAll (eTup (lCons (eVar 6) (lCons (eBinD fSub (rVar 5) (M.map Rf.d (eC (.int 1)))) (lCons (eVar 5) lNil))))) mYes (eCall F_simplest_behind (aCons (rVar 1) (aCons (rVar 7) aNil))).fr).fr) aNil))) sPass)))
    (sRet (M.map O.dat (eC .non))))))
def F_break_of : Fx := defF 8 den_break_of
theorem sc_break_of : FnScope N_break_of ["form"] (defScope s_break_of) := ⟨rfl, rfl, rfl, by decide +kernel, rfl, by decide +kernel, by decide +kernel⟩
theorem ok_break_of {f : Addr} {fd : FuncData} (F : L2.Fun T.K "break_of" "break_of" s_break_of f fd) (Y : Env2 T) (c_starts : Cal T 13 1 "starts" F_starts) (c_simplest_behind : Cal T 3 2 "simplest_behind" F_simplest_behind) : FnS T.P T.w T.K T.mg T.base (L2.CX T.P T.w) (13 + 1) f fd ["form"] (spF ⟨T.K, T.cl, T.P, T.w⟩ 1 F_break_of) := by
  obtain ⟨hB, hS, hX, hO, hGcd, hC_LONGEST_NAME, hC_NOTHING, hC_ALL⟩ := Y
  have nd := sc_break_of.nd
  refine def_ok (k := 13) (N := N_break_of) (den := den_break_of) F sc_break_of rfl fun cdv A outer s H E hgd hr => ?_
  have hu := hr.units
  have hu65 := Fn.units65 hr
  have hu1 := Nat.lt_of_le_of_lt (Nat.add_le_add_left (by decide : 1 ≤ 64) _) hu
  exact (ess_cons (es_set (i := 1) nd rfl (by first | exact Or.inl rfl | exact Or.inr rfl) (c_call c_starts thru_fn hgd (hr.mono (by first | decide | omega)) rfl (ea_cons (er_var (i := 0) rfl (by first | exact Or.inl rfl | exact Or.inr (Or.inl rfl) | exact Or.inr (Or.inr rfl))) ea_nil) (alen1 alen0)))
      (ess_cons (es_setLc (i := 2) (own := [("_", 3), ("word", 4)]) rfl nd rfl rfl (sw_true rfl rfl rfl (by decide +kernel)) (ei_all (ed_var (i := 1) rfl (by first | exact Or.inl rfl | exact Or.inr (Or.inl rfl) | exact Or.inr (Or.inr rfl)))) (blkOk_by (by kernel_rfl)) (fun _ _ _ _ _ => (pg_tup rfl (pgs_cons (pg_name (i := 3) nd rfl (by first | exact Or.inl rfl | exact Or.inr rfl)) (pgs_cons (pg_name (i := 3) nd rfl (by first | exact Or.inl rfl | exact Or.inr rfl)) (pgs_cons (pg_name (i := 4) nd rfl (by first | exact Or.inl rfl | exact Or.inr rfl)) pgs_nil))))) (fun _ _ _ _ _ => ets_nil) (fun _ _ _ _ _ => (ed_var (i := 4) rfl (by first | exact Or.inl rfl | exact Or.inr (Or.inl rfl) | exact Or.inr (Or.inr rfl)))) (by decide))
      (ess_cons (es_for own_fn rfl (ei_enu rfl (hB "enumerate" (by decide)) (el_cons (ed_var (i := 2) rfl (by first | exact Or.inl rfl | exact Or.inr (Or.inl rfl) | exact Or.inr (Or.inr rfl))) el_nil)) (pg_tup rfl (pgs_cons (pg_name (i := 5) nd rfl (by first | exact Or.inl rfl | exact Or.inr rfl)) (pgs_cons (pg_name (i := 4) nd rfl (by first | exact Or.inl rfl | exact Or.inr rfl)) pgs_nil))) (ess_cons (es_set (i := 6) nd rfl (by first | exact Or.inl rfl | exact Or.inr rfl) (EO.of _ (ed_index hS hu65 (er_var (i := 2) rfl (by first | exact Or.inl rfl | exact Or.inr (Or.inl rfl) | exact Or.inr (Or.inr rfl))) (ed_var (i := 4) rfl (by first | exact Or.inl rfl | exact Or.inr (Or.inl rfl) | exact Or.inr (Or.inr rfl))))))
      (ess_one (es_if (t_lt (nomark _) (er_var (i := 6) rfl (by first | exact Or.inl rfl | exact Or.inr (Or.inl rfl) | exact Or.inr (Or.inr rfl))) (er_var (i := 5) rfl (by first | exact Or.inl rfl | exact Or.inr (Or.inl rfl) | exact Or.inr (Or.inr rfl)))) (ess_one (es_ret (c_tuple rfl (hB "tuple" (by decide)) (ea_cons (ER.of _ (ED.fr (eo_comp (own := [("place", 7)]) rfl nd (ei_all (ed_tup (el_cons (ed_var (i := 6) rfl (by first | exact Or.inl rfl | exact Or.inr (Or.inl rfl) | exact Or.inr (Or.inr rfl))) (el_cons (ed_sub (er_var (i := 5) rfl (by first | exact Or.inl rfl | exact Or.inr (Or.inl rfl) | exact Or.inr (Or.inr rfl))) (ER.of _ ed_int)) (el_cons (ed_var (i := 5) rfl (by first | exact Or.inl rfl | exact Or.inr (Or.inl rfl) | exact Or.inr (Or.inr rfl))) el_nil))))) (blkOk_by (by kernel_rfl)) (fun _ _ _ _ _ => (pg_name (i := 7) nd rfl (by first | exact Or.inl rfl | exact Or.inr rfl))) (fun _ _ _ _ _ => ets_nil) (fun _ _ _ _ _ => (ED.fr (c_call c_simplest_behind thru_blk hgd (hr.mono (by first | decide | omega)) rfl (ea_cons (er_var (i := 1) rfl (by first | exact Or.inl rfl | exact Or.inr (Or.inl rfl) | exact Or.inr (Or.inr rfl))) (ea_cons (er_var (i := 7) rfl (by first | exact Or.inl rfl | exact Or.inr (Or.inl rfl) | exact Or.inr (Or.inr rfl))) ea_nil)) (alen1 (alen1 alen0))))) (by decide)))) ea_nil)))) ess_nil))))
      (ess_one (es_ret (EO.of _ ed_non))))))

abbrev s_keeps_always : Stmt := top 34
def N_keeps_always : List Str := ["form"]
def den_keeps_always : S := (sRet (M.map O.dat (eBinD (fIs id) (M.map Rf.d (eCall F_break_of (aCons (rVar 0) aNil)).fr) (M.map Rf.d (eC .non)))))
def F_keeps_always : Fx := defF 1 den_keeps_always
theorem sc_keeps_always : FnScope N_keeps_always ["form"] (defScope s_keeps_always) := ⟨rfl, rfl, rfl, by decide +kernel, rfl, by decide +kernel, by decide +kernel⟩
theorem ok_keeps_always {f : Addr} {fd : FuncData} (F : L2.Fun T.K "keeps_always" "keeps_always" s_keeps_always f fd) (Y : Env2 T) (c_break_of : Cal T 14 1 "break_of" F_break_of) : FnS T.P T.w T.K T.mg T.base (L2.CX T.P T.w) (14 + 1) f fd ["form"] (spF ⟨T.K, T.cl, T.P, T.w⟩ 1 F_keeps_always) := by
  obtain ⟨hB, hS, hX, hO, hGcd, hC_LONGEST_NAME, hC_NOTHING, hC_ALL⟩ := Y
  have nd := sc_keeps_always.nd
  refine def_ok (k := 14) (N := N_keeps_always) (den := den_keeps_always) F sc_keeps_always rfl fun cdv A outer s H E hgd hr => ?_
  have hu := hr.units
  have hu65 := Fn.units65 hr
  have hu1 := Nat.lt_of_le_of_lt (Nat.add_le_add_left (by decide : 1 ≤ 64) _) hu
  exact (ess_one (es_ret (EO.of _ (c_is (nomark _) (ER.of _ (ED.fr (c_call c_break_of thru_fn hgd (hr.mono (by first | decide | omega)) rfl (ea_cons (er_var (i := 0) rfl (by first | exact Or.inl rfl | exact Or.inr (Or.inl rfl) | exact Or.inr (Or.inr rfl))) ea_nil) (alen1 alen0)))) (ER.of _ ed_non)))))

abbrev s_are_three_ascending : Stmt := top 18
def N_are_three_ascending : List Str := ["value", "share"]
def den_are_three_ascending : S := (sSeq (sIf (mOr (mNot (eTru (M.map Rf.d (eIsi (subTy "tuple") (rVar 0))))) (mOr (eT (eBinD fNeB (M.map Rf.d (eFun fLenB (aCons (rVar 0) aNil))) (M.map Rf.d (eC (.int 3))))) (mNot (eTru (M.map Rf.d (eFun fAll (aCons (M.map Rf.d (eComp [1] (.n 1) (iAll (eVar 0)) mYes (eCall F_is_share (aCons (rVar 1) aNil)).fr).fr) aNil))))))) (sRet (M.map O.dat (eC (.bl false)))) sPass)
    (sRet (M.map O.dat (vAnd (eCall F_is_less (aCons (M.map Rf.d (eBinD fIx (rVar 0) (M.map Rf.d (eC (.int 0))))) (aCons (M.map Rf.d (eBinD fIx (rVar 0) (M.map Rf.d (eC (.int 1))))) aNil))).fr (eCall F_is_less (aCons (M.map Rf.d (eBinD fIx (rVar 0) (M.map Rf.d (eC (.int 1))))) (aCons (M.map Rf.d (eBinD fIx (rVar 0) (M.map Rf.d (eC (.int 2))))) aNil))).fr))))
def F_are_three_ascending : Fx := defF 2 den_are_three_ascending
theorem sc_are_three_ascending : FnScope N_are_three_ascending ["value"] (defScope s_are_three_ascending) := ⟨rfl, rfl, rfl, by decide +kernel, rfl, by decide +kernel, by decide +kernel⟩
theorem ok_are_three_ascending {f : Addr} {fd : FuncData} (F : L2.Fun T.K "are_three_ascending" "are_three_ascending" s_are_three_ascending f fd) (Y : Env2 T) (c_is_share : Cal T 2 1 "is_share" F_is_share) (c_is_less : Cal T 1 2 "is_less" F_is_less) : FnS T.P T.w T.K T.mg T.base (L2.CX T.P T.w) (2 + 1) f fd ["value"] (spF ⟨T.K, T.cl, T.P, T.w⟩ 1 F_are_three_ascending) := by
  obtain ⟨hB, hS, hX, hO, hGcd, hC_LONGEST_NAME, hC_NOTHING, hC_ALL⟩ := Y
  have nd := sc_are_three_ascending.nd
  refine def_ok (k := 2) (N := N_are_three_ascending) (den := den_are_three_ascending) F sc_are_three_ascending rfl fun cdv A outer s H E hgd hr => ?_
  have hu := hr.units
  have hu65 := Fn.units65 hr
  have hu1 := Nat.lt_of_le_of_lt (Nat.add_le_add_left (by decide : 1 ≤ 64) _) hu
  exact (ess_cons (es_if (et_w (ew_or (et_not (et_tru (ER.of _ (c_isi (.ty "tuple" (hB "tuple" (by decide)) (by decide +kernel) (by decide) sub_tuple) hX (er_var (i := 0) rfl (by first | exact Or.inl rfl | exact Or.inr (Or.inl rfl) | exact Or.inr (Or.inr rfl))) rfl (hB "isinstance" (by decide)) rfl)))) (ew_or (tB_ne hS hu (nomark _) (ER.of _ (c_lenB rfl (hB "len" (by decide)) (ea_cons (er_var (i := 0) rfl (by first | exact Or.inl rfl | exact Or.inr (Or.inl rfl) | exact Or.inr (Or.inr rfl))) ea_nil))) (ER.of _ ed_int)) (ew_or1 (et_not (et_tru (ER.of _ (c_all rfl rfl (hB "all" (by decide)) (ea_cons (ER.of _ (ED.fr (eo_comp (own := [("share", 1)]) rfl nd (ei_all (ed_var (i := 0) rfl (by first | exact Or.inl rfl | exact Or.inr (Or.inl rfl) | exact Or.inr (Or.inr rfl)))) (blkOk_by (by kernel_rfl)) (fun _ _ _ _ _ => (pg_name (i := 1) nd rfl (by first | exact Or.inl rfl | exact Or.inr rfl))) (fun _ _ _ _ _ => ets_nil) (fun _ _ _ _ _ => (ED.fr (c_call c_is_share thru_blk hgd (hr.mono (by first | decide | omega)) rfl (ea_cons (er_var (i := 1) rfl (by first | exact Or.inl rfl | exact Or.inr (Or.inl rfl) | exact Or.inr (Or.inr rfl))) ea_nil) (alen1 alen0)))) (by decide)))) ea_nil))))))))) (ess_one (es_ret (EO.of _ ed_bl))) ess_nil)
      (ess_one (es_ret (EO.of _ (ed_and (ED.fr (c_call c_is_less thru_fn hgd (hr.mono (by first | decide | omega)) rfl (ea_cons (ER.of _ (ed_ix (er_var (i := 0) rfl (by first | exact Or.inl rfl | exact Or.inr (Or.inl rfl) | exact Or.inr (Or.inr rfl))) (ER.of _ ed_int) (fun _ _ => rfl))) (ea_cons (ER.of _ (ed_ix (er_var (i := 0) rfl (by first | exact Or.inl rfl | exact Or.inr (Or.inl rfl) | exact Or.inr (Or.inr rfl))) (ER.of _ ed_int) (fun _ _ => rfl))) ea_nil)) (alen1 (alen1 alen0)))) (ed_one (ED.fr (c_call c_is_less thru_fn hgd (hr.mono (by first | decide | omega)) rfl (ea_cons (ER.of _ (ed_ix (er_var (i := 0) rfl (by first | exact Or.inl rfl | exact Or.inr (Or.inl rfl) | exact Or.inr (Or.inr rfl))) (ER.of _ ed_int) (fun _ _ => rfl))) (ea_cons (ER.of _ (ed_ix (er_var (i := 0) rfl (by first | exact Or.inl rfl | exact Or.inr (Or.inl rfl) | exact Or.inr (Or.inr rfl))) (ER.of _ ed_int) (fun _ _ => rfl))) ea_nil)) (alen1 (alen1 alen0))))))))))

abbrev s_word_at : Stmt := top 19
def N_word_at : List Str := ["form", "share", "word", "side", "start", "behind"]
def den_word_at (R : Fx) : S := (sSeq (sIf (eT (eBinD fEqB (M.map Rf.d (eBinD fIx (rVar 0) (M.map Rf.d (eC (.int 0))))) (M.map Rf.d (eC (.str "pair"))))) (sRet (M.map O.dat (eTup (lCons (eCall R (aCons (M.map Rf.d (eBinD fIx (rVar 0) (M.map Rf.d (eC (.int 1))))) (aCons (rVar 1) aNil))).fr (lCons (eCall R (aCons (M.map Rf.d (eBinD fIx (rVar 0) (M.map Rf.d (eC (.int 2))))) (aCons (rVar 1) aNil))).fr lNil))))) sPass)
    (sSeq (sIf (eT (eBinD fEqB (M.map Rf.d (eBinD fIx (rVar 0) (M.map Rf.d (eC (.int 0))))) (M.map Rf.d (eC (.str "read"))))) (sRet (eCall F_read (aCons (M.map Rf.d (eBinD fIx (rVar 0) (M.map Rf.d (eC (.int 2))))) (aCons (M.map Rf.d (eCall R (aCons (M.map Rf.d (eBinD fIx (rVar 0) (M.map Rf.d (eC (.int 1))))) (aCons (rVar 1) aNil))).fr) aNil)))) sPass)
    (sSeq (sSet 2 2 (M.map O.dat (eBinD fIx (rVar 0) (M.map Rf.d (eC (.int 1))))))
    (sSeq (sFor 2 (.t [3, 4, 5]) (iAll (eBinD fIx (rVar 0) (M.map Rf.d (eC (.int 2))))) (sIf (mOr (eTru (M.map Rf.d (eCall F_is_less (aCons (rVar 4) (aCons (rVar 1) aNil))).fr)) (mAnd (eT (eBinD fEqB (rVar 3) (M.map Rf.d (eC (.str "at"))))) (eT (eBinD fEqB (rVar 4) (rVar 1))))) (sSet 2 2 (M.map O.dat (eVar 5))) sPass))
    (sRet (M.map O.dat (eVar 2)))))))
def FR_word_at : Nat → Fx
  | 0 => fun _ => none
  | n + 1 => defF 6 (den_word_at (FR_word_at n))
def F_word_at : Fx := FR_word_at 3
theorem sc_word_at : FnScope N_word_at ["form", "share"] (defScope s_word_at) := ⟨rfl, rfl, rfl, by decide +kernel, rfl, by decide +kernel, by decide +kernel⟩
theorem ok_word_at {f : Addr} {fd : FuncData} (F : L2.Fun T.K "word_at" "word_at" s_word_at f fd) (Y : Env2 T) (c_read : Cal T 1 2 "_read" F_read) (c_is_less : Cal T 1 2 "is_less" F_is_less) (m : Nat) (R : Fx) (c_word_at : Cal T (2 + m) 2 "word_at" R) : FnS T.P T.w T.K T.mg T.base (L2.CX T.P T.w) (2 + m + 1) f fd ["form", "share"] (spF ⟨T.K, T.cl, T.P, T.w⟩ 2 (defF 6 (den_word_at R))) := by
  obtain ⟨hB, hS, hX, hO, hGcd, hC_LONGEST_NAME, hC_NOTHING, hC_ALL⟩ := Y
  have nd := sc_word_at.nd
  refine def_ok (k := 2 + m) (N := N_word_at) (den := (den_word_at R)) F sc_word_at rfl fun cdv A outer s H E hgd hr => ?_
  have hu := hr.units
  have hu65 := Fn.units65 hr
  have hu1 := Nat.lt_of_le_of_lt (Nat.add_le_add_left (by decide : 1 ≤ 64) _) hu
  exact (ess_cons (es_if (tB_eq hS hu (nomark _) (ER.of _ (ed_ix (er_var (i := 0) rfl (by first | exact Or.inl rfl | exact Or.inr (Or.inl rfl) | exact Or.inr (Or.inr rfl))) (ER.of _ ed_int) (fun _ _ => rfl))) (ER.of _ ed_str)) (ess_one (es_ret (EO.of _ (ed_tup (el_cons (ED.fr (c_call c_word_at thru_fn hgd (hr.mono (by first | decide | omega)) rfl (ea_cons (ER.of _ (ed_ix (er_var (i := 0) rfl (by first | exact Or.inl rfl | exact Or.inr (Or.inl rfl) | exact Or.inr (Or.inr rfl))) (ER.of _ ed_int) (fun _ _ => rfl))) (ea_cons (er_var (i := 1) rfl (by first | exact Or.inl rfl | exact Or.inr (Or.inl rfl) | exact Or.inr (Or.inr rfl))) ea_nil)) (alen1 (alen1 alen0)))) (el_cons (ED.fr (c_call c_word_at thru_fn hgd (hr.mono (by first | decide | omega)) rfl (ea_cons (ER.of _ (ed_ix (er_var (i := 0) rfl (by first | exact Or.inl rfl | exact Or.inr (Or.inl rfl) | exact Or.inr (Or.inr rfl))) (ER.of _ ed_int) (fun _ _ => rfl))) (ea_cons (er_var (i := 1) rfl (by first | exact Or.inl rfl | exact Or.inr (Or.inl rfl) | exact Or.inr (Or.inr rfl))) ea_nil)) (alen1 (alen1 alen0)))) el_nil)))))) ess_nil)
      (ess_cons (es_if (tB_eq hS hu (nomark _) (ER.of _ (ed_ix (er_var (i := 0) rfl (by first | exact Or.inl rfl | exact Or.inr (Or.inl rfl) | exact Or.inr (Or.inr rfl))) (ER.of _ ed_int) (fun _ _ => rfl))) (ER.of _ ed_str)) (ess_one (es_ret (c_call c_read thru_fn hgd (hr.mono (by first | decide | omega)) rfl (ea_cons (ER.of _ (ed_ix (er_var (i := 0) rfl (by first | exact Or.inl rfl | exact Or.inr (Or.inl rfl) | exact Or.inr (Or.inr rfl))) (ER.of _ ed_int) (fun _ _ => rfl))) (ea_cons (ER.of _ (ED.fr (c_call c_word_at thru_fn hgd (hr.mono (by first | decide | omega)) rfl (ea_cons (ER.of _ (ed_ix (er_var (i := 0) rfl (by first | exact Or.inl rfl | exact Or.inr (Or.inl rfl) | exact Or.inr (Or.inr rfl))) (ER.of _ ed_int) (fun _ _ => rfl))) (ea_cons (er_var (i := 1) rfl (by first | exact Or.inl rfl | exact Or.inr (Or.inl rfl) | exact Or.inr (Or.inr rfl))) ea_nil)) (alen1 (alen1 alen0))))) ea_nil)) (alen1 (alen1 alen0))))) ess_nil)
      (ess_cons (es_set (i := 2) nd rfl (by first | exact Or.inl rfl | exact Or.inr rfl) (EO.of _ (ed_ix (er_var (i := 0) rfl (by first | exact Or.inl rfl | exact Or.inr (Or.inl rfl) | exact Or.inr (Or.inr rfl))) (ER.of _ ed_int) (fun _ _ => rfl))))
      (ess_cons (es_for own_fn rfl (ei_all (ed_ix (er_var (i := 0) rfl (by first | exact Or.inl rfl | exact Or.inr (Or.inl rfl) | exact Or.inr (Or.inr rfl))) (ER.of _ ed_int) (fun _ _ => rfl))) (pg_tup rfl (pgs_cons (pg_name (i := 3) nd rfl (by first | exact Or.inl rfl | exact Or.inr rfl)) (pgs_cons (pg_name (i := 4) nd rfl (by first | exact Or.inl rfl | exact Or.inr rfl)) (pgs_cons (pg_name (i := 5) nd rfl (by first | exact Or.inl rfl | exact Or.inr rfl)) pgs_nil)))) (ess_one (es_if (et_w (ew_or (et_tru (ER.of _ (ED.fr (c_call c_is_less thru_fn hgd (hr.mono (by first | decide | omega)) rfl (ea_cons (er_var (i := 4) rfl (by first | exact Or.inl rfl | exact Or.inr (Or.inl rfl) | exact Or.inr (Or.inr rfl))) (ea_cons (er_var (i := 1) rfl (by first | exact Or.inl rfl | exact Or.inr (Or.inl rfl) | exact Or.inr (Or.inr rfl))) ea_nil)) (alen1 (alen1 alen0)))))) (ew_or1 (et_w (ew_and (tB_eq hS hu (nomark _) (er_var (i := 3) rfl (by first | exact Or.inl rfl | exact Or.inr (Or.inl rfl) | exact Or.inr (Or.inr rfl))) (ER.of _ ed_str)) (ew_and1 (tB_eq hS hu (nomark _) (er_var (i := 4) rfl (by first | exact Or.inl rfl | exact Or.inr (Or.inl rfl) | exact Or.inr (Or.inr rfl))) (er_var (i := 1) rfl (by first | exact Or.inl rfl | exact Or.inr (Or.inl rfl) | exact Or.inr (Or.inr rfl)))))))))) (ess_one (es_set (i := 2) nd rfl (by first | exact Or.inl rfl | exact Or.inr rfl) (EO.of _ (ed_var (i := 5) rfl (by first | exact Or.inl rfl | exact Or.inr (Or.inl rfl) | exact Or.inr (Or.inr rfl)))))) ess_nil)))
      (ess_one (es_ret (EO.of _ (ed_var (i := 2) rfl (by first | exact Or.inl rfl | exact Or.inr (Or.inl rfl) | exact Or.inr (Or.inr rfl))))))))))

abbrev s_is_break : Stmt := top 36
def N_is_break : List Str := ["form", "value", "word"]
def den_is_break : S := (sSeq (sDrop (eCall F_need_form (aCons (rVar 0) aNil)).fr)
    (sSeq (sIf (mNot (eTru (M.map Rf.d (eCall F_are_three_ascending (aCons (rVar 1) aNil)).fr))) (sRet (M.map O.dat (eC (.bl false)))) sPass)
    (sSeq (sSet 2 2 (eCall F_word_at (aCons (rVar 0) (aCons (M.map Rf.d (eBinD fIx (rVar 1) (M.map Rf.d (eC (.int 0))))) aNil))))
    (sRet (M.map O.dat (vAnd (eBinD fEqB (rVar 2) (M.map Rf.d (eCall F_word_at (aCons (rVar 0) (aCons (M.map Rf.d (eBinD fIx (rVar 1) (M.map Rf.d (eC (.int 2))))) aNil))).fr)) (eBinD fNeB (rVar 2) (M.map Rf.d (eCall F_word_at (aCons (rVar 0) (aCons (M.map Rf.d (eBinD fIx (rVar 1) (M.map Rf.d (eC (.int 1))))) aNil))).fr))))))))
def F_is_break : Fx := defF 3 den_is_break
theorem sc_is_break : FnScope N_is_break ["form", "value"] (defScope s_is_break) := ⟨rfl, rfl, rfl, by decide +kernel, rfl, by decide +kernel, by decide +kernel⟩
theorem ok_is_break {f : Addr} {fd : FuncData} (F : L2.Fun T.K "is_break" "is_break" s_is_break f fd) (Y : Env2 T) (c_need_form : Cal T 12 1 "need_form" F_need_form) (c_are_three_ascending : Cal T 3 1 "are_three_ascending" F_are_three_ascending) (c_word_at : Cal T 5 2 "word_at" F_word_at) : FnS T.P T.w T.K T.mg T.base (L2.CX T.P T.w) (12 + 1) f fd ["form", "value"] (spF ⟨T.K, T.cl, T.P, T.w⟩ 2 F_is_break) := by
  obtain ⟨hB, hS, hX, hO, hGcd, hC_LONGEST_NAME, hC_NOTHING, hC_ALL⟩ := Y
  have nd := sc_is_break.nd
  refine def_ok (k := 12) (N := N_is_break) (den := den_is_break) F sc_is_break rfl fun cdv A outer s H E hgd hr => ?_
  have hu := hr.units
  have hu65 := Fn.units65 hr
  have hu1 := Nat.lt_of_le_of_lt (Nat.add_le_add_left (by decide : 1 ≤ 64) _) hu
  exact (ess_cons (es_drop (ED.fr (c_call c_need_form thru_fn hgd (hr.mono (by first | decide | omega)) rfl (ea_cons (er_var (i := 0) rfl (by first | exact Or.inl rfl | exact Or.inr (Or.inl rfl) | exact Or.inr (Or.inr rfl))) ea_nil) (alen1 alen0))))
      (ess_cons (es_if (et_not (et_tru (ER.of _ (ED.fr (c_call c_are_three_ascending thru_fn hgd (hr.mono (by first | decide | omega)) rfl (ea_cons (er_var (i := 1) rfl (by first | exact Or.inl rfl | exact Or.inr (Or.inl rfl) | exact Or.inr (Or.inr rfl))) ea_nil) (alen1 alen0)))))) (ess_one (es_ret (EO.of _ ed_bl))) ess_nil)
      (ess_cons (es_set (i := 2) nd rfl (by first | exact Or.inl rfl | exact Or.inr rfl) (c_call c_word_at thru_fn hgd (hr.mono (by first | decide | omega)) rfl (ea_cons (er_var (i := 0) rfl (by first | exact Or.inl rfl | exact Or.inr (Or.inl rfl) | exact Or.inr (Or.inr rfl))) (ea_cons (ER.of _ (ed_ix (er_var (i := 1) rfl (by first | exact Or.inl rfl | exact Or.inr (Or.inl rfl) | exact Or.inr (Or.inr rfl))) (ER.of _ ed_int) (fun _ _ => rfl))) ea_nil)) (alen1 (alen1 alen0))))
      (ess_one (es_ret (EO.of _ (ed_and (cB_eq hS hu (nomark _) (er_var (i := 2) rfl (by first | exact Or.inl rfl | exact Or.inr (Or.inl rfl) | exact Or.inr (Or.inr rfl))) (ER.of _ (ED.fr (c_call c_word_at thru_fn hgd (hr.mono (by first | decide | omega)) rfl (ea_cons (er_var (i := 0) rfl (by first | exact Or.inl rfl | exact Or.inr (Or.inl rfl) | exact Or.inr (Or.inr rfl))) (ea_cons (ER.of _ (ed_ix (er_var (i := 1) rfl (by first | exact Or.inl rfl | exact Or.inr (Or.inl rfl) | exact Or.inr (Or.inr rfl))) (ER.of _ ed_int) (fun _ _ => rfl))) ea_nil)) (alen1 (alen1 alen0)))))) (ed_one (cB_ne hS hu (nomark _) (er_var (i := 2) rfl (by first | exact Or.inl rfl | exact Or.inr (Or.inl rfl) | exact Or.inr (Or.inr rfl))) (ER.of _ (ED.fr (c_call c_word_at thru_fn hgd (hr.mono (by first | decide | omega)) rfl (ea_cons (er_var (i := 0) rfl (by first | exact Or.inl rfl | exact Or.inr (Or.inl rfl) | exact Or.inr (Or.inr rfl))) (ea_cons (ER.of _ (ed_ix (er_var (i := 1) rfl (by first | exact Or.inl rfl | exact Or.inr (Or.inl rfl) | exact Or.inr (Or.inr rfl))) (ER.of _ ed_int) (fun _ _ => rfl))) ea_nil)) (alen1 (alen1 alen0))))))))))))))

abbrev s_law_lowest : Stmt := top 45
def N_law_lowest : List Str := ["top", "bottom", "one", "other"]
def den_law_lowest : S := (sSeq (sPar 2 [2, 3] (lCons (eVar 0) (lCons (eVar 1) lNil)))
    (sSeq (whGo (eT (eBinD fGt (rVar 3) (M.map Rf.d (eC (.int 0))))) (sPar 2 [2, 3] (lCons (eVar 3) (lCons (eBinD fMod (rVar 2) (rVar 3)) lNil))) 400)
    (sRet (M.map O.dat (eTup (lCons (eBinD fDiv (rVar 0) (rVar 2)) (lCons (eBinD fDiv (rVar 1) (rVar 2)) lNil)))))))
def F_law_lowest : Fx := defF 4 den_law_lowest
theorem sc_law_lowest : FnScope N_law_lowest ["top", "bottom"] (defScope s_law_lowest) := ⟨rfl, rfl, rfl, by decide +kernel, rfl, by decide +kernel, by decide +kernel⟩
theorem ok_law_lowest {f : Addr} {fd : FuncData} (F : L2.Fun T.K "_law_lowest" "_law_lowest" s_law_lowest f fd) (Y : Env2 T) : FnS T.P T.w T.K T.mg T.base (L2.CX T.P T.w) (0 + 1) f fd ["top", "bottom"] (spF ⟨T.K, T.cl, T.P, T.w⟩ 2 F_law_lowest) := by
  obtain ⟨hB, hS, hX, hO, hGcd, hC_LONGEST_NAME, hC_NOTHING, hC_ALL⟩ := Y
  have nd := sc_law_lowest.nd
  refine def_ok (k := 0) (N := N_law_lowest) (den := den_law_lowest) F sc_law_lowest rfl fun cdv A outer s H E hgd hr => ?_
  have hu := hr.units
  have hu65 := Fn.units65 hr
  have hu1 := Nat.lt_of_le_of_lt (Nat.add_le_add_left (by decide : 1 ≤ 64) _) hu
  exact (ess_cons (es_par2 (i := 2) (j := 3) rfl nd rfl rfl (by decide) rfl rfl (el_cons (ed_var (i := 0) rfl (by first | exact Or.inl rfl | exact Or.inr (Or.inl rfl) | exact Or.inr (Or.inr rfl))) (el_cons (ed_var (i := 1) rfl (by first | exact Or.inl rfl | exact Or.inr (Or.inl rfl) | exact Or.inr (Or.inr rfl))) el_nil)) (by kernel_rfl))
      (ess_cons (es_while 400 own_fn (t_gt (nomark _) (er_var (i := 3) rfl (by first | exact Or.inl rfl | exact Or.inr (Or.inl rfl) | exact Or.inr (Or.inr rfl))) (ER.of _ ed_int)) (ess_one (es_par2 (i := 2) (j := 3) rfl nd rfl rfl (by decide) rfl rfl (el_cons (ed_var (i := 3) rfl (by first | exact Or.inl rfl | exact Or.inr (Or.inl rfl) | exact Or.inr (Or.inr rfl))) (el_cons (ed_mod (er_var (i := 2) rfl (by first | exact Or.inl rfl | exact Or.inr (Or.inl rfl) | exact Or.inr (Or.inr rfl))) (er_var (i := 3) rfl (by first | exact Or.inl rfl | exact Or.inr (Or.inl rfl) | exact Or.inr (Or.inr rfl)))) el_nil)) (by kernel_rfl))))
      (ess_one (es_ret (EO.of _ (ed_tup (el_cons (ed_div (er_var (i := 0) rfl (by first | exact Or.inl rfl | exact Or.inr (Or.inl rfl) | exact Or.inr (Or.inr rfl))) (er_var (i := 2) rfl (by first | exact Or.inl rfl | exact Or.inr (Or.inl rfl) | exact Or.inr (Or.inr rfl)))) (el_cons (ed_div (er_var (i := 1) rfl (by first | exact Or.inl rfl | exact Or.inr (Or.inl rfl) | exact Or.inr (Or.inr rfl))) (er_var (i := 2) rfl (by first | exact Or.inl rfl | exact Or.inr (Or.inl rfl) | exact Or.inr (Or.inr rfl)))) el_nil))))))))

abbrev s_words_in : Stmt := top 21
def N_words_in : List Str := ["marks", "found", "_", "word"]
def den_words_in : S := (sSeq (sSet 1 1 (eLst lNil))
    (sSeq (sFor 1 (.t [2, 2, 3]) (iAll (eVar 0)) (sIf (eT (eBinD fNin (rVar 3) (rVar 1))) (sMut isLst fApp (rVar 1) (eVar 3)) sPass))
    (sRet (M.map O.dat (eVar 1)))))
def F_words_in : Fx := defF 4 den_words_in
theorem sc_words_in : FnScope N_words_in ["marks"] (defScope s_words_in) := ⟨rfl, rfl, rfl, by decide +kernel, rfl, by decide +kernel, by decide +kernel⟩
theorem ok_words_in {f : Addr} {fd : FuncData} (F : L2.Fun T.K "words_in" "words_in" s_words_in f fd) (Y : Env2 T) : FnS T.P T.w T.K T.mg T.base (L2.CX T.P T.w) (0 + 1) f fd ["marks"] (spF ⟨T.K, T.cl, T.P, T.w⟩ 1 F_words_in) := by
  obtain ⟨hB, hS, hX, hO, hGcd, hC_LONGEST_NAME, hC_NOTHING, hC_ALL⟩ := Y
  have nd := sc_words_in.nd
  refine def_ok (k := 0) (N := N_words_in) (den := den_words_in) F sc_words_in rfl fun cdv A outer s H E hgd hr => ?_
  have hu := hr.units
  have hu65 := Fn.units65 hr
  have hu1 := Nat.lt_of_le_of_lt (Nat.add_le_add_left (by decide : 1 ≤ 64) _) hu
  exact (ess_cons (es_set (i := 1) nd rfl (by first | exact Or.inl rfl | exact Or.inr rfl) (eo_lst el_nil))
      (ess_cons (es_for own_fn rfl (ei_all (ed_var (i := 0) rfl (by first | exact Or.inl rfl | exact Or.inr (Or.inl rfl) | exact Or.inr (Or.inr rfl)))) (pg_tup rfl (pgs_cons (pg_name (i := 2) nd rfl (by first | exact Or.inl rfl | exact Or.inr rfl)) (pgs_cons (pg_name (i := 2) nd rfl (by first | exact Or.inl rfl | exact Or.inr rfl)) (pgs_cons (pg_name (i := 3) nd rfl (by first | exact Or.inl rfl | exact Or.inr rfl)) pgs_nil)))) (ess_one (es_if (t_nin hS hu (er_var (i := 3) rfl (by first | exact Or.inl rfl | exact Or.inr (Or.inl rfl) | exact Or.inr (Or.inr rfl))) (er_var (i := 1) rfl (by first | exact Or.inl rfl | exact Or.inr (Or.inl rfl) | exact Or.inr (Or.inr rfl)))) (ess_one (es_app (er_var (i := 1) rfl (by first | exact Or.inl rfl | exact Or.inr (Or.inl rfl) | exact Or.inr (Or.inr rfl))) (ed_var (i := 3) rfl (by first | exact Or.inl rfl | exact Or.inr (Or.inl rfl) | exact Or.inr (Or.inr rfl))))) ess_nil)))
      (ess_one (es_ret (EO.of _ (ed_var (i := 1) rfl (by first | exact Or.inl rfl | exact Or.inr (Or.inl rfl) | exact Or.inr (Or.inr rfl))))))))

abbrev s_words_of : Stmt := top 14
def N_words_of : List Str := ["form"]
def den_words_of : S := (sSeq (sDrop (eCall F_need_form (aCons (rVar 0) aNil)).fr)
    (sRet (eCall F_words_in (aCons (M.map Rf.d (eCall F_marks_of (aCons (rVar 0) aNil)).fr) aNil))))
def F_words_of : Fx := defF 1 den_words_of
theorem sc_words_of : FnScope N_words_of ["form"] (defScope s_words_of) := ⟨rfl, rfl, rfl, by decide +kernel, rfl, by decide +kernel, by decide +kernel⟩
theorem ok_words_of {f : Addr} {fd : FuncData} (F : L2.Fun T.K "words_of" "words_of" s_words_of f fd) (Y : Env2 T) (c_need_form : Cal T 12 1 "need_form" F_need_form) (c_words_in : Cal T 1 1 "words_in" F_words_in) (c_marks_of : Cal T 7 1 "marks_of" F_marks_of) : FnS T.P T.w T.K T.mg T.base (L2.CX T.P T.w) (12 + 1) f fd ["form"] (spF ⟨T.K, T.cl, T.P, T.w⟩ 1 F_words_of) := by
  obtain ⟨hB, hS, hX, hO, hGcd, hC_LONGEST_NAME, hC_NOTHING, hC_ALL⟩ := Y
  have nd := sc_words_of.nd
  refine def_ok (k := 12) (N := N_words_of) (den := den_words_of) F sc_words_of rfl fun cdv A outer s H E hgd hr => ?_
  have hu := hr.units
  have hu65 := Fn.units65 hr
  have hu1 := Nat.lt_of_le_of_lt (Nat.add_le_add_left (by decide : 1 ≤ 64) _) hu
  exact (ess_cons (es_drop (ED.fr (c_call c_need_form thru_fn hgd (hr.mono (by first | decide | omega)) rfl (ea_cons (er_var (i := 0) rfl (by first | exact Or.inl rfl | exact Or.inr (Or.inl rfl) | exact Or.inr (Or.inr rfl))) ea_nil) (alen1 alen0))))
      (ess_one (es_ret (c_call c_words_in thru_fn hgd (hr.mono (by first | decide | omega)) rfl (ea_cons (ER.of _ (ED.fr (c_call c_marks_of thru_fn hgd (hr.mono (by first | decide | omega)) rfl (ea_cons (er_var (i := 0) rfl (by first | exact Or.inl rfl | exact Or.inr (Or.inl rfl) | exact Or.inr (Or.inr rfl))) ea_nil) (alen1 alen0)))) ea_nil) (alen1 alen0)))))

abbrev s_Sequence_alone : Stmt := inCls 40 1
def N_Sequence_alone : List Str := ["self"]
def den_Sequence_alone : S := (sRet (eLstRg (eFun fLenB (aCons (M.map Rf.d (eGet "words" (rVar 0))) aNil))))
def F_Sequence_alone : Fx := defF 1 den_Sequence_alone
theorem sc_Sequence_alone : FnScope N_Sequence_alone ["self"] (defScope s_Sequence_alone) := ⟨rfl, rfl, rfl, by decide +kernel, rfl, by decide +kernel, by decide +kernel⟩
theorem ok_Sequence_alone {f : Addr} {fd : FuncData} (F : L2.Fun T.K "alone" "Sequence.alone" s_Sequence_alone f fd) (Y : Env2 T) : FnS T.P T.w T.K T.mg T.base (L2.CX T.P T.w) (0 + 1) f fd ["self"] (spF ⟨T.K, T.cl, T.P, T.w⟩ 1 F_Sequence_alone) := by
  obtain ⟨hB, hS, hX, hO, hGcd, hC_LONGEST_NAME, hC_NOTHING, hC_ALL⟩ := Y
  have nd := sc_Sequence_alone.nd
  refine def_ok (k := 0) (N := N_Sequence_alone) (den := den_Sequence_alone) F sc_Sequence_alone rfl fun cdv A outer s H E hgd hr => ?_
  have hu := hr.units
  have hu65 := Fn.units65 hr
  have hu1 := Nat.lt_of_le_of_lt (Nat.add_le_add_left (by decide : 1 ≤ 64) _) hu
  exact (ess_one (es_ret (eo_lstRg rfl rfl (hB "list" (by decide)) rfl (hB "range" (by decide)) (c_lenB rfl (hB "len" (by decide)) (ea_cons (ER.of _ (ed_get hO (by decide) (er_var (i := 0) rfl (by first | exact Or.inl rfl | exact Or.inr (Or.inl rfl) | exact Or.inr (Or.inr rfl))))) ea_nil)))))

abbrev s_Sequence_next_join : Stmt := inCls 40 2
def N_Sequence_next_join : List Str := ["self", "classes", "placed", "number", "at", "first", "place"]
def den_Sequence_next_join : S := (sSeq (sSet 2 2 (eComp [3] (.n 3) (iAll (eGet "numbers" (rVar 0))) mYes (eBinD fIx (rVar 1) (rVar 3))))
    (sSeq (sFor 2 (.t [4, 3]) (iEnu (lCons (eVar 2) lNil)) (sSeq (sSet 2 5 (M.map O.dat (eIndex (rVar 2) (eVar 3))))
    (sIf (mAnd (eT (eBinD fLt (rVar 5) (rVar 4))) (eT (eBinD fNeB (M.map Rf.d (eBinD fIx (rVar 2) (M.map Rf.d (eBinD fSub (rVar 4) (M.map Rf.d (eC (.int 1))))))) (rVar 3)))) (sRet (eFunO fTuple (aCons (M.map Rf.d (eComp [6] (.n 6) (iAll (eTup (lCons (eVar 5) (lCons (eBinD fSub (rVar 4) (M.map Rf.d (eC (.int 1)))) (lCons (eVar 4) lNil))))) mYes (eCall F_simplest_behind (aCons (M.map Rf.d (eGet "_marks" (rVar 0))) (aCons (rVar 6) aNil))).fr).fr) aNil))) sPass)))
    (sRet (M.map O.dat (eC .non)))))
def F_Sequence_next_join : Fx := defF 7 den_Sequence_next_join
theorem sc_Sequence_next_join : FnScope N_Sequence_next_join ["self", "classes"] (defScope s_Sequence_next_join) := ⟨rfl, rfl, rfl, by decide +kernel, rfl, by decide +kernel, by decide +kernel⟩
theorem ok_Sequence_next_join {f : Addr} {fd : FuncData} (F : L2.Fun T.K "next_join" "Sequence.next_join" s_Sequence_next_join f fd) (Y : Env2 T) (c_simplest_behind : Cal T 3 2 "simplest_behind" F_simplest_behind) : FnS T.P T.w T.K T.mg T.base (L2.CX T.P T.w) (3 + 1) f fd ["self", "classes"] (spF ⟨T.K, T.cl, T.P, T.w⟩ 2 F_Sequence_next_join) := by
  obtain ⟨hB, hS, hX, hO, hGcd, hC_LONGEST_NAME, hC_NOTHING, hC_ALL⟩ := Y
  have nd := sc_Sequence_next_join.nd
  refine def_ok (k := 3) (N := N_Sequence_next_join) (den := den_Sequence_next_join) F sc_Sequence_next_join rfl fun cdv A outer s H E hgd hr => ?_
  have hu := hr.units
  have hu65 := Fn.units65 hr
  have hu1 := Nat.lt_of_le_of_lt (Nat.add_le_add_left (by decide : 1 ≤ 64) _) hu
  exact (ess_cons (es_setLc (i := 2) (own := [("number", 3)]) rfl nd rfl rfl (sw_true rfl rfl rfl (by decide +kernel)) (ei_all (ed_get hO (by decide) (er_var (i := 0) rfl (by first | exact Or.inl rfl | exact Or.inr (Or.inl rfl) | exact Or.inr (Or.inr rfl))))) (blkOk_by (by kernel_rfl)) (fun _ _ _ _ _ => (pg_name (i := 3) nd rfl (by first | exact Or.inl rfl | exact Or.inr rfl))) (fun _ _ _ _ _ => ets_nil) (fun _ _ _ _ _ => (ed_ix (er_var (i := 1) rfl (by first | exact Or.inl rfl | exact Or.inr (Or.inl rfl) | exact Or.inr (Or.inr rfl))) (er_var (i := 3) rfl (by first | exact Or.inl rfl | exact Or.inr (Or.inl rfl) | exact Or.inr (Or.inr rfl))) (fun _ _ => rfl))) (by decide))
      (ess_cons (es_for own_fn rfl (ei_enu rfl (hB "enumerate" (by decide)) (el_cons (ed_var (i := 2) rfl (by first | exact Or.inl rfl | exact Or.inr (Or.inl rfl) | exact Or.inr (Or.inr rfl))) el_nil)) (pg_tup rfl (pgs_cons (pg_name (i := 4) nd rfl (by first | exact Or.inl rfl | exact Or.inr rfl)) (pgs_cons (pg_name (i := 3) nd rfl (by first | exact Or.inl rfl | exact Or.inr rfl)) pgs_nil))) (ess_cons (es_set (i := 5) nd rfl (by first | exact Or.inl rfl | exact Or.inr rfl) (EO.of _ (ed_index hS hu65 (er_var (i := 2) rfl (by first | exact Or.inl rfl | exact Or.inr (Or.inl rfl) | exact Or.inr (Or.inr rfl))) (ed_var (i := 3) rfl (by first | exact Or.inl rfl | exact Or.inr (Or.inl rfl) | exact Or.inr (Or.inr rfl))))))
      (ess_one (es_if (et_w (ew_and (t_lt (nomark _) (er_var (i := 5) rfl (by first | exact Or.inl rfl | exact Or.inr (Or.inl rfl) | exact Or.inr (Or.inr rfl))) (er_var (i := 4) rfl (by first | exact Or.inl rfl | exact Or.inr (Or.inl rfl) | exact Or.inr (Or.inr rfl)))) (ew_and1 (tB_ne hS hu (nomark _) (ER.of _ (ed_ix (er_var (i := 2) rfl (by first | exact Or.inl rfl | exact Or.inr (Or.inl rfl) | exact Or.inr (Or.inr rfl))) (ER.of _ (ed_sub (er_var (i := 4) rfl (by first | exact Or.inl rfl | exact Or.inr (Or.inl rfl) | exact Or.inr (Or.inr rfl))) (ER.of _ ed_int))) (fun _ _ => rfl))) (er_var (i := 3) rfl (by first | exact Or.inl rfl | exact Or.inr (Or.inl rfl) | exact Or.inr (Or.inr rfl))))))) (ess_one (es_ret (c_tuple rfl (hB "tuple" (by decide)) (ea_cons (ER.of _ (ED.fr (eo_comp (own := [("place", 6)]) rfl nd (ei_all (ed_tup (el_cons (ed_var (i := 5) rfl (by first | exact Or.inl rfl | exact Or.inr (Or.inl rfl) | exact Or.inr (Or.inr rfl))) (el_cons (ed_sub (er_var (i := 4) rfl (by first | exact Or.inl rfl | exact Or.inr (Or.inl rfl) | exact Or.inr (Or.inr rfl))) (ER.of _ ed_int)) (el_cons (ed_var (i := 4) rfl (by first | exact Or.inl rfl | exact Or.inr (Or.inl rfl) | exact Or.inr (Or.inr rfl))) el_nil))))) (blkOk_by (by kernel_rfl)) (fun _ _ _ _ _ => (pg_name (i := 6) nd rfl (by first | exact Or.inl rfl | exact Or.inr rfl))) (fun _ _ _ _ _ => ets_nil) (fun _ _ _ _ _ => (ED.fr (c_call c_simplest_behind thru_blk hgd (hr.mono (by first | decide | omega)) rfl (ea_cons (ER.of _ (ed_get hO (by decide) (er_var (i := 0) rfl (by first | exact Or.inl rfl | exact Or.inr (Or.inl rfl) | exact Or.inr (Or.inr rfl))))) (ea_cons (er_var (i := 6) rfl (by first | exact Or.inl rfl | exact Or.inr (Or.inl rfl) | exact Or.inr (Or.inr rfl))) ea_nil)) (alen1 (alen1 alen0))))) (by decide)))) ea_nil)))) ess_nil))))
      (ess_one (es_ret (EO.of _ ed_non)))))

abbrev s_Sequence_joined : Stmt := inCls 40 3
def N_Sequence_joined : List Str := ["self", "classes", "join", "one", "mid", "other", "share", "number"]
def den_Sequence_joined : S := (sSeq (sAsgL 3 [3, 4, 5] (eComp [6] (.n 6) (iAll (eVar 2)) mYes (eBinD fIx (rVar 1) (M.map Rf.d (eIndex (M.map Rf.d (eGet "words" (rVar 0))) (eCall F_word_at (aCons (M.map Rf.d (eGet "_form" (rVar 0))) (aCons (rVar 6) aNil))).fr)))).fr)
    (sSeq (sIf (mOr (eT (eBinD fNeB (rVar 3) (rVar 5))) (eT (eBinD fEqB (rVar 3) (rVar 4)))) (sRet (M.map O.dat (eC .non))) sPass)
    (sRet (eComp [7] (.n 7) (iAll (eVar 1)) mYes (eIf (eT (eBinD fEqB (rVar 7) (rVar 4))) (eVar 3) (eVar 7))))))
def F_Sequence_joined : Fx := defF 8 den_Sequence_joined
theorem sc_Sequence_joined : FnScope N_Sequence_joined ["self", "classes", "join"] (defScope s_Sequence_joined) := ⟨rfl, rfl, rfl, by decide +kernel, rfl, by decide +kernel, by decide +kernel⟩
theorem ok_Sequence_joined {f : Addr} {fd : FuncData} (F : L2.Fun T.K "joined" "Sequence.joined" s_Sequence_joined f fd) (Y : Env2 T) (c_word_at : Cal T 5 2 "word_at" F_word_at) : FnS T.P T.w T.K T.mg T.base (L2.CX T.P T.w) (5 + 1) f fd ["self", "classes", "join"] (spF ⟨T.K, T.cl, T.P, T.w⟩ 3 F_Sequence_joined) := by
  obtain ⟨hB, hS, hX, hO, hGcd, hC_LONGEST_NAME, hC_NOTHING, hC_ALL⟩ := Y
  have nd := sc_Sequence_joined.nd
  refine def_ok (k := 5) (N := N_Sequence_joined) (den := den_Sequence_joined) F sc_Sequence_joined rfl fun cdv A outer s H E hgd hr => ?_
  have hu := hr.units
  have hu65 := Fn.units65 hr
  have hu1 := Nat.lt_of_le_of_lt (Nat.add_le_add_left (by decide : 1 ≤ 64) _) hu
  exact (ess_cons (es_asgL (ED.fr (eo_comp (own := [("share", 6)]) rfl nd (ei_all (ed_var (i := 2) rfl (by first | exact Or.inl rfl | exact Or.inr (Or.inl rfl) | exact Or.inr (Or.inr rfl)))) (blkOk_by (by kernel_rfl)) (fun _ _ _ _ _ => (pg_name (i := 6) nd rfl (by first | exact Or.inl rfl | exact Or.inr rfl))) (fun _ _ _ _ _ => ets_nil) (fun _ _ _ _ _ => (ed_ix (er_var (i := 1) rfl (by first | exact Or.inl rfl | exact Or.inr (Or.inl rfl) | exact Or.inr (Or.inr rfl))) (ER.of _ (ed_index hS hu65 (ER.of _ (ed_get hO (by decide) (er_var (i := 0) rfl (by first | exact Or.inl rfl | exact Or.inr (Or.inl rfl) | exact Or.inr (Or.inr rfl))))) (ED.fr (c_call c_word_at thru_blk hgd (hr.mono (by first | decide | omega)) rfl (ea_cons (ER.of _ (ed_get hO (by decide) (er_var (i := 0) rfl (by first | exact Or.inl rfl | exact Or.inr (Or.inl rfl) | exact Or.inr (Or.inr rfl))))) (ea_cons (er_var (i := 6) rfl (by first | exact Or.inl rfl | exact Or.inr (Or.inl rfl) | exact Or.inr (Or.inr rfl))) ea_nil)) (alen1 (alen1 alen0)))))) (fun _ _ => rfl))) (by decide))) (pg_lst rfl (pgs_cons (pg_name (i := 3) nd rfl (by first | exact Or.inl rfl | exact Or.inr rfl)) (pgs_cons (pg_name (i := 4) nd rfl (by first | exact Or.inl rfl | exact Or.inr rfl)) (pgs_cons (pg_name (i := 5) nd rfl (by first | exact Or.inl rfl | exact Or.inr rfl)) pgs_nil)))))
      (ess_cons (es_if (et_w (ew_or (tB_ne hS hu (nomark _) (er_var (i := 3) rfl (by first | exact Or.inl rfl | exact Or.inr (Or.inl rfl) | exact Or.inr (Or.inr rfl))) (er_var (i := 5) rfl (by first | exact Or.inl rfl | exact Or.inr (Or.inl rfl) | exact Or.inr (Or.inr rfl)))) (ew_or1 (tB_eq hS hu (nomark _) (er_var (i := 3) rfl (by first | exact Or.inl rfl | exact Or.inr (Or.inl rfl) | exact Or.inr (Or.inr rfl))) (er_var (i := 4) rfl (by first | exact Or.inl rfl | exact Or.inr (Or.inl rfl) | exact Or.inr (Or.inr rfl))))))) (ess_one (es_ret (EO.of _ ed_non))) ess_nil)
      (ess_one (es_ret (eo_comp (own := [("number", 7)]) rfl nd (ei_all (ed_var (i := 1) rfl (by first | exact Or.inl rfl | exact Or.inr (Or.inl rfl) | exact Or.inr (Or.inr rfl)))) (blkOk_by (by kernel_rfl)) (fun _ _ _ _ _ => (pg_name (i := 7) nd rfl (by first | exact Or.inl rfl | exact Or.inr rfl))) (fun _ _ _ _ _ => ets_nil) (fun _ _ _ _ _ => (ex_if rD_back (tB_eq hS hu (nomark _) (er_var (i := 7) rfl (by first | exact Or.inl rfl | exact Or.inr (Or.inl rfl) | exact Or.inr (Or.inr rfl))) (er_var (i := 4) rfl (by first | exact Or.inl rfl | exact Or.inr (Or.inl rfl) | exact Or.inr (Or.inr rfl)))) (ed_var (i := 3) rfl (by first | exact Or.inl rfl | exact Or.inr (Or.inl rfl) | exact Or.inr (Or.inr rfl))) (ed_var (i := 7) rfl (by first | exact Or.inl rfl | exact Or.inr (Or.inl rfl) | exact Or.inr (Or.inr rfl))))) (by decide))))))

abbrev s_Sequence_init : Stmt := inCls 40 0
def N_Sequence_init : List Str := ["self", "form", "_", "word"]
def den_Sequence_init : S := (sSeq (sPutA "_form" (rVar 0) (eVar 1))
    (sSeq (sPutA "_marks" (rVar 0) (eCall F_marks_of (aCons (rVar 1) aNil)).fr)
    (sSeq (sPutA "words" (rVar 0) (eCall F_words_in (aCons (M.map Rf.d (eGet "_marks" (rVar 0))) aNil)).fr)
    (sPutA "numbers" (rVar 0) (eComp [2, 3] (.t [2, 2, 3]) (iAll (eGet "_marks" (rVar 0))) mYes (eIndex (M.map Rf.d (eGet "words" (rVar 0))) (eVar 3))).fr))))
def F_Sequence_init : Fx := defF 4 den_Sequence_init
theorem sc_Sequence_init : FnScope N_Sequence_init ["self", "form"] (defScope s_Sequence_init) := ⟨rfl, rfl, rfl, by decide +kernel, rfl, by decide +kernel, by decide +kernel⟩
theorem ok_Sequence_init {f : Addr} {fd : FuncData} (F : L2.Fun T.K "__init__" "Sequence.__init__" s_Sequence_init f fd) (Y : Env2 T) (c_marks_of : Cal T 7 1 "marks_of" F_marks_of) (c_words_in : Cal T 1 1 "words_in" F_words_in) : FnS T.P T.w T.K T.mg T.base (L2.CX T.P T.w) (7 + 1) f fd ["self", "form"] (spF ⟨T.K, T.cl, T.P, T.w⟩ 2 F_Sequence_init) := by
  obtain ⟨hB, hS, hX, hO, hGcd, hC_LONGEST_NAME, hC_NOTHING, hC_ALL⟩ := Y
  have nd := sc_Sequence_init.nd
  refine def_ok (k := 7) (N := N_Sequence_init) (den := den_Sequence_init) F sc_Sequence_init rfl fun cdv A outer s H E hgd hr => ?_
  have hu := hr.units
  have hu65 := Fn.units65 hr
  have hu1 := Nat.lt_of_le_of_lt (Nat.add_le_add_left (by decide : 1 ≤ 64) _) hu
  exact (ess_cons (es_put hO (by decide) (er_var (i := 0) rfl (by first | exact Or.inl rfl | exact Or.inr (Or.inl rfl) | exact Or.inr (Or.inr rfl))) (ed_var (i := 1) rfl (by first | exact Or.inl rfl | exact Or.inr (Or.inl rfl) | exact Or.inr (Or.inr rfl))))
      (ess_cons (es_put hO (by decide) (er_var (i := 0) rfl (by first | exact Or.inl rfl | exact Or.inr (Or.inl rfl) | exact Or.inr (Or.inr rfl))) (ED.fr (c_call c_marks_of thru_fn hgd (hr.mono (by first | decide | omega)) rfl (ea_cons (er_var (i := 1) rfl (by first | exact Or.inl rfl | exact Or.inr (Or.inl rfl) | exact Or.inr (Or.inr rfl))) ea_nil) (alen1 alen0))))
      (ess_cons (es_put hO (by decide) (er_var (i := 0) rfl (by first | exact Or.inl rfl | exact Or.inr (Or.inl rfl) | exact Or.inr (Or.inr rfl))) (ED.fr (c_call c_words_in thru_fn hgd (hr.mono (by first | decide | omega)) rfl (ea_cons (ER.of _ (ed_get hO (by decide) (er_var (i := 0) rfl (by first | exact Or.inl rfl | exact Or.inr (Or.inl rfl) | exact Or.inr (Or.inr rfl))))) ea_nil) (alen1 alen0))))
      (ess_one (es_put hO (by decide) (er_var (i := 0) rfl (by first | exact Or.inl rfl | exact Or.inr (Or.inl rfl) | exact Or.inr (Or.inr rfl))) (ED.fr (eo_comp (own := [("_", 2), ("word", 3)]) rfl nd (ei_all (ed_get hO (by decide) (er_var (i := 0) rfl (by first | exact Or.inl rfl | exact Or.inr (Or.inl rfl) | exact Or.inr (Or.inr rfl))))) (blkOk_by (by kernel_rfl)) (fun _ _ _ _ _ => (pg_tup rfl (pgs_cons (pg_name (i := 2) nd rfl (by first | exact Or.inl rfl | exact Or.inr rfl)) (pgs_cons (pg_name (i := 2) nd rfl (by first | exact Or.inl rfl | exact Or.inr rfl)) (pgs_cons (pg_name (i := 3) nd rfl (by first | exact Or.inl rfl | exact Or.inr rfl)) pgs_nil))))) (fun _ _ _ _ _ => ets_nil) (fun _ _ _ _ _ => (ed_index hS hu65 (ER.of _ (ed_get hO (by decide) (er_var (i := 0) rfl (by first | exact Or.inl rfl | exact Or.inr (Or.inl rfl) | exact Or.inr (Or.inr rfl))))) (ed_var (i := 3) rfl (by first | exact Or.inl rfl | exact Or.inr (Or.inl rfl) | exact Or.inr (Or.inr rfl))))) (by decide))))))))

abbrev s_joins : Stmt := top 39
def N_joins : List Str := ["form", "sequence", "numbers", "found", "join"]
def den_joins : S := (sSeq (sDrop (eCall F_need_form (aCons (rVar 0) aNil)).fr)
    (sSeq (sSet 1 1 (eNew "Sequence" F_Sequence_init (aCons (rVar 0) aNil)))
    (sSeq (sSet 1 2 (eMeth "Sequence" "alone" F_Sequence_alone (rVar 1) aNil))
    (sSeq (sSet 1 3 (eLst lNil))
    (sSeq (sSet 1 4 (eMeth "Sequence" "next_join" F_Sequence_next_join (rVar 1) (aCons (rVar 2) aNil)))
    (sSeq (whGo (eT (eBinD (fIs (!·)) (rVar 4) (M.map Rf.d (eC .non)))) (sSeq (sMut isLst fApp (rVar 3) (eVar 4))
    (sSeq (sSet 1 2 (eMeth "Sequence" "joined" F_Sequence_joined (rVar 1) (aCons (rVar 2) (aCons (rVar 4) aNil))))
    (sSet 1 4 (eMeth "Sequence" "next_join" F_Sequence_next_join (rVar 1) (aCons (rVar 2) aNil))))) 400)
    (sRet (M.map O.dat (eVar 3)))))))))
def F_joins : Fx := defF 5 den_joins
theorem sc_joins : FnScope N_joins ["form"] (defScope s_joins) := ⟨rfl, rfl, rfl, by decide +kernel, rfl, by decide +kernel, by decide +kernel⟩
theorem ok_joins {f : Addr} {fd : FuncData} (F : L2.Fun T.K "joins" "joins" s_joins f fd) (Y : Env2 T) (c_need_form : Cal T 12 1 "need_form" F_need_form) (c_Sequence_alone : CalM T 1 1 "Sequence" "alone" F_Sequence_alone) (c_Sequence_next_join : CalM T 4 2 "Sequence" "next_join" F_Sequence_next_join) (c_Sequence_joined : CalM T 6 3 "Sequence" "joined" F_Sequence_joined) (c_Sequence_init : CalN T 8 1 "Sequence" F_Sequence_init) : FnS T.P T.w T.K T.mg T.base (L2.CX T.P T.w) (12 + 1) f fd ["form"] (spF ⟨T.K, T.cl, T.P, T.w⟩ 1 F_joins) := by
  obtain ⟨hB, hS, hX, hO, hGcd, hC_LONGEST_NAME, hC_NOTHING, hC_ALL⟩ := Y
  have nd := sc_joins.nd
  refine def_ok (k := 12) (N := N_joins) (den := den_joins) F sc_joins rfl fun cdv A outer s H E hgd hr => ?_
  have hu := hr.units
  have hu65 := Fn.units65 hr
  have hu1 := Nat.lt_of_le_of_lt (Nat.add_le_add_left (by decide : 1 ≤ 64) _) hu
  exact (ess_cons (es_drop (ED.fr (c_call c_need_form thru_fn hgd (hr.mono (by first | decide | omega)) rfl (ea_cons (er_var (i := 0) rfl (by first | exact Or.inl rfl | exact Or.inr (Or.inl rfl) | exact Or.inr (Or.inr rfl))) ea_nil) (alen1 alen0))))
      (ess_cons (es_set (i := 1) nd rfl (by first | exact Or.inl rfl | exact Or.inr rfl) (c_new c_Sequence_init thru_fn hgd (hr.mono (by first | decide | omega)) rfl (ea_cons (er_var (i := 0) rfl (by first | exact Or.inl rfl | exact Or.inr (Or.inl rfl) | exact Or.inr (Or.inr rfl))) ea_nil) (alen1 alen0)))
      (ess_cons (es_set (i := 2) nd rfl (by first | exact Or.inl rfl | exact Or.inr rfl) (c_meth0 c_Sequence_alone thru_fn hgd (hr.mono (by first | decide | omega)) (er_var (i := 1) rfl (by first | exact Or.inl rfl | exact Or.inr (Or.inl rfl) | exact Or.inr (Or.inr rfl)))))
      (ess_cons (es_set (i := 3) nd rfl (by first | exact Or.inl rfl | exact Or.inr rfl) (eo_lst el_nil))
      (ess_cons (es_set (i := 4) nd rfl (by first | exact Or.inl rfl | exact Or.inr rfl) (c_meth c_Sequence_next_join thru_fn hgd (hr.mono (by first | decide | omega)) (er_var (i := 1) rfl (by first | exact Or.inl rfl | exact Or.inr (Or.inl rfl) | exact Or.inr (Or.inr rfl))) (ea_cons (er_var (i := 2) rfl (by first | exact Or.inl rfl | exact Or.inr (Or.inl rfl) | exact Or.inr (Or.inr rfl))) ea_nil) (alen1 alen0)))
      (ess_cons (es_while 400 own_fn (t_isnot (nomark _) (er_var (i := 4) rfl (by first | exact Or.inl rfl | exact Or.inr (Or.inl rfl) | exact Or.inr (Or.inr rfl))) (ER.of _ ed_non)) (ess_cons (es_app (er_var (i := 3) rfl (by first | exact Or.inl rfl | exact Or.inr (Or.inl rfl) | exact Or.inr (Or.inr rfl))) (ed_var (i := 4) rfl (by first | exact Or.inl rfl | exact Or.inr (Or.inl rfl) | exact Or.inr (Or.inr rfl))))
      (ess_cons (es_set (i := 2) nd rfl (by first | exact Or.inl rfl | exact Or.inr rfl) (c_meth c_Sequence_joined thru_fn hgd (hr.mono (by first | decide | omega)) (er_var (i := 1) rfl (by first | exact Or.inl rfl | exact Or.inr (Or.inl rfl) | exact Or.inr (Or.inr rfl))) (ea_cons (er_var (i := 2) rfl (by first | exact Or.inl rfl | exact Or.inr (Or.inl rfl) | exact Or.inr (Or.inr rfl))) (ea_cons (er_var (i := 4) rfl (by first | exact Or.inl rfl | exact Or.inr (Or.inl rfl) | exact Or.inr (Or.inr rfl))) ea_nil)) (alen1 (alen1 alen0))))
      (ess_one (es_set (i := 4) nd rfl (by first | exact Or.inl rfl | exact Or.inr rfl) (c_meth c_Sequence_next_join thru_fn hgd (hr.mono (by first | decide | omega)) (er_var (i := 1) rfl (by first | exact Or.inl rfl | exact Or.inr (Or.inl rfl) | exact Or.inr (Or.inr rfl))) (ea_cons (er_var (i := 2) rfl (by first | exact Or.inl rfl | exact Or.inr (Or.inl rfl) | exact Or.inr (Or.inr rfl))) ea_nil) (alen1 alen0)))))))
      (ess_one (es_ret (EO.of _ (ed_var (i := 3) rfl (by first | exact Or.inl rfl | exact Or.inr (Or.inl rfl) | exact Or.inr (Or.inr rfl))))))))))))

abbrev s_least_classes : Stmt := top 38
def N_least_classes : List Str := ["form", "sequence", "last", "at", "number", "classes", "until"]
def den_least_classes : S := (sSeq (sDrop (eCall F_need_form (aCons (rVar 0) aNil)).fr)
    (sSeq (sSet 1 1 (eNew "Sequence" F_Sequence_init (aCons (rVar 0) aNil)))
    (sSeq (sSet 1 2 (M.map O.dat (eDComp [3, 4] (.t [3, 4]) (iEnu (lCons (eGet "numbers" (rVar 1)) lNil)) mYes (eVar 4) (eVar 3))))
    (sLL 1 5 6 (M.map O.dat (vNeg (eC (.int 1)))) (.t [3, 4]) (iEnu (lCons (eGet "numbers" (rVar 1)) lNil)) (eT (eBinD fGt (rVar 3) (rVar 6))) (M.map O.dat (eFun fMax2 (aCons (rVar 6) (aCons (M.map Rf.d (eBinD fDGet (rVar 2) (rVar 4))) aNil)))) (eBinD fIx (M.map Rf.d (eGet "words" (rVar 1))) (rVar 4)) (eBinD fIx (M.map Rf.d (eGet "words" (rVar 1))) (rVar 4))))))
def F_least_classes : Fx := defF 7 den_least_classes
theorem sc_least_classes : FnScope N_least_classes ["form"] (defScope s_least_classes) := ⟨rfl, rfl, rfl, by decide +kernel, rfl, by decide +kernel, by decide +kernel⟩
theorem ok_least_classes {f : Addr} {fd : FuncData} (F : L2.Fun T.K "least_classes" "least_classes" s_least_classes f fd) (Y : Env2 T) (c_need_form : Cal T 12 1 "need_form" F_need_form) (c_Sequence_init : CalN T 8 1 "Sequence" F_Sequence_init) : FnS T.P T.w T.K T.mg T.base (L2.CX T.P T.w) (12 + 1) f fd ["form"] (spF ⟨T.K, T.cl, T.P, T.w⟩ 1 F_least_classes) := by
  obtain ⟨hB, hS, hX, hO, hGcd, hC_LONGEST_NAME, hC_NOTHING, hC_ALL⟩ := Y
  have nd := sc_least_classes.nd
  refine def_ok (k := 12) (N := N_least_classes) (den := den_least_classes) F sc_least_classes rfl fun cdv A outer s H E hgd hr => ?_
  have hu := hr.units
  have hu65 := Fn.units65 hr
  have hu1 := Nat.lt_of_le_of_lt (Nat.add_le_add_left (by decide : 1 ≤ 64) _) hu
  exact (ess_cons (es_drop (ED.fr (c_call c_need_form thru_fn hgd (hr.mono (by first | decide | omega)) rfl (ea_cons (er_var (i := 0) rfl (by first | exact Or.inl rfl | exact Or.inr (Or.inl rfl) | exact Or.inr (Or.inr rfl))) ea_nil) (alen1 alen0))))
      (ess_cons (es_set (i := 1) nd rfl (by first | exact Or.inl rfl | exact Or.inr rfl) (c_new c_Sequence_init thru_fn hgd (hr.mono (by first | decide | omega)) rfl (ea_cons (er_var (i := 0) rfl (by first | exact Or.inl rfl | exact Or.inr (Or.inl rfl) | exact Or.inr (Or.inr rfl))) ea_nil) (alen1 alen0)))
      (ess_cons (es_setDc (i := 2) (own := [("at", 3), ("number", 4)]) rfl nd rfl rfl (swaps_dict rfl rfl rfl (by decide +kernel)) (ei_enu rfl (hB "enumerate" (by decide)) (el_cons (ed_get hO (by decide) (er_var (i := 1) rfl (by first | exact Or.inl rfl | exact Or.inr (Or.inl rfl) | exact Or.inr (Or.inr rfl)))) el_nil)) (blkOk_by (by kernel_rfl)) (fun _ _ _ _ _ => (pg_tup rfl (pgs_cons (pg_name (i := 3) nd rfl (by first | exact Or.inl rfl | exact Or.inr rfl)) (pgs_cons (pg_name (i := 4) nd rfl (by first | exact Or.inl rfl | exact Or.inr rfl)) pgs_nil)))) (fun _ _ _ _ _ => ets_nil) (fun _ _ _ _ _ => (ed_var (i := 4) rfl (by first | exact Or.inl rfl | exact Or.inr (Or.inl rfl) | exact Or.inr (Or.inr rfl)))) (fun _ _ _ _ _ => (ed_var (i := 3) rfl (by first | exact Or.inl rfl | exact Or.inr (Or.inl rfl) | exact Or.inr (Or.inr rfl)))) (by decide))
      (ess_ll (c := 5) (j := 6) nd rfl rfl (by first | exact Or.inl rfl | exact Or.inr rfl) (by first | exact Or.inl rfl | exact Or.inr rfl) (by first | exact Or.inl rfl | exact Or.inr (Or.inl rfl) | exact Or.inr (Or.inr rfl)) hS hu own_fn rfl (EO.of _ (ed_neg ed_int)) (ei_enu rfl (hB "enumerate" (by decide)) (el_cons (ed_get hO (by decide) (er_var (i := 1) rfl (by first | exact Or.inl rfl | exact Or.inr (Or.inl rfl) | exact Or.inr (Or.inr rfl)))) el_nil)) (pg_tup rfl (pgs_cons (pg_name (i := 3) nd rfl (by first | exact Or.inl rfl | exact Or.inr rfl)) (pgs_cons (pg_name (i := 4) nd rfl (by first | exact Or.inl rfl | exact Or.inr rfl)) pgs_nil))) (t_gt (nomark _) (er_var (i := 3) rfl (by first | exact Or.inl rfl | exact Or.inr (Or.inl rfl) | exact Or.inr (Or.inr rfl))) (er_var (i := 6) rfl (by first | exact Or.inl rfl | exact Or.inr (Or.inl rfl) | exact Or.inr (Or.inr rfl)))) (EO.of _ (c_max2 rfl rfl (hB "max" (by decide)) (ea_cons (er_var (i := 6) rfl (by first | exact Or.inl rfl | exact Or.inr (Or.inl rfl) | exact Or.inr (Or.inr rfl))) (ea_cons (ER.of _ (ed_dget hu1 (er_var (i := 2) rfl (by first | exact Or.inl rfl | exact Or.inr (Or.inl rfl) | exact Or.inr (Or.inr rfl))) (er_var (i := 4) rfl (by first | exact Or.inl rfl | exact Or.inr (Or.inl rfl) | exact Or.inr (Or.inr rfl))) (fun _ _ => rfl))) ea_nil)))) (ed_ix (ER.of _ (ed_get hO (by decide) (er_var (i := 1) rfl (by first | exact Or.inl rfl | exact Or.inr (Or.inl rfl) | exact Or.inr (Or.inr rfl))))) (er_var (i := 4) rfl (by first | exact Or.inl rfl | exact Or.inr (Or.inl rfl) | exact Or.inr (Or.inr rfl))) (fun _ _ => rfl)) (ed_ix (ER.of _ (ed_get hO (by decide) (er_var (i := 1) rfl (by first | exact Or.inl rfl | exact Or.inr (Or.inl rfl) | exact Or.inr (Or.inr rfl))))) (er_var (i := 4) rfl (by first | exact Or.inl rfl | exact Or.inr (Or.inl rfl) | exact Or.inr (Or.inr rfl))) (fun _ _ => rfl))))))

abbrev s_law : Stmt := top 46
def N_law : List Str := ["script", "start", "tape", "many", "near", "plain", "close", "size", "ladder", "at", "turns", "due", "both"]
def den_law : S := (sSeq (sFor 1 (.n 1) (iRange1 (aCons (M.map Rf.d (eFun fMax2 (aCons (M.map Rf.d (eC (.int 1))) (aCons (M.map Rf.d (eFun fMin2 (aCons (M.map Rf.d (eC (.int 3))) (aCons (M.map Rf.d (eFun fLenB (aCons (rVar 0) aNil))) aNil)))) aNil)))) aNil)) (sSeq (sSet 1 2 (eCall F_law_tape (aCons (rVar 0) (aCons (rVar 1) aNil))))
    (sSeq (sSet 1 3 (eBin fAdd (M.map Rf.d (eC (.int 2))) (M.map Rf.d (eCall F_law_pick (aCons (rVar 2) (aCons (M.map Rf.d (eCall F_law_one_of (aCons (rVar 2) (aCons (M.map Rf.d (eLst (lCons (eC (.int 9)) (lCons (eBinD fPow (M.map Rf.d (eC (.int 10))) (M.map Rf.d (eC (.int 20)))) lNil))).fr) aNil))).fr) aNil))).fr)))
    (sSeq (sSet 1 4 (M.map O.dat (eTup (lCons (eC (.str "cut")) (lCons (eC (.int 0)) (lCons (eTup (lCons (eTup (lCons (eC (.str "above")) (lCons (eTup (lCons (eC (.int 1)) (lCons (eBin fAdd (rVar 3) (M.map Rf.d (eC (.int 1)))).fr lNil))) (lCons (eC (.int 1)) lNil)))) (lCons (eTup (lCons (eC (.str "at")) (lCons (eTup (lCons (eC (.int 1)) (lCons (eVar 3) lNil))) (lCons (eC (.int 0)) lNil)))) lNil))) lNil))))))
    (sSeq (sSet 1 5 (M.map O.dat (eTup (lCons (eC (.str "cut")) (lCons (eC (.int 0)) (lCons (eTup lNil) lNil))))))
    (sSeq (sIf (mOr (eT (eBinD fNeB (M.map Rf.d (eCall F_first_apart (aCons (rVar 4) (aCons (rVar 5) aNil))).fr) (M.map Rf.d (eTup (lCons (eC (.int 2)) (lCons (eBin fAdd (M.map Rf.d (eBin fMul (M.map Rf.d (eC (.int 2))) (rVar 3)).fr) (M.map Rf.d (eC (.int 1)))).fr lNil)))))) (eT (eBinD fNeB (M.map Rf.d (eCall F_first_apart (aCons (rVar 5) (aCons (M.map Rf.d (eTup (lCons (eC (.str "cut")) (lCons (eC (.int 0)) (lCons (eTup (lCons (eTup (lCons (eC (.str "above")) (lCons (eTup (lCons (eC (.int 1)) (lCons (eVar 3) lNil))) (lCons (eC (.int 1)) lNil)))) lNil)) lNil))))) aNil))).fr) (M.map Rf.d (eTup (lCons (eC (.int 1)) (lCons (eC (.int 1)) lNil))))))) (sRet (M.map O.dat (eC (.bl false)))) sPass)
    (sSeq (sIf (mOr (eT (eBinD fNeB (M.map Rf.d (eCall F_first_apart (aCons (rVar 5) (aCons (M.map Rf.d (eTup (lCons (eC (.str "cut")) (lCons (eC (.int 0)) (lCons (eTup (lCons (eTup (lCons (eC (.str "at")) (lCons (eTup (lCons (eC (.int 1)) (lCons (eVar 3) lNil))) (lCons (eC (.int 1)) lNil)))) (lCons (eTup (lCons (eC (.str "above")) (lCons (eTup (lCons (eC (.int 1)) (lCons (eVar 3) lNil))) (lCons (eC (.int 0)) lNil)))) lNil))) lNil))))) aNil))).fr) (M.map Rf.d (eTup (lCons (eC (.int 1)) (lCons (eVar 3) lNil)))))) (eT (eBinD fNeB (M.map Rf.d (eCall F_first_apart (aCons (rVar 5) (aCons (M.map Rf.d (eTup (lCons (eC (.str "cut")) (lCons (eC (.int 1)) (lCons (eTup (lCons (eTup (lCons (eC (.str "at")) (lCons (eTup (lCons (eC (.int 1)) (lCons (eVar 3) lNil))) (lCons (eC (.int 0)) lNil)))) lNil)) lNil))))) aNil))).fr) (M.map Rf.d (eTup (lCons (eC (.int 0)) (lCons (eC (.int 1)) lNil))))))) (sRet (M.map O.dat (eC (.bl false)))) sPass)
    (sSeq (sSet 1 6 (M.map O.dat (eTup (lCons (eC (.str "cut")) (lCons (eC (.int 0)) (lCons (eTup (lCons (eTup (lCons (eC (.str "above")) (lCons (eTup (lCons (eC (.int 1)) (lCons (eBin fAdd (rVar 3) (M.map Rf.d (eC (.int 1)))).fr lNil))) (lCons (eC (.int 1)) lNil)))) (lCons (eTup (lCons (eC (.str "at")) (lCons (eTup (lCons (eC (.int 4)) (lCons (eBin fAdd (M.map Rf.d (eBin fMul (M.map Rf.d (eC (.int 4))) (rVar 3)).fr) (M.map Rf.d (eC (.int 1)))).fr lNil))) (lCons (eC (.int 0)) lNil)))) lNil))) lNil))))))
    (sSeq (sIf (mOr (eT (eBinD fNeB (M.map Rf.d (eCall F_first_apart (aCons (rVar 6) (aCons (rVar 5) aNil))).fr) (M.map Rf.d (eTup (lCons (eC (.int 2)) (lCons (eBin fAdd (M.map Rf.d (eBin fMul (M.map Rf.d (eC (.int 2))) (rVar 3)).fr) (M.map Rf.d (eC (.int 1)))).fr lNil)))))) (eT (eBinD fNeB (M.map Rf.d (eCall F_first_apart (aCons (rVar 6) (aCons (rVar 4) aNil))).fr) (M.map Rf.d (eTup (lCons (eC (.int 4)) (lCons (eBin fAdd (M.map Rf.d (eBin fMul (M.map Rf.d (eC (.int 4))) (rVar 3)).fr) (M.map Rf.d (eC (.int 1)))).fr lNil))))))) (sRet (M.map O.dat (eC (.bl false)))) sPass)
    (sSeq (sIf (mOr (eT (eBinD (fIs (!·)) (M.map Rf.d (eCall F_keeps_always (aCons (rVar 4) aNil)).fr) (M.map Rf.d (eC (.bl false))))) (mOr (eT (eBinD (fIs (!·)) (M.map Rf.d (eCall F_is_break (aCons (rVar 4) (aCons (M.map Rf.d (eTup (lCons (eTup (lCons (eC (.int 0)) (lCons (eC (.int 1)) lNil))) (lCons (eTup (lCons (eC (.int 2)) (lCons (eBin fAdd (M.map Rf.d (eBin fMul (M.map Rf.d (eC (.int 2))) (rVar 3)).fr) (M.map Rf.d (eC (.int 1)))).fr lNil))) (lCons (eTup (lCons (eC (.int 1)) (lCons (eC (.int 1)) lNil))) lNil))))) aNil))).fr) (M.map Rf.d (eC (.bl true))))) (eT (eBinD fNeB (M.map Rf.d (eCall F_starts (aCons (rVar 4) aNil)).fr) (M.map Rf.d (eLst (lCons (eTup (lCons (eC (.str "at")) (lCons (eTup (lCons (eC (.int 0)) (lCons (eC (.int 1)) lNil))) (lCons (eC (.int 0)) lNil)))) (lCons (eTup (lCons (eC (.str "above")) (lCons (eTup (lCons (eC (.int 1)) (lCons (eBin fAdd (rVar 3) (M.map Rf.d (eC (.int 1)))).fr lNil))) (lCons (eC (.int 1)) lNil)))) (lCons (eTup (lCons (eC (.str "at")) (lCons (eTup (lCons (eC (.int 1)) (lCons (eVar 3) lNil))) (lCons (eC (.int 0)) lNil)))) lNil)))).fr))))) (sRet (M.map O.dat (eC (.bl false)))) sPass)
    (sSeq (sSet 1 7 (eBin fAdd (M.map Rf.d (eC (.int 2))) (M.map Rf.d (eCall F_law_pick (aCons (rVar 2) (aCons (M.map Rf.d (eC (.int 6))) aNil))).fr)))
    (sSeq (sSet 1 8 (M.map O.dat (eTup (lCons (eC (.str "cut")) (lCons (eC (.int 0)) (lCons (eFunO fTuple (aCons (M.map Rf.d (eComp [9] (.n 9) (iRange2 (aCons (M.map Rf.d (eC (.int 1))) (aCons (rVar 7) aNil))) mYes (eTup (lCons (eC (.str "at")) (lCons (eCall F_law_lowest (aCons (rVar 9) (aCons (rVar 7) aNil))).fr (lCons (eVar 9) lNil))))).fr) aNil)).fr lNil))))))
    (sSeq (sIf (mOr (eT (eBinD fNeB (M.map Rf.d (eCall F_words_of (aCons (rVar 8) aNil)).fr) (M.map Rf.d (eLstRg (eVar 7)).fr))) (mOr (mNot (eTru (M.map Rf.d (eCall F_keeps_always (aCons (rVar 8) aNil)).fr))) (mOr (eT (eBinD fNeB (M.map Rf.d (eCall F_joins (aCons (rVar 8) aNil)).fr) (M.map Rf.d (eLst lNil).fr))) (eT (eBinD fNeB (M.map Rf.d (eCall F_least_classes (aCons (rVar 8) aNil)).fr) (M.map Rf.d (eComp [9] (.n 9) (iRange1 (aCons (rVar 7) aNil)) mYes (eLst (lCons (eVar 9) lNil)).fr).fr)))))) (sRet (M.map O.dat (eC (.bl false)))) sPass)
    (sSeq (sSet 1 10 (M.map O.dat (eTup (lCons (eC (.str "cut")) (lCons (eC (.str "a")) (lCons (eFunO fTuple (aCons (M.map Rf.d (eComp [9] (.n 9) (iRange2 (aCons (M.map Rf.d (eC (.int 1))) (aCons (rVar 7) aNil))) mYes (eTup (lCons (eC (.str "at")) (lCons (eCall F_law_lowest (aCons (rVar 9) (aCons (rVar 7) aNil))).fr (lCons (eBinD fIx (M.map Rf.d (eC (.str "abc"))) (M.map Rf.d (eBinD fMod (rVar 9) (M.map Rf.d (eC (.int 3)))))) lNil))))).fr) aNil)).fr lNil))))))
    (sSeq (sSet 1 11 (M.map O.dat (eIf (eT (eBinD fEqB (rVar 7) (M.map Rf.d (eC (.int 2))))) (eLst (lCons (eLst (lCons (eC (.str "a")) lNil)).fr (lCons (eLst (lCons (eC (.str "b")) lNil)).fr lNil))).fr (eIf (eT (eBinD fEqB (rVar 7) (M.map Rf.d (eC (.int 3))))) (eLst (lCons (eLst (lCons (eC (.str "a")) lNil)).fr (lCons (eLst (lCons (eC (.str "b")) lNil)).fr (lCons (eLst (lCons (eC (.str "c")) lNil)).fr lNil)))).fr (eLst (lCons (eLst (lCons (eC (.str "a")) (lCons (eC (.str "b")) (lCons (eC (.str "c")) lNil)))).fr lNil)).fr))))
    (sIf (mOr (eT (eBinD fNeB (M.map Rf.d (eCall F_least_classes (aCons (rVar 10) aNil)).fr) (rVar 11))) (eT (eBinD fNeB (M.map Rf.d (eFun fLenB (aCons (M.map Rf.d (eCall F_joins (aCons (rVar 10) aNil)).fr) aNil))) (M.map Rf.d (eBinD fSub (M.map Rf.d (eFun fLenB (aCons (M.map Rf.d (eCall F_words_of (aCons (rVar 10) aNil)).fr) aNil))) (M.map Rf.d (eFun fLenB (aCons (rVar 11) aNil)))))))) (sRet (M.map O.dat (eC (.bl false)))) sPass))))))))))))))))
    (sSeq (sSet 1 12 (M.map O.dat (eTup (lCons (eC (.str "pair")) (lCons (eTup (lCons (eC (.str "cut")) (lCons (eC (.str "x")) (lCons (eTup (lCons (eTup (lCons (eC (.str "at")) (lCons (eTup (lCons (eC (.int 1)) (lCons (eC (.int 2)) lNil))) (lCons (eC (.str "y")) lNil)))) lNil)) lNil)))) (lCons (eTup (lCons (eC (.str "cut")) (lCons (eC (.str "x")) (lCons (eTup (lCons (eTup (lCons (eC (.str "above")) (lCons (eTup (lCons (eC (.int 1)) (lCons (eC (.int 2)) lNil))) (lCons (eC (.str "y")) lNil)))) lNil)) lNil)))) lNil))))))
    (sRet (M.map O.dat (vAnd (eBinD fEqB (M.map Rf.d (eCall F_words_of (aCons (rVar 12) aNil)).fr) (M.map Rf.d (eLst (lCons (eTup (lCons (eC (.str "x")) (lCons (eC (.str "x")) lNil))) (lCons (eTup (lCons (eC (.str "y")) (lCons (eC (.str "x")) lNil))) (lCons (eTup (lCons (eC (.str "y")) (lCons (eC (.str "y")) lNil))) lNil)))).fr)) (vAnd (eBinD (fIs id) (M.map Rf.d (eCall F_keeps_always (aCons (rVar 12) aNil)).fr) (M.map Rf.d (eC (.bl true)))) (eBinD fEqB (M.map Rf.d (eBinD fIx (M.map Rf.d (eCall F_starts (aCons (rVar 12) aNil)).fr) (M.map Rf.d (eC (.int 2))))) (M.map Rf.d (eTup (lCons (eC (.str "above")) (lCons (eTup (lCons (eC (.int 1)) (lCons (eC (.int 2)) lNil))) (lCons (eTup (lCons (eC (.str "y")) (lCons (eC (.str "y")) lNil))) lNil))))))))))))
def F_law : Fx := defF 13 den_law
theorem sc_law : FnScope N_law ["script"] (defScope s_law) := ⟨rfl, rfl, rfl, by decide +kernel, rfl, by decide +kernel, by decide +kernel⟩
theorem ok_law {f : Addr} {fd : FuncData} (F : L2.Fun T.K "law" "law" s_law f fd) (Y : Env2 T) (c_law_tape : Cal T 1 2 "_law_tape" F_law_tape) (c_law_pick : Cal T 1 2 "_law_pick" F_law_pick) (c_law_one_of : Cal T 2 2 "_law_one_of" F_law_one_of) (c_first_apart : Cal T 13 2 "first_apart" F_first_apart) (c_keeps_always : Cal T 15 1 "keeps_always" F_keeps_always) (c_is_break : Cal T 13 2 "is_break" F_is_break) (c_starts : Cal T 13 1 "starts" F_starts) (c_law_lowest : Cal T 1 2 "_law_lowest" F_law_lowest) (c_words_of : Cal T 13 1 "words_of" F_words_of) (c_joins : Cal T 13 1 "joins" F_joins) (c_least_classes : Cal T 13 1 "least_classes" F_least_classes) : FnS T.P T.w T.K T.mg T.base (L2.CX T.P T.w) (15 + 1) f fd ["script"] (spF ⟨T.K, T.cl, T.P, T.w⟩ 1 F_law) := by
  obtain ⟨hB, hS, hX, hO, hGcd, hC_LONGEST_NAME, hC_NOTHING, hC_ALL⟩ := Y
  have nd := sc_law.nd
  refine def_ok (k := 15) (N := N_law) (den := den_law) F sc_law rfl fun cdv A outer s H E hgd hr => ?_
  have hu := hr.units
  have hu65 := Fn.units65 hr
  have hu1 := Nat.lt_of_le_of_lt (Nat.add_le_add_left (by decide : 1 ≤ 64) _) hu
  exact (ess_cons (es_for own_fn rfl (ei_range1 rfl (hB "range" (by decide)) (ea_cons (ER.of _ (c_max2 rfl rfl (hB "max" (by decide)) (ea_cons (ER.of _ ed_int) (ea_cons (ER.of _ (c_min2 rfl rfl (hB "min" (by decide)) (ea_cons (ER.of _ ed_int) (ea_cons (ER.of _ (c_lenB rfl (hB "len" (by decide)) (ea_cons (er_var (i := 0) rfl (by first | exact Or.inl rfl | exact Or.inr (Or.inl rfl) | exact Or.inr (Or.inr rfl))) ea_nil))) ea_nil)))) ea_nil)))) ea_nil)) (pg_name (i := 1) nd rfl (by first | exact Or.inl rfl | exact Or.inr rfl)) (ess_cons (es_set (i := 2) nd rfl (by first | exact Or.inl rfl | exact Or.inr rfl) (c_call c_law_tape thru_fn hgd (hr.mono (by first | decide | omega)) rfl (ea_cons (er_var (i := 0) rfl (by first | exact Or.inl rfl | exact Or.inr (Or.inl rfl) | exact Or.inr (Or.inr rfl))) (ea_cons (er_var (i := 1) rfl (by first | exact Or.inl rfl | exact Or.inr (Or.inl rfl) | exact Or.inr (Or.inr rfl))) ea_nil)) (alen1 (alen1 alen0))))
      (ess_cons (es_set (i := 3) nd rfl (by first | exact Or.inl rfl | exact Or.inr rfl) (eo_add (ER.of _ ed_int) (ER.of _ (ED.fr (c_call c_law_pick thru_fn hgd (hr.mono (by first | decide | omega)) rfl (ea_cons (er_var (i := 2) rfl (by first | exact Or.inl rfl | exact Or.inr (Or.inl rfl) | exact Or.inr (Or.inr rfl))) (ea_cons (ER.of _ (ED.fr (c_call c_law_one_of thru_fn hgd (hr.mono (by first | decide | omega)) rfl (ea_cons (er_var (i := 2) rfl (by first | exact Or.inl rfl | exact Or.inr (Or.inl rfl) | exact Or.inr (Or.inr rfl))) (ea_cons (ER.of _ (ED.fr (eo_lst (el_cons ed_int (el_cons (ed_pow (ER.of _ ed_int) (ER.of _ ed_int)) el_nil))))) ea_nil)) (alen1 (alen1 alen0))))) ea_nil)) (alen1 (alen1 alen0)))))))
      (ess_cons (es_set (i := 4) nd rfl (by first | exact Or.inl rfl | exact Or.inr rfl) (EO.of _ (ed_tup (el_cons ed_str (el_cons ed_int (el_cons (ed_tup (el_cons (ed_tup (el_cons ed_str (el_cons (ed_tup (el_cons ed_int (el_cons (ED.fr (eo_add (er_var (i := 3) rfl (by first | exact Or.inl rfl | exact Or.inr (Or.inl rfl) | exact Or.inr (Or.inr rfl))) (ER.of _ ed_int))) el_nil))) (el_cons ed_int el_nil)))) (el_cons (ed_tup (el_cons ed_str (el_cons (ed_tup (el_cons ed_int (el_cons (ed_var (i := 3) rfl (by first | exact Or.inl rfl | exact Or.inr (Or.inl rfl) | exact Or.inr (Or.inr rfl))) el_nil))) (el_cons ed_int el_nil)))) el_nil))) el_nil))))))
      (ess_cons (es_set (i := 5) nd rfl (by first | exact Or.inl rfl | exact Or.inr rfl) (EO.of _ (ed_tup (el_cons ed_str (el_cons ed_int (el_cons (ed_tup el_nil) el_nil))))))
      (ess_cons (es_if (et_w (ew_or (tB_ne hS hu (nomark _) (ER.of _ (ED.fr (c_call c_first_apart thru_fn hgd (hr.mono (by first | decide | omega)) rfl (ea_cons (er_var (i := 4) rfl (by first | exact Or.inl rfl | exact Or.inr (Or.inl rfl) | exact Or.inr (Or.inr rfl))) (ea_cons (er_var (i := 5) rfl (by first | exact Or.inl rfl | exact Or.inr (Or.inl rfl) | exact Or.inr (Or.inr rfl))) ea_nil)) (alen1 (alen1 alen0))))) (ER.of _ (ed_tup (el_cons ed_int (el_cons (ED.fr (eo_add (ER.of _ (ED.fr (eo_mul (ER.of _ ed_int) (er_var (i := 3) rfl (by first | exact Or.inl rfl | exact Or.inr (Or.inl rfl) | exact Or.inr (Or.inr rfl)))))) (ER.of _ ed_int))) el_nil))))) (ew_or1 (tB_ne hS hu (nomark _) (ER.of _ (ED.fr (c_call c_first_apart thru_fn hgd (hr.mono (by first | decide | omega)) rfl (ea_cons (er_var (i := 5) rfl (by first | exact Or.inl rfl | exact Or.inr (Or.inl rfl) | exact Or.inr (Or.inr rfl))) (ea_cons (ER.of _ (ed_tup (el_cons ed_str (el_cons ed_int (el_cons (ed_tup (el_cons (ed_tup (el_cons ed_str (el_cons (ed_tup (el_cons ed_int (el_cons (ed_var (i := 3) rfl (by first | exact Or.inl rfl | exact Or.inr (Or.inl rfl) | exact Or.inr (Or.inr rfl))) el_nil))) (el_cons ed_int el_nil)))) el_nil)) el_nil))))) ea_nil)) (alen1 (alen1 alen0))))) (ER.of _ (ed_tup (el_cons ed_int (el_cons ed_int el_nil)))))))) (ess_one (es_ret (EO.of _ ed_bl))) ess_nil)
      (ess_cons (es_if (et_w (ew_or (tB_ne hS hu (nomark _) (ER.of _ (ED.fr (c_call c_first_apart thru_fn hgd (hr.mono (by first | decide | omega)) rfl (ea_cons (er_var (i := 5) rfl (by first | exact Or.inl rfl | exact Or.inr (Or.inl rfl) | exact Or.inr (Or.inr rfl))) (ea_cons (ER.of _ (ed_tup (el_cons ed_str (el_cons ed_int (el_cons (ed_tup (el_cons (ed_tup (el_cons ed_str (el_cons (ed_tup (el_cons ed_int (el_cons (ed_var (i := 3) rfl (by first | exact Or.inl rfl | exact Or.inr (Or.inl rfl) | exact Or.inr (Or.inr rfl))) el_nil))) (el_cons ed_int el_nil)))) (el_cons (ed_tup (el_cons ed_str (el_cons (ed_tup (el_cons ed_int (el_cons (ed_var (i := 3) rfl (by first | exact Or.inl rfl | exact Or.inr (Or.inl rfl) | exact Or.inr (Or.inr rfl))) el_nil))) (el_cons ed_int el_nil)))) el_nil))) el_nil))))) ea_nil)) (alen1 (alen1 alen0))))) (ER.of _ (ed_tup (el_cons ed_int (el_cons (ed_var (i := 3) rfl (by first | exact Or.inl rfl | exact Or.inr (Or.inl rfl) | exact Or.inr (Or.inr rfl))) el_nil))))) (ew_or1 (tB_ne hS hu (nomark _) (ER.of _ (ED.fr (c_call c_first_apart thru_fn hgd (hr.mono (by first | decide | omega)) rfl (ea_cons (er_var (i := 5) rfl (by first | exact Or.inl rfl | exact Or.inr (Or.inl rfl) | exact Or.inr (Or.inr rfl))) (ea_cons (ER.of _ (ed_tup (el_cons ed_str (el_cons ed_int (el_cons (ed_tup (el_cons (ed_tup (el_cons ed_str (el_cons (ed_tup (el_cons ed_int (el_cons (ed_var (i := 3) rfl (by first | exact Or.inl rfl | exact Or.inr (Or.inl rfl) | exact Or.inr (Or.inr rfl))) el_nil))) (el_cons ed_int el_nil)))) el_nil)) el_nil))))) ea_nil)) (alen1 (alen1 alen0))))) (ER.of _ (ed_tup (el_cons ed_int (el_cons ed_int el_nil)))))))) (ess_one (es_ret (EO.of _ ed_bl))) ess_nil)
      (ess_cons (es_set (i := 6) nd rfl (by first | exact Or.inl rfl | exact Or.inr rfl) (EO.of _ (ed_tup (el_cons ed_str (el_cons ed_int (el_cons (ed_tup (el_cons (ed_tup (el_cons ed_str (el_cons (ed_tup (el_cons ed_int (el_cons (ED.fr (eo_add (er_var (i := 3) rfl (by first | exact Or.inl rfl | exact Or.inr (Or.inl rfl) | exact Or.inr (Or.inr rfl))) (ER.of _ ed_int))) el_nil))) (el_cons ed_int el_nil)))) (el_cons (ed_tup (el_cons ed_str (el_cons (ed_tup (el_cons ed_int (el_cons (ED.fr (eo_add (ER.of _ (ED.fr (eo_mul (ER.of _ ed_int) (er_var (i := 3) rfl (by first | exact Or.inl rfl | exact Or.inr (Or.inl rfl) | exact Or.inr (Or.inr rfl)))))) (ER.of _ ed_int))) el_nil))) (el_cons ed_int el_nil)))) el_nil))) el_nil))))))
      (ess_cons (es_if (et_w (ew_or (tB_ne hS hu (nomark _) (ER.of _ (ED.fr (c_call c_first_apart thru_fn hgd (hr.mono (by first | decide | omega)) rfl (ea_cons (er_var (i := 6) rfl (by first | exact Or.inl rfl | exact Or.inr (Or.inl rfl) | exact Or.inr (Or.inr rfl))) (ea_cons (er_var (i := 5) rfl (by first | exact Or.inl rfl | exact Or.inr (Or.inl rfl) | exact Or.inr (Or.inr rfl))) ea_nil)) (alen1 (alen1 alen0))))) (ER.of _ (ed_tup (el_cons ed_int (el_cons (ED.fr (eo_add (ER.of _ (ED.fr (eo_mul (ER.of _ ed_int) (er_var (i := 3) rfl (by first | exact Or.inl rfl | exact Or.inr (Or.inl rfl) | exact Or.inr (Or.inr rfl)))))) (ER.of _ ed_int))) el_nil))))) (ew_or1 (tB_ne hS hu (nomark _) (ER.of _ (ED.fr (c_call c_first_apart thru_fn hgd (hr.mono (by first | decide | omega)) rfl (ea_cons (er_var (i := 6) rfl (by first | exact Or.inl rfl | exact Or.inr (Or.inl rfl) | exact Or.inr (Or.inr rfl))) (ea_cons (er_var (i := 4) rfl (by first | exact Or.inl rfl | exact Or.inr (Or.inl rfl) | exact Or.inr (Or.inr rfl))) ea_nil)) (alen1 (alen1 alen0))))) (ER.of _ (ed_tup (el_cons ed_int (el_cons (ED.fr (eo_add (ER.of _ (ED.fr (eo_mul (ER.of _ ed_int) (er_var (i := 3) rfl (by first | exact Or.inl rfl | exact Or.inr (Or.inl rfl) | exact Or.inr (Or.inr rfl)))))) (ER.of _ ed_int))) el_nil)))))))) (ess_one (es_ret (EO.of _ ed_bl))) ess_nil)
      (ess_cons (es_if (et_w (ew_or (t_isnot (nomark _) (ER.of _ (ED.fr (c_call c_keeps_always thru_fn hgd (hr.mono (by first | decide | omega)) rfl (ea_cons (er_var (i := 4) rfl (by first | exact Or.inl rfl | exact Or.inr (Or.inl rfl) | exact Or.inr (Or.inr rfl))) ea_nil) (alen1 alen0)))) (ER.of _ ed_bl)) (ew_or (t_isnot (nomark _) (ER.of _ (ED.fr (c_call c_is_break thru_fn hgd (hr.mono (by first | decide | omega)) rfl (ea_cons (er_var (i := 4) rfl (by first | exact Or.inl rfl | exact Or.inr (Or.inl rfl) | exact Or.inr (Or.inr rfl))) (ea_cons (ER.of _ (ed_tup (el_cons (ed_tup (el_cons ed_int (el_cons ed_int el_nil))) (el_cons (ed_tup (el_cons ed_int (el_cons (ED.fr (eo_add (ER.of _ (ED.fr (eo_mul (ER.of _ ed_int) (er_var (i := 3) rfl (by first | exact Or.inl rfl | exact Or.inr (Or.inl rfl) | exact Or.inr (Or.inr rfl)))))) (ER.of _ ed_int))) el_nil))) (el_cons (ed_tup (el_cons ed_int (el_cons ed_int el_nil))) el_nil))))) ea_nil)) (alen1 (alen1 alen0))))) (ER.of _ ed_bl)) (ew_or1 (tB_ne hS hu (nomark _) (ER.of _ (ED.fr (c_call c_starts thru_fn hgd (hr.mono (by first | decide | omega)) rfl (ea_cons (er_var (i := 4) rfl (by first | exact Or.inl rfl | exact Or.inr (Or.inl rfl) | exact Or.inr (Or.inr rfl))) ea_nil) (alen1 alen0)))) (ER.of _ (ED.fr (eo_lst (el_cons (ed_tup (el_cons ed_str (el_cons (ed_tup (el_cons ed_int (el_cons ed_int el_nil))) (el_cons ed_int el_nil)))) (el_cons (ed_tup (el_cons ed_str (el_cons (ed_tup (el_cons ed_int (el_cons (ED.fr (eo_add (er_var (i := 3) rfl (by first | exact Or.inl rfl | exact Or.inr (Or.inl rfl) | exact Or.inr (Or.inr rfl))) (ER.of _ ed_int))) el_nil))) (el_cons ed_int el_nil)))) (el_cons (ed_tup (el_cons ed_str (el_cons (ed_tup (el_cons ed_int (el_cons (ed_var (i := 3) rfl (by first | exact Or.inl rfl | exact Or.inr (Or.inl rfl) | exact Or.inr (Or.inr rfl))) el_nil))) (el_cons ed_int el_nil)))) el_nil))))))))))) (ess_one (es_ret (EO.of _ ed_bl))) ess_nil)
      (ess_cons (es_set (i := 7) nd rfl (by first | exact Or.inl rfl | exact Or.inr rfl) (eo_add (ER.of _ ed_int) (ER.of _ (ED.fr (c_call c_law_pick thru_fn hgd (hr.mono (by first | decide | omega)) rfl (ea_cons (er_var (i := 2) rfl (by first | exact Or.inl rfl | exact Or.inr (Or.inl rfl) | exact Or.inr (Or.inr rfl))) (ea_cons (ER.of _ ed_int) ea_nil)) (alen1 (alen1 alen0)))))))
      (ess_cons (es_set (i := 8) nd rfl (by first | exact Or.inl rfl | exact Or.inr rfl) (EO.of _ (ed_tup (el_cons ed_str (el_cons ed_int (el_cons (ED.fr (c_tuple rfl (hB "tuple" (by decide)) (ea_cons (ER.of _ (ED.fr (eo_comp (own := [("at", 9)]) rfl nd (ei_range2 rfl (hB "range" (by decide)) (ea_cons (ER.of _ ed_int) (ea_cons (er_var (i := 7) rfl (by first | exact Or.inl rfl | exact Or.inr (Or.inl rfl) | exact Or.inr (Or.inr rfl))) ea_nil))) (blkOk_by (by kernel_rfl)) (fun _ _ _ _ _ => (pg_name (i := 9) nd rfl (by first | exact Or.inl rfl | exact Or.inr rfl))) (fun _ _ _ _ _ => ets_nil) (fun _ _ _ _ _ => (ed_tup (el_cons ed_str (el_cons (ED.fr (c_call c_law_lowest thru_blk hgd (hr.mono (by first | decide | omega)) rfl (ea_cons (er_var (i := 9) rfl (by first | exact Or.inl rfl | exact Or.inr (Or.inl rfl) | exact Or.inr (Or.inr rfl))) (ea_cons (er_var (i := 7) rfl (by first | exact Or.inl rfl | exact Or.inr (Or.inl rfl) | exact Or.inr (Or.inr rfl))) ea_nil)) (alen1 (alen1 alen0)))) (el_cons (ed_var (i := 9) rfl (by first | exact Or.inl rfl | exact Or.inr (Or.inl rfl) | exact Or.inr (Or.inr rfl))) el_nil))))) (by decide)))) ea_nil))) el_nil))))))
      (ess_cons (es_if (et_w (ew_or (tB_ne hS hu (nomark _) (ER.of _ (ED.fr (c_call c_words_of thru_fn hgd (hr.mono (by first | decide | omega)) rfl (ea_cons (er_var (i := 8) rfl (by first | exact Or.inl rfl | exact Or.inr (Or.inl rfl) | exact Or.inr (Or.inr rfl))) ea_nil) (alen1 alen0)))) (ER.of _ (ED.fr (eo_lstRg rfl rfl (hB "list" (by decide)) rfl (hB "range" (by decide)) (ed_var (i := 7) rfl (by first | exact Or.inl rfl | exact Or.inr (Or.inl rfl) | exact Or.inr (Or.inr rfl))))))) (ew_or (et_not (et_tru (ER.of _ (ED.fr (c_call c_keeps_always thru_fn hgd (hr.mono (by first | decide | omega)) rfl (ea_cons (er_var (i := 8) rfl (by first | exact Or.inl rfl | exact Or.inr (Or.inl rfl) | exact Or.inr (Or.inr rfl))) ea_nil) (alen1 alen0)))))) (ew_or (tB_ne hS hu (nomark _) (ER.of _ (ED.fr (c_call c_joins thru_fn hgd (hr.mono (by first | decide | omega)) rfl (ea_cons (er_var (i := 8) rfl (by first | exact Or.inl rfl | exact Or.inr (Or.inl rfl) | exact Or.inr (Or.inr rfl))) ea_nil) (alen1 alen0)))) (ER.of _ (ED.fr (eo_lst el_nil)))) (ew_or1 (tB_ne hS hu (nomark _) (ER.of _ (ED.fr (c_call c_least_classes thru_fn hgd (hr.mono (by first | decide | omega)) rfl (ea_cons (er_var (i := 8) rfl (by first | exact Or.inl rfl | exact Or.inr (Or.inl rfl) | exact Or.inr (Or.inr rfl))) ea_nil) (alen1 alen0)))) (ER.of _ (ED.fr (eo_comp (own := [("at", 9)]) rfl nd (ei_range1 rfl (hB "range" (by decide)) (ea_cons (er_var (i := 7) rfl (by first | exact Or.inl rfl | exact Or.inr (Or.inl rfl) | exact Or.inr (Or.inr rfl))) ea_nil)) (blkOk_by (by kernel_rfl)) (fun _ _ _ _ _ => (pg_name (i := 9) nd rfl (by first | exact Or.inl rfl | exact Or.inr rfl))) (fun _ _ _ _ _ => ets_nil) (fun _ _ _ _ _ => (ED.fr (eo_lst (el_cons (ed_var (i := 9) rfl (by first | exact Or.inl rfl | exact Or.inr (Or.inl rfl) | exact Or.inr (Or.inr rfl))) el_nil)))) (by decide)))))))))) (ess_one (es_ret (EO.of _ ed_bl))) ess_nil)
      (ess_cons (es_set (i := 10) nd rfl (by first | exact Or.inl rfl | exact Or.inr rfl) (EO.of _ (ed_tup (el_cons ed_str (el_cons ed_str (el_cons (ED.fr (c_tuple rfl (hB "tuple" (by decide)) (ea_cons (ER.of _ (ED.fr (eo_comp (own := [("at", 9)]) rfl nd (ei_range2 rfl (hB "range" (by decide)) (ea_cons (ER.of _ ed_int) (ea_cons (er_var (i := 7) rfl (by first | exact Or.inl rfl | exact Or.inr (Or.inl rfl) | exact Or.inr (Or.inr rfl))) ea_nil))) (blkOk_by (by kernel_rfl)) (fun _ _ _ _ _ => (pg_name (i := 9) nd rfl (by first | exact Or.inl rfl | exact Or.inr rfl))) (fun _ _ _ _ _ => ets_nil) (fun _ _ _ _ _ => (ed_tup (el_cons ed_str (el_cons (ED.fr (c_call c_law_lowest thru_blk hgd (hr.mono (by first | decide | omega)) rfl (ea_cons (er_var (i := 9) rfl (by first | exact Or.inl rfl | exact Or.inr (Or.inl rfl) | exact Or.inr (Or.inr rfl))) (ea_cons (er_var (i := 7) rfl (by first | exact Or.inl rfl | exact Or.inr (Or.inl rfl) | exact Or.inr (Or.inr rfl))) ea_nil)) (alen1 (alen1 alen0)))) (el_cons (ed_ix (ER.of _ ed_str) (ER.of _ (ed_mod (er_var (i := 9) rfl (by first | exact Or.inl rfl | exact Or.inr (Or.inl rfl) | exact Or.inr (Or.inr rfl))) (ER.of _ ed_int))) (fun _ _ => rfl)) el_nil))))) (by decide)))) ea_nil))) el_nil))))))
      (ess_cons (es_set (i := 11) nd rfl (by first | exact Or.inl rfl | exact Or.inr rfl) (EO.of _ (ex_if rD_back (tB_eq hS hu (nomark _) (er_var (i := 7) rfl (by first | exact Or.inl rfl | exact Or.inr (Or.inl rfl) | exact Or.inr (Or.inr rfl))) (ER.of _ ed_int)) (ED.fr (eo_lst (el_cons (ED.fr (eo_lst (el_cons ed_str el_nil))) (el_cons (ED.fr (eo_lst (el_cons ed_str el_nil))) el_nil)))) (ex_if rD_back (tB_eq hS hu (nomark _) (er_var (i := 7) rfl (by first | exact Or.inl rfl | exact Or.inr (Or.inl rfl) | exact Or.inr (Or.inr rfl))) (ER.of _ ed_int)) (ED.fr (eo_lst (el_cons (ED.fr (eo_lst (el_cons ed_str el_nil))) (el_cons (ED.fr (eo_lst (el_cons ed_str el_nil))) (el_cons (ED.fr (eo_lst (el_cons ed_str el_nil))) el_nil))))) (ED.fr (eo_lst (el_cons (ED.fr (eo_lst (el_cons ed_str (el_cons ed_str (el_cons ed_str el_nil))))) el_nil)))))))
      (ess_one (es_if (et_w (ew_or (tB_ne hS hu (nomark _) (ER.of _ (ED.fr (c_call c_least_classes thru_fn hgd (hr.mono (by first | decide | omega)) rfl (ea_cons (er_var (i := 10) rfl (by first | exact Or.inl rfl | exact Or.inr (Or.inl rfl) | exact Or.inr (Or.inr rfl))) ea_nil) (alen1 alen0)))) (er_var (i := 11) rfl (by first | exact Or.inl rfl | exact Or.inr (Or.inl rfl) | exact Or.inr (Or.inr rfl)))) (ew_or1 (tB_ne hS hu (nomark _) (ER.of _ (c_lenB rfl (hB "len" (by decide)) (ea_cons (ER.of _ (ED.fr (c_call c_joins thru_fn hgd (hr.mono (by first | decide | omega)) rfl (ea_cons (er_var (i := 10) rfl (by first | exact Or.inl rfl | exact Or.inr (Or.inl rfl) | exact Or.inr (Or.inr rfl))) ea_nil) (alen1 alen0)))) ea_nil))) (ER.of _ (ed_sub (ER.of _ (c_lenB rfl (hB "len" (by decide)) (ea_cons (ER.of _ (ED.fr (c_call c_words_of thru_fn hgd (hr.mono (by first | decide | omega)) rfl (ea_cons (er_var (i := 10) rfl (by first | exact Or.inl rfl | exact Or.inr (Or.inl rfl) | exact Or.inr (Or.inr rfl))) ea_nil) (alen1 alen0)))) ea_nil))) (ER.of _ (c_lenB rfl (hB "len" (by decide)) (ea_cons (er_var (i := 11) rfl (by first | exact Or.inl rfl | exact Or.inr (Or.inl rfl) | exact Or.inr (Or.inr rfl))) ea_nil))))))))) (ess_one (es_ret (EO.of _ ed_bl))) ess_nil)))))))))))))))))
      (ess_cons (es_set (i := 12) nd rfl (by first | exact Or.inl rfl | exact Or.inr rfl) (EO.of _ (ed_tup (el_cons ed_str (el_cons (ed_tup (el_cons ed_str (el_cons ed_str (el_cons (ed_tup (el_cons (ed_tup (el_cons ed_str (el_cons (ed_tup (el_cons ed_int (el_cons ed_int el_nil))) (el_cons ed_str el_nil)))) el_nil)) el_nil)))) (el_cons (ed_tup (el_cons ed_str (el_cons ed_str (el_cons (ed_tup (el_cons (ed_tup (el_cons ed_str (el_cons (ed_tup (el_cons ed_int (el_cons ed_int el_nil))) (el_cons ed_str el_nil)))) el_nil)) el_nil)))) el_nil))))))
      (ess_one (es_ret (EO.of _ (ed_and (cB_eq hS hu (nomark _) (ER.of _ (ED.fr (c_call c_words_of thru_fn hgd (hr.mono (by first | decide | omega)) rfl (ea_cons (er_var (i := 12) rfl (by first | exact Or.inl rfl | exact Or.inr (Or.inl rfl) | exact Or.inr (Or.inr rfl))) ea_nil) (alen1 alen0)))) (ER.of _ (ED.fr (eo_lst (el_cons (ed_tup (el_cons ed_str (el_cons ed_str el_nil))) (el_cons (ed_tup (el_cons ed_str (el_cons ed_str el_nil))) (el_cons (ed_tup (el_cons ed_str (el_cons ed_str el_nil))) el_nil))))))) (ed_and (c_is (nomark _) (ER.of _ (ED.fr (c_call c_keeps_always thru_fn hgd (hr.mono (by first | decide | omega)) rfl (ea_cons (er_var (i := 12) rfl (by first | exact Or.inl rfl | exact Or.inr (Or.inl rfl) | exact Or.inr (Or.inr rfl))) ea_nil) (alen1 alen0)))) (ER.of _ ed_bl)) (ed_one (cB_eq hS hu (nomark _) (ER.of _ (ed_ix (ER.of _ (ED.fr (c_call c_starts thru_fn hgd (hr.mono (by first | decide | omega)) rfl (ea_cons (er_var (i := 12) rfl (by first | exact Or.inl rfl | exact Or.inr (Or.inl rfl) | exact Or.inr (Or.inr rfl))) ea_nil) (alen1 alen0)))) (ER.of _ ed_int) (fun _ _ => rfl))) (ER.of _ (ed_tup (el_cons ed_str (el_cons (ed_tup (el_cons ed_int (el_cons ed_int el_nil))) (el_cons (ed_tup (el_cons ed_str (el_cons ed_str el_nil))) el_nil))))))))))))))

end Law

set_option maxRecDepth 100000
set_option maxHeartbeats 4000000
namespace Law
open PySem PySem.Spec PyProof.Rows L2 Fn Fs
abbrev rw3 (s : Str) (a b : Int) (w : D) : D := .tup [.str s, sh a b, w]
theorem less_is {a b c d : Int} (h1 : Sm a) (h2 : Sm b) (h3 : Sm c) (h4 : Sm d) : Is F_is_less [sh a b, sh c d] (.bl (decide (a * d < c * b))) := by
  unfold F_is_less den_is_less
  simp [defF, outs, callF, argOs, argO, lent, back, backOk, O.own, O.sh, O.d, M.bind, M.ret, M.map, M.lift, M.chk, M.fr, M.then_, M.stuck, Rf.get, getS, getL, rVar, eVar, eC, eBin, eBinD, eFun, eFunO, eTru, eT, eIf, mAnd, mOr, mNot, mYes, vAnd, vOr, vNot, lCons, lNil, aCons, aNil, eTup, eLst, eCall, sSeq, sIf, sSet, sPass, sRet, sDrop, sNo, kd, eComp, Fs.comp_nil, Fs.comp_cons, wipeE, restE, iAll, iEnu, Fn.numbered, seqE, Tg.set, Tg.sl, setAll, free, sFor, Fs.for_nil, Fs.for_cons, eIsi, fIs, Fn.isNon, eTxt, fTxt, eIndex, eSlice, pInt, pNone, iRange1, iRange2, rangeD, fIx, atI, ixN, fLenB, fAll, eCh, sAug, sAsg, sAsgL, sPar, Fn.iRev, D.kn, Fs.ty_tt, Fs.ty_ti, Fs.ty_ts, Fs.ty_tl, Fs.ty_tb, Fs.ty_tn, Fs.ty_td, Fs.ty_it, Fs.ty_ii, Fs.ty_is, Fs.ty_il, Fs.ty_ib, Fs.ty_in, Fs.ty_id, Fs.ty_bt, Fs.ty_bi, Fs.ty_bs, Fs.ty_bl, Fs.ty_bb, Fs.ty_bn, Fs.ty_bd, Fs.ty_st, Fs.ty_si, Fs.ty_ss, Fs.ty_sl, Fs.ty_sb, Fs.ty_sn, Fs.ty_sd, Fs.ty_lt, Fs.ty_li, Fs.ty_ls, Fs.ty_ll, Fs.ty_lb, Fs.ty_ln, Fs.ty_ld, Fs.tru_bl, Fs.eq_ii, Fs.ne_ii, Fs.eq_hh, Fs.ne_hh, fLenA, fLen, asBools, lim, fTuple, fList, Fs.q_cut_cut, Fs.q_cut_read, Fs.q_cut_pair, Fs.q_cut_at, Fs.q_cut_above, Fs.q_read_cut, Fs.q_read_read, Fs.q_read_pair, Fs.q_read_at, Fs.q_read_above, Fs.q_pair_cut, Fs.q_pair_read, Fs.q_pair_pair, Fs.q_pair_at, Fs.q_pair_above, Fs.q_at_cut, Fs.q_at_read, Fs.q_at_pair, Fs.q_at_at, Fs.q_at_above, Fs.q_above_cut, Fs.q_above_read, Fs.q_above_pair, Fs.q_above_at, Fs.q_above_above, Fs.Is, fSub, fAdd, fLt, fGt, fLe, fGe, fSl, Fn.cutD, HT.sIx, sMut, sMut0, isLst, fApp, mutAt, vNeg, eLstRg, Fs.IsO, Fs.mul_i, Fs.div_i, Fs.wh_cons, h1, h2, h3, h4]
theorem integer_is (a : Int) : Is F_is_integer [.int a] (.bl true) := by
  rfl
theorem plain_is (a : Int) : Is F_is_plain [.int a] (.bl true) := by
  rfl
theorem share_is {a b : Int} (h0 : 0 ≤ a) (h1 : a ≤ b) (h2 : Nat.gcd a.natAbs b.natAbs = 1) : Is F_is_share [sh a b] (.bl true) := by
  have hi := integer_is
  simp only [Is, List.map_cons, List.map_nil] at hi
  unfold F_is_share den_is_share
  simp [defF, outs, callF, argOs, argO, lent, back, backOk, O.own, O.sh, O.d, M.bind, M.ret, M.map, M.lift, M.chk, M.fr, M.then_, M.stuck, Rf.get, getS, getL, rVar, eVar, eC, eBin, eBinD, eFun, eFunO, eTru, eT, eIf, mAnd, mOr, mNot, mYes, vAnd, vOr, vNot, lCons, lNil, aCons, aNil, eTup, eLst, eCall, sSeq, sIf, sSet, sPass, sRet, sDrop, sNo, kd, eComp, Fs.comp_nil, Fs.comp_cons, wipeE, restE, iAll, iEnu, Fn.numbered, seqE, Tg.set, Tg.sl, setAll, free, sFor, Fs.for_nil, Fs.for_cons, eIsi, fIs, Fn.isNon, eTxt, fTxt, eIndex, eSlice, pInt, pNone, iRange1, iRange2, rangeD, fIx, atI, ixN, fLenB, fAll, eCh, sAug, sAsg, sAsgL, sPar, Fn.iRev, D.kn, Fs.ty_tt, Fs.ty_ti, Fs.ty_ts, Fs.ty_tl, Fs.ty_tb, Fs.ty_tn, Fs.ty_td, Fs.ty_it, Fs.ty_ii, Fs.ty_is, Fs.ty_il, Fs.ty_ib, Fs.ty_in, Fs.ty_id, Fs.ty_bt, Fs.ty_bi, Fs.ty_bs, Fs.ty_bl, Fs.ty_bb, Fs.ty_bn, Fs.ty_bd, Fs.ty_st, Fs.ty_si, Fs.ty_ss, Fs.ty_sl, Fs.ty_sb, Fs.ty_sn, Fs.ty_sd, Fs.ty_lt, Fs.ty_li, Fs.ty_ls, Fs.ty_ll, Fs.ty_lb, Fs.ty_ln, Fs.ty_ld, Fs.tru_bl, Fs.eq_ii, Fs.ne_ii, Fs.eq_hh, Fs.ne_hh, fLenA, fLen, asBools, lim, fTuple, fList, Fs.q_cut_cut, Fs.q_cut_read, Fs.q_cut_pair, Fs.q_cut_at, Fs.q_cut_above, Fs.q_read_cut, Fs.q_read_read, Fs.q_read_pair, Fs.q_read_at, Fs.q_read_above, Fs.q_pair_cut, Fs.q_pair_read, Fs.q_pair_pair, Fs.q_pair_at, Fs.q_pair_above, Fs.q_at_cut, Fs.q_at_read, Fs.q_at_pair, Fs.q_at_at, Fs.q_at_above, Fs.q_above_cut, Fs.q_above_read, Fs.q_above_pair, Fs.q_above_at, Fs.q_above_above, Fs.Is, fSub, fAdd, fLt, fGt, fLe, fGe, fSl, Fn.cutD, HT.sIx, sMut, sMut0, isLst, fApp, mutAt, vNeg, eLstRg, Fs.IsO, Fs.mul_i, Fs.div_i, Fs.wh_cons, fGcd, hi, h0, h1, h2]
theorem ahead_is {s s' : Str} {a b c d : Int} {w w' : D} (h1 : Sm a) (h2 : Sm b) (h3 : Sm c) (h4 : Sm d) (ne : ¬ b = d) :
    Is F_is_ahead [rw3 s a b w, rw3 s' c d w'] (.bl (decide (a * d < c * b))) := by
  have hl := less_is h1 h2 h3 h4
  simp only [Is, List.map_cons, List.map_nil] at hl
  unfold F_is_ahead den_is_ahead
  simp [defF, outs, callF, argOs, argO, lent, back, backOk, O.own, O.sh, O.d, M.bind, M.ret, M.map, M.lift, M.chk, M.fr, M.then_, M.stuck, Rf.get, getS, getL, rVar, eVar, eC, eBin, eBinD, eFun, eFunO, eTru, eT, eIf, mAnd, mOr, mNot, mYes, vAnd, vOr, vNot, lCons, lNil, aCons, aNil, eTup, eLst, eCall, sSeq, sIf, sSet, sPass, sRet, sDrop, sNo, kd, eComp, Fs.comp_nil, Fs.comp_cons, wipeE, restE, iAll, iEnu, Fn.numbered, seqE, Tg.set, Tg.sl, setAll, free, sFor, Fs.for_nil, Fs.for_cons, eIsi, fIs, Fn.isNon, eTxt, fTxt, eIndex, eSlice, pInt, pNone, iRange1, iRange2, rangeD, fIx, atI, ixN, fLenB, fAll, eCh, sAug, sAsg, sAsgL, sPar, Fn.iRev, D.kn, Fs.ty_tt, Fs.ty_ti, Fs.ty_ts, Fs.ty_tl, Fs.ty_tb, Fs.ty_tn, Fs.ty_td, Fs.ty_it, Fs.ty_ii, Fs.ty_is, Fs.ty_il, Fs.ty_ib, Fs.ty_in, Fs.ty_id, Fs.ty_bt, Fs.ty_bi, Fs.ty_bs, Fs.ty_bl, Fs.ty_bb, Fs.ty_bn, Fs.ty_bd, Fs.ty_st, Fs.ty_si, Fs.ty_ss, Fs.ty_sl, Fs.ty_sb, Fs.ty_sn, Fs.ty_sd, Fs.ty_lt, Fs.ty_li, Fs.ty_ls, Fs.ty_ll, Fs.ty_lb, Fs.ty_ln, Fs.ty_ld, Fs.tru_bl, Fs.eq_ii, Fs.ne_ii, Fs.eq_hh, Fs.ne_hh, fLenA, fLen, asBools, lim, fTuple, fList, Fs.q_cut_cut, Fs.q_cut_read, Fs.q_cut_pair, Fs.q_cut_at, Fs.q_cut_above, Fs.q_read_cut, Fs.q_read_read, Fs.q_read_pair, Fs.q_read_at, Fs.q_read_above, Fs.q_pair_cut, Fs.q_pair_read, Fs.q_pair_pair, Fs.q_pair_at, Fs.q_pair_above, Fs.q_at_cut, Fs.q_at_read, Fs.q_at_pair, Fs.q_at_at, Fs.q_at_above, Fs.q_above_cut, Fs.q_above_read, Fs.q_above_pair, Fs.q_above_at, Fs.q_above_above, Fs.Is, fSub, fAdd, fLt, fGt, fLe, fGe, fSl, Fn.cutD, HT.sIx, sMut, sMut0, isLst, fApp, mutAt, vNeg, eLstRg, Fs.IsO, Fs.mul_i, Fs.div_i, Fs.wh_cons, hl, ne]
theorem ahead_eq {a b : Int} {w w' : D} : Is F_is_ahead [rw3 "at" a b w, rw3 "above" a b w'] (.bl true) := by
  unfold F_is_ahead den_is_ahead
  simp [defF, outs, callF, argOs, argO, lent, back, backOk, O.own, O.sh, O.d, M.bind, M.ret, M.map, M.lift, M.chk, M.fr, M.then_, M.stuck, Rf.get, getS, getL, rVar, eVar, eC, eBin, eBinD, eFun, eFunO, eTru, eT, eIf, mAnd, mOr, mNot, mYes, vAnd, vOr, vNot, lCons, lNil, aCons, aNil, eTup, eLst, eCall, sSeq, sIf, sSet, sPass, sRet, sDrop, sNo, kd, eComp, Fs.comp_nil, Fs.comp_cons, wipeE, restE, iAll, iEnu, Fn.numbered, seqE, Tg.set, Tg.sl, setAll, free, sFor, Fs.for_nil, Fs.for_cons, eIsi, fIs, Fn.isNon, eTxt, fTxt, eIndex, eSlice, pInt, pNone, iRange1, iRange2, rangeD, fIx, atI, ixN, fLenB, fAll, eCh, sAug, sAsg, sAsgL, sPar, Fn.iRev, D.kn, Fs.ty_tt, Fs.ty_ti, Fs.ty_ts, Fs.ty_tl, Fs.ty_tb, Fs.ty_tn, Fs.ty_td, Fs.ty_it, Fs.ty_ii, Fs.ty_is, Fs.ty_il, Fs.ty_ib, Fs.ty_in, Fs.ty_id, Fs.ty_bt, Fs.ty_bi, Fs.ty_bs, Fs.ty_bl, Fs.ty_bb, Fs.ty_bn, Fs.ty_bd, Fs.ty_st, Fs.ty_si, Fs.ty_ss, Fs.ty_sl, Fs.ty_sb, Fs.ty_sn, Fs.ty_sd, Fs.ty_lt, Fs.ty_li, Fs.ty_ls, Fs.ty_ll, Fs.ty_lb, Fs.ty_ln, Fs.ty_ld, Fs.tru_bl, Fs.eq_ii, Fs.ne_ii, Fs.eq_hh, Fs.ne_hh, fLenA, fLen, asBools, lim, fTuple, fList, Fs.q_cut_cut, Fs.q_cut_read, Fs.q_cut_pair, Fs.q_cut_at, Fs.q_cut_above, Fs.q_read_cut, Fs.q_read_read, Fs.q_read_pair, Fs.q_read_at, Fs.q_read_above, Fs.q_pair_cut, Fs.q_pair_read, Fs.q_pair_pair, Fs.q_pair_at, Fs.q_pair_above, Fs.q_at_cut, Fs.q_at_read, Fs.q_at_pair, Fs.q_at_at, Fs.q_at_above, Fs.q_above_cut, Fs.q_above_read, Fs.q_above_pair, Fs.q_above_at, Fs.q_above_above, Fs.Is, fSub, fAdd, fLt, fGt, fLe, fGe, fSl, Fn.cutD, HT.sIx, sMut, sMut0, isLst, fApp, mutAt, vNeg, eLstRg, Fs.IsO, Fs.mul_i, Fs.div_i, Fs.wh_cons]
theorem ahead_eq0 {a b : Int} {w w' : D} : Is F_is_ahead [rw3 "above" a b w, rw3 "above" a b w'] (.bl false) := by
  unfold F_is_ahead den_is_ahead
  simp [defF, outs, callF, argOs, argO, lent, back, backOk, O.own, O.sh, O.d, M.bind, M.ret, M.map, M.lift, M.chk, M.fr, M.then_, M.stuck, Rf.get, getS, getL, rVar, eVar, eC, eBin, eBinD, eFun, eFunO, eTru, eT, eIf, mAnd, mOr, mNot, mYes, vAnd, vOr, vNot, lCons, lNil, aCons, aNil, eTup, eLst, eCall, sSeq, sIf, sSet, sPass, sRet, sDrop, sNo, kd, eComp, Fs.comp_nil, Fs.comp_cons, wipeE, restE, iAll, iEnu, Fn.numbered, seqE, Tg.set, Tg.sl, setAll, free, sFor, Fs.for_nil, Fs.for_cons, eIsi, fIs, Fn.isNon, eTxt, fTxt, eIndex, eSlice, pInt, pNone, iRange1, iRange2, rangeD, fIx, atI, ixN, fLenB, fAll, eCh, sAug, sAsg, sAsgL, sPar, Fn.iRev, D.kn, Fs.ty_tt, Fs.ty_ti, Fs.ty_ts, Fs.ty_tl, Fs.ty_tb, Fs.ty_tn, Fs.ty_td, Fs.ty_it, Fs.ty_ii, Fs.ty_is, Fs.ty_il, Fs.ty_ib, Fs.ty_in, Fs.ty_id, Fs.ty_bt, Fs.ty_bi, Fs.ty_bs, Fs.ty_bl, Fs.ty_bb, Fs.ty_bn, Fs.ty_bd, Fs.ty_st, Fs.ty_si, Fs.ty_ss, Fs.ty_sl, Fs.ty_sb, Fs.ty_sn, Fs.ty_sd, Fs.ty_lt, Fs.ty_li, Fs.ty_ls, Fs.ty_ll, Fs.ty_lb, Fs.ty_ln, Fs.ty_ld, Fs.tru_bl, Fs.eq_ii, Fs.ne_ii, Fs.eq_hh, Fs.ne_hh, fLenA, fLen, asBools, lim, fTuple, fList, Fs.q_cut_cut, Fs.q_cut_read, Fs.q_cut_pair, Fs.q_cut_at, Fs.q_cut_above, Fs.q_read_cut, Fs.q_read_read, Fs.q_read_pair, Fs.q_read_at, Fs.q_read_above, Fs.q_pair_cut, Fs.q_pair_read, Fs.q_pair_pair, Fs.q_pair_at, Fs.q_pair_above, Fs.q_at_cut, Fs.q_at_read, Fs.q_at_pair, Fs.q_at_at, Fs.q_at_above, Fs.q_above_cut, Fs.q_above_read, Fs.q_above_pair, Fs.q_above_at, Fs.q_above_above, Fs.Is, fSub, fAdd, fLt, fGt, fLe, fGe, fSl, Fn.cutD, HT.sIx, sMut, sMut0, isLst, fApp, mutAt, vNeg, eLstRg, Fs.IsO, Fs.mul_i, Fs.div_i, Fs.wh_cons]
theorem cut_at {a b w : Int} (h0 : 0 ≤ a) (h1 : a ≤ b) (h2 : Nat.gcd a.natAbs b.natAbs = 1) (h3 : ¬ a = 0) : Is F_is_cut [rw3 "at" a b (.int w)] (.bl true) := by
  have hs := share_is h0 h1 h2
  have hp := plain_is w
  simp only [Is, List.map_cons, List.map_nil] at hs hp
  unfold F_is_cut den_is_cut
  simp [defF, outs, callF, argOs, argO, lent, back, backOk, O.own, O.sh, O.d, M.bind, M.ret, M.map, M.lift, M.chk, M.fr, M.then_, M.stuck, Rf.get, getS, getL, rVar, eVar, eC, eBin, eBinD, eFun, eFunO, eTru, eT, eIf, mAnd, mOr, mNot, mYes, vAnd, vOr, vNot, lCons, lNil, aCons, aNil, eTup, eLst, eCall, sSeq, sIf, sSet, sPass, sRet, sDrop, sNo, kd, eComp, Fs.comp_nil, Fs.comp_cons, wipeE, restE, iAll, iEnu, Fn.numbered, seqE, Tg.set, Tg.sl, setAll, free, sFor, Fs.for_nil, Fs.for_cons, eIsi, fIs, Fn.isNon, eTxt, fTxt, eIndex, eSlice, pInt, pNone, iRange1, iRange2, rangeD, fIx, atI, ixN, fLenB, fAll, eCh, sAug, sAsg, sAsgL, sPar, Fn.iRev, D.kn, Fs.ty_tt, Fs.ty_ti, Fs.ty_ts, Fs.ty_tl, Fs.ty_tb, Fs.ty_tn, Fs.ty_td, Fs.ty_it, Fs.ty_ii, Fs.ty_is, Fs.ty_il, Fs.ty_ib, Fs.ty_in, Fs.ty_id, Fs.ty_bt, Fs.ty_bi, Fs.ty_bs, Fs.ty_bl, Fs.ty_bb, Fs.ty_bn, Fs.ty_bd, Fs.ty_st, Fs.ty_si, Fs.ty_ss, Fs.ty_sl, Fs.ty_sb, Fs.ty_sn, Fs.ty_sd, Fs.ty_lt, Fs.ty_li, Fs.ty_ls, Fs.ty_ll, Fs.ty_lb, Fs.ty_ln, Fs.ty_ld, Fs.tru_bl, Fs.eq_ii, Fs.ne_ii, Fs.eq_hh, Fs.ne_hh, fLenA, fLen, asBools, lim, fTuple, fList, Fs.q_cut_cut, Fs.q_cut_read, Fs.q_cut_pair, Fs.q_cut_at, Fs.q_cut_above, Fs.q_read_cut, Fs.q_read_read, Fs.q_read_pair, Fs.q_read_at, Fs.q_read_above, Fs.q_pair_cut, Fs.q_pair_read, Fs.q_pair_pair, Fs.q_pair_at, Fs.q_pair_above, Fs.q_at_cut, Fs.q_at_read, Fs.q_at_pair, Fs.q_at_at, Fs.q_at_above, Fs.q_above_cut, Fs.q_above_read, Fs.q_above_pair, Fs.q_above_at, Fs.q_above_above, Fs.Is, fSub, fAdd, fLt, fGt, fLe, fGe, fSl, Fn.cutD, HT.sIx, sMut, sMut0, isLst, fApp, mutAt, vNeg, eLstRg, Fs.IsO, Fs.mul_i, Fs.div_i, Fs.wh_cons, hs, hp, h3]
theorem cut_above {a b w : Int} (h0 : 0 ≤ a) (h1 : a ≤ b) (h2 : Nat.gcd a.natAbs b.natAbs = 1) (h3 : ¬ b = 1) : Is F_is_cut [rw3 "above" a b (.int w)] (.bl true) := by
  have hs := share_is h0 h1 h2
  have hp := plain_is w
  simp only [Is, List.map_cons, List.map_nil] at hs hp
  unfold F_is_cut den_is_cut
  simp [defF, outs, callF, argOs, argO, lent, back, backOk, O.own, O.sh, O.d, M.bind, M.ret, M.map, M.lift, M.chk, M.fr, M.then_, M.stuck, Rf.get, getS, getL, rVar, eVar, eC, eBin, eBinD, eFun, eFunO, eTru, eT, eIf, mAnd, mOr, mNot, mYes, vAnd, vOr, vNot, lCons, lNil, aCons, aNil, eTup, eLst, eCall, sSeq, sIf, sSet, sPass, sRet, sDrop, sNo, kd, eComp, Fs.comp_nil, Fs.comp_cons, wipeE, restE, iAll, iEnu, Fn.numbered, seqE, Tg.set, Tg.sl, setAll, free, sFor, Fs.for_nil, Fs.for_cons, eIsi, fIs, Fn.isNon, eTxt, fTxt, eIndex, eSlice, pInt, pNone, iRange1, iRange2, rangeD, fIx, atI, ixN, fLenB, fAll, eCh, sAug, sAsg, sAsgL, sPar, Fn.iRev, D.kn, Fs.ty_tt, Fs.ty_ti, Fs.ty_ts, Fs.ty_tl, Fs.ty_tb, Fs.ty_tn, Fs.ty_td, Fs.ty_it, Fs.ty_ii, Fs.ty_is, Fs.ty_il, Fs.ty_ib, Fs.ty_in, Fs.ty_id, Fs.ty_bt, Fs.ty_bi, Fs.ty_bs, Fs.ty_bl, Fs.ty_bb, Fs.ty_bn, Fs.ty_bd, Fs.ty_st, Fs.ty_si, Fs.ty_ss, Fs.ty_sl, Fs.ty_sb, Fs.ty_sn, Fs.ty_sd, Fs.ty_lt, Fs.ty_li, Fs.ty_ls, Fs.ty_ll, Fs.ty_lb, Fs.ty_ln, Fs.ty_ld, Fs.tru_bl, Fs.eq_ii, Fs.ne_ii, Fs.eq_hh, Fs.ne_hh, fLenA, fLen, asBools, lim, fTuple, fList, Fs.q_cut_cut, Fs.q_cut_read, Fs.q_cut_pair, Fs.q_cut_at, Fs.q_cut_above, Fs.q_read_cut, Fs.q_read_read, Fs.q_read_pair, Fs.q_read_at, Fs.q_read_above, Fs.q_pair_cut, Fs.q_pair_read, Fs.q_pair_pair, Fs.q_pair_at, Fs.q_pair_above, Fs.q_at_cut, Fs.q_at_read, Fs.q_at_pair, Fs.q_at_at, Fs.q_at_above, Fs.q_above_cut, Fs.q_above_read, Fs.q_above_pair, Fs.q_above_at, Fs.q_above_above, Fs.Is, fSub, fAdd, fLt, fGt, fLe, fGe, fSl, Fn.cutD, HT.sIx, sMut, sMut0, isLst, fApp, mutAt, vNeg, eLstRg, Fs.IsO, Fs.mul_i, Fs.div_i, Fs.wh_cons, hs, hp, h3]
theorem cuts0 : Is F_are_cuts [.tup []] (.bl true) := by rfl
theorem cuts1 {r : D} (h : Is F_is_cut [r] (.bl true)) : Is F_are_cuts [.tup [r]] (.bl true) := by
  simp only [Is, List.map_cons, List.map_nil] at h
  unfold F_are_cuts den_are_cuts
  simp [defF, outs, callF, argOs, argO, lent, back, backOk, O.own, O.sh, O.d, M.bind, M.ret, M.map, M.lift, M.chk, M.fr, M.then_, M.stuck, Rf.get, getS, getL, rVar, eVar, eC, eBin, eBinD, eFun, eFunO, eTru, eT, eIf, mAnd, mOr, mNot, mYes, vAnd, vOr, vNot, lCons, lNil, aCons, aNil, eTup, eLst, eCall, sSeq, sIf, sSet, sPass, sRet, sDrop, sNo, kd, eComp, Fs.comp_nil, Fs.comp_cons, wipeE, restE, iAll, iEnu, Fn.numbered, seqE, Tg.set, Tg.sl, setAll, free, sFor, Fs.for_nil, Fs.for_cons, eIsi, fIs, Fn.isNon, eTxt, fTxt, eIndex, eSlice, pInt, pNone, iRange1, iRange2, rangeD, fIx, atI, ixN, fLenB, fAll, eCh, sAug, sAsg, sAsgL, sPar, Fn.iRev, D.kn, Fs.ty_tt, Fs.ty_ti, Fs.ty_ts, Fs.ty_tl, Fs.ty_tb, Fs.ty_tn, Fs.ty_td, Fs.ty_it, Fs.ty_ii, Fs.ty_is, Fs.ty_il, Fs.ty_ib, Fs.ty_in, Fs.ty_id, Fs.ty_bt, Fs.ty_bi, Fs.ty_bs, Fs.ty_bl, Fs.ty_bb, Fs.ty_bn, Fs.ty_bd, Fs.ty_st, Fs.ty_si, Fs.ty_ss, Fs.ty_sl, Fs.ty_sb, Fs.ty_sn, Fs.ty_sd, Fs.ty_lt, Fs.ty_li, Fs.ty_ls, Fs.ty_ll, Fs.ty_lb, Fs.ty_ln, Fs.ty_ld, Fs.tru_bl, Fs.eq_ii, Fs.ne_ii, Fs.eq_hh, Fs.ne_hh, fLenA, fLen, asBools, lim, fTuple, fList, Fs.q_cut_cut, Fs.q_cut_read, Fs.q_cut_pair, Fs.q_cut_at, Fs.q_cut_above, Fs.q_read_cut, Fs.q_read_read, Fs.q_read_pair, Fs.q_read_at, Fs.q_read_above, Fs.q_pair_cut, Fs.q_pair_read, Fs.q_pair_pair, Fs.q_pair_at, Fs.q_pair_above, Fs.q_at_cut, Fs.q_at_read, Fs.q_at_pair, Fs.q_at_at, Fs.q_at_above, Fs.q_above_cut, Fs.q_above_read, Fs.q_above_pair, Fs.q_above_at, Fs.q_above_above, Fs.Is, fSub, fAdd, fLt, fGt, fLe, fGe, fSl, Fn.cutD, HT.sIx, sMut, sMut0, isLst, fApp, mutAt, vNeg, eLstRg, Fs.IsO, Fs.mul_i, Fs.div_i, Fs.wh_cons, h]
theorem cuts2 {r q : D} (h : Is F_is_cut [r] (.bl true)) (h' : Is F_is_cut [q] (.bl true)) (h2 : Is F_is_ahead [r, q] (.bl true)) : Is F_are_cuts [.tup [r, q]] (.bl true) := by
  simp only [Is, List.map_cons, List.map_nil] at h h' h2
  unfold F_are_cuts den_are_cuts
  simp [defF, outs, callF, argOs, argO, lent, back, backOk, O.own, O.sh, O.d, M.bind, M.ret, M.map, M.lift, M.chk, M.fr, M.then_, M.stuck, Rf.get, getS, getL, rVar, eVar, eC, eBin, eBinD, eFun, eFunO, eTru, eT, eIf, mAnd, mOr, mNot, mYes, vAnd, vOr, vNot, lCons, lNil, aCons, aNil, eTup, eLst, eCall, sSeq, sIf, sSet, sPass, sRet, sDrop, sNo, kd, eComp, Fs.comp_nil, Fs.comp_cons, wipeE, restE, iAll, iEnu, Fn.numbered, seqE, Tg.set, Tg.sl, setAll, free, sFor, Fs.for_nil, Fs.for_cons, eIsi, fIs, Fn.isNon, eTxt, fTxt, eIndex, eSlice, pInt, pNone, iRange1, iRange2, rangeD, fIx, atI, ixN, fLenB, fAll, eCh, sAug, sAsg, sAsgL, sPar, Fn.iRev, D.kn, Fs.ty_tt, Fs.ty_ti, Fs.ty_ts, Fs.ty_tl, Fs.ty_tb, Fs.ty_tn, Fs.ty_td, Fs.ty_it, Fs.ty_ii, Fs.ty_is, Fs.ty_il, Fs.ty_ib, Fs.ty_in, Fs.ty_id, Fs.ty_bt, Fs.ty_bi, Fs.ty_bs, Fs.ty_bl, Fs.ty_bb, Fs.ty_bn, Fs.ty_bd, Fs.ty_st, Fs.ty_si, Fs.ty_ss, Fs.ty_sl, Fs.ty_sb, Fs.ty_sn, Fs.ty_sd, Fs.ty_lt, Fs.ty_li, Fs.ty_ls, Fs.ty_ll, Fs.ty_lb, Fs.ty_ln, Fs.ty_ld, Fs.tru_bl, Fs.eq_ii, Fs.ne_ii, Fs.eq_hh, Fs.ne_hh, fLenA, fLen, asBools, lim, fTuple, fList, Fs.q_cut_cut, Fs.q_cut_read, Fs.q_cut_pair, Fs.q_cut_at, Fs.q_cut_above, Fs.q_read_cut, Fs.q_read_read, Fs.q_read_pair, Fs.q_read_at, Fs.q_read_above, Fs.q_pair_cut, Fs.q_pair_read, Fs.q_pair_pair, Fs.q_pair_at, Fs.q_pair_above, Fs.q_at_cut, Fs.q_at_read, Fs.q_at_pair, Fs.q_at_at, Fs.q_at_above, Fs.q_above_cut, Fs.q_above_read, Fs.q_above_pair, Fs.q_above_at, Fs.q_above_above, Fs.Is, fSub, fAdd, fLt, fGt, fLe, fGe, fSl, Fn.cutD, HT.sIx, sMut, sMut0, isLst, fApp, mutAt, vNeg, eLstRg, Fs.IsO, Fs.mul_i, Fs.div_i, Fs.wh_cons, h, h', h2]
theorem form_is {w : Int} {rs : List D} (h : Is F_are_cuts [.tup rs] (.bl true)) : Is F_is_form [.tup [.str "cut", .int w, .tup rs]] (.bl true) := by
  have hp := plain_is w
  simp only [Is, List.map_cons, List.map_nil] at h hp
  unfold F_is_form FR_is_form den_is_form
  simp [defF, outs, callF, argOs, argO, lent, back, backOk, O.own, O.sh, O.d, M.bind, M.ret, M.map, M.lift, M.chk, M.fr, M.then_, M.stuck, Rf.get, getS, getL, rVar, eVar, eC, eBin, eBinD, eFun, eFunO, eTru, eT, eIf, mAnd, mOr, mNot, mYes, vAnd, vOr, vNot, lCons, lNil, aCons, aNil, eTup, eLst, eCall, sSeq, sIf, sSet, sPass, sRet, sDrop, sNo, kd, eComp, Fs.comp_nil, Fs.comp_cons, wipeE, restE, iAll, iEnu, Fn.numbered, seqE, Tg.set, Tg.sl, setAll, free, sFor, Fs.for_nil, Fs.for_cons, eIsi, fIs, Fn.isNon, eTxt, fTxt, eIndex, eSlice, pInt, pNone, iRange1, iRange2, rangeD, fIx, atI, ixN, fLenB, fAll, eCh, sAug, sAsg, sAsgL, sPar, Fn.iRev, D.kn, Fs.ty_tt, Fs.ty_ti, Fs.ty_ts, Fs.ty_tl, Fs.ty_tb, Fs.ty_tn, Fs.ty_td, Fs.ty_it, Fs.ty_ii, Fs.ty_is, Fs.ty_il, Fs.ty_ib, Fs.ty_in, Fs.ty_id, Fs.ty_bt, Fs.ty_bi, Fs.ty_bs, Fs.ty_bl, Fs.ty_bb, Fs.ty_bn, Fs.ty_bd, Fs.ty_st, Fs.ty_si, Fs.ty_ss, Fs.ty_sl, Fs.ty_sb, Fs.ty_sn, Fs.ty_sd, Fs.ty_lt, Fs.ty_li, Fs.ty_ls, Fs.ty_ll, Fs.ty_lb, Fs.ty_ln, Fs.ty_ld, Fs.tru_bl, Fs.eq_ii, Fs.ne_ii, Fs.eq_hh, Fs.ne_hh, fLenA, fLen, asBools, lim, fTuple, fList, Fs.q_cut_cut, Fs.q_cut_read, Fs.q_cut_pair, Fs.q_cut_at, Fs.q_cut_above, Fs.q_read_cut, Fs.q_read_read, Fs.q_read_pair, Fs.q_read_at, Fs.q_read_above, Fs.q_pair_cut, Fs.q_pair_read, Fs.q_pair_pair, Fs.q_pair_at, Fs.q_pair_above, Fs.q_at_cut, Fs.q_at_read, Fs.q_at_pair, Fs.q_at_at, Fs.q_at_above, Fs.q_above_cut, Fs.q_above_read, Fs.q_above_pair, Fs.q_above_at, Fs.q_above_above, Fs.Is, fSub, fAdd, fLt, fGt, fLe, fGe, fSl, Fn.cutD, HT.sIx, sMut, sMut0, isLst, fApp, mutAt, vNeg, eLstRg, Fs.IsO, Fs.mul_i, Fs.div_i, Fs.wh_cons, h, hp]
theorem need_is {d : D} (h : Is F_is_form [d] (.bl true)) : Is F_need_form [d] .non := by
  simp only [Is, List.map_cons, List.map_nil] at h
  unfold F_need_form den_need_form
  simp [defF, outs, callF, argOs, argO, lent, back, backOk, O.own, O.sh, O.d, M.bind, M.ret, M.map, M.lift, M.chk, M.fr, M.then_, M.stuck, Rf.get, getS, getL, rVar, eVar, eC, eBin, eBinD, eFun, eFunO, eTru, eT, eIf, mAnd, mOr, mNot, mYes, vAnd, vOr, vNot, lCons, lNil, aCons, aNil, eTup, eLst, eCall, sSeq, sIf, sSet, sPass, sRet, sDrop, sNo, kd, eComp, Fs.comp_nil, Fs.comp_cons, wipeE, restE, iAll, iEnu, Fn.numbered, seqE, Tg.set, Tg.sl, setAll, free, sFor, Fs.for_nil, Fs.for_cons, eIsi, fIs, Fn.isNon, eTxt, fTxt, eIndex, eSlice, pInt, pNone, iRange1, iRange2, rangeD, fIx, atI, ixN, fLenB, fAll, eCh, sAug, sAsg, sAsgL, sPar, Fn.iRev, D.kn, Fs.ty_tt, Fs.ty_ti, Fs.ty_ts, Fs.ty_tl, Fs.ty_tb, Fs.ty_tn, Fs.ty_td, Fs.ty_it, Fs.ty_ii, Fs.ty_is, Fs.ty_il, Fs.ty_ib, Fs.ty_in, Fs.ty_id, Fs.ty_bt, Fs.ty_bi, Fs.ty_bs, Fs.ty_bl, Fs.ty_bb, Fs.ty_bn, Fs.ty_bd, Fs.ty_st, Fs.ty_si, Fs.ty_ss, Fs.ty_sl, Fs.ty_sb, Fs.ty_sn, Fs.ty_sd, Fs.ty_lt, Fs.ty_li, Fs.ty_ls, Fs.ty_ll, Fs.ty_lb, Fs.ty_ln, Fs.ty_ld, Fs.tru_bl, Fs.eq_ii, Fs.ne_ii, Fs.eq_hh, Fs.ne_hh, fLenA, fLen, asBools, lim, fTuple, fList, Fs.q_cut_cut, Fs.q_cut_read, Fs.q_cut_pair, Fs.q_cut_at, Fs.q_cut_above, Fs.q_read_cut, Fs.q_read_read, Fs.q_read_pair, Fs.q_read_at, Fs.q_read_above, Fs.q_pair_cut, Fs.q_pair_read, Fs.q_pair_pair, Fs.q_pair_at, Fs.q_pair_above, Fs.q_at_cut, Fs.q_at_read, Fs.q_at_pair, Fs.q_at_at, Fs.q_at_above, Fs.q_above_cut, Fs.q_above_read, Fs.q_above_pair, Fs.q_above_at, Fs.q_above_above, Fs.Is, fSub, fAdd, fLt, fGt, fLe, fGe, fSl, Fn.cutD, HT.sIx, sMut, sMut0, isLst, fApp, mutAt, vNeg, eLstRg, Fs.IsO, Fs.mul_i, Fs.div_i, Fs.wh_cons, h]
/-- forms: cut w rows -/
abbrev cut (w : Int) (rs : List D) : D := .tup [.str "cut", .int w, .tup rs]
theorem marks0 {w : Int} : Is F_marks_of [cut w []] (.lst [rw3 "at" 0 1 (.int w)]) := by
  unfold F_marks_of FR_marks_of den_marks_of
  simp [defF, outs, callF, argOs, argO, lent, back, backOk, O.own, O.sh, O.d, M.bind, M.ret, M.map, M.lift, M.chk, M.fr, M.then_, M.stuck, Rf.get, getS, getL, rVar, eVar, eC, eBin, eBinD, eFun, eFunO, eTru, eT, eIf, mAnd, mOr, mNot, mYes, vAnd, vOr, vNot, lCons, lNil, aCons, aNil, eTup, eLst, eCall, sSeq, sIf, sSet, sPass, sRet, sDrop, sNo, kd, eComp, Fs.comp_nil, Fs.comp_cons, wipeE, restE, iAll, iEnu, Fn.numbered, seqE, Tg.set, Tg.sl, setAll, free, sFor, Fs.for_nil, Fs.for_cons, eIsi, fIs, Fn.isNon, eTxt, fTxt, eIndex, eSlice, pInt, pNone, iRange1, iRange2, rangeD, fIx, atI, ixN, fLenB, fAll, eCh, sAug, sAsg, sAsgL, sPar, Fn.iRev, D.kn, Fs.ty_tt, Fs.ty_ti, Fs.ty_ts, Fs.ty_tl, Fs.ty_tb, Fs.ty_tn, Fs.ty_td, Fs.ty_it, Fs.ty_ii, Fs.ty_is, Fs.ty_il, Fs.ty_ib, Fs.ty_in, Fs.ty_id, Fs.ty_bt, Fs.ty_bi, Fs.ty_bs, Fs.ty_bl, Fs.ty_bb, Fs.ty_bn, Fs.ty_bd, Fs.ty_st, Fs.ty_si, Fs.ty_ss, Fs.ty_sl, Fs.ty_sb, Fs.ty_sn, Fs.ty_sd, Fs.ty_lt, Fs.ty_li, Fs.ty_ls, Fs.ty_ll, Fs.ty_lb, Fs.ty_ln, Fs.ty_ld, Fs.tru_bl, Fs.eq_ii, Fs.ne_ii, Fs.eq_hh, Fs.ne_hh, fLenA, fLen, asBools, lim, fTuple, fList, Fs.q_cut_cut, Fs.q_cut_read, Fs.q_cut_pair, Fs.q_cut_at, Fs.q_cut_above, Fs.q_read_cut, Fs.q_read_read, Fs.q_read_pair, Fs.q_read_at, Fs.q_read_above, Fs.q_pair_cut, Fs.q_pair_read, Fs.q_pair_pair, Fs.q_pair_at, Fs.q_pair_above, Fs.q_at_cut, Fs.q_at_read, Fs.q_at_pair, Fs.q_at_at, Fs.q_at_above, Fs.q_above_cut, Fs.q_above_read, Fs.q_above_pair, Fs.q_above_at, Fs.q_above_above, Fs.Is, fSub, fAdd, fLt, fGt, fLe, fGe, fSl, Fn.cutD, HT.sIx, sMut, sMut0, isLst, fApp, mutAt, vNeg, eLstRg, Fs.IsO, Fs.mul_i, Fs.div_i, Fs.wh_cons]
theorem marks1 {w v a b : Int} {s : Str} (h : ¬ v = w) : Is F_marks_of [cut w [rw3 s a b (.int v)]] (.lst [rw3 "at" 0 1 (.int w), rw3 s a b (.int v)]) := by
  unfold F_marks_of FR_marks_of den_marks_of
  simp [defF, outs, callF, argOs, argO, lent, back, backOk, O.own, O.sh, O.d, M.bind, M.ret, M.map, M.lift, M.chk, M.fr, M.then_, M.stuck, Rf.get, getS, getL, rVar, eVar, eC, eBin, eBinD, eFun, eFunO, eTru, eT, eIf, mAnd, mOr, mNot, mYes, vAnd, vOr, vNot, lCons, lNil, aCons, aNil, eTup, eLst, eCall, sSeq, sIf, sSet, sPass, sRet, sDrop, sNo, kd, eComp, Fs.comp_nil, Fs.comp_cons, wipeE, restE, iAll, iEnu, Fn.numbered, seqE, Tg.set, Tg.sl, setAll, free, sFor, Fs.for_nil, Fs.for_cons, eIsi, fIs, Fn.isNon, eTxt, fTxt, eIndex, eSlice, pInt, pNone, iRange1, iRange2, rangeD, fIx, atI, ixN, fLenB, fAll, eCh, sAug, sAsg, sAsgL, sPar, Fn.iRev, D.kn, Fs.ty_tt, Fs.ty_ti, Fs.ty_ts, Fs.ty_tl, Fs.ty_tb, Fs.ty_tn, Fs.ty_td, Fs.ty_it, Fs.ty_ii, Fs.ty_is, Fs.ty_il, Fs.ty_ib, Fs.ty_in, Fs.ty_id, Fs.ty_bt, Fs.ty_bi, Fs.ty_bs, Fs.ty_bl, Fs.ty_bb, Fs.ty_bn, Fs.ty_bd, Fs.ty_st, Fs.ty_si, Fs.ty_ss, Fs.ty_sl, Fs.ty_sb, Fs.ty_sn, Fs.ty_sd, Fs.ty_lt, Fs.ty_li, Fs.ty_ls, Fs.ty_ll, Fs.ty_lb, Fs.ty_ln, Fs.ty_ld, Fs.tru_bl, Fs.eq_ii, Fs.ne_ii, Fs.eq_hh, Fs.ne_hh, fLenA, fLen, asBools, lim, fTuple, fList, Fs.q_cut_cut, Fs.q_cut_read, Fs.q_cut_pair, Fs.q_cut_at, Fs.q_cut_above, Fs.q_read_cut, Fs.q_read_read, Fs.q_read_pair, Fs.q_read_at, Fs.q_read_above, Fs.q_pair_cut, Fs.q_pair_read, Fs.q_pair_pair, Fs.q_pair_at, Fs.q_pair_above, Fs.q_at_cut, Fs.q_at_read, Fs.q_at_pair, Fs.q_at_at, Fs.q_at_above, Fs.q_above_cut, Fs.q_above_read, Fs.q_above_pair, Fs.q_above_at, Fs.q_above_above, Fs.Is, fSub, fAdd, fLt, fGt, fLe, fGe, fSl, Fn.cutD, HT.sIx, sMut, sMut0, isLst, fApp, mutAt, vNeg, eLstRg, Fs.IsO, Fs.mul_i, Fs.div_i, Fs.wh_cons, h]
theorem marks2 {w v u a b c d : Int} {s s' : Str} (h : ¬ v = w) (h' : ¬ u = v) : Is F_marks_of [cut w [rw3 s a b (.int v), rw3 s' c d (.int u)]] (.lst [rw3 "at" 0 1 (.int w), rw3 s a b (.int v), rw3 s' c d (.int u)]) := by
  unfold F_marks_of FR_marks_of den_marks_of
  simp [defF, outs, callF, argOs, argO, lent, back, backOk, O.own, O.sh, O.d, M.bind, M.ret, M.map, M.lift, M.chk, M.fr, M.then_, M.stuck, Rf.get, getS, getL, rVar, eVar, eC, eBin, eBinD, eFun, eFunO, eTru, eT, eIf, mAnd, mOr, mNot, mYes, vAnd, vOr, vNot, lCons, lNil, aCons, aNil, eTup, eLst, eCall, sSeq, sIf, sSet, sPass, sRet, sDrop, sNo, kd, eComp, Fs.comp_nil, Fs.comp_cons, wipeE, restE, iAll, iEnu, Fn.numbered, seqE, Tg.set, Tg.sl, setAll, free, sFor, Fs.for_nil, Fs.for_cons, eIsi, fIs, Fn.isNon, eTxt, fTxt, eIndex, eSlice, pInt, pNone, iRange1, iRange2, rangeD, fIx, atI, ixN, fLenB, fAll, eCh, sAug, sAsg, sAsgL, sPar, Fn.iRev, D.kn, Fs.ty_tt, Fs.ty_ti, Fs.ty_ts, Fs.ty_tl, Fs.ty_tb, Fs.ty_tn, Fs.ty_td, Fs.ty_it, Fs.ty_ii, Fs.ty_is, Fs.ty_il, Fs.ty_ib, Fs.ty_in, Fs.ty_id, Fs.ty_bt, Fs.ty_bi, Fs.ty_bs, Fs.ty_bl, Fs.ty_bb, Fs.ty_bn, Fs.ty_bd, Fs.ty_st, Fs.ty_si, Fs.ty_ss, Fs.ty_sl, Fs.ty_sb, Fs.ty_sn, Fs.ty_sd, Fs.ty_lt, Fs.ty_li, Fs.ty_ls, Fs.ty_ll, Fs.ty_lb, Fs.ty_ln, Fs.ty_ld, Fs.tru_bl, Fs.eq_ii, Fs.ne_ii, Fs.eq_hh, Fs.ne_hh, fLenA, fLen, asBools, lim, fTuple, fList, Fs.q_cut_cut, Fs.q_cut_read, Fs.q_cut_pair, Fs.q_cut_at, Fs.q_cut_above, Fs.q_read_cut, Fs.q_read_read, Fs.q_read_pair, Fs.q_read_at, Fs.q_read_above, Fs.q_pair_cut, Fs.q_pair_read, Fs.q_pair_pair, Fs.q_pair_at, Fs.q_pair_above, Fs.q_at_cut, Fs.q_at_read, Fs.q_at_pair, Fs.q_at_at, Fs.q_at_above, Fs.q_above_cut, Fs.q_above_read, Fs.q_above_pair, Fs.q_above_at, Fs.q_above_above, Fs.Is, fSub, fAdd, fLt, fGt, fLe, fGe, fSl, Fn.cutD, HT.sIx, sMut, sMut0, isLst, fApp, mutAt, vNeg, eLstRg, Fs.IsO, Fs.mul_i, Fs.div_i, Fs.wh_cons, h, h']
end Law

set_option maxRecDepth 100000
set_option maxHeartbeats 4000000
namespace Law
open PySem PySem.Spec PyProof.Rows L2 Fn Fs
theorem lw_in {a b c d : Int} (hb : 0 < b) (h2 : Sm b) (h3 : Sm (a / b)) (e : a / b * b = a) : Is F_least_whole [sh a b, .bl true, sh c d] (.int (a / b)) := by
  unfold F_least_whole den_least_whole
  simp [defF, outs, callF, argOs, argO, lent, back, backOk, O.own, O.sh, O.d, M.bind, M.ret, M.map, M.lift, M.chk, M.fr, M.then_, M.stuck, Rf.get, getS, getL, rVar, eVar, eC, eBin, eBinD, eFun, eFunO, eTru, eT, eIf, mAnd, mOr, mNot, mYes, vAnd, vOr, vNot, lCons, lNil, aCons, aNil, eTup, eLst, eCall, sSeq, sIf, sSet, sPass, sRet, sDrop, sNo, kd, eComp, Fs.comp_nil, Fs.comp_cons, wipeE, restE, iAll, iEnu, Fn.numbered, seqE, Tg.set, Tg.sl, setAll, free, sFor, Fs.for_nil, Fs.for_cons, eIsi, fIs, Fn.isNon, eTxt, fTxt, eIndex, eSlice, pInt, pNone, iRange1, iRange2, rangeD, fIx, atI, ixN, fLenB, fAll, eCh, sAug, sAsg, sAsgL, sPar, Fn.iRev, D.kn, Fs.ty_tt, Fs.ty_ti, Fs.ty_ts, Fs.ty_tl, Fs.ty_tb, Fs.ty_tn, Fs.ty_td, Fs.ty_it, Fs.ty_ii, Fs.ty_is, Fs.ty_il, Fs.ty_ib, Fs.ty_in, Fs.ty_id, Fs.ty_bt, Fs.ty_bi, Fs.ty_bs, Fs.ty_bl, Fs.ty_bb, Fs.ty_bn, Fs.ty_bd, Fs.ty_st, Fs.ty_si, Fs.ty_ss, Fs.ty_sl, Fs.ty_sb, Fs.ty_sn, Fs.ty_sd, Fs.ty_lt, Fs.ty_li, Fs.ty_ls, Fs.ty_ll, Fs.ty_lb, Fs.ty_ln, Fs.ty_ld, Fs.tru_bl, Fs.eq_ii, Fs.ne_ii, Fs.eq_hh, Fs.ne_hh, fLenA, fLen, asBools, lim, fTuple, fList, Fs.q_cut_cut, Fs.q_cut_read, Fs.q_cut_pair, Fs.q_cut_at, Fs.q_cut_above, Fs.q_read_cut, Fs.q_read_read, Fs.q_read_pair, Fs.q_read_at, Fs.q_read_above, Fs.q_pair_cut, Fs.q_pair_read, Fs.q_pair_pair, Fs.q_pair_at, Fs.q_pair_above, Fs.q_at_cut, Fs.q_at_read, Fs.q_at_pair, Fs.q_at_at, Fs.q_at_above, Fs.q_above_cut, Fs.q_above_read, Fs.q_above_pair, Fs.q_above_at, Fs.q_above_above, Fs.Is, fSub, fAdd, fLt, fGt, fLe, fGe, fSl, Fn.cutD, HT.sIx, sMut, sMut0, isLst, fApp, mutAt, vNeg, eLstRg, Fs.IsO, Fs.mul_i, Fs.div_i, Fs.wh_cons, hb, h2, h3, e]
theorem lw_up {a b c d : Int} {i : Bool} (hb : 0 < b) (h2 : Sm b) (h3 : Sm (a / b)) (h4 : Sm (a / b + 1)) (h5 : Sm d) (e : i = false ∨ ¬ a / b * b = a) (l : (a / b + 1) * d < c) : Is F_least_whole [sh a b, .bl i, sh c d] (.int (a / b + 1)) := by
  unfold F_least_whole den_least_whole
  rcases e with rfl | e
  · simp [defF, outs, callF, argOs, argO, lent, back, backOk, O.own, O.sh, O.d, M.bind, M.ret, M.map, M.lift, M.chk, M.fr, M.then_, M.stuck, Rf.get, getS, getL, rVar, eVar, eC, eBin, eBinD, eFun, eFunO, eTru, eT, eIf, mAnd, mOr, mNot, mYes, vAnd, vOr, vNot, lCons, lNil, aCons, aNil, eTup, eLst, eCall, sSeq, sIf, sSet, sPass, sRet, sDrop, sNo, kd, eComp, Fs.comp_nil, Fs.comp_cons, wipeE, restE, iAll, iEnu, Fn.numbered, seqE, Tg.set, Tg.sl, setAll, free, sFor, Fs.for_nil, Fs.for_cons, eIsi, fIs, Fn.isNon, eTxt, fTxt, eIndex, eSlice, pInt, pNone, iRange1, iRange2, rangeD, fIx, atI, ixN, fLenB, fAll, eCh, sAug, sAsg, sAsgL, sPar, Fn.iRev, D.kn, Fs.ty_tt, Fs.ty_ti, Fs.ty_ts, Fs.ty_tl, Fs.ty_tb, Fs.ty_tn, Fs.ty_td, Fs.ty_it, Fs.ty_ii, Fs.ty_is, Fs.ty_il, Fs.ty_ib, Fs.ty_in, Fs.ty_id, Fs.ty_bt, Fs.ty_bi, Fs.ty_bs, Fs.ty_bl, Fs.ty_bb, Fs.ty_bn, Fs.ty_bd, Fs.ty_st, Fs.ty_si, Fs.ty_ss, Fs.ty_sl, Fs.ty_sb, Fs.ty_sn, Fs.ty_sd, Fs.ty_lt, Fs.ty_li, Fs.ty_ls, Fs.ty_ll, Fs.ty_lb, Fs.ty_ln, Fs.ty_ld, Fs.tru_bl, Fs.eq_ii, Fs.ne_ii, Fs.eq_hh, Fs.ne_hh, fLenA, fLen, asBools, lim, fTuple, fList, Fs.q_cut_cut, Fs.q_cut_read, Fs.q_cut_pair, Fs.q_cut_at, Fs.q_cut_above, Fs.q_read_cut, Fs.q_read_read, Fs.q_read_pair, Fs.q_read_at, Fs.q_read_above, Fs.q_pair_cut, Fs.q_pair_read, Fs.q_pair_pair, Fs.q_pair_at, Fs.q_pair_above, Fs.q_at_cut, Fs.q_at_read, Fs.q_at_pair, Fs.q_at_at, Fs.q_at_above, Fs.q_above_cut, Fs.q_above_read, Fs.q_above_pair, Fs.q_above_at, Fs.q_above_above, Fs.Is, fSub, fAdd, fLt, fGt, fLe, fGe, fSl, Fn.cutD, HT.sIx, sMut, sMut0, isLst, fApp, mutAt, vNeg, eLstRg, Fs.IsO, Fs.mul_i, Fs.div_i, Fs.wh_cons, hb, h2, h3, h4, h5, l]
  · cases i <;> simp [defF, outs, callF, argOs, argO, lent, back, backOk, O.own, O.sh, O.d, M.bind, M.ret, M.map, M.lift, M.chk, M.fr, M.then_, M.stuck, Rf.get, getS, getL, rVar, eVar, eC, eBin, eBinD, eFun, eFunO, eTru, eT, eIf, mAnd, mOr, mNot, mYes, vAnd, vOr, vNot, lCons, lNil, aCons, aNil, eTup, eLst, eCall, sSeq, sIf, sSet, sPass, sRet, sDrop, sNo, kd, eComp, Fs.comp_nil, Fs.comp_cons, wipeE, restE, iAll, iEnu, Fn.numbered, seqE, Tg.set, Tg.sl, setAll, free, sFor, Fs.for_nil, Fs.for_cons, eIsi, fIs, Fn.isNon, eTxt, fTxt, eIndex, eSlice, pInt, pNone, iRange1, iRange2, rangeD, fIx, atI, ixN, fLenB, fAll, eCh, sAug, sAsg, sAsgL, sPar, Fn.iRev, D.kn, Fs.ty_tt, Fs.ty_ti, Fs.ty_ts, Fs.ty_tl, Fs.ty_tb, Fs.ty_tn, Fs.ty_td, Fs.ty_it, Fs.ty_ii, Fs.ty_is, Fs.ty_il, Fs.ty_ib, Fs.ty_in, Fs.ty_id, Fs.ty_bt, Fs.ty_bi, Fs.ty_bs, Fs.ty_bl, Fs.ty_bb, Fs.ty_bn, Fs.ty_bd, Fs.ty_st, Fs.ty_si, Fs.ty_ss, Fs.ty_sl, Fs.ty_sb, Fs.ty_sn, Fs.ty_sd, Fs.ty_lt, Fs.ty_li, Fs.ty_ls, Fs.ty_ll, Fs.ty_lb, Fs.ty_ln, Fs.ty_ld, Fs.tru_bl, Fs.eq_ii, Fs.ne_ii, Fs.eq_hh, Fs.ne_hh, fLenA, fLen, asBools, lim, fTuple, fList, Fs.q_cut_cut, Fs.q_cut_read, Fs.q_cut_pair, Fs.q_cut_at, Fs.q_cut_above, Fs.q_read_cut, Fs.q_read_read, Fs.q_read_pair, Fs.q_read_at, Fs.q_read_above, Fs.q_pair_cut, Fs.q_pair_read, Fs.q_pair_pair, Fs.q_pair_at, Fs.q_pair_above, Fs.q_at_cut, Fs.q_at_read, Fs.q_at_pair, Fs.q_at_at, Fs.q_at_above, Fs.q_above_cut, Fs.q_above_read, Fs.q_above_pair, Fs.q_above_at, Fs.q_above_above, Fs.Is, fSub, fAdd, fLt, fGt, fLe, fGe, fSl, Fn.cutD, HT.sIx, sMut, sMut0, isLst, fApp, mutAt, vNeg, eLstRg, Fs.IsO, Fs.mul_i, Fs.div_i, Fs.wh_cons, hb, h2, h3, h4, h5, e, l]
theorem lw_no {a b c d : Int} {i : Bool} (hb : 0 < b) (h2 : Sm b) (h3 : Sm (a / b)) (h4 : Sm (a / b + 1)) (h5 : Sm d) (e : i = false ∨ ¬ a / b * b = a) (l : ¬ (a / b + 1) * d < c) : Is F_least_whole [sh a b, .bl i, sh c d] .non := by
  unfold F_least_whole den_least_whole
  rcases e with rfl | e
  · simp [defF, outs, callF, argOs, argO, lent, back, backOk, O.own, O.sh, O.d, M.bind, M.ret, M.map, M.lift, M.chk, M.fr, M.then_, M.stuck, Rf.get, getS, getL, rVar, eVar, eC, eBin, eBinD, eFun, eFunO, eTru, eT, eIf, mAnd, mOr, mNot, mYes, vAnd, vOr, vNot, lCons, lNil, aCons, aNil, eTup, eLst, eCall, sSeq, sIf, sSet, sPass, sRet, sDrop, sNo, kd, eComp, Fs.comp_nil, Fs.comp_cons, wipeE, restE, iAll, iEnu, Fn.numbered, seqE, Tg.set, Tg.sl, setAll, free, sFor, Fs.for_nil, Fs.for_cons, eIsi, fIs, Fn.isNon, eTxt, fTxt, eIndex, eSlice, pInt, pNone, iRange1, iRange2, rangeD, fIx, atI, ixN, fLenB, fAll, eCh, sAug, sAsg, sAsgL, sPar, Fn.iRev, D.kn, Fs.ty_tt, Fs.ty_ti, Fs.ty_ts, Fs.ty_tl, Fs.ty_tb, Fs.ty_tn, Fs.ty_td, Fs.ty_it, Fs.ty_ii, Fs.ty_is, Fs.ty_il, Fs.ty_ib, Fs.ty_in, Fs.ty_id, Fs.ty_bt, Fs.ty_bi, Fs.ty_bs, Fs.ty_bl, Fs.ty_bb, Fs.ty_bn, Fs.ty_bd, Fs.ty_st, Fs.ty_si, Fs.ty_ss, Fs.ty_sl, Fs.ty_sb, Fs.ty_sn, Fs.ty_sd, Fs.ty_lt, Fs.ty_li, Fs.ty_ls, Fs.ty_ll, Fs.ty_lb, Fs.ty_ln, Fs.ty_ld, Fs.tru_bl, Fs.eq_ii, Fs.ne_ii, Fs.eq_hh, Fs.ne_hh, fLenA, fLen, asBools, lim, fTuple, fList, Fs.q_cut_cut, Fs.q_cut_read, Fs.q_cut_pair, Fs.q_cut_at, Fs.q_cut_above, Fs.q_read_cut, Fs.q_read_read, Fs.q_read_pair, Fs.q_read_at, Fs.q_read_above, Fs.q_pair_cut, Fs.q_pair_read, Fs.q_pair_pair, Fs.q_pair_at, Fs.q_pair_above, Fs.q_at_cut, Fs.q_at_read, Fs.q_at_pair, Fs.q_at_at, Fs.q_at_above, Fs.q_above_cut, Fs.q_above_read, Fs.q_above_pair, Fs.q_above_at, Fs.q_above_above, Fs.Is, fSub, fAdd, fLt, fGt, fLe, fGe, fSl, Fn.cutD, HT.sIx, sMut, sMut0, isLst, fApp, mutAt, vNeg, eLstRg, Fs.IsO, Fs.mul_i, Fs.div_i, Fs.wh_cons, hb, h2, h3, h4, h5, l]
  · cases i <;> simp [defF, outs, callF, argOs, argO, lent, back, backOk, O.own, O.sh, O.d, M.bind, M.ret, M.map, M.lift, M.chk, M.fr, M.then_, M.stuck, Rf.get, getS, getL, rVar, eVar, eC, eBin, eBinD, eFun, eFunO, eTru, eT, eIf, mAnd, mOr, mNot, mYes, vAnd, vOr, vNot, lCons, lNil, aCons, aNil, eTup, eLst, eCall, sSeq, sIf, sSet, sPass, sRet, sDrop, sNo, kd, eComp, Fs.comp_nil, Fs.comp_cons, wipeE, restE, iAll, iEnu, Fn.numbered, seqE, Tg.set, Tg.sl, setAll, free, sFor, Fs.for_nil, Fs.for_cons, eIsi, fIs, Fn.isNon, eTxt, fTxt, eIndex, eSlice, pInt, pNone, iRange1, iRange2, rangeD, fIx, atI, ixN, fLenB, fAll, eCh, sAug, sAsg, sAsgL, sPar, Fn.iRev, D.kn, Fs.ty_tt, Fs.ty_ti, Fs.ty_ts, Fs.ty_tl, Fs.ty_tb, Fs.ty_tn, Fs.ty_td, Fs.ty_it, Fs.ty_ii, Fs.ty_is, Fs.ty_il, Fs.ty_ib, Fs.ty_in, Fs.ty_id, Fs.ty_bt, Fs.ty_bi, Fs.ty_bs, Fs.ty_bl, Fs.ty_bb, Fs.ty_bn, Fs.ty_bd, Fs.ty_st, Fs.ty_si, Fs.ty_ss, Fs.ty_sl, Fs.ty_sb, Fs.ty_sn, Fs.ty_sd, Fs.ty_lt, Fs.ty_li, Fs.ty_ls, Fs.ty_ll, Fs.ty_lb, Fs.ty_ln, Fs.ty_ld, Fs.tru_bl, Fs.eq_ii, Fs.ne_ii, Fs.eq_hh, Fs.ne_hh, fLenA, fLen, asBools, lim, fTuple, fList, Fs.q_cut_cut, Fs.q_cut_read, Fs.q_cut_pair, Fs.q_cut_at, Fs.q_cut_above, Fs.q_read_cut, Fs.q_read_read, Fs.q_read_pair, Fs.q_read_at, Fs.q_read_above, Fs.q_pair_cut, Fs.q_pair_read, Fs.q_pair_pair, Fs.q_pair_at, Fs.q_pair_above, Fs.q_at_cut, Fs.q_at_read, Fs.q_at_pair, Fs.q_at_at, Fs.q_at_above, Fs.q_above_cut, Fs.q_above_read, Fs.q_above_pair, Fs.q_above_at, Fs.q_above_above, Fs.Is, fSub, fAdd, fLt, fGt, fLe, fGe, fSl, Fn.cutD, HT.sIx, sMut, sMut0, isLst, fApp, mutAt, vNeg, eLstRg, Fs.IsO, Fs.mul_i, Fs.div_i, Fs.wh_cons, hb, h2, h3, h4, h5, e, l]
end Law

set_option maxRecDepth 100000
set_option maxHeartbeats 4000000
namespace Law
open PySem PySem.Spec PyProof.Rows L2 Fn Fs
theorem sm0 : Sm 0 := sm_le (by decide) (by decide)
theorem sm1 : Sm 1 := sm_le (by decide) (by decide)
theorem sm2 : Sm 2 := sm_le (by decide) (by decide)
theorem sm4 : Sm 4 := sm_le (by decide) (by decide)
section
variable {m : Int} (h2 : 2 ≤ m) (hm : m ≤ 100000000000000000001)
include h2 hm
theorem smm : Sm m := sm_le (by omega) (by have : (2:Int) ^ 200 = 1606938044258990275541962092341162602522202993782792835301376 := by decide
                                           omega)
theorem smm1 : Sm (m + 1) := sm_le (by omega) (by have : (2:Int) ^ 200 = 1606938044258990275541962092341162602522202993782792835301376 := by decide
                                                  omega)
theorem sm2m : Sm (2 * m + 1) := sm_le (by omega) (by have : (2:Int) ^ 200 = 1606938044258990275541962092341162602522202993782792835301376 := by decide
                                                      omega)
theorem sm4m : Sm (4 * m + 1) := sm_le (by omega) (by have : (2:Int) ^ 200 = 1606938044258990275541962092341162602522202993782792835301376 := by decide
                                                      omega)
theorem q1 : 1 / (m + 1) = 0 := Int.ediv_eq_zero_of_lt (by omega) (by omega)
theorem q1m : 1 / m = 0 := Int.ediv_eq_zero_of_lt (by omega) (by omega)
theorem q4 : 4 / (4 * m + 1) = 0 := Int.ediv_eq_zero_of_lt (by omega) (by omega)
theorem q4m : (4 * m + 1) / 4 = m := by omega
theorem s1 : Is F_simplest [sh 1 (m + 1), .bl false, sh 1 m, .bl false] (sh 2 (2 * m + 1)) := by
  have a1 := smm h2 hm
  have a2 := smm1 h2 hm
  have a3 := sm0
  have a4 := sm1
  have a5 := sm2
  have a6 := q1 h2 hm
  have a7 : m * 2 = 2 * m := Int.mul_comm _ _
  have a8 : 0 < m + 1 := by omega
  have a9 : m + 1 - m = 1 := by omega
  have b1 := sm4m h2 hm
  have b2 := sm4
  have b3 := q1m h2 hm
  have b4 := q4 h2 hm
  have b5 := q4m h2 hm
  have b6 : 0 < m := by omega
  have b7 : 0 < 4 * m + 1 := by omega
  have b8 : m * 4 = 4 * m := Int.mul_comm _ _
  have b9 : 4 * m + 1 - 4 * m = 1 := by omega
  have c1 := sm2m h2 hm
  have e1 : Is F_least_whole [sh 1 (m + 1), .bl false, sh 1 m] .non := lw_no (by omega) a2 (by rw [a6]; exact a3) (by rw [a6]; exact a4) a1 (.inl rfl) (by rw [a6]; omega)
  have e2 : Is F_least_whole [sh m 1, .bl false, sh (m + 1) 1] .non := lw_no (by omega) a4 (by rw [Int.ediv_one]; exact a1) (by rw [Int.ediv_one]; exact a2) a4 (.inl rfl) (by rw [Int.ediv_one]; omega)
  have e3 : Is F_least_whole [sh 1 1, .bl false, sh 1 0] (.int 2) := lw_up (a := 1) (b := 1) (by omega) a4 a4 a5 a3 (.inl rfl) (by decide)
  simp only [Is, List.map_cons, List.map_nil] at e1 e2 e3
  unfold F_simplest den_simplest
  simp [defF, outs, callF, argOs, argO, lent, back, backOk, O.own, O.sh, O.d, M.bind, M.ret, M.map, M.lift, M.chk, M.fr, M.then_, M.stuck, Rf.get, getS, getL, rVar, eVar, eC, eBin, eBinD, eFun, eFunO, eTru, eT, eIf, mAnd, mOr, mNot, mYes, vAnd, vOr, vNot, lCons, lNil, aCons, aNil, eTup, eLst, eCall, sSeq, sIf, sSet, sPass, sRet, sDrop, sNo, kd, eComp, Fs.comp_nil, Fs.comp_cons, wipeE, restE, iAll, iEnu, Fn.numbered, seqE, Tg.set, Tg.sl, setAll, free, sFor, Fs.for_nil, Fs.for_cons, eIsi, fIs, Fn.isNon, eTxt, fTxt, eIndex, eSlice, pInt, pNone, iRange1, iRange2, rangeD, fIx, atI, ixN, fLenB, fAll, eCh, sAug, sAsg, sAsgL, sPar, parGo, Fn.iRev, D.kn, Fs.ty_tt, Fs.ty_ti, Fs.ty_ts, Fs.ty_tl, Fs.ty_tb, Fs.ty_tn, Fs.ty_td, Fs.ty_it, Fs.ty_ii, Fs.ty_is, Fs.ty_il, Fs.ty_ib, Fs.ty_in, Fs.ty_id, Fs.ty_bt, Fs.ty_bi, Fs.ty_bs, Fs.ty_bl, Fs.ty_bb, Fs.ty_bn, Fs.ty_bd, Fs.ty_st, Fs.ty_si, Fs.ty_ss, Fs.ty_sl, Fs.ty_sb, Fs.ty_sn, Fs.ty_sd, Fs.ty_lt, Fs.ty_li, Fs.ty_ls, Fs.ty_ll, Fs.ty_lb, Fs.ty_ln, Fs.ty_ld, Fs.tru_bl, Fs.eq_ii, Fs.ne_ii, Fs.eq_hh, Fs.ne_hh, fLenA, fLen, asBools, lim, fTuple, fList, Fs.q_cut_cut, Fs.q_cut_read, Fs.q_cut_pair, Fs.q_cut_at, Fs.q_cut_above, Fs.q_read_cut, Fs.q_read_read, Fs.q_read_pair, Fs.q_read_at, Fs.q_read_above, Fs.q_pair_cut, Fs.q_pair_read, Fs.q_pair_pair, Fs.q_pair_at, Fs.q_pair_above, Fs.q_at_cut, Fs.q_at_read, Fs.q_at_pair, Fs.q_at_at, Fs.q_at_above, Fs.q_above_cut, Fs.q_above_read, Fs.q_above_pair, Fs.q_above_at, Fs.q_above_above, Fs.Is, fSub, fAdd, fLt, fGt, fLe, fGe, fSl, Fn.cutD, HT.sIx, sMut, sMut0, isLst, fApp, mutAt, vNeg, eLstRg, Fs.IsO, Fs.mul_i, Fs.div_i, Fs.wh_cons, e1, e2, e3, a1, a2, a3, a4, a5, a6, a7, a8, a9, b1, b2, b3, b4, b5, b6, b7, b8, b9, c1]
theorem s2 : Is F_simplest [sh 1 m, .bl false, sh 1 1, .bl true] (sh 1 1) := by
  have a1 := smm h2 hm
  have a2 := smm1 h2 hm
  have a3 := sm0
  have a4 := sm1
  have a5 := sm2
  have a6 := q1 h2 hm
  have a7 : m * 2 = 2 * m := Int.mul_comm _ _
  have a8 : 0 < m + 1 := by omega
  have a9 : m + 1 - m = 1 := by omega
  have b1 := sm4m h2 hm
  have b2 := sm4
  have b3 := q1m h2 hm
  have b4 := q4 h2 hm
  have b5 := q4m h2 hm
  have b6 : 0 < m := by omega
  have b7 : 0 < 4 * m + 1 := by omega
  have b8 : m * 4 = 4 * m := Int.mul_comm _ _
  have b9 : 4 * m + 1 - 4 * m = 1 := by omega
  have c1 := sm2m h2 hm
  have e1 : Is F_least_whole [sh 1 m, .bl false, sh 1 1] .non := lw_no (by omega) a1 (by rw [b3]; exact a3) (by rw [b3]; exact a4) a4 (.inl rfl) (by rw [b3]; omega)
  have e2 : Is F_least_whole [sh 1 1, .bl true, sh m 1] (.int 1) := lw_in (a := 1) (b := 1) (by omega) a4 a4 (by decide)
  simp only [Is, List.map_cons, List.map_nil] at e1 e2
  unfold F_simplest den_simplest
  simp [defF, outs, callF, argOs, argO, lent, back, backOk, O.own, O.sh, O.d, M.bind, M.ret, M.map, M.lift, M.chk, M.fr, M.then_, M.stuck, Rf.get, getS, getL, rVar, eVar, eC, eBin, eBinD, eFun, eFunO, eTru, eT, eIf, mAnd, mOr, mNot, mYes, vAnd, vOr, vNot, lCons, lNil, aCons, aNil, eTup, eLst, eCall, sSeq, sIf, sSet, sPass, sRet, sDrop, sNo, kd, eComp, Fs.comp_nil, Fs.comp_cons, wipeE, restE, iAll, iEnu, Fn.numbered, seqE, Tg.set, Tg.sl, setAll, free, sFor, Fs.for_nil, Fs.for_cons, eIsi, fIs, Fn.isNon, eTxt, fTxt, eIndex, eSlice, pInt, pNone, iRange1, iRange2, rangeD, fIx, atI, ixN, fLenB, fAll, eCh, sAug, sAsg, sAsgL, sPar, parGo, Fn.iRev, D.kn, Fs.ty_tt, Fs.ty_ti, Fs.ty_ts, Fs.ty_tl, Fs.ty_tb, Fs.ty_tn, Fs.ty_td, Fs.ty_it, Fs.ty_ii, Fs.ty_is, Fs.ty_il, Fs.ty_ib, Fs.ty_in, Fs.ty_id, Fs.ty_bt, Fs.ty_bi, Fs.ty_bs, Fs.ty_bl, Fs.ty_bb, Fs.ty_bn, Fs.ty_bd, Fs.ty_st, Fs.ty_si, Fs.ty_ss, Fs.ty_sl, Fs.ty_sb, Fs.ty_sn, Fs.ty_sd, Fs.ty_lt, Fs.ty_li, Fs.ty_ls, Fs.ty_ll, Fs.ty_lb, Fs.ty_ln, Fs.ty_ld, Fs.tru_bl, Fs.eq_ii, Fs.ne_ii, Fs.eq_hh, Fs.ne_hh, fLenA, fLen, asBools, lim, fTuple, fList, Fs.q_cut_cut, Fs.q_cut_read, Fs.q_cut_pair, Fs.q_cut_at, Fs.q_cut_above, Fs.q_read_cut, Fs.q_read_read, Fs.q_read_pair, Fs.q_read_at, Fs.q_read_above, Fs.q_pair_cut, Fs.q_pair_read, Fs.q_pair_pair, Fs.q_pair_at, Fs.q_pair_above, Fs.q_at_cut, Fs.q_at_read, Fs.q_at_pair, Fs.q_at_at, Fs.q_at_above, Fs.q_above_cut, Fs.q_above_read, Fs.q_above_pair, Fs.q_above_at, Fs.q_above_above, Fs.Is, fSub, fAdd, fLt, fGt, fLe, fGe, fSl, Fn.cutD, HT.sIx, sMut, sMut0, isLst, fApp, mutAt, vNeg, eLstRg, Fs.IsO, Fs.mul_i, Fs.div_i, Fs.wh_cons, e1, e2, a1, a2, a3, a4, a5, a6, a7, a8, a9, b1, b2, b3, b4, b5, b6, b7, b8, b9, c1]
theorem s3 : Is F_simplest [sh 1 m, .bl true, sh 1 m, .bl true] (sh 1 m) := by
  have a1 := smm h2 hm
  have a2 := smm1 h2 hm
  have a3 := sm0
  have a4 := sm1
  have a5 := sm2
  have a6 := q1 h2 hm
  have a7 : m * 2 = 2 * m := Int.mul_comm _ _
  have a8 : 0 < m + 1 := by omega
  have a9 : m + 1 - m = 1 := by omega
  have b1 := sm4m h2 hm
  have b2 := sm4
  have b3 := q1m h2 hm
  have b4 := q4 h2 hm
  have b5 := q4m h2 hm
  have b6 : 0 < m := by omega
  have b7 : 0 < 4 * m + 1 := by omega
  have b8 : m * 4 = 4 * m := Int.mul_comm _ _
  have b9 : 4 * m + 1 - 4 * m = 1 := by omega
  have c1 := sm2m h2 hm
  have e1 : Is F_least_whole [sh 1 m, .bl true, sh 1 m] .non := lw_no (by omega) a1 (by rw [b3]; exact a3) (by rw [b3]; exact a4) a1 (.inr (by rw [b3]; omega)) (by rw [b3]; omega)
  have e2 : Is F_least_whole [sh m 1, .bl true, sh m 1] (.int m) := (lw_in (a := m) (b := 1) (by omega) a4 (by rw [Int.ediv_one]; exact a1) (by rw [Int.ediv_one, Int.mul_one])).trans (by rw [Int.ediv_one])
  simp only [Is, List.map_cons, List.map_nil] at e1 e2
  unfold F_simplest den_simplest
  simp [defF, outs, callF, argOs, argO, lent, back, backOk, O.own, O.sh, O.d, M.bind, M.ret, M.map, M.lift, M.chk, M.fr, M.then_, M.stuck, Rf.get, getS, getL, rVar, eVar, eC, eBin, eBinD, eFun, eFunO, eTru, eT, eIf, mAnd, mOr, mNot, mYes, vAnd, vOr, vNot, lCons, lNil, aCons, aNil, eTup, eLst, eCall, sSeq, sIf, sSet, sPass, sRet, sDrop, sNo, kd, eComp, Fs.comp_nil, Fs.comp_cons, wipeE, restE, iAll, iEnu, Fn.numbered, seqE, Tg.set, Tg.sl, setAll, free, sFor, Fs.for_nil, Fs.for_cons, eIsi, fIs, Fn.isNon, eTxt, fTxt, eIndex, eSlice, pInt, pNone, iRange1, iRange2, rangeD, fIx, atI, ixN, fLenB, fAll, eCh, sAug, sAsg, sAsgL, sPar, parGo, Fn.iRev, D.kn, Fs.ty_tt, Fs.ty_ti, Fs.ty_ts, Fs.ty_tl, Fs.ty_tb, Fs.ty_tn, Fs.ty_td, Fs.ty_it, Fs.ty_ii, Fs.ty_is, Fs.ty_il, Fs.ty_ib, Fs.ty_in, Fs.ty_id, Fs.ty_bt, Fs.ty_bi, Fs.ty_bs, Fs.ty_bl, Fs.ty_bb, Fs.ty_bn, Fs.ty_bd, Fs.ty_st, Fs.ty_si, Fs.ty_ss, Fs.ty_sl, Fs.ty_sb, Fs.ty_sn, Fs.ty_sd, Fs.ty_lt, Fs.ty_li, Fs.ty_ls, Fs.ty_ll, Fs.ty_lb, Fs.ty_ln, Fs.ty_ld, Fs.tru_bl, Fs.eq_ii, Fs.ne_ii, Fs.eq_hh, Fs.ne_hh, fLenA, fLen, asBools, lim, fTuple, fList, Fs.q_cut_cut, Fs.q_cut_read, Fs.q_cut_pair, Fs.q_cut_at, Fs.q_cut_above, Fs.q_read_cut, Fs.q_read_read, Fs.q_read_pair, Fs.q_read_at, Fs.q_read_above, Fs.q_pair_cut, Fs.q_pair_read, Fs.q_pair_pair, Fs.q_pair_at, Fs.q_pair_above, Fs.q_at_cut, Fs.q_at_read, Fs.q_at_pair, Fs.q_at_at, Fs.q_at_above, Fs.q_above_cut, Fs.q_above_read, Fs.q_above_pair, Fs.q_above_at, Fs.q_above_above, Fs.Is, fSub, fAdd, fLt, fGt, fLe, fGe, fSl, Fn.cutD, HT.sIx, sMut, sMut0, isLst, fApp, mutAt, vNeg, eLstRg, Fs.IsO, Fs.mul_i, Fs.div_i, Fs.wh_cons, e1, e2, a1, a2, a3, a4, a5, a6, a7, a8, a9, b1, b2, b3, b4, b5, b6, b7, b8, b9, c1]
theorem s4 (c d : Int) (b : Bool) : Is F_simplest [sh 0 1, .bl true, sh c d, .bl b] (sh 0 1) := by
  have e1 : Is F_least_whole [sh 0 1, .bl true, sh c d] (.int 0) := lw_in (a := 0) (b := 1) (by omega) sm1 sm0 (by decide)
  simp only [Is, List.map_cons, List.map_nil] at e1
  unfold F_simplest den_simplest
  simp [defF, outs, callF, argOs, argO, lent, back, backOk, O.own, O.sh, O.d, M.bind, M.ret, M.map, M.lift, M.chk, M.fr, M.then_, M.stuck, Rf.get, getS, getL, rVar, eVar, eC, eBin, eBinD, eFun, eFunO, eTru, eT, eIf, mAnd, mOr, mNot, mYes, vAnd, vOr, vNot, lCons, lNil, aCons, aNil, eTup, eLst, eCall, sSeq, sIf, sSet, sPass, sRet, sDrop, sNo, kd, eComp, Fs.comp_nil, Fs.comp_cons, wipeE, restE, iAll, iEnu, Fn.numbered, seqE, Tg.set, Tg.sl, setAll, free, sFor, Fs.for_nil, Fs.for_cons, eIsi, fIs, Fn.isNon, eTxt, fTxt, eIndex, eSlice, pInt, pNone, iRange1, iRange2, rangeD, fIx, atI, ixN, fLenB, fAll, eCh, sAug, sAsg, sAsgL, sPar, parGo, Fn.iRev, D.kn, Fs.ty_tt, Fs.ty_ti, Fs.ty_ts, Fs.ty_tl, Fs.ty_tb, Fs.ty_tn, Fs.ty_td, Fs.ty_it, Fs.ty_ii, Fs.ty_is, Fs.ty_il, Fs.ty_ib, Fs.ty_in, Fs.ty_id, Fs.ty_bt, Fs.ty_bi, Fs.ty_bs, Fs.ty_bl, Fs.ty_bb, Fs.ty_bn, Fs.ty_bd, Fs.ty_st, Fs.ty_si, Fs.ty_ss, Fs.ty_sl, Fs.ty_sb, Fs.ty_sn, Fs.ty_sd, Fs.ty_lt, Fs.ty_li, Fs.ty_ls, Fs.ty_ll, Fs.ty_lb, Fs.ty_ln, Fs.ty_ld, Fs.tru_bl, Fs.eq_ii, Fs.ne_ii, Fs.eq_hh, Fs.ne_hh, fLenA, fLen, asBools, lim, fTuple, fList, Fs.q_cut_cut, Fs.q_cut_read, Fs.q_cut_pair, Fs.q_cut_at, Fs.q_cut_above, Fs.q_read_cut, Fs.q_read_read, Fs.q_read_pair, Fs.q_read_at, Fs.q_read_above, Fs.q_pair_cut, Fs.q_pair_read, Fs.q_pair_pair, Fs.q_pair_at, Fs.q_pair_above, Fs.q_at_cut, Fs.q_at_read, Fs.q_at_pair, Fs.q_at_at, Fs.q_at_above, Fs.q_above_cut, Fs.q_above_read, Fs.q_above_pair, Fs.q_above_at, Fs.q_above_above, Fs.Is, fSub, fAdd, fLt, fGt, fLe, fGe, fSl, Fn.cutD, HT.sIx, sMut, sMut0, isLst, fApp, mutAt, vNeg, eLstRg, Fs.IsO, Fs.mul_i, Fs.div_i, Fs.wh_cons, e1]
theorem s5 : Is F_simplest [sh 1 (m + 1), .bl false, sh 4 (4 * m + 1), .bl false] (sh 2 (2 * m + 1)) := by
  have a1 := smm h2 hm
  have a2 := smm1 h2 hm
  have a3 := sm0
  have a4 := sm1
  have a5 := sm2
  have a6 := q1 h2 hm
  have a7 : m * 2 = 2 * m := Int.mul_comm _ _
  have a8 : 0 < m + 1 := by omega
  have a9 : m + 1 - m = 1 := by omega
  have b1 := sm4m h2 hm
  have b2 := sm4
  have b3 := q1m h2 hm
  have b4 := q4 h2 hm
  have b5 := q4m h2 hm
  have b6 : 0 < m := by omega
  have b7 : 0 < 4 * m + 1 := by omega
  have b8 : m * 4 = 4 * m := Int.mul_comm _ _
  have b9 : 4 * m + 1 - 4 * m = 1 := by omega
  have c1 := sm2m h2 hm
  have e1 : Is F_least_whole [sh 1 (m + 1), .bl false, sh 4 (4 * m + 1)] .non := lw_no (by omega) a2 (by rw [a6]; exact a3) (by rw [a6]; exact a4) b1 (.inl rfl) (by rw [a6]; omega)
  have e2 : Is F_least_whole [sh (4 * m + 1) 4, .bl false, sh (m + 1) 1] .non := lw_no (by omega) b2 (by rw [b5]; exact a1) (by rw [b5]; exact a2) a4 (.inl rfl) (by rw [b5]; omega)
  have e3 : Is F_least_whole [sh 1 1, .bl false, sh 4 1] (.int 2) := lw_up (a := 1) (b := 1) (by omega) a4 a4 a5 a4 (.inl rfl) (by decide)
  simp only [Is, List.map_cons, List.map_nil] at e1 e2 e3
  unfold F_simplest den_simplest
  simp [defF, outs, callF, argOs, argO, lent, back, backOk, O.own, O.sh, O.d, M.bind, M.ret, M.map, M.lift, M.chk, M.fr, M.then_, M.stuck, Rf.get, getS, getL, rVar, eVar, eC, eBin, eBinD, eFun, eFunO, eTru, eT, eIf, mAnd, mOr, mNot, mYes, vAnd, vOr, vNot, lCons, lNil, aCons, aNil, eTup, eLst, eCall, sSeq, sIf, sSet, sPass, sRet, sDrop, sNo, kd, eComp, Fs.comp_nil, Fs.comp_cons, wipeE, restE, iAll, iEnu, Fn.numbered, seqE, Tg.set, Tg.sl, setAll, free, sFor, Fs.for_nil, Fs.for_cons, eIsi, fIs, Fn.isNon, eTxt, fTxt, eIndex, eSlice, pInt, pNone, iRange1, iRange2, rangeD, fIx, atI, ixN, fLenB, fAll, eCh, sAug, sAsg, sAsgL, sPar, parGo, Fn.iRev, D.kn, Fs.ty_tt, Fs.ty_ti, Fs.ty_ts, Fs.ty_tl, Fs.ty_tb, Fs.ty_tn, Fs.ty_td, Fs.ty_it, Fs.ty_ii, Fs.ty_is, Fs.ty_il, Fs.ty_ib, Fs.ty_in, Fs.ty_id, Fs.ty_bt, Fs.ty_bi, Fs.ty_bs, Fs.ty_bl, Fs.ty_bb, Fs.ty_bn, Fs.ty_bd, Fs.ty_st, Fs.ty_si, Fs.ty_ss, Fs.ty_sl, Fs.ty_sb, Fs.ty_sn, Fs.ty_sd, Fs.ty_lt, Fs.ty_li, Fs.ty_ls, Fs.ty_ll, Fs.ty_lb, Fs.ty_ln, Fs.ty_ld, Fs.tru_bl, Fs.eq_ii, Fs.ne_ii, Fs.eq_hh, Fs.ne_hh, fLenA, fLen, asBools, lim, fTuple, fList, Fs.q_cut_cut, Fs.q_cut_read, Fs.q_cut_pair, Fs.q_cut_at, Fs.q_cut_above, Fs.q_read_cut, Fs.q_read_read, Fs.q_read_pair, Fs.q_read_at, Fs.q_read_above, Fs.q_pair_cut, Fs.q_pair_read, Fs.q_pair_pair, Fs.q_pair_at, Fs.q_pair_above, Fs.q_at_cut, Fs.q_at_read, Fs.q_at_pair, Fs.q_at_at, Fs.q_at_above, Fs.q_above_cut, Fs.q_above_read, Fs.q_above_pair, Fs.q_above_at, Fs.q_above_above, Fs.Is, fSub, fAdd, fLt, fGt, fLe, fGe, fSl, Fn.cutD, HT.sIx, sMut, sMut0, isLst, fApp, mutAt, vNeg, eLstRg, Fs.IsO, Fs.mul_i, Fs.div_i, Fs.wh_cons, e1, e2, e3, a1, a2, a3, a4, a5, a6, a7, a8, a9, b1, b2, b3, b4, b5, b6, b7, b8, b9, c1]
theorem s6 : Is F_simplest [sh 4 (4 * m + 1), .bl true, sh 1 m, .bl false] (sh 4 (4 * m + 1)) := by
  have a1 := smm h2 hm
  have a2 := smm1 h2 hm
  have a3 := sm0
  have a4 := sm1
  have a5 := sm2
  have a6 := q1 h2 hm
  have a7 : m * 2 = 2 * m := Int.mul_comm _ _
  have a8 : 0 < m + 1 := by omega
  have a9 : m + 1 - m = 1 := by omega
  have b1 := sm4m h2 hm
  have b2 := sm4
  have b3 := q1m h2 hm
  have b4 := q4 h2 hm
  have b5 := q4m h2 hm
  have b6 : 0 < m := by omega
  have b7 : 0 < 4 * m + 1 := by omega
  have b8 : m * 4 = 4 * m := Int.mul_comm _ _
  have b9 : 4 * m + 1 - 4 * m = 1 := by omega
  have c1 := sm2m h2 hm
  have e1 : Is F_least_whole [sh 4 (4 * m + 1), .bl true, sh 1 m] .non := lw_no (by omega) b1 (by rw [b4]; exact a3) (by rw [b4]; exact a4) a1 (.inr (by rw [b4]; omega)) (by rw [b4]; omega)
  have e2 : Is F_least_whole [sh m 1, .bl false, sh (4 * m + 1) 4] .non := lw_no (by omega) a4 (by rw [Int.ediv_one]; exact a1) (by rw [Int.ediv_one]; exact a2) b2 (.inl rfl) (by rw [Int.ediv_one]; omega)
  have e3 : Is F_least_whole [sh 4 1, .bl true, sh 1 0] (.int 4) := lw_in (a := 4) (b := 1) (by omega) a4 b2 (by decide)
  simp only [Is, List.map_cons, List.map_nil] at e1 e2 e3
  unfold F_simplest den_simplest
  simp [defF, outs, callF, argOs, argO, lent, back, backOk, O.own, O.sh, O.d, M.bind, M.ret, M.map, M.lift, M.chk, M.fr, M.then_, M.stuck, Rf.get, getS, getL, rVar, eVar, eC, eBin, eBinD, eFun, eFunO, eTru, eT, eIf, mAnd, mOr, mNot, mYes, vAnd, vOr, vNot, lCons, lNil, aCons, aNil, eTup, eLst, eCall, sSeq, sIf, sSet, sPass, sRet, sDrop, sNo, kd, eComp, Fs.comp_nil, Fs.comp_cons, wipeE, restE, iAll, iEnu, Fn.numbered, seqE, Tg.set, Tg.sl, setAll, free, sFor, Fs.for_nil, Fs.for_cons, eIsi, fIs, Fn.isNon, eTxt, fTxt, eIndex, eSlice, pInt, pNone, iRange1, iRange2, rangeD, fIx, atI, ixN, fLenB, fAll, eCh, sAug, sAsg, sAsgL, sPar, parGo, Fn.iRev, D.kn, Fs.ty_tt, Fs.ty_ti, Fs.ty_ts, Fs.ty_tl, Fs.ty_tb, Fs.ty_tn, Fs.ty_td, Fs.ty_it, Fs.ty_ii, Fs.ty_is, Fs.ty_il, Fs.ty_ib, Fs.ty_in, Fs.ty_id, Fs.ty_bt, Fs.ty_bi, Fs.ty_bs, Fs.ty_bl, Fs.ty_bb, Fs.ty_bn, Fs.ty_bd, Fs.ty_st, Fs.ty_si, Fs.ty_ss, Fs.ty_sl, Fs.ty_sb, Fs.ty_sn, Fs.ty_sd, Fs.ty_lt, Fs.ty_li, Fs.ty_ls, Fs.ty_ll, Fs.ty_lb, Fs.ty_ln, Fs.ty_ld, Fs.tru_bl, Fs.eq_ii, Fs.ne_ii, Fs.eq_hh, Fs.ne_hh, fLenA, fLen, asBools, lim, fTuple, fList, Fs.q_cut_cut, Fs.q_cut_read, Fs.q_cut_pair, Fs.q_cut_at, Fs.q_cut_above, Fs.q_read_cut, Fs.q_read_read, Fs.q_read_pair, Fs.q_read_at, Fs.q_read_above, Fs.q_pair_cut, Fs.q_pair_read, Fs.q_pair_pair, Fs.q_pair_at, Fs.q_pair_above, Fs.q_at_cut, Fs.q_at_read, Fs.q_at_pair, Fs.q_at_at, Fs.q_at_above, Fs.q_above_cut, Fs.q_above_read, Fs.q_above_pair, Fs.q_above_at, Fs.q_above_above, Fs.Is, fSub, fAdd, fLt, fGt, fLe, fGe, fSl, Fn.cutD, HT.sIx, sMut, sMut0, isLst, fApp, mutAt, vNeg, eLstRg, Fs.IsO, Fs.mul_i, Fs.div_i, Fs.wh_cons, e1, e2, e3, a1, a2, a3, a4, a5, a6, a7, a8, a9, b1, b2, b3, b4, b5, b6, b7, b8, b9, c1]
theorem s7 : Is F_simplest [sh 1 m, .bl true, sh 1 1, .bl true] (sh 1 1) := by
  have a1 := smm h2 hm
  have a2 := smm1 h2 hm
  have a3 := sm0
  have a4 := sm1
  have a5 := sm2
  have a6 := q1 h2 hm
  have a7 : m * 2 = 2 * m := Int.mul_comm _ _
  have a8 : 0 < m + 1 := by omega
  have a9 : m + 1 - m = 1 := by omega
  have b1 := sm4m h2 hm
  have b2 := sm4
  have b3 := q1m h2 hm
  have b4 := q4 h2 hm
  have b5 := q4m h2 hm
  have b6 : 0 < m := by omega
  have b7 : 0 < 4 * m + 1 := by omega
  have b8 : m * 4 = 4 * m := Int.mul_comm _ _
  have b9 : 4 * m + 1 - 4 * m = 1 := by omega
  have c1 := sm2m h2 hm
  have e1 : Is F_least_whole [sh 1 m, .bl true, sh 1 1] .non := lw_no (by omega) a1 (by rw [b3]; exact a3) (by rw [b3]; exact a4) a4 (.inr (by rw [b3]; omega)) (by rw [b3]; omega)
  have e2 : Is F_least_whole [sh 1 1, .bl true, sh m 1] (.int 1) := lw_in (a := 1) (b := 1) (by omega) a4 a4 (by decide)
  simp only [Is, List.map_cons, List.map_nil] at e1 e2
  unfold F_simplest den_simplest
  simp [defF, outs, callF, argOs, argO, lent, back, backOk, O.own, O.sh, O.d, M.bind, M.ret, M.map, M.lift, M.chk, M.fr, M.then_, M.stuck, Rf.get, getS, getL, rVar, eVar, eC, eBin, eBinD, eFun, eFunO, eTru, eT, eIf, mAnd, mOr, mNot, mYes, vAnd, vOr, vNot, lCons, lNil, aCons, aNil, eTup, eLst, eCall, sSeq, sIf, sSet, sPass, sRet, sDrop, sNo, kd, eComp, Fs.comp_nil, Fs.comp_cons, wipeE, restE, iAll, iEnu, Fn.numbered, seqE, Tg.set, Tg.sl, setAll, free, sFor, Fs.for_nil, Fs.for_cons, eIsi, fIs, Fn.isNon, eTxt, fTxt, eIndex, eSlice, pInt, pNone, iRange1, iRange2, rangeD, fIx, atI, ixN, fLenB, fAll, eCh, sAug, sAsg, sAsgL, sPar, parGo, Fn.iRev, D.kn, Fs.ty_tt, Fs.ty_ti, Fs.ty_ts, Fs.ty_tl, Fs.ty_tb, Fs.ty_tn, Fs.ty_td, Fs.ty_it, Fs.ty_ii, Fs.ty_is, Fs.ty_il, Fs.ty_ib, Fs.ty_in, Fs.ty_id, Fs.ty_bt, Fs.ty_bi, Fs.ty_bs, Fs.ty_bl, Fs.ty_bb, Fs.ty_bn, Fs.ty_bd, Fs.ty_st, Fs.ty_si, Fs.ty_ss, Fs.ty_sl, Fs.ty_sb, Fs.ty_sn, Fs.ty_sd, Fs.ty_lt, Fs.ty_li, Fs.ty_ls, Fs.ty_ll, Fs.ty_lb, Fs.ty_ln, Fs.ty_ld, Fs.tru_bl, Fs.eq_ii, Fs.ne_ii, Fs.eq_hh, Fs.ne_hh, fLenA, fLen, asBools, lim, fTuple, fList, Fs.q_cut_cut, Fs.q_cut_read, Fs.q_cut_pair, Fs.q_cut_at, Fs.q_cut_above, Fs.q_read_cut, Fs.q_read_read, Fs.q_read_pair, Fs.q_read_at, Fs.q_read_above, Fs.q_pair_cut, Fs.q_pair_read, Fs.q_pair_pair, Fs.q_pair_at, Fs.q_pair_above, Fs.q_at_cut, Fs.q_at_read, Fs.q_at_pair, Fs.q_at_at, Fs.q_at_above, Fs.q_above_cut, Fs.q_above_read, Fs.q_above_pair, Fs.q_above_at, Fs.q_above_above, Fs.Is, fSub, fAdd, fLt, fGt, fLe, fGe, fSl, Fn.cutD, HT.sIx, sMut, sMut0, isLst, fApp, mutAt, vNeg, eLstRg, Fs.IsO, Fs.mul_i, Fs.div_i, Fs.wh_cons, e1, e2, a1, a2, a3, a4, a5, a6, a7, a8, a9, b1, b2, b3, b4, b5, b6, b7, b8, b9, c1]
end
end Law

set_option maxRecDepth 100000
set_option maxHeartbeats 4000000
namespace Law
open PySem PySem.Spec PyProof.Rows L2 Fn Fs
/-- where a stretch begins, with the words of both -/
abbrev mk (s : Str) (a b x y : Int) : D := .tup [.str s, sh a b, .tup [.int x, .int y]]
section
variable {m : Int} (h2 : 2 ≤ m) (hm : m ≤ 100000000000000000001)
theorem sbs0 {x y : Int} : Is F_side_by_side [.lst [rw3 "at" 0 1 (.int x)], .lst [rw3 "at" 0 1 (.int y)]] (.lst [mk "at" 0 1 x y]) := by
  unfold F_side_by_side den_side_by_side
  simp [defF, outs, callF, argOs, argO, lent, back, backOk, O.own, O.sh, O.d, M.bind, M.ret, M.map, M.lift, M.chk, M.fr, M.then_, M.stuck, Rf.get, getS, getL, rVar, eVar, eC, eBin, eBinD, eFun, eFunO, eTru, eT, eIf, mAnd, mOr, mNot, mYes, vAnd, vOr, vNot, lCons, lNil, aCons, aNil, eTup, eLst, eCall, sSeq, sIf, sSet, sPass, sRet, sDrop, sNo, kd, eComp, Fs.comp_nil, Fs.comp_cons, wipeE, restE, iAll, iEnu, Fn.numbered, seqE, Tg.set, Tg.sl, setAll, free, sFor, Fs.for_nil, Fs.for_cons, eIsi, fIs, Fn.isNon, eTxt, fTxt, eIndex, eSlice, pInt, pNone, iRange1, iRange2, rangeD, fIx, atI, ixN, fLenB, fAll, eCh, sAug, sAsg, sAsgL, sPar, parGo, Fn.iRev, D.kn, Fs.ty_tt, Fs.ty_ti, Fs.ty_ts, Fs.ty_tl, Fs.ty_tb, Fs.ty_tn, Fs.ty_td, Fs.ty_it, Fs.ty_ii, Fs.ty_is, Fs.ty_il, Fs.ty_ib, Fs.ty_in, Fs.ty_id, Fs.ty_bt, Fs.ty_bi, Fs.ty_bs, Fs.ty_bl, Fs.ty_bb, Fs.ty_bn, Fs.ty_bd, Fs.ty_st, Fs.ty_si, Fs.ty_ss, Fs.ty_sl, Fs.ty_sb, Fs.ty_sn, Fs.ty_sd, Fs.ty_lt, Fs.ty_li, Fs.ty_ls, Fs.ty_ll, Fs.ty_lb, Fs.ty_ln, Fs.ty_ld, Fs.tru_bl, Fs.eq_ii, Fs.ne_ii, Fs.eq_hh, Fs.ne_hh, fLenA, fLen, asBools, lim, fTuple, fList, Fs.q_cut_cut, Fs.q_cut_read, Fs.q_cut_pair, Fs.q_cut_at, Fs.q_cut_above, Fs.q_read_cut, Fs.q_read_read, Fs.q_read_pair, Fs.q_read_at, Fs.q_read_above, Fs.q_pair_cut, Fs.q_pair_read, Fs.q_pair_pair, Fs.q_pair_at, Fs.q_pair_above, Fs.q_at_cut, Fs.q_at_read, Fs.q_at_pair, Fs.q_at_at, Fs.q_at_above, Fs.q_above_cut, Fs.q_above_read, Fs.q_above_pair, Fs.q_above_at, Fs.q_above_above, Fs.Is, fSub, fAdd, fLt, fGt, fLe, fGe, fSl, Fn.cutD, HT.sIx, sMut, sMut0, isLst, fApp, mutAt, vNeg, eLstRg, Fs.IsO, Fs.mul_i, Fs.div_i, Fs.wh_cons]
theorem sbs1 {x y z a b : Int} {s : Str} : Is F_side_by_side [.lst [rw3 "at" 0 1 (.int x)], .lst [rw3 "at" 0 1 (.int y), rw3 s a b (.int z)]] (.lst [mk "at" 0 1 x y, mk s a b x z]) := by
  unfold F_side_by_side den_side_by_side
  simp [defF, outs, callF, argOs, argO, lent, back, backOk, O.own, O.sh, O.d, M.bind, M.ret, M.map, M.lift, M.chk, M.fr, M.then_, M.stuck, Rf.get, getS, getL, rVar, eVar, eC, eBin, eBinD, eFun, eFunO, eTru, eT, eIf, mAnd, mOr, mNot, mYes, vAnd, vOr, vNot, lCons, lNil, aCons, aNil, eTup, eLst, eCall, sSeq, sIf, sSet, sPass, sRet, sDrop, sNo, kd, eComp, Fs.comp_nil, Fs.comp_cons, wipeE, restE, iAll, iEnu, Fn.numbered, seqE, Tg.set, Tg.sl, setAll, free, sFor, Fs.for_nil, Fs.for_cons, eIsi, fIs, Fn.isNon, eTxt, fTxt, eIndex, eSlice, pInt, pNone, iRange1, iRange2, rangeD, fIx, atI, ixN, fLenB, fAll, eCh, sAug, sAsg, sAsgL, sPar, parGo, Fn.iRev, D.kn, Fs.ty_tt, Fs.ty_ti, Fs.ty_ts, Fs.ty_tl, Fs.ty_tb, Fs.ty_tn, Fs.ty_td, Fs.ty_it, Fs.ty_ii, Fs.ty_is, Fs.ty_il, Fs.ty_ib, Fs.ty_in, Fs.ty_id, Fs.ty_bt, Fs.ty_bi, Fs.ty_bs, Fs.ty_bl, Fs.ty_bb, Fs.ty_bn, Fs.ty_bd, Fs.ty_st, Fs.ty_si, Fs.ty_ss, Fs.ty_sl, Fs.ty_sb, Fs.ty_sn, Fs.ty_sd, Fs.ty_lt, Fs.ty_li, Fs.ty_ls, Fs.ty_ll, Fs.ty_lb, Fs.ty_ln, Fs.ty_ld, Fs.tru_bl, Fs.eq_ii, Fs.ne_ii, Fs.eq_hh, Fs.ne_hh, fLenA, fLen, asBools, lim, fTuple, fList, Fs.q_cut_cut, Fs.q_cut_read, Fs.q_cut_pair, Fs.q_cut_at, Fs.q_cut_above, Fs.q_read_cut, Fs.q_read_read, Fs.q_read_pair, Fs.q_read_at, Fs.q_read_above, Fs.q_pair_cut, Fs.q_pair_read, Fs.q_pair_pair, Fs.q_pair_at, Fs.q_pair_above, Fs.q_at_cut, Fs.q_at_read, Fs.q_at_pair, Fs.q_at_at, Fs.q_at_above, Fs.q_above_cut, Fs.q_above_read, Fs.q_above_pair, Fs.q_above_at, Fs.q_above_above, Fs.Is, fSub, fAdd, fLt, fGt, fLe, fGe, fSl, Fn.cutD, HT.sIx, sMut, sMut0, isLst, fApp, mutAt, vNeg, eLstRg, Fs.IsO, Fs.mul_i, Fs.div_i, Fs.wh_cons]
theorem sbs2 {x y z u a b c d : Int} {s s' : Str} : Is F_side_by_side [.lst [rw3 "at" 0 1 (.int x)], .lst [rw3 "at" 0 1 (.int y), rw3 s a b (.int z), rw3 s' c d (.int u)]] (.lst [mk "at" 0 1 x y, mk s a b x z, mk s' c d x u]) := by
  unfold F_side_by_side den_side_by_side
  simp [defF, outs, callF, argOs, argO, lent, back, backOk, O.own, O.sh, O.d, M.bind, M.ret, M.map, M.lift, M.chk, M.fr, M.then_, M.stuck, Rf.get, getS, getL, rVar, eVar, eC, eBin, eBinD, eFun, eFunO, eTru, eT, eIf, mAnd, mOr, mNot, mYes, vAnd, vOr, vNot, lCons, lNil, aCons, aNil, eTup, eLst, eCall, sSeq, sIf, sSet, sPass, sRet, sDrop, sNo, kd, eComp, Fs.comp_nil, Fs.comp_cons, wipeE, restE, iAll, iEnu, Fn.numbered, seqE, Tg.set, Tg.sl, setAll, free, sFor, Fs.for_nil, Fs.for_cons, eIsi, fIs, Fn.isNon, eTxt, fTxt, eIndex, eSlice, pInt, pNone, iRange1, iRange2, rangeD, fIx, atI, ixN, fLenB, fAll, eCh, sAug, sAsg, sAsgL, sPar, parGo, Fn.iRev, D.kn, Fs.ty_tt, Fs.ty_ti, Fs.ty_ts, Fs.ty_tl, Fs.ty_tb, Fs.ty_tn, Fs.ty_td, Fs.ty_it, Fs.ty_ii, Fs.ty_is, Fs.ty_il, Fs.ty_ib, Fs.ty_in, Fs.ty_id, Fs.ty_bt, Fs.ty_bi, Fs.ty_bs, Fs.ty_bl, Fs.ty_bb, Fs.ty_bn, Fs.ty_bd, Fs.ty_st, Fs.ty_si, Fs.ty_ss, Fs.ty_sl, Fs.ty_sb, Fs.ty_sn, Fs.ty_sd, Fs.ty_lt, Fs.ty_li, Fs.ty_ls, Fs.ty_ll, Fs.ty_lb, Fs.ty_ln, Fs.ty_ld, Fs.tru_bl, Fs.eq_ii, Fs.ne_ii, Fs.eq_hh, Fs.ne_hh, fLenA, fLen, asBools, lim, fTuple, fList, Fs.q_cut_cut, Fs.q_cut_read, Fs.q_cut_pair, Fs.q_cut_at, Fs.q_cut_above, Fs.q_read_cut, Fs.q_read_read, Fs.q_read_pair, Fs.q_read_at, Fs.q_read_above, Fs.q_pair_cut, Fs.q_pair_read, Fs.q_pair_pair, Fs.q_pair_at, Fs.q_pair_above, Fs.q_at_cut, Fs.q_at_read, Fs.q_at_pair, Fs.q_at_at, Fs.q_at_above, Fs.q_above_cut, Fs.q_above_read, Fs.q_above_pair, Fs.q_above_at, Fs.q_above_above, Fs.Is, fSub, fAdd, fLt, fGt, fLe, fGe, fSl, Fn.cutD, HT.sIx, sMut, sMut0, isLst, fApp, mutAt, vNeg, eLstRg, Fs.IsO, Fs.mul_i, Fs.div_i, Fs.wh_cons]
theorem sbs2' {x y z u a b c d : Int} {s s' : Str} : Is F_side_by_side [.lst [rw3 "at" 0 1 (.int y), rw3 s a b (.int z), rw3 s' c d (.int u)], .lst [rw3 "at" 0 1 (.int x)]] (.lst [mk "at" 0 1 y x, mk s a b z x, mk s' c d u x]) := by
  unfold F_side_by_side den_side_by_side
  simp [defF, outs, callF, argOs, argO, lent, back, backOk, O.own, O.sh, O.d, M.bind, M.ret, M.map, M.lift, M.chk, M.fr, M.then_, M.stuck, Rf.get, getS, getL, rVar, eVar, eC, eBin, eBinD, eFun, eFunO, eTru, eT, eIf, mAnd, mOr, mNot, mYes, vAnd, vOr, vNot, lCons, lNil, aCons, aNil, eTup, eLst, eCall, sSeq, sIf, sSet, sPass, sRet, sDrop, sNo, kd, eComp, Fs.comp_nil, Fs.comp_cons, wipeE, restE, iAll, iEnu, Fn.numbered, seqE, Tg.set, Tg.sl, setAll, free, sFor, Fs.for_nil, Fs.for_cons, eIsi, fIs, Fn.isNon, eTxt, fTxt, eIndex, eSlice, pInt, pNone, iRange1, iRange2, rangeD, fIx, atI, ixN, fLenB, fAll, eCh, sAug, sAsg, sAsgL, sPar, parGo, Fn.iRev, D.kn, Fs.ty_tt, Fs.ty_ti, Fs.ty_ts, Fs.ty_tl, Fs.ty_tb, Fs.ty_tn, Fs.ty_td, Fs.ty_it, Fs.ty_ii, Fs.ty_is, Fs.ty_il, Fs.ty_ib, Fs.ty_in, Fs.ty_id, Fs.ty_bt, Fs.ty_bi, Fs.ty_bs, Fs.ty_bl, Fs.ty_bb, Fs.ty_bn, Fs.ty_bd, Fs.ty_st, Fs.ty_si, Fs.ty_ss, Fs.ty_sl, Fs.ty_sb, Fs.ty_sn, Fs.ty_sd, Fs.ty_lt, Fs.ty_li, Fs.ty_ls, Fs.ty_ll, Fs.ty_lb, Fs.ty_ln, Fs.ty_ld, Fs.tru_bl, Fs.eq_ii, Fs.ne_ii, Fs.eq_hh, Fs.ne_hh, fLenA, fLen, asBools, lim, fTuple, fList, Fs.q_cut_cut, Fs.q_cut_read, Fs.q_cut_pair, Fs.q_cut_at, Fs.q_cut_above, Fs.q_read_cut, Fs.q_read_read, Fs.q_read_pair, Fs.q_read_at, Fs.q_read_above, Fs.q_pair_cut, Fs.q_pair_read, Fs.q_pair_pair, Fs.q_pair_at, Fs.q_pair_above, Fs.q_at_cut, Fs.q_at_read, Fs.q_at_pair, Fs.q_at_at, Fs.q_at_above, Fs.q_above_cut, Fs.q_above_read, Fs.q_above_pair, Fs.q_above_at, Fs.q_above_above, Fs.Is, fSub, fAdd, fLt, fGt, fLe, fGe, fSl, Fn.cutD, HT.sIx, sMut, sMut0, isLst, fApp, mutAt, vNeg, eLstRg, Fs.IsO, Fs.mul_i, Fs.div_i, Fs.wh_cons]
include h2 hm
theorem sbs6 : Is F_side_by_side [.lst [rw3 "at" 0 1 (.int 0), rw3 "above" 1 (m + 1) (.int 1), rw3 "at" 4 (4 * m + 1) (.int 0)], .lst [rw3 "at" 0 1 (.int 0), rw3 "above" 1 (m + 1) (.int 1), rw3 "at" 1 m (.int 0)]]
    (.lst [mk "at" 0 1 0 0, mk "above" 1 (m + 1) 1 1, mk "at" 4 (4 * m + 1) 0 1, mk "at" 1 m 0 0]) := by
  have e1 : Is F_is_ahead [rw3 "above" 1 (m + 1) (.int 1), rw3 "above" 1 (m + 1) (.int 1)] (.bl false) := ahead_eq0
  have e2 : Is F_is_ahead [rw3 "at" 1 m (.int 0), rw3 "at" 4 (4 * m + 1) (.int 0)] (.bl false) := by
    have h := ahead_is (s := "at") (s' := "at") (w := .int 0) (w' := .int 0) sm1 (smm h2 hm) sm4 (sm4m h2 hm) (by omega : ¬ m = 4 * m + 1)
    rwa [decide_eq_false (by omega)] at h
  have e3 : Is F_is_ahead [rw3 "at" 4 (4 * m + 1) (.int 0), rw3 "at" 1 m (.int 0)] (.bl true) := by
    have h := ahead_is (s := "at") (s' := "at") (w := .int 0) (w' := .int 0) sm4 (sm4m h2 hm) sm1 (smm h2 hm) (by omega : ¬ 4 * m + 1 = m)
    rwa [decide_eq_true (by omega)] at h
  simp only [Is, List.map_cons, List.map_nil] at e1 e2 e3
  unfold F_side_by_side den_side_by_side
  simp [defF, outs, callF, argOs, argO, lent, back, backOk, O.own, O.sh, O.d, M.bind, M.ret, M.map, M.lift, M.chk, M.fr, M.then_, M.stuck, Rf.get, getS, getL, rVar, eVar, eC, eBin, eBinD, eFun, eFunO, eTru, eT, eIf, mAnd, mOr, mNot, mYes, vAnd, vOr, vNot, lCons, lNil, aCons, aNil, eTup, eLst, eCall, sSeq, sIf, sSet, sPass, sRet, sDrop, sNo, kd, eComp, Fs.comp_nil, Fs.comp_cons, wipeE, restE, iAll, iEnu, Fn.numbered, seqE, Tg.set, Tg.sl, setAll, free, sFor, Fs.for_nil, Fs.for_cons, eIsi, fIs, Fn.isNon, eTxt, fTxt, eIndex, eSlice, pInt, pNone, iRange1, iRange2, rangeD, fIx, atI, ixN, fLenB, fAll, eCh, sAug, sAsg, sAsgL, sPar, parGo, Fn.iRev, D.kn, Fs.ty_tt, Fs.ty_ti, Fs.ty_ts, Fs.ty_tl, Fs.ty_tb, Fs.ty_tn, Fs.ty_td, Fs.ty_it, Fs.ty_ii, Fs.ty_is, Fs.ty_il, Fs.ty_ib, Fs.ty_in, Fs.ty_id, Fs.ty_bt, Fs.ty_bi, Fs.ty_bs, Fs.ty_bl, Fs.ty_bb, Fs.ty_bn, Fs.ty_bd, Fs.ty_st, Fs.ty_si, Fs.ty_ss, Fs.ty_sl, Fs.ty_sb, Fs.ty_sn, Fs.ty_sd, Fs.ty_lt, Fs.ty_li, Fs.ty_ls, Fs.ty_ll, Fs.ty_lb, Fs.ty_ln, Fs.ty_ld, Fs.tru_bl, Fs.eq_ii, Fs.ne_ii, Fs.eq_hh, Fs.ne_hh, fLenA, fLen, asBools, lim, fTuple, fList, Fs.q_cut_cut, Fs.q_cut_read, Fs.q_cut_pair, Fs.q_cut_at, Fs.q_cut_above, Fs.q_read_cut, Fs.q_read_read, Fs.q_read_pair, Fs.q_read_at, Fs.q_read_above, Fs.q_pair_cut, Fs.q_pair_read, Fs.q_pair_pair, Fs.q_pair_at, Fs.q_pair_above, Fs.q_at_cut, Fs.q_at_read, Fs.q_at_pair, Fs.q_at_at, Fs.q_at_above, Fs.q_above_cut, Fs.q_above_read, Fs.q_above_pair, Fs.q_above_at, Fs.q_above_above, Fs.Is, fSub, fAdd, fLt, fGt, fLe, fGe, fSl, Fn.cutD, HT.sIx, sMut, sMut0, isLst, fApp, mutAt, vNeg, eLstRg, Fs.IsO, Fs.mul_i, Fs.div_i, Fs.wh_cons, e1, e2, e3]
end
/-- the simplest share of a stretch -/
theorem sb_last {ms : List D} {k : Nat} {s : Str} {i : Bool} {a b c d : Int} {w : D} (hk : ms.length = k + 1) (hm : ms[k]? = some (.tup [.str s, sh a b, w])) (hs : fEqB (.str s) (.str "at") = some (.bl i)) (h : Is F_simplest [sh a b, .bl i, sh 1 1, .bl true] (sh c d)) :
    Is F_simplest_behind [.lst ms, .int (k : Int)] (sh c d) := by
  have h1 : ((k : Int) + 1 = (ms.length : Int)) := by omega
  have h3 : (k : Int) < ms.length := by omega
  simp only [Is, List.map_cons, List.map_nil] at h
  unfold F_simplest_behind den_simplest_behind
  simp [defF, outs, callF, argOs, argO, lent, back, backOk, O.own, O.sh, O.d, M.bind, M.ret, M.map, M.lift, M.chk, M.fr, M.then_, M.stuck, Rf.get, getS, getL, rVar, eVar, eC, eBin, eBinD, eFun, eFunO, eTru, eT, eIf, mAnd, mOr, mNot, mYes, vAnd, vOr, vNot, lCons, lNil, aCons, aNil, eTup, eLst, eCall, sSeq, sIf, sSet, sPass, sRet, sDrop, sNo, kd, eComp, Fs.comp_nil, Fs.comp_cons, wipeE, restE, iAll, iEnu, Fn.numbered, seqE, Tg.set, Tg.sl, setAll, free, sFor, Fs.for_nil, Fs.for_cons, eIsi, fIs, Fn.isNon, eTxt, fTxt, eIndex, eSlice, pInt, pNone, iRange1, iRange2, rangeD, fIx, atI, ixN, fLenB, fAll, eCh, sAug, sAsg, sAsgL, sPar, parGo, Fn.iRev, D.kn, Fs.ty_tt, Fs.ty_ti, Fs.ty_ts, Fs.ty_tl, Fs.ty_tb, Fs.ty_tn, Fs.ty_td, Fs.ty_it, Fs.ty_ii, Fs.ty_is, Fs.ty_il, Fs.ty_ib, Fs.ty_in, Fs.ty_id, Fs.ty_bt, Fs.ty_bi, Fs.ty_bs, Fs.ty_bl, Fs.ty_bb, Fs.ty_bn, Fs.ty_bd, Fs.ty_st, Fs.ty_si, Fs.ty_ss, Fs.ty_sl, Fs.ty_sb, Fs.ty_sn, Fs.ty_sd, Fs.ty_lt, Fs.ty_li, Fs.ty_ls, Fs.ty_ll, Fs.ty_lb, Fs.ty_ln, Fs.ty_ld, Fs.tru_bl, Fs.eq_ii, Fs.ne_ii, Fs.eq_hh, Fs.ne_hh, fLenA, fLen, asBools, lim, fTuple, fList, Fs.q_cut_cut, Fs.q_cut_read, Fs.q_cut_pair, Fs.q_cut_at, Fs.q_cut_above, Fs.q_read_cut, Fs.q_read_read, Fs.q_read_pair, Fs.q_read_at, Fs.q_read_above, Fs.q_pair_cut, Fs.q_pair_read, Fs.q_pair_pair, Fs.q_pair_at, Fs.q_pair_above, Fs.q_at_cut, Fs.q_at_read, Fs.q_at_pair, Fs.q_at_at, Fs.q_at_above, Fs.q_above_cut, Fs.q_above_read, Fs.q_above_pair, Fs.q_above_at, Fs.q_above_above, Fs.Is, fSub, fAdd, fLt, fGt, fLe, fGe, fSl, Fn.cutD, HT.sIx, sMut, sMut0, isLst, fApp, mutAt, vNeg, eLstRg, Fs.IsO, Fs.mul_i, Fs.div_i, Fs.wh_cons, h, hs, h1, h3, hm]
theorem sb_next {ms : List D} {k : Nat} {s s' : Str} {i j : Bool} {a b c d e f : Int} {w w' : D} (hk : k + 1 < ms.length) (hm : ms[k]? = some (.tup [.str s, sh a b, w])) (hm' : ms[k + 1]? = some (.tup [.str s', sh e f, w'])) (hs : fEqB (.str s) (.str "at") = some (.bl i))
    (hs' : fEqB (.str s') (.str "above") = some (.bl j)) (h : Is F_simplest [sh a b, .bl i, sh e f, .bl j] (sh c d)) :
    Is F_simplest_behind [.lst ms, .int (k : Int)] (sh c d) := by
  have h1 : ¬ ((k : Int) + 1 = (ms.length : Int)) := by omega
  have h3 : (k : Int) < ms.length := by omega
  have h4 : (k : Int) + 1 < ms.length := by omega
  have h5 : 0 ≤ (k : Int) + 1 := by omega
  have h6 : ((k : Int) + 1).toNat = k + 1 := by omega
  simp only [Is, List.map_cons, List.map_nil] at h
  unfold F_simplest_behind den_simplest_behind
  simp [defF, outs, callF, argOs, argO, lent, back, backOk, O.own, O.sh, O.d, M.bind, M.ret, M.map, M.lift, M.chk, M.fr, M.then_, M.stuck, Rf.get, getS, getL, rVar, eVar, eC, eBin, eBinD, eFun, eFunO, eTru, eT, eIf, mAnd, mOr, mNot, mYes, vAnd, vOr, vNot, lCons, lNil, aCons, aNil, eTup, eLst, eCall, sSeq, sIf, sSet, sPass, sRet, sDrop, sNo, kd, eComp, Fs.comp_nil, Fs.comp_cons, wipeE, restE, iAll, iEnu, Fn.numbered, seqE, Tg.set, Tg.sl, setAll, free, sFor, Fs.for_nil, Fs.for_cons, eIsi, fIs, Fn.isNon, eTxt, fTxt, eIndex, eSlice, pInt, pNone, iRange1, iRange2, rangeD, fIx, atI, ixN, fLenB, fAll, eCh, sAug, sAsg, sAsgL, sPar, parGo, Fn.iRev, D.kn, Fs.ty_tt, Fs.ty_ti, Fs.ty_ts, Fs.ty_tl, Fs.ty_tb, Fs.ty_tn, Fs.ty_td, Fs.ty_it, Fs.ty_ii, Fs.ty_is, Fs.ty_il, Fs.ty_ib, Fs.ty_in, Fs.ty_id, Fs.ty_bt, Fs.ty_bi, Fs.ty_bs, Fs.ty_bl, Fs.ty_bb, Fs.ty_bn, Fs.ty_bd, Fs.ty_st, Fs.ty_si, Fs.ty_ss, Fs.ty_sl, Fs.ty_sb, Fs.ty_sn, Fs.ty_sd, Fs.ty_lt, Fs.ty_li, Fs.ty_ls, Fs.ty_ll, Fs.ty_lb, Fs.ty_ln, Fs.ty_ld, Fs.tru_bl, Fs.eq_ii, Fs.ne_ii, Fs.eq_hh, Fs.ne_hh, fLenA, fLen, asBools, lim, fTuple, fList, Fs.q_cut_cut, Fs.q_cut_read, Fs.q_cut_pair, Fs.q_cut_at, Fs.q_cut_above, Fs.q_read_cut, Fs.q_read_read, Fs.q_read_pair, Fs.q_read_at, Fs.q_read_above, Fs.q_pair_cut, Fs.q_pair_read, Fs.q_pair_pair, Fs.q_pair_at, Fs.q_pair_above, Fs.q_at_cut, Fs.q_at_read, Fs.q_at_pair, Fs.q_at_at, Fs.q_at_above, Fs.q_above_cut, Fs.q_above_read, Fs.q_above_pair, Fs.q_above_at, Fs.q_above_above, Fs.Is, fSub, fAdd, fLt, fGt, fLe, fGe, fSl, Fn.cutD, HT.sIx, sMut, sMut0, isLst, fApp, mutAt, vNeg, eLstRg, Fs.IsO, Fs.mul_i, Fs.div_i, Fs.wh_cons, h, hs, hs', h1, h3, h4, h5, h6, hm, hm']
end Law

set_option maxRecDepth 100000
set_option maxHeartbeats 4000000
namespace Law
open PySem PySem.Spec PyProof.Rows L2 Fn Fs
theorem sort1 {a b : Int} : fSorted [.lst [sh a b]] = some (.lst [sh a b]) := by
  simp [fSorted, dSort, Fn.isStr, Fn.isInt, isStrs, tupsOk, isTup1, Fn.py, toPy, toPyL, W.alike, W.alikeAll, PyData.depth, PyData.depthAll, strictly, dIsort, dIns]
section
variable {m : Int} (h2 : 2 ≤ m) (hm : m ≤ 100000000000000000001)
abbrev near (m : Int) : D := cut 0 [rw3 "above" 1 (m + 1) (.int 1), rw3 "at" 1 m (.int 0)]
abbrev plain : D := cut 0 []
abbrev close (m : Int) : D := cut 0 [rw3 "above" 1 (m + 1) (.int 1), rw3 "at" 4 (4 * m + 1) (.int 0)]
theorem g1 (b : Nat) : Nat.gcd (1 : Int).natAbs b = 1 := Nat.gcd_one_left b
include h2 hm
theorem form_near : Is F_is_form [near m] (.bl true) := form_is (cuts2 (cut_above (by omega) (by omega) (g1 _) (by omega)) (cut_at (by omega) (by omega) (g1 _) (by decide)) (by
  have h := ahead_is (s := "above") (s' := "at") (w := .int 1) (w' := .int 0) sm1 (smm1 h2 hm) sm1 (smm h2 hm) (by omega : ¬ m + 1 = m)
  rwa [decide_eq_true (by omega)] at h))
theorem gcd4 : Nat.gcd (4 : Int).natAbs (4 * m + 1).natAbs = 1 := by
  have e : (4 * m + 1).natAbs = 1 + 4 * m.natAbs := by omega
  rw [e]
  show Nat.gcd 4 (1 + 4 * m.natAbs) = 1
  rw [Nat.gcd_add_mul_left_right]
  decide
theorem form_close : Is F_is_form [close m] (.bl true) := form_is (cuts2 (cut_above (by omega) (by omega) (g1 _) (by omega)) (cut_at (by omega) (by omega) (gcd4 h2 hm) (by decide)) (by
  have h := ahead_is (s := "above") (s' := "at") (w := .int 1) (w' := .int 0) sm1 (smm1 h2 hm) sm4 (sm4m h2 hm) (by omega : ¬ m + 1 = 4 * m + 1)
  rwa [decide_eq_true (by omega)] at h))
theorem form_plain : Is F_is_form [plain] (.bl true) := form_is cuts0
theorem form_a : Is F_is_form [cut 0 [rw3 "above" 1 m (.int 1)]] (.bl true) := form_is (cuts1 (cut_above (by omega) (by omega) (g1 _) (by omega)))
theorem form_b : Is F_is_form [cut 0 [rw3 "at" 1 m (.int 1), rw3 "above" 1 m (.int 0)]] (.bl true) := form_is (cuts2 (cut_at (by omega) (by omega) (g1 _) (by decide)) (cut_above (by omega) (by omega) (g1 _) (by omega)) ahead_eq)
theorem form_c : Is F_is_form [cut 1 [rw3 "at" 1 m (.int 0)]] (.bl true) := form_is (cuts1 (cut_at (by omega) (by omega) (g1 _) (by decide)))
theorem fa1 : Is F_first_apart [near m, plain] (sh 2 (2 * m + 1)) := by
  have e1 := need_is (form_near h2 hm)
  have e2 := need_is (form_plain h2 hm)
  have e3 : Is F_marks_of [near m] _ := marks2 (by decide) (by decide)
  have e4 : Is F_marks_of [plain] _ := marks0
  have e5 := sbs2' (x := 0) (y := 0) (z := 1) (u := 0) (a := 1) (b := m + 1) (c := 1) (d := m) (s := "above") (s' := "at")
  have e6 : Is F_simplest_behind [.lst [mk "at" 0 1 0 0, mk "above" 1 (m + 1) 1 0, mk "at" 1 m 0 0], .int 1] (sh 2 (2 * m + 1)) := sb_next (k := 1) (by simp) rfl rfl q_above_at q_at_above (s1 h2 hm)
  simp only [Is, List.map_cons, List.map_nil] at e1 e2 e3 e4 e5 e6
  unfold F_first_apart den_first_apart
  simp [defF, outs, callF, argOs, argO, lent, back, backOk, O.own, O.sh, O.d, M.bind, M.ret, M.map, M.lift, M.chk, M.fr, M.then_, M.stuck, Rf.get, getS, getL, rVar, eVar, eC, eBin, eBinD, eFun, eFunO, eTru, eT, eIf, mAnd, mOr, mNot, mYes, vAnd, vOr, vNot, lCons, lNil, aCons, aNil, eTup, eLst, eCall, sSeq, sIf, sSet, sPass, sRet, sDrop, sNo, kd, eComp, Fs.comp_nil, Fs.comp_cons, wipeE, restE, iAll, iEnu, Fn.numbered, seqE, Tg.set, Tg.sl, setAll, free, sFor, Fs.for_nil, Fs.for_cons, eIsi, fIs, Fn.isNon, eTxt, fTxt, eIndex, eSlice, pInt, pNone, iRange1, iRange2, rangeD, fIx, atI, ixN, fLenB, fAll, eCh, sAug, sAsg, sAsgL, sPar, parGo, Fn.iRev, D.kn, Fs.ty_tt, Fs.ty_ti, Fs.ty_ts, Fs.ty_tl, Fs.ty_tb, Fs.ty_tn, Fs.ty_td, Fs.ty_it, Fs.ty_ii, Fs.ty_is, Fs.ty_il, Fs.ty_ib, Fs.ty_in, Fs.ty_id, Fs.ty_bt, Fs.ty_bi, Fs.ty_bs, Fs.ty_bl, Fs.ty_bb, Fs.ty_bn, Fs.ty_bd, Fs.ty_st, Fs.ty_si, Fs.ty_ss, Fs.ty_sl, Fs.ty_sb, Fs.ty_sn, Fs.ty_sd, Fs.ty_lt, Fs.ty_li, Fs.ty_ls, Fs.ty_ll, Fs.ty_lb, Fs.ty_ln, Fs.ty_ld, Fs.tru_bl, Fs.eq_ii, Fs.ne_ii, Fs.eq_hh, Fs.ne_hh, fLenA, fLen, asBools, lim, fTuple, fList, Fs.q_cut_cut, Fs.q_cut_read, Fs.q_cut_pair, Fs.q_cut_at, Fs.q_cut_above, Fs.q_read_cut, Fs.q_read_read, Fs.q_read_pair, Fs.q_read_at, Fs.q_read_above, Fs.q_pair_cut, Fs.q_pair_read, Fs.q_pair_pair, Fs.q_pair_at, Fs.q_pair_above, Fs.q_at_cut, Fs.q_at_read, Fs.q_at_pair, Fs.q_at_at, Fs.q_at_above, Fs.q_above_cut, Fs.q_above_read, Fs.q_above_pair, Fs.q_above_at, Fs.q_above_above, Fs.Is, fSub, fAdd, fLt, fGt, fLe, fGe, fSl, Fn.cutD, HT.sIx, sMut, sMut0, isLst, fApp, mutAt, vNeg, eLstRg, Fs.IsO, Fs.mul_i, Fs.div_i, Fs.wh_cons, Fs.rg2, Fs.rg3, Fs.rg4, Fs.rg5, Fs.rg6, Fs.rg7, Fs.rg8, Fs.tru_l, Fs.tru_t, Fs.tru_i, e1, e2, e3, e4, e5, e6, sort1]
theorem fa2 : Is F_first_apart [plain, cut 0 [rw3 "above" 1 m (.int 1)]] (sh 1 1) := by
  have e1 := need_is (form_plain h2 hm)
  have e2 := need_is (form_a h2 hm)
  have e3 : Is F_marks_of [plain] _ := marks0
  have e4 : Is F_marks_of [cut 0 [rw3 "above" 1 m (.int 1)]] _ := marks1 (by decide)
  have e5 := sbs1 (x := 0) (y := 0) (z := 1) (a := 1) (b := m) (s := "above")
  have e6 : Is F_simplest_behind [.lst [mk "at" 0 1 0 0, mk "above" 1 m 0 1], .int 1] (sh 1 1) := sb_last (k := 1) (by simp) rfl q_above_at (s2 h2 hm)
  simp only [Is, List.map_cons, List.map_nil] at e1 e2 e3 e4 e5 e6
  unfold F_first_apart den_first_apart
  simp [defF, outs, callF, argOs, argO, lent, back, backOk, O.own, O.sh, O.d, M.bind, M.ret, M.map, M.lift, M.chk, M.fr, M.then_, M.stuck, Rf.get, getS, getL, rVar, eVar, eC, eBin, eBinD, eFun, eFunO, eTru, eT, eIf, mAnd, mOr, mNot, mYes, vAnd, vOr, vNot, lCons, lNil, aCons, aNil, eTup, eLst, eCall, sSeq, sIf, sSet, sPass, sRet, sDrop, sNo, kd, eComp, Fs.comp_nil, Fs.comp_cons, wipeE, restE, iAll, iEnu, Fn.numbered, seqE, Tg.set, Tg.sl, setAll, free, sFor, Fs.for_nil, Fs.for_cons, eIsi, fIs, Fn.isNon, eTxt, fTxt, eIndex, eSlice, pInt, pNone, iRange1, iRange2, rangeD, fIx, atI, ixN, fLenB, fAll, eCh, sAug, sAsg, sAsgL, sPar, parGo, Fn.iRev, D.kn, Fs.ty_tt, Fs.ty_ti, Fs.ty_ts, Fs.ty_tl, Fs.ty_tb, Fs.ty_tn, Fs.ty_td, Fs.ty_it, Fs.ty_ii, Fs.ty_is, Fs.ty_il, Fs.ty_ib, Fs.ty_in, Fs.ty_id, Fs.ty_bt, Fs.ty_bi, Fs.ty_bs, Fs.ty_bl, Fs.ty_bb, Fs.ty_bn, Fs.ty_bd, Fs.ty_st, Fs.ty_si, Fs.ty_ss, Fs.ty_sl, Fs.ty_sb, Fs.ty_sn, Fs.ty_sd, Fs.ty_lt, Fs.ty_li, Fs.ty_ls, Fs.ty_ll, Fs.ty_lb, Fs.ty_ln, Fs.ty_ld, Fs.tru_bl, Fs.eq_ii, Fs.ne_ii, Fs.eq_hh, Fs.ne_hh, fLenA, fLen, asBools, lim, fTuple, fList, Fs.q_cut_cut, Fs.q_cut_read, Fs.q_cut_pair, Fs.q_cut_at, Fs.q_cut_above, Fs.q_read_cut, Fs.q_read_read, Fs.q_read_pair, Fs.q_read_at, Fs.q_read_above, Fs.q_pair_cut, Fs.q_pair_read, Fs.q_pair_pair, Fs.q_pair_at, Fs.q_pair_above, Fs.q_at_cut, Fs.q_at_read, Fs.q_at_pair, Fs.q_at_at, Fs.q_at_above, Fs.q_above_cut, Fs.q_above_read, Fs.q_above_pair, Fs.q_above_at, Fs.q_above_above, Fs.Is, fSub, fAdd, fLt, fGt, fLe, fGe, fSl, Fn.cutD, HT.sIx, sMut, sMut0, isLst, fApp, mutAt, vNeg, eLstRg, Fs.IsO, Fs.mul_i, Fs.div_i, Fs.wh_cons, Fs.rg2, Fs.rg3, Fs.rg4, Fs.rg5, Fs.rg6, Fs.rg7, Fs.rg8, Fs.tru_l, Fs.tru_t, Fs.tru_i, e1, e2, e3, e4, e5, e6, sort1]
theorem fa3 : Is F_first_apart [plain, cut 0 [rw3 "at" 1 m (.int 1), rw3 "above" 1 m (.int 0)]] (sh 1 m) := by
  have e1 := need_is (form_plain h2 hm)
  have e2 := need_is (form_b h2 hm)
  have e3 : Is F_marks_of [plain] _ := marks0
  have e4 : Is F_marks_of [cut 0 [rw3 "at" 1 m (.int 1), rw3 "above" 1 m (.int 0)]] _ := marks2 (by decide) (by decide)
  have e5 := sbs2 (x := 0) (y := 0) (z := 1) (u := 0) (a := 1) (b := m) (c := 1) (d := m) (s := "at") (s' := "above")
  have e6 : Is F_simplest_behind [.lst [mk "at" 0 1 0 0, mk "at" 1 m 0 1, mk "above" 1 m 0 0], .int 1] (sh 1 m) := sb_next (k := 1) (by simp) rfl rfl q_at_at q_above_above (s3 h2 hm)
  simp only [Is, List.map_cons, List.map_nil] at e1 e2 e3 e4 e5 e6
  unfold F_first_apart den_first_apart
  simp [defF, outs, callF, argOs, argO, lent, back, backOk, O.own, O.sh, O.d, M.bind, M.ret, M.map, M.lift, M.chk, M.fr, M.then_, M.stuck, Rf.get, getS, getL, rVar, eVar, eC, eBin, eBinD, eFun, eFunO, eTru, eT, eIf, mAnd, mOr, mNot, mYes, vAnd, vOr, vNot, lCons, lNil, aCons, aNil, eTup, eLst, eCall, sSeq, sIf, sSet, sPass, sRet, sDrop, sNo, kd, eComp, Fs.comp_nil, Fs.comp_cons, wipeE, restE, iAll, iEnu, Fn.numbered, seqE, Tg.set, Tg.sl, setAll, free, sFor, Fs.for_nil, Fs.for_cons, eIsi, fIs, Fn.isNon, eTxt, fTxt, eIndex, eSlice, pInt, pNone, iRange1, iRange2, rangeD, fIx, atI, ixN, fLenB, fAll, eCh, sAug, sAsg, sAsgL, sPar, parGo, Fn.iRev, D.kn, Fs.ty_tt, Fs.ty_ti, Fs.ty_ts, Fs.ty_tl, Fs.ty_tb, Fs.ty_tn, Fs.ty_td, Fs.ty_it, Fs.ty_ii, Fs.ty_is, Fs.ty_il, Fs.ty_ib, Fs.ty_in, Fs.ty_id, Fs.ty_bt, Fs.ty_bi, Fs.ty_bs, Fs.ty_bl, Fs.ty_bb, Fs.ty_bn, Fs.ty_bd, Fs.ty_st, Fs.ty_si, Fs.ty_ss, Fs.ty_sl, Fs.ty_sb, Fs.ty_sn, Fs.ty_sd, Fs.ty_lt, Fs.ty_li, Fs.ty_ls, Fs.ty_ll, Fs.ty_lb, Fs.ty_ln, Fs.ty_ld, Fs.tru_bl, Fs.eq_ii, Fs.ne_ii, Fs.eq_hh, Fs.ne_hh, fLenA, fLen, asBools, lim, fTuple, fList, Fs.q_cut_cut, Fs.q_cut_read, Fs.q_cut_pair, Fs.q_cut_at, Fs.q_cut_above, Fs.q_read_cut, Fs.q_read_read, Fs.q_read_pair, Fs.q_read_at, Fs.q_read_above, Fs.q_pair_cut, Fs.q_pair_read, Fs.q_pair_pair, Fs.q_pair_at, Fs.q_pair_above, Fs.q_at_cut, Fs.q_at_read, Fs.q_at_pair, Fs.q_at_at, Fs.q_at_above, Fs.q_above_cut, Fs.q_above_read, Fs.q_above_pair, Fs.q_above_at, Fs.q_above_above, Fs.Is, fSub, fAdd, fLt, fGt, fLe, fGe, fSl, Fn.cutD, HT.sIx, sMut, sMut0, isLst, fApp, mutAt, vNeg, eLstRg, Fs.IsO, Fs.mul_i, Fs.div_i, Fs.wh_cons, Fs.rg2, Fs.rg3, Fs.rg4, Fs.rg5, Fs.rg6, Fs.rg7, Fs.rg8, Fs.tru_l, Fs.tru_t, Fs.tru_i, e1, e2, e3, e4, e5, e6, sort1]
theorem fa4 : Is F_first_apart [plain, cut 1 [rw3 "at" 1 m (.int 0)]] (sh 0 1) := by
  have e1 := need_is (form_plain h2 hm)
  have e2 := need_is (form_c h2 hm)
  have e3 : Is F_marks_of [plain] _ := marks0
  have e4 : Is F_marks_of [cut 1 [rw3 "at" 1 m (.int 0)]] _ := marks1 (by decide)
  have e5 := sbs1 (x := 0) (y := 1) (z := 0) (a := 1) (b := m) (s := "at")
  have e6 : Is F_simplest_behind [.lst [mk "at" 0 1 0 1, mk "at" 1 m 0 0], .int 0] (sh 0 1) := sb_next (k := 0) (by simp) rfl rfl q_at_at q_at_above (s4 h2 hm 1 m false)
  simp only [Is, List.map_cons, List.map_nil] at e1 e2 e3 e4 e5 e6
  unfold F_first_apart den_first_apart
  simp [defF, outs, callF, argOs, argO, lent, back, backOk, O.own, O.sh, O.d, M.bind, M.ret, M.map, M.lift, M.chk, M.fr, M.then_, M.stuck, Rf.get, getS, getL, rVar, eVar, eC, eBin, eBinD, eFun, eFunO, eTru, eT, eIf, mAnd, mOr, mNot, mYes, vAnd, vOr, vNot, lCons, lNil, aCons, aNil, eTup, eLst, eCall, sSeq, sIf, sSet, sPass, sRet, sDrop, sNo, kd, eComp, Fs.comp_nil, Fs.comp_cons, wipeE, restE, iAll, iEnu, Fn.numbered, seqE, Tg.set, Tg.sl, setAll, free, sFor, Fs.for_nil, Fs.for_cons, eIsi, fIs, Fn.isNon, eTxt, fTxt, eIndex, eSlice, pInt, pNone, iRange1, iRange2, rangeD, fIx, atI, ixN, fLenB, fAll, eCh, sAug, sAsg, sAsgL, sPar, parGo, Fn.iRev, D.kn, Fs.ty_tt, Fs.ty_ti, Fs.ty_ts, Fs.ty_tl, Fs.ty_tb, Fs.ty_tn, Fs.ty_td, Fs.ty_it, Fs.ty_ii, Fs.ty_is, Fs.ty_il, Fs.ty_ib, Fs.ty_in, Fs.ty_id, Fs.ty_bt, Fs.ty_bi, Fs.ty_bs, Fs.ty_bl, Fs.ty_bb, Fs.ty_bn, Fs.ty_bd, Fs.ty_st, Fs.ty_si, Fs.ty_ss, Fs.ty_sl, Fs.ty_sb, Fs.ty_sn, Fs.ty_sd, Fs.ty_lt, Fs.ty_li, Fs.ty_ls, Fs.ty_ll, Fs.ty_lb, Fs.ty_ln, Fs.ty_ld, Fs.tru_bl, Fs.eq_ii, Fs.ne_ii, Fs.eq_hh, Fs.ne_hh, fLenA, fLen, asBools, lim, fTuple, fList, Fs.q_cut_cut, Fs.q_cut_read, Fs.q_cut_pair, Fs.q_cut_at, Fs.q_cut_above, Fs.q_read_cut, Fs.q_read_read, Fs.q_read_pair, Fs.q_read_at, Fs.q_read_above, Fs.q_pair_cut, Fs.q_pair_read, Fs.q_pair_pair, Fs.q_pair_at, Fs.q_pair_above, Fs.q_at_cut, Fs.q_at_read, Fs.q_at_pair, Fs.q_at_at, Fs.q_at_above, Fs.q_above_cut, Fs.q_above_read, Fs.q_above_pair, Fs.q_above_at, Fs.q_above_above, Fs.Is, fSub, fAdd, fLt, fGt, fLe, fGe, fSl, Fn.cutD, HT.sIx, sMut, sMut0, isLst, fApp, mutAt, vNeg, eLstRg, Fs.IsO, Fs.mul_i, Fs.div_i, Fs.wh_cons, Fs.rg2, Fs.rg3, Fs.rg4, Fs.rg5, Fs.rg6, Fs.rg7, Fs.rg8, Fs.tru_l, Fs.tru_t, Fs.tru_i, e1, e2, e3, e4, e5, e6, sort1]
theorem fa5 : Is F_first_apart [close m, plain] (sh 2 (2 * m + 1)) := by
  have e1 := need_is (form_close h2 hm)
  have e2 := need_is (form_plain h2 hm)
  have e3 : Is F_marks_of [close m] _ := marks2 (by decide) (by decide)
  have e4 : Is F_marks_of [plain] _ := marks0
  have e5 := sbs2' (x := 0) (y := 0) (z := 1) (u := 0) (a := 1) (b := m + 1) (c := 4) (d := 4 * m + 1) (s := "above") (s' := "at")
  have e6 : Is F_simplest_behind [.lst [mk "at" 0 1 0 0, mk "above" 1 (m + 1) 1 0, mk "at" 4 (4 * m + 1) 0 0], .int 1] (sh 2 (2 * m + 1)) := sb_next (k := 1) (by simp) rfl rfl q_above_at q_at_above (s5 h2 hm)
  simp only [Is, List.map_cons, List.map_nil] at e1 e2 e3 e4 e5 e6
  unfold F_first_apart den_first_apart
  simp [defF, outs, callF, argOs, argO, lent, back, backOk, O.own, O.sh, O.d, M.bind, M.ret, M.map, M.lift, M.chk, M.fr, M.then_, M.stuck, Rf.get, getS, getL, rVar, eVar, eC, eBin, eBinD, eFun, eFunO, eTru, eT, eIf, mAnd, mOr, mNot, mYes, vAnd, vOr, vNot, lCons, lNil, aCons, aNil, eTup, eLst, eCall, sSeq, sIf, sSet, sPass, sRet, sDrop, sNo, kd, eComp, Fs.comp_nil, Fs.comp_cons, wipeE, restE, iAll, iEnu, Fn.numbered, seqE, Tg.set, Tg.sl, setAll, free, sFor, Fs.for_nil, Fs.for_cons, eIsi, fIs, Fn.isNon, eTxt, fTxt, eIndex, eSlice, pInt, pNone, iRange1, iRange2, rangeD, fIx, atI, ixN, fLenB, fAll, eCh, sAug, sAsg, sAsgL, sPar, parGo, Fn.iRev, D.kn, Fs.ty_tt, Fs.ty_ti, Fs.ty_ts, Fs.ty_tl, Fs.ty_tb, Fs.ty_tn, Fs.ty_td, Fs.ty_it, Fs.ty_ii, Fs.ty_is, Fs.ty_il, Fs.ty_ib, Fs.ty_in, Fs.ty_id, Fs.ty_bt, Fs.ty_bi, Fs.ty_bs, Fs.ty_bl, Fs.ty_bb, Fs.ty_bn, Fs.ty_bd, Fs.ty_st, Fs.ty_si, Fs.ty_ss, Fs.ty_sl, Fs.ty_sb, Fs.ty_sn, Fs.ty_sd, Fs.ty_lt, Fs.ty_li, Fs.ty_ls, Fs.ty_ll, Fs.ty_lb, Fs.ty_ln, Fs.ty_ld, Fs.tru_bl, Fs.eq_ii, Fs.ne_ii, Fs.eq_hh, Fs.ne_hh, fLenA, fLen, asBools, lim, fTuple, fList, Fs.q_cut_cut, Fs.q_cut_read, Fs.q_cut_pair, Fs.q_cut_at, Fs.q_cut_above, Fs.q_read_cut, Fs.q_read_read, Fs.q_read_pair, Fs.q_read_at, Fs.q_read_above, Fs.q_pair_cut, Fs.q_pair_read, Fs.q_pair_pair, Fs.q_pair_at, Fs.q_pair_above, Fs.q_at_cut, Fs.q_at_read, Fs.q_at_pair, Fs.q_at_at, Fs.q_at_above, Fs.q_above_cut, Fs.q_above_read, Fs.q_above_pair, Fs.q_above_at, Fs.q_above_above, Fs.Is, fSub, fAdd, fLt, fGt, fLe, fGe, fSl, Fn.cutD, HT.sIx, sMut, sMut0, isLst, fApp, mutAt, vNeg, eLstRg, Fs.IsO, Fs.mul_i, Fs.div_i, Fs.wh_cons, Fs.rg2, Fs.rg3, Fs.rg4, Fs.rg5, Fs.rg6, Fs.rg7, Fs.rg8, Fs.tru_l, Fs.tru_t, Fs.tru_i, e1, e2, e3, e4, e5, e6, sort1]
theorem fa6 : Is F_first_apart [close m, near m] (sh 4 (4 * m + 1)) := by
  have e1 := need_is (form_close h2 hm)
  have e2 := need_is (form_near h2 hm)
  have e3 : Is F_marks_of [close m] _ := marks2 (by decide) (by decide)
  have e4 : Is F_marks_of [near m] _ := marks2 (by decide) (by decide)
  have e5 := sbs6 h2 hm
  have e6 : Is F_simplest_behind [.lst [mk "at" 0 1 0 0, mk "above" 1 (m + 1) 1 1, mk "at" 4 (4 * m + 1) 0 1, mk "at" 1 m 0 0], .int 2] (sh 4 (4 * m + 1)) := sb_next (k := 2) (by simp) rfl rfl q_at_at q_at_above (s6 h2 hm)
  simp only [Is, List.map_cons, List.map_nil] at e1 e2 e3 e4 e5 e6
  unfold F_first_apart den_first_apart
  simp [defF, outs, callF, argOs, argO, lent, back, backOk, O.own, O.sh, O.d, M.bind, M.ret, M.map, M.lift, M.chk, M.fr, M.then_, M.stuck, Rf.get, getS, getL, rVar, eVar, eC, eBin, eBinD, eFun, eFunO, eTru, eT, eIf, mAnd, mOr, mNot, mYes, vAnd, vOr, vNot, lCons, lNil, aCons, aNil, eTup, eLst, eCall, sSeq, sIf, sSet, sPass, sRet, sDrop, sNo, kd, eComp, Fs.comp_nil, Fs.comp_cons, wipeE, restE, iAll, iEnu, Fn.numbered, seqE, Tg.set, Tg.sl, setAll, free, sFor, Fs.for_nil, Fs.for_cons, eIsi, fIs, Fn.isNon, eTxt, fTxt, eIndex, eSlice, pInt, pNone, iRange1, iRange2, rangeD, fIx, atI, ixN, fLenB, fAll, eCh, sAug, sAsg, sAsgL, sPar, parGo, Fn.iRev, D.kn, Fs.ty_tt, Fs.ty_ti, Fs.ty_ts, Fs.ty_tl, Fs.ty_tb, Fs.ty_tn, Fs.ty_td, Fs.ty_it, Fs.ty_ii, Fs.ty_is, Fs.ty_il, Fs.ty_ib, Fs.ty_in, Fs.ty_id, Fs.ty_bt, Fs.ty_bi, Fs.ty_bs, Fs.ty_bl, Fs.ty_bb, Fs.ty_bn, Fs.ty_bd, Fs.ty_st, Fs.ty_si, Fs.ty_ss, Fs.ty_sl, Fs.ty_sb, Fs.ty_sn, Fs.ty_sd, Fs.ty_lt, Fs.ty_li, Fs.ty_ls, Fs.ty_ll, Fs.ty_lb, Fs.ty_ln, Fs.ty_ld, Fs.tru_bl, Fs.eq_ii, Fs.ne_ii, Fs.eq_hh, Fs.ne_hh, fLenA, fLen, asBools, lim, fTuple, fList, Fs.q_cut_cut, Fs.q_cut_read, Fs.q_cut_pair, Fs.q_cut_at, Fs.q_cut_above, Fs.q_read_cut, Fs.q_read_read, Fs.q_read_pair, Fs.q_read_at, Fs.q_read_above, Fs.q_pair_cut, Fs.q_pair_read, Fs.q_pair_pair, Fs.q_pair_at, Fs.q_pair_above, Fs.q_at_cut, Fs.q_at_read, Fs.q_at_pair, Fs.q_at_at, Fs.q_at_above, Fs.q_above_cut, Fs.q_above_read, Fs.q_above_pair, Fs.q_above_at, Fs.q_above_above, Fs.Is, fSub, fAdd, fLt, fGt, fLe, fGe, fSl, Fn.cutD, HT.sIx, sMut, sMut0, isLst, fApp, mutAt, vNeg, eLstRg, Fs.IsO, Fs.mul_i, Fs.div_i, Fs.wh_cons, Fs.rg2, Fs.rg3, Fs.rg4, Fs.rg5, Fs.rg6, Fs.rg7, Fs.rg8, Fs.tru_l, Fs.tru_t, Fs.tru_i, e1, e2, e3, e4, e5, e6, sort1]
theorem starts_near : Is F_starts [near m] (.lst [rw3 "at" 0 1 (.int 0), rw3 "above" 1 (m + 1) (.int 1), rw3 "at" 1 m (.int 0)]) := by
  have e1 := need_is (form_near h2 hm)
  have e3 : Is F_marks_of [near m] _ := marks2 (by decide) (by decide)
  simp only [Is, List.map_cons, List.map_nil] at e1 e3
  unfold F_starts den_starts
  simp [defF, outs, callF, argOs, argO, lent, back, backOk, O.own, O.sh, O.d, M.bind, M.ret, M.map, M.lift, M.chk, M.fr, M.then_, M.stuck, Rf.get, getS, getL, rVar, eVar, eC, eBin, eBinD, eFun, eFunO, eTru, eT, eIf, mAnd, mOr, mNot, mYes, vAnd, vOr, vNot, lCons, lNil, aCons, aNil, eTup, eLst, eCall, sSeq, sIf, sSet, sPass, sRet, sDrop, sNo, kd, eComp, Fs.comp_nil, Fs.comp_cons, wipeE, restE, iAll, iEnu, Fn.numbered, seqE, Tg.set, Tg.sl, setAll, free, sFor, Fs.for_nil, Fs.for_cons, eIsi, fIs, Fn.isNon, eTxt, fTxt, eIndex, eSlice, pInt, pNone, iRange1, iRange2, rangeD, fIx, atI, ixN, fLenB, fAll, eCh, sAug, sAsg, sAsgL, sPar, parGo, Fn.iRev, D.kn, Fs.ty_tt, Fs.ty_ti, Fs.ty_ts, Fs.ty_tl, Fs.ty_tb, Fs.ty_tn, Fs.ty_td, Fs.ty_it, Fs.ty_ii, Fs.ty_is, Fs.ty_il, Fs.ty_ib, Fs.ty_in, Fs.ty_id, Fs.ty_bt, Fs.ty_bi, Fs.ty_bs, Fs.ty_bl, Fs.ty_bb, Fs.ty_bn, Fs.ty_bd, Fs.ty_st, Fs.ty_si, Fs.ty_ss, Fs.ty_sl, Fs.ty_sb, Fs.ty_sn, Fs.ty_sd, Fs.ty_lt, Fs.ty_li, Fs.ty_ls, Fs.ty_ll, Fs.ty_lb, Fs.ty_ln, Fs.ty_ld, Fs.tru_bl, Fs.eq_ii, Fs.ne_ii, Fs.eq_hh, Fs.ne_hh, fLenA, fLen, asBools, lim, fTuple, fList, Fs.q_cut_cut, Fs.q_cut_read, Fs.q_cut_pair, Fs.q_cut_at, Fs.q_cut_above, Fs.q_read_cut, Fs.q_read_read, Fs.q_read_pair, Fs.q_read_at, Fs.q_read_above, Fs.q_pair_cut, Fs.q_pair_read, Fs.q_pair_pair, Fs.q_pair_at, Fs.q_pair_above, Fs.q_at_cut, Fs.q_at_read, Fs.q_at_pair, Fs.q_at_at, Fs.q_at_above, Fs.q_above_cut, Fs.q_above_read, Fs.q_above_pair, Fs.q_above_at, Fs.q_above_above, Fs.Is, fSub, fAdd, fLt, fGt, fLe, fGe, fSl, Fn.cutD, HT.sIx, sMut, sMut0, isLst, fApp, mutAt, vNeg, eLstRg, Fs.IsO, Fs.mul_i, Fs.div_i, Fs.wh_cons, Fs.rg2, Fs.rg3, Fs.rg4, Fs.rg5, Fs.rg6, Fs.rg7, Fs.rg8, Fs.tru_l, Fs.tru_t, Fs.tru_i, e1, e3]
theorem break_near : Is F_break_of [near m] (.tup [sh 0 1, sh 2 (2 * m + 1), sh 1 1]) := by
  have e1 := starts_near h2 hm
  have e2 : Is F_simplest_behind [.lst [rw3 "at" 0 1 (.int 0), rw3 "above" 1 (m + 1) (.int 1), rw3 "at" 1 m (.int 0)], .int 0] (sh 0 1) := sb_next (k := 0) (by simp) rfl rfl q_at_at q_above_above (s4 h2 hm 1 (m + 1) true)
  have e3 : Is F_simplest_behind [.lst [rw3 "at" 0 1 (.int 0), rw3 "above" 1 (m + 1) (.int 1), rw3 "at" 1 m (.int 0)], .int 1] (sh 2 (2 * m + 1)) := sb_next (k := 1) (by simp) rfl rfl q_above_at q_at_above (s1 h2 hm)
  have e4 : Is F_simplest_behind [.lst [rw3 "at" 0 1 (.int 0), rw3 "above" 1 (m + 1) (.int 1), rw3 "at" 1 m (.int 0)], .int 2] (sh 1 1) := sb_last (k := 2) (by simp) rfl q_at_at (s7 h2 hm)
  have i0 : fIndex (.lst [.int 0, .int 1, .int 0]) (.int 0) = some (.int 0) := by kernel_rfl
  have i1 : fIndex (.lst [.int 0, .int 1, .int 0]) (.int 1) = some (.int 1) := by kernel_rfl
  simp only [Is, List.map_cons, List.map_nil] at e1 e2 e3 e4
  unfold F_break_of den_break_of
  simp [defF, outs, callF, argOs, argO, lent, back, backOk, O.own, O.sh, O.d, M.bind, M.ret, M.map, M.lift, M.chk, M.fr, M.then_, M.stuck, Rf.get, getS, getL, rVar, eVar, eC, eBin, eBinD, eFun, eFunO, eTru, eT, eIf, mAnd, mOr, mNot, mYes, vAnd, vOr, vNot, lCons, lNil, aCons, aNil, eTup, eLst, eCall, sSeq, sIf, sSet, sPass, sRet, sDrop, sNo, kd, eComp, Fs.comp_nil, Fs.comp_cons, wipeE, restE, iAll, iEnu, Fn.numbered, seqE, Tg.set, Tg.sl, setAll, free, sFor, Fs.for_nil, Fs.for_cons, eIsi, fIs, Fn.isNon, eTxt, fTxt, eIndex, eSlice, pInt, pNone, iRange1, iRange2, rangeD, fIx, atI, ixN, fLenB, fAll, eCh, sAug, sAsg, sAsgL, sPar, parGo, Fn.iRev, D.kn, Fs.ty_tt, Fs.ty_ti, Fs.ty_ts, Fs.ty_tl, Fs.ty_tb, Fs.ty_tn, Fs.ty_td, Fs.ty_it, Fs.ty_ii, Fs.ty_is, Fs.ty_il, Fs.ty_ib, Fs.ty_in, Fs.ty_id, Fs.ty_bt, Fs.ty_bi, Fs.ty_bs, Fs.ty_bl, Fs.ty_bb, Fs.ty_bn, Fs.ty_bd, Fs.ty_st, Fs.ty_si, Fs.ty_ss, Fs.ty_sl, Fs.ty_sb, Fs.ty_sn, Fs.ty_sd, Fs.ty_lt, Fs.ty_li, Fs.ty_ls, Fs.ty_ll, Fs.ty_lb, Fs.ty_ln, Fs.ty_ld, Fs.tru_bl, Fs.eq_ii, Fs.ne_ii, Fs.eq_hh, Fs.ne_hh, fLenA, fLen, asBools, lim, fTuple, fList, Fs.q_cut_cut, Fs.q_cut_read, Fs.q_cut_pair, Fs.q_cut_at, Fs.q_cut_above, Fs.q_read_cut, Fs.q_read_read, Fs.q_read_pair, Fs.q_read_at, Fs.q_read_above, Fs.q_pair_cut, Fs.q_pair_read, Fs.q_pair_pair, Fs.q_pair_at, Fs.q_pair_above, Fs.q_at_cut, Fs.q_at_read, Fs.q_at_pair, Fs.q_at_at, Fs.q_at_above, Fs.q_above_cut, Fs.q_above_read, Fs.q_above_pair, Fs.q_above_at, Fs.q_above_above, Fs.Is, fSub, fAdd, fLt, fGt, fLe, fGe, fSl, Fn.cutD, HT.sIx, sMut, sMut0, isLst, fApp, mutAt, vNeg, eLstRg, Fs.IsO, Fs.mul_i, Fs.div_i, Fs.wh_cons, Fs.rg2, Fs.rg3, Fs.rg4, Fs.rg5, Fs.rg6, Fs.rg7, Fs.rg8, Fs.tru_l, Fs.tru_t, Fs.tru_i, isLs, e1, e2, e3, e4, i0, i1]
theorem keeps_near : Is F_keeps_always [near m] (.bl false) := by
  have e1 := break_near h2 hm
  simp only [Is, List.map_cons, List.map_nil] at e1
  unfold F_keeps_always den_keeps_always
  simp [defF, outs, callF, argOs, argO, lent, back, backOk, O.own, O.sh, O.d, M.bind, M.ret, M.map, M.lift, M.chk, M.fr, M.then_, M.stuck, Rf.get, getS, getL, rVar, eVar, eC, eBin, eBinD, eFun, eFunO, eTru, eT, eIf, mAnd, mOr, mNot, mYes, vAnd, vOr, vNot, lCons, lNil, aCons, aNil, eTup, eLst, eCall, sSeq, sIf, sSet, sPass, sRet, sDrop, sNo, kd, eComp, Fs.comp_nil, Fs.comp_cons, wipeE, restE, iAll, iEnu, Fn.numbered, seqE, Tg.set, Tg.sl, setAll, free, sFor, Fs.for_nil, Fs.for_cons, eIsi, fIs, Fn.isNon, eTxt, fTxt, eIndex, eSlice, pInt, pNone, iRange1, iRange2, rangeD, fIx, atI, ixN, fLenB, fAll, eCh, sAug, sAsg, sAsgL, sPar, parGo, Fn.iRev, D.kn, Fs.ty_tt, Fs.ty_ti, Fs.ty_ts, Fs.ty_tl, Fs.ty_tb, Fs.ty_tn, Fs.ty_td, Fs.ty_it, Fs.ty_ii, Fs.ty_is, Fs.ty_il, Fs.ty_ib, Fs.ty_in, Fs.ty_id, Fs.ty_bt, Fs.ty_bi, Fs.ty_bs, Fs.ty_bl, Fs.ty_bb, Fs.ty_bn, Fs.ty_bd, Fs.ty_st, Fs.ty_si, Fs.ty_ss, Fs.ty_sl, Fs.ty_sb, Fs.ty_sn, Fs.ty_sd, Fs.ty_lt, Fs.ty_li, Fs.ty_ls, Fs.ty_ll, Fs.ty_lb, Fs.ty_ln, Fs.ty_ld, Fs.tru_bl, Fs.eq_ii, Fs.ne_ii, Fs.eq_hh, Fs.ne_hh, fLenA, fLen, asBools, lim, fTuple, fList, Fs.q_cut_cut, Fs.q_cut_read, Fs.q_cut_pair, Fs.q_cut_at, Fs.q_cut_above, Fs.q_read_cut, Fs.q_read_read, Fs.q_read_pair, Fs.q_read_at, Fs.q_read_above, Fs.q_pair_cut, Fs.q_pair_read, Fs.q_pair_pair, Fs.q_pair_at, Fs.q_pair_above, Fs.q_at_cut, Fs.q_at_read, Fs.q_at_pair, Fs.q_at_at, Fs.q_at_above, Fs.q_above_cut, Fs.q_above_read, Fs.q_above_pair, Fs.q_above_at, Fs.q_above_above, Fs.Is, fSub, fAdd, fLt, fGt, fLe, fGe, fSl, Fn.cutD, HT.sIx, sMut, sMut0, isLst, fApp, mutAt, vNeg, eLstRg, Fs.IsO, Fs.mul_i, Fs.div_i, Fs.wh_cons, Fs.rg2, Fs.rg3, Fs.rg4, Fs.rg5, Fs.rg6, Fs.rg7, Fs.rg8, Fs.tru_l, Fs.tru_t, Fs.tru_i, e1]
theorem word_0 : Is F_word_at [near m, sh 0 1] (.int 0) := by
  have h1 : Is F_is_less [sh 1 (m + 1), sh 0 1] (.bl false) := by
    have h := less_is (a := 1) (b := m + 1) (c := 0) (d := 1) sm1 (smm1 h2 hm) sm0 sm1
    rwa [decide_eq_false (by omega)] at h
  have h3 : Is F_is_less [sh 1 m, sh 0 1] (.bl false) := by
    have h := less_is (a := 1) (b := m) (c := 0) (d := 1) sm1 (smm h2 hm) sm0 sm1
    rwa [decide_eq_false (by omega)] at h
  have n1 : ¬ m = 1 := by omega
  have n2 : ¬ m + 1 = 1 := by omega
  have n3 : ¬ m = 2 * m + 1 := by omega
  simp only [Is, List.map_cons, List.map_nil] at h1 h3
  unfold F_word_at FR_word_at den_word_at
  simp [defF, outs, callF, argOs, argO, lent, back, backOk, O.own, O.sh, O.d, M.bind, M.ret, M.map, M.lift, M.chk, M.fr, M.then_, M.stuck, Rf.get, getS, getL, rVar, eVar, eC, eBin, eBinD, eFun, eFunO, eTru, eT, eIf, mAnd, mOr, mNot, mYes, vAnd, vOr, vNot, lCons, lNil, aCons, aNil, eTup, eLst, eCall, sSeq, sIf, sSet, sPass, sRet, sDrop, sNo, kd, eComp, Fs.comp_nil, Fs.comp_cons, wipeE, restE, iAll, iEnu, Fn.numbered, seqE, Tg.set, Tg.sl, setAll, free, sFor, Fs.for_nil, Fs.for_cons, eIsi, fIs, Fn.isNon, eTxt, fTxt, eIndex, eSlice, pInt, pNone, iRange1, iRange2, rangeD, fIx, atI, ixN, fLenB, fAll, eCh, sAug, sAsg, sAsgL, sPar, parGo, Fn.iRev, D.kn, Fs.ty_tt, Fs.ty_ti, Fs.ty_ts, Fs.ty_tl, Fs.ty_tb, Fs.ty_tn, Fs.ty_td, Fs.ty_it, Fs.ty_ii, Fs.ty_is, Fs.ty_il, Fs.ty_ib, Fs.ty_in, Fs.ty_id, Fs.ty_bt, Fs.ty_bi, Fs.ty_bs, Fs.ty_bl, Fs.ty_bb, Fs.ty_bn, Fs.ty_bd, Fs.ty_st, Fs.ty_si, Fs.ty_ss, Fs.ty_sl, Fs.ty_sb, Fs.ty_sn, Fs.ty_sd, Fs.ty_lt, Fs.ty_li, Fs.ty_ls, Fs.ty_ll, Fs.ty_lb, Fs.ty_ln, Fs.ty_ld, Fs.tru_bl, Fs.eq_ii, Fs.ne_ii, Fs.eq_hh, Fs.ne_hh, fLenA, fLen, asBools, lim, fTuple, fList, Fs.q_cut_cut, Fs.q_cut_read, Fs.q_cut_pair, Fs.q_cut_at, Fs.q_cut_above, Fs.q_read_cut, Fs.q_read_read, Fs.q_read_pair, Fs.q_read_at, Fs.q_read_above, Fs.q_pair_cut, Fs.q_pair_read, Fs.q_pair_pair, Fs.q_pair_at, Fs.q_pair_above, Fs.q_at_cut, Fs.q_at_read, Fs.q_at_pair, Fs.q_at_at, Fs.q_at_above, Fs.q_above_cut, Fs.q_above_read, Fs.q_above_pair, Fs.q_above_at, Fs.q_above_above, Fs.Is, fSub, fAdd, fLt, fGt, fLe, fGe, fSl, Fn.cutD, HT.sIx, sMut, sMut0, isLst, fApp, mutAt, vNeg, eLstRg, Fs.IsO, Fs.mul_i, Fs.div_i, Fs.wh_cons, Fs.rg2, Fs.rg3, Fs.rg4, Fs.rg5, Fs.rg6, Fs.rg7, Fs.rg8, Fs.tru_l, Fs.tru_t, Fs.tru_i, h1, h3, n1, n2, n3]
theorem word_1 : Is F_word_at [near m, sh 2 (2 * m + 1)] (.int 1) := by
  have h1 : Is F_is_less [sh 1 (m + 1), sh 2 (2 * m + 1)] (.bl true) := by
    have h := less_is (a := 1) (b := m + 1) (c := 2) (d := (2 * m + 1)) sm1 (smm1 h2 hm) sm2 (sm2m h2 hm)
    rwa [decide_eq_true (by omega)] at h
  have h3 : Is F_is_less [sh 1 m, sh 2 (2 * m + 1)] (.bl false) := by
    have h := less_is (a := 1) (b := m) (c := 2) (d := (2 * m + 1)) sm1 (smm h2 hm) sm2 (sm2m h2 hm)
    rwa [decide_eq_false (by omega)] at h
  have n1 : ¬ m = 1 := by omega
  have n2 : ¬ m + 1 = 1 := by omega
  have n3 : ¬ m = 2 * m + 1 := by omega
  simp only [Is, List.map_cons, List.map_nil] at h1 h3
  unfold F_word_at FR_word_at den_word_at
  simp [defF, outs, callF, argOs, argO, lent, back, backOk, O.own, O.sh, O.d, M.bind, M.ret, M.map, M.lift, M.chk, M.fr, M.then_, M.stuck, Rf.get, getS, getL, rVar, eVar, eC, eBin, eBinD, eFun, eFunO, eTru, eT, eIf, mAnd, mOr, mNot, mYes, vAnd, vOr, vNot, lCons, lNil, aCons, aNil, eTup, eLst, eCall, sSeq, sIf, sSet, sPass, sRet, sDrop, sNo, kd, eComp, Fs.comp_nil, Fs.comp_cons, wipeE, restE, iAll, iEnu, Fn.numbered, seqE, Tg.set, Tg.sl, setAll, free, sFor, Fs.for_nil, Fs.for_cons, eIsi, fIs, Fn.isNon, eTxt, fTxt, eIndex, eSlice, pInt, pNone, iRange1, iRange2, rangeD, fIx, atI, ixN, fLenB, fAll, eCh, sAug, sAsg, sAsgL, sPar, parGo, Fn.iRev, D.kn, Fs.ty_tt, Fs.ty_ti, Fs.ty_ts, Fs.ty_tl, Fs.ty_tb, Fs.ty_tn, Fs.ty_td, Fs.ty_it, Fs.ty_ii, Fs.ty_is, Fs.ty_il, Fs.ty_ib, Fs.ty_in, Fs.ty_id, Fs.ty_bt, Fs.ty_bi, Fs.ty_bs, Fs.ty_bl, Fs.ty_bb, Fs.ty_bn, Fs.ty_bd, Fs.ty_st, Fs.ty_si, Fs.ty_ss, Fs.ty_sl, Fs.ty_sb, Fs.ty_sn, Fs.ty_sd, Fs.ty_lt, Fs.ty_li, Fs.ty_ls, Fs.ty_ll, Fs.ty_lb, Fs.ty_ln, Fs.ty_ld, Fs.tru_bl, Fs.eq_ii, Fs.ne_ii, Fs.eq_hh, Fs.ne_hh, fLenA, fLen, asBools, lim, fTuple, fList, Fs.q_cut_cut, Fs.q_cut_read, Fs.q_cut_pair, Fs.q_cut_at, Fs.q_cut_above, Fs.q_read_cut, Fs.q_read_read, Fs.q_read_pair, Fs.q_read_at, Fs.q_read_above, Fs.q_pair_cut, Fs.q_pair_read, Fs.q_pair_pair, Fs.q_pair_at, Fs.q_pair_above, Fs.q_at_cut, Fs.q_at_read, Fs.q_at_pair, Fs.q_at_at, Fs.q_at_above, Fs.q_above_cut, Fs.q_above_read, Fs.q_above_pair, Fs.q_above_at, Fs.q_above_above, Fs.Is, fSub, fAdd, fLt, fGt, fLe, fGe, fSl, Fn.cutD, HT.sIx, sMut, sMut0, isLst, fApp, mutAt, vNeg, eLstRg, Fs.IsO, Fs.mul_i, Fs.div_i, Fs.wh_cons, Fs.rg2, Fs.rg3, Fs.rg4, Fs.rg5, Fs.rg6, Fs.rg7, Fs.rg8, Fs.tru_l, Fs.tru_t, Fs.tru_i, h1, h3, n1, n2, n3]
theorem word_2 : Is F_word_at [near m, sh 1 1] (.int 0) := by
  have h1 : Is F_is_less [sh 1 (m + 1), sh 1 1] (.bl true) := by
    have h := less_is (a := 1) (b := m + 1) (c := 1) (d := 1) sm1 (smm1 h2 hm) sm1 sm1
    rwa [decide_eq_true (by omega)] at h
  have h3 : Is F_is_less [sh 1 m, sh 1 1] (.bl true) := by
    have h := less_is (a := 1) (b := m) (c := 1) (d := 1) sm1 (smm h2 hm) sm1 sm1
    rwa [decide_eq_true (by omega)] at h
  have n1 : ¬ m = 1 := by omega
  have n2 : ¬ m + 1 = 1 := by omega
  have n3 : ¬ m = 2 * m + 1 := by omega
  simp only [Is, List.map_cons, List.map_nil] at h1 h3
  unfold F_word_at FR_word_at den_word_at
  simp [defF, outs, callF, argOs, argO, lent, back, backOk, O.own, O.sh, O.d, M.bind, M.ret, M.map, M.lift, M.chk, M.fr, M.then_, M.stuck, Rf.get, getS, getL, rVar, eVar, eC, eBin, eBinD, eFun, eFunO, eTru, eT, eIf, mAnd, mOr, mNot, mYes, vAnd, vOr, vNot, lCons, lNil, aCons, aNil, eTup, eLst, eCall, sSeq, sIf, sSet, sPass, sRet, sDrop, sNo, kd, eComp, Fs.comp_nil, Fs.comp_cons, wipeE, restE, iAll, iEnu, Fn.numbered, seqE, Tg.set, Tg.sl, setAll, free, sFor, Fs.for_nil, Fs.for_cons, eIsi, fIs, Fn.isNon, eTxt, fTxt, eIndex, eSlice, pInt, pNone, iRange1, iRange2, rangeD, fIx, atI, ixN, fLenB, fAll, eCh, sAug, sAsg, sAsgL, sPar, parGo, Fn.iRev, D.kn, Fs.ty_tt, Fs.ty_ti, Fs.ty_ts, Fs.ty_tl, Fs.ty_tb, Fs.ty_tn, Fs.ty_td, Fs.ty_it, Fs.ty_ii, Fs.ty_is, Fs.ty_il, Fs.ty_ib, Fs.ty_in, Fs.ty_id, Fs.ty_bt, Fs.ty_bi, Fs.ty_bs, Fs.ty_bl, Fs.ty_bb, Fs.ty_bn, Fs.ty_bd, Fs.ty_st, Fs.ty_si, Fs.ty_ss, Fs.ty_sl, Fs.ty_sb, Fs.ty_sn, Fs.ty_sd, Fs.ty_lt, Fs.ty_li, Fs.ty_ls, Fs.ty_ll, Fs.ty_lb, Fs.ty_ln, Fs.ty_ld, Fs.tru_bl, Fs.eq_ii, Fs.ne_ii, Fs.eq_hh, Fs.ne_hh, fLenA, fLen, asBools, lim, fTuple, fList, Fs.q_cut_cut, Fs.q_cut_read, Fs.q_cut_pair, Fs.q_cut_at, Fs.q_cut_above, Fs.q_read_cut, Fs.q_read_read, Fs.q_read_pair, Fs.q_read_at, Fs.q_read_above, Fs.q_pair_cut, Fs.q_pair_read, Fs.q_pair_pair, Fs.q_pair_at, Fs.q_pair_above, Fs.q_at_cut, Fs.q_at_read, Fs.q_at_pair, Fs.q_at_at, Fs.q_at_above, Fs.q_above_cut, Fs.q_above_read, Fs.q_above_pair, Fs.q_above_at, Fs.q_above_above, Fs.Is, fSub, fAdd, fLt, fGt, fLe, fGe, fSl, Fn.cutD, HT.sIx, sMut, sMut0, isLst, fApp, mutAt, vNeg, eLstRg, Fs.IsO, Fs.mul_i, Fs.div_i, Fs.wh_cons, Fs.rg2, Fs.rg3, Fs.rg4, Fs.rg5, Fs.rg6, Fs.rg7, Fs.rg8, Fs.tru_l, Fs.tru_t, Fs.tru_i, h1, h3, n1, n2, n3]
theorem g2 : Nat.gcd (2 : Int).natAbs (2 * m + 1).natAbs = 1 := by
  have e : (2 * m + 1).natAbs = 1 + 2 * m.natAbs := by omega
  rw [e]
  show Nat.gcd 2 (1 + 2 * m.natAbs) = 1
  rw [Nat.gcd_add_mul_left_right]
  decide
theorem three_is : Is F_are_three_ascending [.tup [sh 0 1, sh 2 (2 * m + 1), sh 1 1]] (.bl true) := by
  have e1 : Is F_is_share [sh 0 1] (.bl true) := share_is (by omega) (by omega) (by decide)
  have e2 : Is F_is_share [sh 2 (2 * m + 1)] (.bl true) := share_is (by omega) (by omega) (g2 h2 hm)
  have e3 : Is F_is_share [sh 1 1] (.bl true) := share_is (by omega) (by omega) (by decide)
  have e4 : Is F_is_less [sh 0 1, sh 2 (2 * m + 1)] (.bl true) := by
    have h := less_is (a := 0) (b := 1) (c := 2) (d := 2 * m + 1) sm0 sm1 sm2 (sm2m h2 hm)
    rwa [decide_eq_true (by omega)] at h
  have e5 : Is F_is_less [sh 2 (2 * m + 1), sh 1 1] (.bl true) := by
    have h := less_is (a := 2) (b := 2 * m + 1) (c := 1) (d := 1) sm2 (sm2m h2 hm) sm1 sm1
    rwa [decide_eq_true (by omega)] at h
  simp only [Is, List.map_cons, List.map_nil] at e1 e2 e3 e4 e5
  unfold F_are_three_ascending den_are_three_ascending
  simp [defF, outs, callF, argOs, argO, lent, back, backOk, O.own, O.sh, O.d, M.bind, M.ret, M.map, M.lift, M.chk, M.fr, M.then_, M.stuck, Rf.get, getS, getL, rVar, eVar, eC, eBin, eBinD, eFun, eFunO, eTru, eT, eIf, mAnd, mOr, mNot, mYes, vAnd, vOr, vNot, lCons, lNil, aCons, aNil, eTup, eLst, eCall, sSeq, sIf, sSet, sPass, sRet, sDrop, sNo, kd, eComp, Fs.comp_nil, Fs.comp_cons, wipeE, restE, iAll, iEnu, Fn.numbered, seqE, Tg.set, Tg.sl, setAll, free, sFor, Fs.for_nil, Fs.for_cons, eIsi, fIs, Fn.isNon, eTxt, fTxt, eIndex, eSlice, pInt, pNone, iRange1, iRange2, rangeD, fIx, atI, ixN, fLenB, fAll, eCh, sAug, sAsg, sAsgL, sPar, parGo, Fn.iRev, D.kn, Fs.ty_tt, Fs.ty_ti, Fs.ty_ts, Fs.ty_tl, Fs.ty_tb, Fs.ty_tn, Fs.ty_td, Fs.ty_it, Fs.ty_ii, Fs.ty_is, Fs.ty_il, Fs.ty_ib, Fs.ty_in, Fs.ty_id, Fs.ty_bt, Fs.ty_bi, Fs.ty_bs, Fs.ty_bl, Fs.ty_bb, Fs.ty_bn, Fs.ty_bd, Fs.ty_st, Fs.ty_si, Fs.ty_ss, Fs.ty_sl, Fs.ty_sb, Fs.ty_sn, Fs.ty_sd, Fs.ty_lt, Fs.ty_li, Fs.ty_ls, Fs.ty_ll, Fs.ty_lb, Fs.ty_ln, Fs.ty_ld, Fs.tru_bl, Fs.eq_ii, Fs.ne_ii, Fs.eq_hh, Fs.ne_hh, fLenA, fLen, asBools, lim, fTuple, fList, Fs.q_cut_cut, Fs.q_cut_read, Fs.q_cut_pair, Fs.q_cut_at, Fs.q_cut_above, Fs.q_read_cut, Fs.q_read_read, Fs.q_read_pair, Fs.q_read_at, Fs.q_read_above, Fs.q_pair_cut, Fs.q_pair_read, Fs.q_pair_pair, Fs.q_pair_at, Fs.q_pair_above, Fs.q_at_cut, Fs.q_at_read, Fs.q_at_pair, Fs.q_at_at, Fs.q_at_above, Fs.q_above_cut, Fs.q_above_read, Fs.q_above_pair, Fs.q_above_at, Fs.q_above_above, Fs.Is, fSub, fAdd, fLt, fGt, fLe, fGe, fSl, Fn.cutD, HT.sIx, sMut, sMut0, isLst, fApp, mutAt, vNeg, eLstRg, Fs.IsO, Fs.mul_i, Fs.div_i, Fs.wh_cons, Fs.rg2, Fs.rg3, Fs.rg4, Fs.rg5, Fs.rg6, Fs.rg7, Fs.rg8, Fs.tru_l, Fs.tru_t, Fs.tru_i, e1, e2, e3, e4, e5]
theorem isbreak : Is F_is_break [near m, .tup [sh 0 1, sh 2 (2 * m + 1), sh 1 1]] (.bl true) := by
  have e1 := need_is (form_near h2 hm)
  have e2 := three_is h2 hm
  have e3 := word_0 h2 hm
  have e4 := word_1 h2 hm
  have e5 := word_2 h2 hm
  simp only [Is, List.map_cons, List.map_nil] at e1 e2 e3 e4 e5
  unfold F_is_break den_is_break
  simp [defF, outs, callF, argOs, argO, lent, back, backOk, O.own, O.sh, O.d, M.bind, M.ret, M.map, M.lift, M.chk, M.fr, M.then_, M.stuck, Rf.get, getS, getL, rVar, eVar, eC, eBin, eBinD, eFun, eFunO, eTru, eT, eIf, mAnd, mOr, mNot, mYes, vAnd, vOr, vNot, lCons, lNil, aCons, aNil, eTup, eLst, eCall, sSeq, sIf, sSet, sPass, sRet, sDrop, sNo, kd, eComp, Fs.comp_nil, Fs.comp_cons, wipeE, restE, iAll, iEnu, Fn.numbered, seqE, Tg.set, Tg.sl, setAll, free, sFor, Fs.for_nil, Fs.for_cons, eIsi, fIs, Fn.isNon, eTxt, fTxt, eIndex, eSlice, pInt, pNone, iRange1, iRange2, rangeD, fIx, atI, ixN, fLenB, fAll, eCh, sAug, sAsg, sAsgL, sPar, parGo, Fn.iRev, D.kn, Fs.ty_tt, Fs.ty_ti, Fs.ty_ts, Fs.ty_tl, Fs.ty_tb, Fs.ty_tn, Fs.ty_td, Fs.ty_it, Fs.ty_ii, Fs.ty_is, Fs.ty_il, Fs.ty_ib, Fs.ty_in, Fs.ty_id, Fs.ty_bt, Fs.ty_bi, Fs.ty_bs, Fs.ty_bl, Fs.ty_bb, Fs.ty_bn, Fs.ty_bd, Fs.ty_st, Fs.ty_si, Fs.ty_ss, Fs.ty_sl, Fs.ty_sb, Fs.ty_sn, Fs.ty_sd, Fs.ty_lt, Fs.ty_li, Fs.ty_ls, Fs.ty_ll, Fs.ty_lb, Fs.ty_ln, Fs.ty_ld, Fs.tru_bl, Fs.eq_ii, Fs.ne_ii, Fs.eq_hh, Fs.ne_hh, fLenA, fLen, asBools, lim, fTuple, fList, Fs.q_cut_cut, Fs.q_cut_read, Fs.q_cut_pair, Fs.q_cut_at, Fs.q_cut_above, Fs.q_read_cut, Fs.q_read_read, Fs.q_read_pair, Fs.q_read_at, Fs.q_read_above, Fs.q_pair_cut, Fs.q_pair_read, Fs.q_pair_pair, Fs.q_pair_at, Fs.q_pair_above, Fs.q_at_cut, Fs.q_at_read, Fs.q_at_pair, Fs.q_at_at, Fs.q_at_above, Fs.q_above_cut, Fs.q_above_read, Fs.q_above_pair, Fs.q_above_at, Fs.q_above_above, Fs.Is, fSub, fAdd, fLt, fGt, fLe, fGe, fSl, Fn.cutD, HT.sIx, sMut, sMut0, isLst, fApp, mutAt, vNeg, eLstRg, Fs.IsO, Fs.mul_i, Fs.div_i, Fs.wh_cons, Fs.rg2, Fs.rg3, Fs.rg4, Fs.rg5, Fs.rg6, Fs.rg7, Fs.rg8, Fs.tru_l, Fs.tru_t, Fs.tru_i, e1, e2, e3, e4, e5]
end
end Law

set_option maxRecDepth 100000
set_option maxHeartbeats 4000000
namespace Law
open PySem PySem.Spec PyProof.Rows L2 Fn

abbrev tks : List Key := [.inr "digits", .inr "mixed"]
abbrev tp (dg mx : Int) : O := .dk tks [.int dg, .int mx]
theorem dg_get (a b : D) : dLook tks [a, b] (.inr "digits") = some a := by kernel_rfl
theorem mx_get (a b : D) : dLook tks [a, b] (.inr "mixed") = some b := by kernel_rfl
theorem dg_put (a b c : D) : dPut tks [a, b] (.inr "digits") c = [c, b] := by kernel_rfl
theorem mx_put (a b c : D) : dPut tks [a, b] (.inr "mixed") c = [a, c] := by kernel_rfl
theorem dg_has : hasK tks (.inr "digits") = true := by kernel_rfl
theorem mx_has : hasK tks (.inr "mixed") = true := by kernel_rfl
theorem tks_nd : tks.Nodup := by decide +kernel
theorem dne : ¬ Str.ofString "digits" = Str.ofString "mixed" := by decide +kernel

section
variable {dg mx many : Int} {ρ : En}
/-- tape['digits'], tape['mixed'] -/
theorem e_dg (h : ρ[0]? = some (some (tp dg mx))) : eBinD fDGet (rVar 0) (M.map Rf.d (eC (.str "digits"))) ρ = some (.ok (.int dg), ρ) := by
  simp [eBinD, M.bind, M.map, M.ret, M.lift, rVar, eC, h, Rf.get, getS, O.d, fDGet, asKey, dg_get]
theorem e_mx (h : ρ[0]? = some (some (tp dg mx))) : eBinD fDGet (rVar 0) (M.map Rf.d (eC (.str "mixed"))) ρ = some (.ok (.int mx), ρ) := by
  simp [eBinD, M.bind, M.map, M.ret, M.lift, rVar, eC, h, Rf.get, getS, O.d, fDGet, asKey, mx_get]
/-- operands that are data -/
theorem e_bin {f : D → D → Option D} {a b : M D} {x y z : D} {ρ1 ρ2 : En} (ha : a ρ = some (.ok x, ρ1)) (hb : b ρ1 = some (.ok y, ρ2)) (hf : f x y = some z) : eBinD f (M.map Rf.d a) (M.map Rf.d b) ρ = some (.ok z, ρ2) := by
  unfold eBinD
  rw [bind_at (map_at ha), bind_at (map_at hb)]
  simp [M.bind, M.ret, Rf.get, M.lift, hf]
theorem e_binO {f : D → D → Option O} {a b : M D} {x y : D} {z : O} {ρ1 ρ2 : En} (ha : a ρ = some (.ok x, ρ1)) (hb : b ρ1 = some (.ok y, ρ2)) (hf : f x y = some z) : eBin f (M.map Rf.d a) (M.map Rf.d b) ρ = some (.ok z, ρ2) := by
  unfold eBin
  rw [bind_at (map_at ha), bind_at (map_at hb)]
  simp [M.bind, M.ret, Rf.get, M.lift, hf]
/-- the second a variable -/
theorem e_binV {f : D → D → Option D} {a : M D} {i : Nat} {x z : D} {o : O} {ρ1 : En} (ha : a ρ = some (.ok x, ρ1)) (hv : ρ1[i]? = some (some o)) (hf : f x o.d = some z) : eBinD f (M.map Rf.d a) (rVar i) ρ = some (.ok z, ρ1) := by
  unfold eBinD
  rw [bind_at (map_at ha)]
  simp [M.bind, M.ret, Rf.get, M.lift, hf, rVar, hv, getS]
theorem e_vbin {f : D → D → Option D} {b : M D} {i : Nat} {y z : D} {o : O} (hv : ρ[i]? = some (some o)) (hb : b ρ = some (.ok y, ρ)) (hf : f o.d y = some z) : eBinD f (rVar i) (M.map Rf.d b) ρ = some (.ok z, ρ) := by
  unfold eBinD
  rw [bind_at (show rVar i ρ = some (.ok (.s i), ρ) from by simp [rVar, hv]), bind_at (map_at hb)]
  simp [M.bind, M.ret, Rf.get, M.lift, hf, rVar, hv, getS, map_at hb]
theorem e_c (d : D) : eC d ρ = some (.ok d, ρ) := rfl
theorem e_fr {m : M O} {o : O} {ρ1 : En} (h : m ρ = some (.ok o, ρ1)) : m.fr ρ = some (.ok o.d, ρ1) := by
  unfold M.fr
  rw [bind_at h]
  rfl
theorem e_int {a : M D} {i : Int} {ρ1 : En} (h : a ρ = some (.ok (.int i), ρ1)) : eFun fInt (aCons (M.map Rf.d a) aNil) ρ = some (.ok (.int i), ρ1) := by
  simp [eFun, aCons, aNil, M.bind, map_at h, M.ret, getL, Rf.get, M.lift, fInt]
theorem e_var {i : Nat} {d : D} (h : ρ[i]? = some (some (.dat d))) : eVar i ρ = some (.ok d, ρ) := by
  simp [eVar, h, O.own, O.d]
theorem m_mod {i j : Int} (h : 0 < j) : fMod (.int i) (.int j) = some (.int (i % j)) := if_pos h
theorem m_div {i j : Int} (h : 0 < j) (hb : bits j ≤ 9000) : fDiv (.int i) (.int j) = some (.int (i / j)) := if_pos ⟨h, hb⟩
theorem m_pow {i : Int} {n : Nat} (hb : bits i * n ≤ 100000000) : fPow (.int i) (.int (n : Int)) = some (.int (i ^ n)) := by
  have e : ((bits i : Int) * (n : Int)) = ((bits i * n : Nat) : Int) := (Int.natCast_mul _ _).symm
  have h : 0 ≤ (n : Int) ∧ (bits i : Int) * (n : Int) ≤ 100000000 := ⟨Int.natCast_nonneg n, by rw [e]; exact Int.ofNat_le.mpr hb⟩
  have z : fPow (.int i) (.int (n : Int)) = if 0 ≤ (n : Int) ∧ (bits i : Int) * (n : Int) ≤ 100000000 then some (.int (i ^ (n : Int).toNat)) else none := rfl
  rw [z, if_pos h, Int.toNat_natCast]
theorem m_mul {i j : Int} (hb : bits i + bits j ≤ 100000000) : fMul (.int i) (.int j) = some (.dat (.int (i * j))) := if_pos hb
/-- tape[..] = v -/
theorem s_dg {m : M D} {v : Int} (h : m ρ = some (.ok (.int v), ρ)) (h0 : ρ[0]? = some (some (tp dg mx))) : sDPutS (rVar 0) (M.map Rf.d (eC (.str "digits"))) m ρ = some (.nx, ρ.set 0 (some (tp v mx))) := by
  unfold sDPutS
  rw [then_at h]
  rw [then_at (show rVar 0 ρ = some (.ok (.s 0), ρ) from by simp [rVar, h0])]
  rw [then_at (show M.map Rf.d (eC (.str "digits")) ρ = some (.ok (.d (.str "digits")), ρ) from rfl)]
  rw [then_at (show (Rf.d (.str "digits")).get ρ = some (.ok (.str "digits"), ρ) from rfl)]
  simp [dputAt, h0, asKey, dg_has, dne, dg_put, lim]
theorem s_mx {m : M D} {v : Int} (h : m ρ = some (.ok (.int v), ρ)) (h0 : ρ[0]? = some (some (tp dg mx))) : sDPutS (rVar 0) (M.map Rf.d (eC (.str "mixed"))) m ρ = some (.nx, ρ.set 0 (some (tp dg v))) := by
  unfold sDPutS
  rw [then_at h]
  rw [then_at (show rVar 0 ρ = some (.ok (.s 0), ρ) from by simp [rVar, h0])]
  rw [then_at (show M.map Rf.d (eC (.str "mixed")) ρ = some (.ok (.d (.str "mixed")), ρ) from rfl)]
  rw [then_at (show (Rf.d (.str "mixed")).get ρ = some (.ok (.str "mixed"), ρ) from rfl)]
  simp [dputAt, h0, asKey, mx_has, dne, mx_put, lim]
end
end Law

set_option maxRecDepth 100000
set_option maxHeartbeats 4000000
namespace Law
open PySem PySem.Spec PyProof.Rows L2 Fn

theorem e_frD {m : M O} {d : D} {ρ ρ1 : En} (h : m ρ = some (.ok (.dat d), ρ1)) : m.fr ρ = some (.ok d, ρ1) := e_fr h
theorem m_add (i j : Int) : fAdd (.int i) (.int j) = some (.dat (.int (i + j))) := rfl
theorem m_pow2 {i : Int} (hb : bits i ≤ 3000000) : fPow (.int i) (.int 2) = some (.int (i ^ 2)) := m_pow (n := 2) (by omega)
theorem m_pow3 {i : Int} (hb : bits i ≤ 3000000) : fPow (.int i) (.int 3) = some (.int (i ^ 3)) := m_pow (n := 3) (by omega)
theorem b_mx {x : Int} (h0 : 0 ≤ x) (h1 : x < 2147483565) : bits x ≤ 32 := bits_small h0 (Int.lt_trans h1 (by decide)) (by decide)
theorem b_c1 : bits 40014 ≤ 16 := by decide +kernel
theorem b_c2 : bits 13 ≤ 9000 := by decide +kernel

/-- _law_pick -/
theorem pick_is {dg mx many : Int} (h1 : 0 ≤ dg) (h2 : 0 ≤ mx) (h3 : mx < 2147483565) (h4 : 0 < many) (h5 : bits many ≤ 9000) :
    ∃ r dg' mx', 0 ≤ r ∧ r < many ∧ 0 ≤ dg' ∧ 0 ≤ mx' ∧ mx' < 2147483565 ∧ F_law_pick [tp dg mx, .dat (.int many)] = some (.ok (.dat (.int r)), [tp dg' mx', .dat (.int many)]) := by
  by_cases q : many ≤ dg
  · refine ⟨dg % many, dg / many, mx, Int.emod_nonneg _ (by omega), Int.emod_lt_of_pos _ h4, Int.ediv_nonneg h1 (by omega), h2, h3, ?_⟩
    have d : den_law_pick [some (tp dg mx), some (.dat (.int many)), none, none] = some (.rt (.dat (.int (dg % many))), [some (tp (dg / many) mx), some (.dat (.int many)), some (.dat (.int (dg % many))), none]) := by
      unfold den_law_pick
      refine seq_rt ?_
      rw [if_at (b := true) (ρ1 := [some (tp dg mx), some (.dat (.int many)), none, none]) ?t]
      case t =>
        unfold eT
        rw [bind_at (e_binV (e_dg rfl) rfl (z := .bl true) (by show fGe (.int dg) (.int many) = _; simp [fGe, q]))]
        rfl
      rw [if_pos rfl]
      rw [seq_at (set_at (map_at (e_binV (e_int (e_dg rfl)) rfl (m_mod h4))) (by simp) (fun z => absurd z.1 (by decide)))]
      rw [seq_at (s_dg (e_binV (e_dg rfl) rfl (m_div h4 h5)) rfl)]
      exact ret_at (map_at (e_var rfl))
    show defF 4 den_law_pick _ = _
    unfold defF
    rw [show ([tp dg mx, O.dat (.int many)].map some ++ List.replicate (4 - [tp dg mx, O.dat (.int many)].length) none : En) = [some (tp dg mx), some (.dat (.int many)), none, none] from rfl, d]
    rfl
  · obtain ⟨m1, e1⟩ : ∃ m1, m1 = (mx * 40014 + 1031) % 2147483563 := ⟨_, rfl⟩
    obtain ⟨o1, e2⟩ : ∃ o1, o1 = (m1 ^ 2) % 2147483399 := ⟨_, rfl⟩
    have g1 : 0 ≤ m1 := by rw [e1]; exact Int.emod_nonneg _ (by decide)
    have g2 : m1 < 2147483563 := by rw [e1]; exact Int.emod_lt_of_pos _ (by decide)
    have g3 : 0 ≤ o1 := by rw [e2]; exact Int.emod_nonneg _ (by decide)
    have g4 : o1 < 2147483399 := by rw [e2]; exact Int.emod_lt_of_pos _ (by decide)
    have bm := b_mx h2 h3
    have b1 := b_mx g1 (by omega)
    have b2 := b_mx g3 (by omega)
    have bc := b_c1
    refine ⟨((o1 ^ 3) % 998244353 / 13) % many, dg, m1, Int.emod_nonneg _ (by omega), Int.emod_lt_of_pos _ h4, h1, g1, by omega, ?_⟩
    have d : den_law_pick [some (tp dg mx), some (.dat (.int many)), none, none] = some (.rt (.dat (.int (((o1 ^ 3) % 998244353 / 13) % many))), [some (tp dg m1), some (.dat (.int many)), none, some (.dat (.int o1))]) := by
      unfold den_law_pick
      rw [seq_at (ρ1 := [some (tp dg mx), some (.dat (.int many)), none, none]) ?t]
      case t =>
        rw [if_at (b := false) (ρ1 := [some (tp dg mx), some (.dat (.int many)), none, none]) ?u]
        · rfl
        case u =>
          unfold eT
          rw [bind_at (e_binV (e_dg rfl) rfl (z := .bl false) (by show fGe (.int dg) (.int many) = _; simp [fGe, q]))]
          rfl
      rw [seq_at (s_mx (v := m1) (e_bin (e_int (e_frD (e_binO (e_frD (e_binO (e_mx rfl) (e_c _) (m_mul (i := mx) (j := 40014) (by omega)))) (e_c _) (m_add _ _)))) (e_c _) (by rw [e1]; exact m_mod (by decide))) rfl)]
      rw [seq_at (set_at (map_at (e_bin (z := .int o1) (e_int (e_bin (e_mx rfl) (e_c _) (m_pow2 (i := m1) (by omega)))) (e_c _) (by rw [e2]; exact m_mod (by decide)))) (by simp) (fun z => absurd z.1 (by decide)))]
      refine ret_at (map_at (e_binV (e_int (e_bin (e_bin (e_int (e_vbin (o := .dat (.int o1)) rfl (e_c _) (m_pow3 (i := o1) (by omega)))) (e_c _) (m_mod (by decide))) (e_c _) (m_div (by decide) b_c2))) rfl (m_mod h4)))
    show defF 4 den_law_pick _ = _
    unfold defF
    rw [show ([tp dg mx, O.dat (.int many)].map some ++ List.replicate (4 - [tp dg mx, O.dat (.int many)].length) none : En) = [some (tp dg mx), some (.dat (.int many)), none, none] from rfl, d]
    rfl
end Law

set_option maxRecDepth 100000
set_option maxHeartbeats 4000000
namespace Law
open PySem PySem.Spec PyProof.Rows L2 Fn

section
variable {ρ : En}
theorem e_vbinO {f : D → D → Option O} {b : M D} {i : Nat} {y : D} {z o : O} (hv : ρ[i]? = some (some o)) (hb : b ρ = some (.ok y, ρ)) (hf : f o.d y = some z) : eBin f (rVar i) (M.map Rf.d b) ρ = some (.ok z, ρ) := by
  unfold eBin
  rw [bind_at (show rVar i ρ = some (.ok (.s i), ρ) from by simp [rVar, hv]), bind_at (map_at hb)]
  simp [M.bind, M.ret, Rf.get, M.lift, hf, rVar, hv, getS]
theorem e_vvO {f : D → D → Option O} {i j : Nat} {z o p : O} (hv : ρ[i]? = some (some o)) (hw : ρ[j]? = some (some p)) (hf : f o.d p.d = some z) : eBin f (rVar i) (rVar j) ρ = some (.ok z, ρ) := by
  unfold eBin
  rw [bind_at (show rVar i ρ = some (.ok (.s i), ρ) from by simp [rVar, hv]), bind_at (show rVar j ρ = some (.ok (.s j), ρ) from by simp [rVar, hw])]
  simp [M.bind, M.ret, Rf.get, M.lift, hf, hv, hw, getS]
theorem e_vv {f : D → D → Option D} {i j : Nat} {z : D} {o p : O} (hv : ρ[i]? = some (some o)) (hw : ρ[j]? = some (some p)) (hf : f o.d p.d = some z) : eBinD f (rVar i) (rVar j) ρ = some (.ok z, ρ) := by
  unfold eBinD
  rw [bind_at (show rVar i ρ = some (.ok (.s i), ρ) from by simp [rVar, hv]), bind_at (show rVar j ρ = some (.ok (.s j), ρ) from by simp [rVar, hw])]
  simp [M.bind, M.ret, Rf.get, M.lift, hf, hv, hw, getS]
theorem e_fun1v {f : List D → Option D} {i : Nat} {o : O} {z : D} (hv : ρ[i]? = some (some o)) (hf : f [o.d] = some z) : eFun f (aCons (rVar i) aNil) ρ = some (.ok z, ρ) := by
  unfold eFun aCons
  simp [M.bind, rVar, hv, aNil, M.ret, getL, Rf.get, getS, M.lift, hf]
theorem e_t {m : M D} {b : Bool} {ρ1 : En} (h : m ρ = some (.ok (.bl b), ρ1)) : eT m ρ = some (.ok b, ρ1) := by
  unfold eT
  rw [bind_at h]
  rfl
theorem e_if {α : Type} {t : M Bool} {x y : M α} {b : Bool} {ρ1 : En} (h : t ρ = some (.ok b, ρ1)) : eIf t x y ρ = if b = true then x ρ1 else y ρ1 := by
  unfold eIf
  rw [bind_at h]
  cases b <;> rfl
theorem e_and0 {a b : M Bool} {ρ1 : En} (h : a ρ = some (.ok false, ρ1)) : mAnd a b ρ = some (.ok false, ρ1) := by
  unfold mAnd
  rw [bind_at h]
  rfl
theorem e_and1 {a b : M Bool} {ρ1 : En} (h : a ρ = some (.ok true, ρ1)) : mAnd a b ρ = b ρ1 := by
  unfold mAnd
  rw [bind_at h]
  rfl
theorem e_tape {a b : M D} {x y : D} (ha : a ρ = some (.ok x, ρ)) (hb : b ρ = some (.ok y, ρ)) : eDict [((eC (.str "digits")), a), ((eC (.str "mixed")), b)] ρ = some (.ok (.dk tks [x, y]), ρ) := by
  unfold eDict
  have p : pairsM [((eC (.str "digits")), a), ((eC (.str "mixed")), b)] ρ = some (.ok [(.inr "digits", x), (.inr "mixed", y)], ρ) := by
    simp [pairsM, M.bind, eC, M.ret, M.lift, asKey, ha, hb]
  rw [bind_at p]
  have q : decide ((([(.inr "digits", x), (.inr "mixed", y)] : List (Key × D)).map (·.1)).Nodup ∧ ([(.inr "digits", x), (.inr "mixed", y)] : List (Key × D)).length ≤ 15) = true := decide_eq_true ⟨tks_nd, by simp⟩
  rw [q]
  rfl
end
theorem b_53 : bits 53 ≤ 16 := by decide +kernel
theorem b_30029 : bits 30029 ≤ 16 := by decide +kernel
theorem b_10 : bits 10 * 18 ≤ 100000000 := by decide +kernel
/-- what is squared -/
theorem b_step {m c : Int} {k : Nat} (h0 : 0 ≤ m) (h1 : m < 2147483565) (hc : bits c ≤ k) (hk : 23 < k) : bits (m * 30029 + c * c + 13) ≤ 2 * k + 1 := by
  have cn := of_bits hc
  refine bits_le ?_ (by omega)
  have e1 : (m * 30029 + c * c + 13).natAbs ≤ (m * 30029).natAbs + (c * c).natAbs + 13 := by
    have a := Int.natAbs_add_le (m * 30029 + c * c) 13
    have b := Int.natAbs_add_le (m * 30029) (c * c)
    have d : (13 : Int).natAbs = 13 := rfl
    omega
  have e2 : (m * 30029).natAbs < 2 ^ 47 := by
    have : (m * 30029).natAbs = m.natAbs * 30029 := Int.natAbs_mul m 30029
    have : (m.natAbs : Int) = m := Int.natAbs_of_nonneg h0
    have p : (2 : Nat) ^ 47 = 140737488355328 := by decide
    omega
  have e3 : (c * c).natAbs + 1 ≤ 2 ^ (2 * k) - 1 + 1 := by
    have a : (c * c).natAbs = c.natAbs * c.natAbs := Int.natAbs_mul c c
    have b : c.natAbs * c.natAbs < 2 ^ k * 2 ^ k := Nat.mul_self_lt_mul_self cn
    rw [← Nat.pow_add, ← Nat.two_mul] at b
    have : 0 < 2 ^ (2 * k) := Nat.two_pow_pos _
    omega
  have e4 : (2 : Nat) ^ 48 ≤ 2 ^ (2 * k) := Nat.pow_le_pow_right (by decide) (by omega)
  have p1 : (2 : Nat) ^ 47 = 140737488355328 := by decide
  have p2 : (2 : Nat) ^ 48 = 281474976710656 := by decide
  have e5 : (2 : Nat) ^ (2 * k + 1) = 2 * 2 ^ (2 * k) := by rw [Nat.pow_succ, Nat.mul_comm]
  rw [e5]
  omega
abbrev tbody : S := sSet 2 2 (eBin fAdd (M.map Rf.d (eBinD fMod (M.map Rf.d (eFun fInt (aCons (M.map Rf.d (eBinD fPow (M.map Rf.d (eBin fAdd (M.map Rf.d (eBin fAdd (M.map Rf.d (eBin fMul (rVar 2) (M.map Rf.d (eC (.int 30029)))).fr) (M.map Rf.d (eBin fMul (rVar 3) (rVar 3)).fr)).fr) (M.map Rf.d (eC (.int 13)))).fr) (M.map Rf.d (eC (.int 2))))) aNil))) (M.map Rf.d (eC (.int 2147483563))))) (M.map Rf.d (eC (.int 2))))
theorem tloop {x0 x1 x4 : Option O} : ∀ (ns : List Int) (m : Int) (x3 : Option O), (∀ z ∈ ns, bits z ≤ 1048576) → 0 ≤ m → m < 2147483565 →
    ∃ m' x3', 0 ≤ m' ∧ m' < 2147483565 ∧ forGo 2 (.n 3) tbody (ns.map .int) [x0, x1, some (.dat (.int m)), x3, x4] = some (.nx, [x0, x1, some (.dat (.int m')), x3', x4])
  | [], m, x3, _, h0, h1 => ⟨m, x3, h0, h1, rfl⟩
  | c :: ns, m, x3, hb, h0, h1 => by
    have bc := hb c List.mem_cons_self
    have bm := b_mx h0 h1
    have b3 := b_30029
    obtain ⟨m2, e2⟩ : ∃ m2, m2 = ((m * 30029 + c * c + 13) ^ 2) % 2147483563 + 2 := ⟨_, rfl⟩
    have g1 : 0 ≤ ((m * 30029 + c * c + 13) ^ 2) % 2147483563 := Int.emod_nonneg _ (by decide)
    have g2 : ((m * 30029 + c * c + 13) ^ 2) % 2147483563 < 2147483563 := Int.emod_lt_of_pos _ (by decide)
    obtain ⟨m', x3', q0, q1, q2⟩ := tloop (x0 := x0) (x1 := x1) (x4 := x4) ns m2 (some (.dat (.int c))) (fun z hz => hb z (List.mem_cons_of_mem _ hz)) (by omega) (by omega)
    refine ⟨m', x3', q0, q1, ?_⟩
    have bs := b_step h0 h1 bc (by decide)
    have st : tbody [x0, x1, some (.dat (.int m)), some (.dat (.int c)), x4] = some (.nx, [x0, x1, some (.dat (.int m2)), some (.dat (.int c)), x4]) := by
      unfold tbody
      rw [set_at (o := .dat (.int m2)) (e_binO (e_bin (e_int (e_bin (e_frD (e_binO (e_frD (e_binO (e_frD (e_vbinO (o := .dat (.int m)) rfl (e_c _) (m_mul (i := m) (j := 30029) (by omega)))) (e_frD (e_vvO (o := .dat (.int c)) (p := .dat (.int c)) rfl rfl (m_mul (i := c) (j := c) (by omega)))) (m_add _ _))) (e_c _) (m_add _ _))) (e_c _) (m_pow2 (i := m * 30029 + c * c + 13) (by omega)))) (e_c _) (m_mod (by decide))) (e_c _) (by rw [e2]; exact m_add _ _)) (by simp) (fun z => absurd z.1 (by decide))]
      rfl
    exact (forGo_cons (ρ1 := [x0, x1, some (.dat (.int m)), some (.dat (.int c)), x4]) rfl rfl st).trans q2
end Law

set_option maxRecDepth 100000
set_option maxHeartbeats 4000000
namespace Law
open PySem PySem.Spec PyProof.Rows L2 Fn

theorem atI_map {ns : List Int} {i : Int} (h0 : 0 ≤ i) (h1 : i < ns.length) : ∃ c, atI (ns.map D.int) i = some (.int c) := by
  have hl : i.toNat < ns.length := by omega
  refine ⟨ns[i.toNat], ?_⟩
  unfold atI ixN
  rw [if_pos h0, List.length_map, if_pos h1]
  simp [hl]
theorem atI_mem {α : Type} {xs : List α} {i : Int} (h0 : 0 ≤ i) (h1 : i < xs.length) : ∃ c, c ∈ xs ∧ atI xs i = some c := by
  have hl : i.toNat < xs.length := by omega
  refine ⟨xs[i.toNat], List.getElem_mem hl, ?_⟩
  unfold atI ixN
  rw [if_pos h0, if_pos h1]
  simp [hl]
abbrev sc (ns : List Int) : O := .dat (.ro (ns.map D.int))
/-- _law_tape -/
theorem tape_is {ns : List Int} {i : Int} (hb : ∀ z ∈ ns, bits z ≤ 1048576) (h0 : 0 ≤ i) (h1 : i < 3) :
    ∃ dg mx, 0 ≤ dg ∧ 0 ≤ mx ∧ mx < 2147483565 ∧ F_law_tape [sc ns, .dat (.int i)] = some (.ok (tp dg mx), [sc ns, .dat (.int i)]) := by
  have bi : bits i ≤ 2 := bits_small h0 (by omega) (by decide)
  have b5 := b_53
  obtain ⟨mx, x3, m0, m1, lp⟩ := tloop (x0 := some (sc ns)) (x1 := some (.dat (.int i))) (x4 := none) ns (101 + i * 53) none hb (by omega) (by omega)
  have key : ∃ dg, 0 ≤ dg ∧ eIf (mAnd (eT (eBinD fLt (rVar 1) (M.map Rf.d (eFun fLenB (aCons (rVar 0) aNil))))) (eT (eBinD fGe (M.map Rf.d (eBinD fIx (rVar 0) (rVar 1))) (M.map Rf.d (eBinD fPow (M.map Rf.d (eC (.int 10))) (M.map Rf.d (eC (.int 18)))))))) (eBinD fSub (M.map Rf.d (eBinD fIx (rVar 0) (rVar 1))) (M.map Rf.d (eBinD fPow (M.map Rf.d (eC (.int 10))) (M.map Rf.d (eC (.int 18)))))) (eC (.int 0))
      [some (sc ns), some (.dat (.int i)), some (.dat (.int mx)), x3, none] = some (.ok (.int dg), [some (sc ns), some (.dat (.int i)), some (.dat (.int mx)), x3, none]) := by
    generalize hρ : ([some (sc ns), some (.dat (.int i)), some (.dat (.int mx)), x3, none] : En) = ρ
    have g0 : ρ[0]? = some (some (sc ns)) := by rw [← hρ]; rfl
    have g1 : ρ[1]? = some (some (.dat (.int i))) := by rw [← hρ]; rfl
    have ln : eFun fLenB (aCons (rVar 0) aNil) ρ = some (.ok (.int ns.length), ρ) := e_fun1v g0 (by show some (D.int ((ns.map D.int).length : Int)) = _; rw [List.length_map])
    have t1 : eT (eBinD fLt (rVar 1) (M.map Rf.d (eFun fLenB (aCons (rVar 0) aNil)))) ρ = some (.ok (decide (i < ns.length)), ρ) := e_t (e_vbin g1 ln rfl)
    have pw : eBinD fPow (M.map Rf.d (eC (.int 10))) (M.map Rf.d (eC (.int 18))) ρ = some (.ok (.int (10 ^ 18)), ρ) := e_bin (e_c _) (e_c _) (m_pow (n := 18) b_10)
    by_cases q : i < ns.length
    · obtain ⟨c, hc⟩ := atI_map (ns := ns) h0 q
      have ix : eBinD fIx (rVar 0) (rVar 1) ρ = some (.ok (.int c), ρ) := e_vv g0 g1 hc
      have t2 : eT (eBinD fGe (M.map Rf.d (eBinD fIx (rVar 0) (rVar 1))) (M.map Rf.d (eBinD fPow (M.map Rf.d (eC (.int 10))) (M.map Rf.d (eC (.int 18)))))) ρ = some (.ok (decide ((10 : Int) ^ 18 ≤ c)), ρ) := e_t (e_bin ix pw rfl)
      rw [decide_eq_true q] at t1
      by_cases q2 : (10 : Int) ^ 18 ≤ c
      · rw [decide_eq_true q2] at t2
        refine ⟨c - 10 ^ 18, by omega, ?_⟩
        rw [e_if ((e_and1 t1).trans t2), if_pos rfl]
        exact e_bin ix pw rfl
      · rw [decide_eq_false q2] at t2
        refine ⟨0, Int.le_refl 0, ?_⟩
        rw [e_if ((e_and1 t1).trans t2), if_neg Bool.false_ne_true]
        rfl
    · rw [decide_eq_false q] at t1
      refine ⟨0, Int.le_refl 0, ?_⟩
      rw [e_if (e_and0 t1), if_neg Bool.false_ne_true]
      rfl
  obtain ⟨dg, d0, hk⟩ := key
  refine ⟨dg, mx, d0, m0, m1, ?_⟩
  have d : den_law_tape [some (sc ns), some (.dat (.int i)), none, none, none] = some (.rt (tp dg mx), [some (sc ns), some (.dat (.int i)), some (.dat (.int mx)), x3, some (.dat (.int dg))]) := by
    unfold den_law_tape
    rw [seq_at (set_at (o := .dat (.int (101 + i * 53))) (e_bin0 i bi b5) (by simp) (fun z => absurd z.1 (by decide)))]
    rw [seq_at (ρ1 := [some (sc ns), some (.dat (.int i)), some (.dat (.int mx)), x3, none]) ?t]
    case t =>
      unfold sFor
      rw [then_at (a := ns.map D.int) (ρ1 := [some (sc ns), some (.dat (.int i)), some (.dat (.int (101 + i * 53))), none, none]) ?u]
      · exact lp
      case u =>
        unfold iAll
        rw [bind_at (e_var (d := .ro (ns.map D.int)) rfl)]
        rfl
    rw [seq_at (set_at (map_at hk) (by simp) (fun z => absurd z.1 (by decide)))]
    exact ret_at (e_tape (e_var rfl) (e_var rfl))
  show defF 5 den_law_tape _ = _
  unfold defF
  rw [show ([sc ns, O.dat (.int i)].map some ++ List.replicate (5 - [sc ns, O.dat (.int i)].length) none : En) = [some (sc ns), some (.dat (.int i)), none, none, none] from rfl, d]
  rfl
where
  e_bin0 {ns : List Int} (i : Int) (bi : bits i ≤ 2) (b5 : bits 53 ≤ 16) : eBin fAdd (M.map Rf.d (eC (.int 101))) (M.map Rf.d (eBin fMul (rVar 1) (M.map Rf.d (eC (.int 53)))).fr) [some (sc ns), some (.dat (.int i)), none, none, none] = some (.ok (.dat (.int (101 + i * 53))), [some (sc ns), some (.dat (.int i)), none, none, none]) :=
    e_binO (e_c _) (e_frD (e_vbinO (o := .dat (.int i)) rfl (e_c _) (m_mul (i := i) (j := 53) (by omega)))) (m_add _ _)


end Law

set_option maxRecDepth 100000
set_option maxHeartbeats 4000000
namespace Law
open PySem PySem.Spec PyProof.Rows L2 Fn Fs
def flNx : Fl → Bool
  | .nx => true
  | _ => false
def obs (r : Option (Fl × En)) (is : List Nat) : Option (Bool × Nat × List (Option (Option O))) := r.map fun p => (flNx p.1, p.2.length, is.map fun i => p.2[i]?)
def lb0 : S := (sSet 1 2 (eCall F_law_tape (aCons (rVar 0) (aCons (rVar 1) aNil))))
def lb1 : S := (sSet 1 3 (eBin fAdd (M.map Rf.d (eC (.int 2))) (M.map Rf.d (eCall F_law_pick (aCons (rVar 2) (aCons (M.map Rf.d (eCall F_law_one_of (aCons (rVar 2) (aCons (M.map Rf.d (eLst (lCons (eC (.int 9)) (lCons (eBinD fPow (M.map Rf.d (eC (.int 10))) (M.map Rf.d (eC (.int 20)))) lNil))).fr) aNil))).fr) aNil))).fr)))
def lb2 : S := (sSet 1 4 (M.map O.dat (eTup (lCons (eC (.str "cut")) (lCons (eC (.int 0)) (lCons (eTup (lCons (eTup (lCons (eC (.str "above")) (lCons (eTup (lCons (eC (.int 1)) (lCons (eBin fAdd (rVar 3) (M.map Rf.d (eC (.int 1)))).fr lNil))) (lCons (eC (.int 1)) lNil)))) (lCons (eTup (lCons (eC (.str "at")) (lCons (eTup (lCons (eC (.int 1)) (lCons (eVar 3) lNil))) (lCons (eC (.int 0)) lNil)))) lNil))) lNil))))))
def lb3 : S := (sSet 1 5 (M.map O.dat (eTup (lCons (eC (.str "cut")) (lCons (eC (.int 0)) (lCons (eTup lNil) lNil))))))
def lb4 : S := (sIf (mOr (eT (eBinD fNeB (M.map Rf.d (eCall F_first_apart (aCons (rVar 4) (aCons (rVar 5) aNil))).fr) (M.map Rf.d (eTup (lCons (eC (.int 2)) (lCons (eBin fAdd (M.map Rf.d (eBin fMul (M.map Rf.d (eC (.int 2))) (rVar 3)).fr) (M.map Rf.d (eC (.int 1)))).fr lNil)))))) (eT (eBinD fNeB (M.map Rf.d (eCall F_first_apart (aCons (rVar 5) (aCons (M.map Rf.d (eTup (lCons (eC (.str "cut")) (lCons (eC (.int 0)) (lCons (eTup (lCons (eTup (lCons (eC (.str "above")) (lCons (eTup (lCons (eC (.int 1)) (lCons (eVar 3) lNil))) (lCons (eC (.int 1)) lNil)))) lNil)) lNil))))) aNil))).fr) (M.map Rf.d (eTup (lCons (eC (.int 1)) (lCons (eC (.int 1)) lNil))))))) (sRet (M.map O.dat (eC (.bl false)))) sPass)
def lb5 : S := (sIf (mOr (eT (eBinD fNeB (M.map Rf.d (eCall F_first_apart (aCons (rVar 5) (aCons (M.map Rf.d (eTup (lCons (eC (.str "cut")) (lCons (eC (.int 0)) (lCons (eTup (lCons (eTup (lCons (eC (.str "at")) (lCons (eTup (lCons (eC (.int 1)) (lCons (eVar 3) lNil))) (lCons (eC (.int 1)) lNil)))) (lCons (eTup (lCons (eC (.str "above")) (lCons (eTup (lCons (eC (.int 1)) (lCons (eVar 3) lNil))) (lCons (eC (.int 0)) lNil)))) lNil))) lNil))))) aNil))).fr) (M.map Rf.d (eTup (lCons (eC (.int 1)) (lCons (eVar 3) lNil)))))) (eT (eBinD fNeB (M.map Rf.d (eCall F_first_apart (aCons (rVar 5) (aCons (M.map Rf.d (eTup (lCons (eC (.str "cut")) (lCons (eC (.int 1)) (lCons (eTup (lCons (eTup (lCons (eC (.str "at")) (lCons (eTup (lCons (eC (.int 1)) (lCons (eVar 3) lNil))) (lCons (eC (.int 0)) lNil)))) lNil)) lNil))))) aNil))).fr) (M.map Rf.d (eTup (lCons (eC (.int 0)) (lCons (eC (.int 1)) lNil))))))) (sRet (M.map O.dat (eC (.bl false)))) sPass)
def lb6 : S := (sSet 1 6 (M.map O.dat (eTup (lCons (eC (.str "cut")) (lCons (eC (.int 0)) (lCons (eTup (lCons (eTup (lCons (eC (.str "above")) (lCons (eTup (lCons (eC (.int 1)) (lCons (eBin fAdd (rVar 3) (M.map Rf.d (eC (.int 1)))).fr lNil))) (lCons (eC (.int 1)) lNil)))) (lCons (eTup (lCons (eC (.str "at")) (lCons (eTup (lCons (eC (.int 4)) (lCons (eBin fAdd (M.map Rf.d (eBin fMul (M.map Rf.d (eC (.int 4))) (rVar 3)).fr) (M.map Rf.d (eC (.int 1)))).fr lNil))) (lCons (eC (.int 0)) lNil)))) lNil))) lNil))))))
def lb7 : S := (sIf (mOr (eT (eBinD fNeB (M.map Rf.d (eCall F_first_apart (aCons (rVar 6) (aCons (rVar 5) aNil))).fr) (M.map Rf.d (eTup (lCons (eC (.int 2)) (lCons (eBin fAdd (M.map Rf.d (eBin fMul (M.map Rf.d (eC (.int 2))) (rVar 3)).fr) (M.map Rf.d (eC (.int 1)))).fr lNil)))))) (eT (eBinD fNeB (M.map Rf.d (eCall F_first_apart (aCons (rVar 6) (aCons (rVar 4) aNil))).fr) (M.map Rf.d (eTup (lCons (eC (.int 4)) (lCons (eBin fAdd (M.map Rf.d (eBin fMul (M.map Rf.d (eC (.int 4))) (rVar 3)).fr) (M.map Rf.d (eC (.int 1)))).fr lNil))))))) (sRet (M.map O.dat (eC (.bl false)))) sPass)
def lb8 : S := (sIf (mOr (eT (eBinD (fIs (!·)) (M.map Rf.d (eCall F_keeps_always (aCons (rVar 4) aNil)).fr) (M.map Rf.d (eC (.bl false))))) (mOr (eT (eBinD (fIs (!·)) (M.map Rf.d (eCall F_is_break (aCons (rVar 4) (aCons (M.map Rf.d (eTup (lCons (eTup (lCons (eC (.int 0)) (lCons (eC (.int 1)) lNil))) (lCons (eTup (lCons (eC (.int 2)) (lCons (eBin fAdd (M.map Rf.d (eBin fMul (M.map Rf.d (eC (.int 2))) (rVar 3)).fr) (M.map Rf.d (eC (.int 1)))).fr lNil))) (lCons (eTup (lCons (eC (.int 1)) (lCons (eC (.int 1)) lNil))) lNil))))) aNil))).fr) (M.map Rf.d (eC (.bl true))))) (eT (eBinD fNeB (M.map Rf.d (eCall F_starts (aCons (rVar 4) aNil)).fr) (M.map Rf.d (eLst (lCons (eTup (lCons (eC (.str "at")) (lCons (eTup (lCons (eC (.int 0)) (lCons (eC (.int 1)) lNil))) (lCons (eC (.int 0)) lNil)))) (lCons (eTup (lCons (eC (.str "above")) (lCons (eTup (lCons (eC (.int 1)) (lCons (eBin fAdd (rVar 3) (M.map Rf.d (eC (.int 1)))).fr lNil))) (lCons (eC (.int 1)) lNil)))) (lCons (eTup (lCons (eC (.str "at")) (lCons (eTup (lCons (eC (.int 1)) (lCons (eVar 3) lNil))) (lCons (eC (.int 0)) lNil)))) lNil)))).fr))))) (sRet (M.map O.dat (eC (.bl false)))) sPass)
def lb9 : S := (sSet 1 7 (eBin fAdd (M.map Rf.d (eC (.int 2))) (M.map Rf.d (eCall F_law_pick (aCons (rVar 2) (aCons (M.map Rf.d (eC (.int 6))) aNil))).fr)))
def lb10 : S := (sSet 1 8 (M.map O.dat (eTup (lCons (eC (.str "cut")) (lCons (eC (.int 0)) (lCons (eFunO fTuple (aCons (M.map Rf.d (eComp [9] (.n 9) (iRange2 (aCons (M.map Rf.d (eC (.int 1))) (aCons (rVar 7) aNil))) mYes (eTup (lCons (eC (.str "at")) (lCons (eCall F_law_lowest (aCons (rVar 9) (aCons (rVar 7) aNil))).fr (lCons (eVar 9) lNil))))).fr) aNil)).fr lNil))))))
def lb11 : S := (sIf (mOr (eT (eBinD fNeB (M.map Rf.d (eCall F_words_of (aCons (rVar 8) aNil)).fr) (M.map Rf.d (eLstRg (eVar 7)).fr))) (mOr (mNot (eTru (M.map Rf.d (eCall F_keeps_always (aCons (rVar 8) aNil)).fr))) (mOr (eT (eBinD fNeB (M.map Rf.d (eCall F_joins (aCons (rVar 8) aNil)).fr) (M.map Rf.d (eLst lNil).fr))) (eT (eBinD fNeB (M.map Rf.d (eCall F_least_classes (aCons (rVar 8) aNil)).fr) (M.map Rf.d (eComp [9] (.n 9) (iRange1 (aCons (rVar 7) aNil)) mYes (eLst (lCons (eVar 9) lNil)).fr).fr)))))) (sRet (M.map O.dat (eC (.bl false)))) sPass)
def lb12 : S := (sSet 1 10 (M.map O.dat (eTup (lCons (eC (.str "cut")) (lCons (eC (.str "a")) (lCons (eFunO fTuple (aCons (M.map Rf.d (eComp [9] (.n 9) (iRange2 (aCons (M.map Rf.d (eC (.int 1))) (aCons (rVar 7) aNil))) mYes (eTup (lCons (eC (.str "at")) (lCons (eCall F_law_lowest (aCons (rVar 9) (aCons (rVar 7) aNil))).fr (lCons (eBinD fIx (M.map Rf.d (eC (.str "abc"))) (M.map Rf.d (eBinD fMod (rVar 9) (M.map Rf.d (eC (.int 3)))))) lNil))))).fr) aNil)).fr lNil))))))
def lb13 : S := (sSet 1 11 (M.map O.dat (eIf (eT (eBinD fEqB (rVar 7) (M.map Rf.d (eC (.int 2))))) (eLst (lCons (eLst (lCons (eC (.str "a")) lNil)).fr (lCons (eLst (lCons (eC (.str "b")) lNil)).fr lNil))).fr (eIf (eT (eBinD fEqB (rVar 7) (M.map Rf.d (eC (.int 3))))) (eLst (lCons (eLst (lCons (eC (.str "a")) lNil)).fr (lCons (eLst (lCons (eC (.str "b")) lNil)).fr (lCons (eLst (lCons (eC (.str "c")) lNil)).fr lNil)))).fr (eLst (lCons (eLst (lCons (eC (.str "a")) (lCons (eC (.str "b")) (lCons (eC (.str "c")) lNil)))).fr lNil)).fr))))
def lb14 : S := (sIf (mOr (eT (eBinD fNeB (M.map Rf.d (eCall F_least_classes (aCons (rVar 10) aNil)).fr) (rVar 11))) (eT (eBinD fNeB (M.map Rf.d (eFun fLenB (aCons (M.map Rf.d (eCall F_joins (aCons (rVar 10) aNil)).fr) aNil))) (M.map Rf.d (eBinD fSub (M.map Rf.d (eFun fLenB (aCons (M.map Rf.d (eCall F_words_of (aCons (rVar 10) aNil)).fr) aNil))) (M.map Rf.d (eFun fLenB (aCons (rVar 11) aNil)))))))) (sRet (M.map O.dat (eC (.bl false)))) sPass)
def l_src : M (List D) := (iRange1 (aCons (M.map Rf.d (eFun fMax2 (aCons (M.map Rf.d (eC (.int 1))) (aCons (M.map Rf.d (eFun fMin2 (aCons (M.map Rf.d (eC (.int 3))) (aCons (M.map Rf.d (eFun fLenB (aCons (rVar 0) aNil))) aNil)))) aNil)))) aNil))
abbrev lbody : S := (sSeq lb0 (sSeq lb1 (sSeq lb2 (sSeq lb3 (sSeq lb4 (sSeq lb5 (sSeq lb6 (sSeq lb7 (sSeq lb8 (sSeq lb9 (sSeq lb10 (sSeq lb11 (sSeq lb12 (sSeq lb13 lb14))))))))))))))
def lt1 : S := (sSet 1 12 (M.map O.dat (eTup (lCons (eC (.str "pair")) (lCons (eTup (lCons (eC (.str "cut")) (lCons (eC (.str "x")) (lCons (eTup (lCons (eTup (lCons (eC (.str "at")) (lCons (eTup (lCons (eC (.int 1)) (lCons (eC (.int 2)) lNil))) (lCons (eC (.str "y")) lNil)))) lNil)) lNil)))) (lCons (eTup (lCons (eC (.str "cut")) (lCons (eC (.str "x")) (lCons (eTup (lCons (eTup (lCons (eC (.str "above")) (lCons (eTup (lCons (eC (.int 1)) (lCons (eC (.int 2)) lNil))) (lCons (eC (.str "y")) lNil)))) lNil)) lNil)))) lNil))))))
def lt2 : S := (sRet (M.map O.dat (vAnd (eBinD fEqB (M.map Rf.d (eCall F_words_of (aCons (rVar 12) aNil)).fr) (M.map Rf.d (eLst (lCons (eTup (lCons (eC (.str "x")) (lCons (eC (.str "x")) lNil))) (lCons (eTup (lCons (eC (.str "y")) (lCons (eC (.str "x")) lNil))) (lCons (eTup (lCons (eC (.str "y")) (lCons (eC (.str "y")) lNil))) lNil)))).fr)) (vAnd (eBinD (fIs id) (M.map Rf.d (eCall F_keeps_always (aCons (rVar 12) aNil)).fr) (M.map Rf.d (eC (.bl true)))) (eBinD fEqB (M.map Rf.d (eBinD fIx (M.map Rf.d (eCall F_starts (aCons (rVar 12) aNil)).fr) (M.map Rf.d (eC (.int 2))))) (M.map Rf.d (eTup (lCons (eC (.str "above")) (lCons (eTup (lCons (eC (.int 1)) (lCons (eC (.int 2)) lNil))) (lCons (eTup (lCons (eC (.str "y")) (lCons (eC (.str "y")) lNil))) lNil))))))))))
theorem den_law_is : den_law = sSeq (sFor 1 (.n 1) l_src lbody) (sSeq lt1 lt2) := rfl
theorem stz_2 (x0 x1 x2 x3 x4 x5 x6 x8 x9 x10 x11 x12 : Option O) : obs (sSeq lb10 (sSeq lb11 (sSeq lb12 (sSeq lb13 lb14))) [x0, x1, x2, x3, x4, x5, x6, some (.dat (.int 2)), x8, x9, x10, x11, x12]) [0] = some (true, 13, [some x0]) := by kernel_rfl
theorem stz_3 (x0 x1 x2 x3 x4 x5 x6 x8 x9 x10 x11 x12 : Option O) : obs (sSeq lb10 (sSeq lb11 (sSeq lb12 (sSeq lb13 lb14))) [x0, x1, x2, x3, x4, x5, x6, some (.dat (.int 3)), x8, x9, x10, x11, x12]) [0] = some (true, 13, [some x0]) := by kernel_rfl
theorem stz_4 (x0 x1 x2 x3 x4 x5 x6 x8 x9 x10 x11 x12 : Option O) : obs (sSeq lb10 (sSeq lb11 (sSeq lb12 (sSeq lb13 lb14))) [x0, x1, x2, x3, x4, x5, x6, some (.dat (.int 4)), x8, x9, x10, x11, x12]) [0] = some (true, 13, [some x0]) := by kernel_rfl
theorem stz_5 (x0 x1 x2 x3 x4 x5 x6 x8 x9 x10 x11 x12 : Option O) : obs (sSeq lb10 (sSeq lb11 (sSeq lb12 (sSeq lb13 lb14))) [x0, x1, x2, x3, x4, x5, x6, some (.dat (.int 5)), x8, x9, x10, x11, x12]) [0] = some (true, 13, [some x0]) := by kernel_rfl
theorem stz_6 (x0 x1 x2 x3 x4 x5 x6 x8 x9 x10 x11 x12 : Option O) : obs (sSeq lb10 (sSeq lb11 (sSeq lb12 (sSeq lb13 lb14))) [x0, x1, x2, x3, x4, x5, x6, some (.dat (.int 6)), x8, x9, x10, x11, x12]) [0] = some (true, 13, [some x0]) := by kernel_rfl
theorem stz_7 (x0 x1 x2 x3 x4 x5 x6 x8 x9 x10 x11 x12 : Option O) : obs (sSeq lb10 (sSeq lb11 (sSeq lb12 (sSeq lb13 lb14))) [x0, x1, x2, x3, x4, x5, x6, some (.dat (.int 7)), x8, x9, x10, x11, x12]) [0] = some (true, 13, [some x0]) := by kernel_rfl
theorem st_end (x0 x1 x2 x3 x4 x5 x6 x7 x8 x9 x10 x11 x12 : Option O) : (match sSeq lt1 lt2 [x0, x1, x2, x3, x4, x5, x6, x7, x8, x9, x10, x11, x12] with | some (.rt o, _) => some o | _ => none) = some (.dat (.bl true)) := by kernel_rfl
section
variable {m : Int} (h2 : 2 ≤ m) (hm : m ≤ 100000000000000000001)
include h2 hm
theorem stm (x0 x1 x2 x4 x5 x6 x7 x8 x9 x10 x11 x12 : Option O) : sSeq lb2 (sSeq lb3 (sSeq lb4 (sSeq lb5 (sSeq lb6 (sSeq lb7 lb8))))) [x0, x1, x2, some (.dat (.int m)), x4, x5, x6, x7, x8, x9, x10, x11, x12] = some (.nx, [x0, x1, x2, some (.dat (.int m)), some (.dat (near m)), some (.dat plain), some (.dat (close m)), x7, x8, x9, x10, x11, x12]) := by
  have a1 := smm h2 hm
  have a3 := sm2
  have a4 := sm4
  have f1 := fa1 h2 hm
  have f2 := fa2 h2 hm
  have f3 := fa3 h2 hm
  have f4 := fa4 h2 hm
  have f5 := fa5 h2 hm
  have f6 := fa6 h2 hm
  have g1 := keeps_near h2 hm
  have g2 := isbreak h2 hm
  have g3 := starts_near h2 hm
  have q : fNeB (.lst [rw3 "at" 0 1 (.int 0), rw3 "above" 1 (m + 1) (.int 1), rw3 "at" 1 m (.int 0)]) (.lst [rw3 "at" 0 1 (.int 0), rw3 "above" 1 (m + 1) (.int 1), rw3 "at" 1 m (.int 0)]) = some (.bl false) := by
    have o1 : PyData.strOk ("at" : Str) = true := by kernel_rfl
    have o2 : PyData.strOk ("above" : Str) = true := by kernel_rfl
    simp [fNeB, dEqB, dEq, toPy, toPyL, SeqAt.shaped, PyData.canLay0, PyData.canLayAll0, PyData.depth, PyData.depthAll, PyData.eqv, PyData.eqvAll, o1, o2]
  simp only [Is, List.map_cons, List.map_nil] at f1 f2 f3 f4 f5 f6 g1 g2 g3
  simp [lb2, lb3, lb4, lb5, lb6, lb7, lb8, defF, outs, callF, argOs, argO, lent, back, backOk, O.own, O.sh, O.d, M.bind, M.ret, M.map, M.lift, M.chk, M.fr, M.then_, M.stuck, Rf.get, getS, getL, rVar, eVar, eC, eBin, eBinD, eFun, eFunO, eTru, eT, eIf, mAnd, mOr, mNot, mYes, vAnd, vOr, vNot, lCons, lNil, aCons, aNil, eTup, eLst, eCall, sSeq, sIf, sSet, sPass, sRet, sDrop, sNo, kd, eComp, Fs.comp_nil, Fs.comp_cons, wipeE, restE, iAll, iEnu, Fn.numbered, seqE, Tg.set, Tg.sl, setAll, free, sFor, Fs.for_nil, Fs.for_cons, eIsi, fIs, Fn.isNon, eTxt, fTxt, eIndex, eSlice, pInt, pNone, iRange1, iRange2, rangeD, fIx, atI, ixN, fLenB, fAll, eCh, sAug, sAsg, sAsgL, sPar, parGo, Fn.iRev, D.kn, Fs.ty_tt, Fs.ty_ti, Fs.ty_ts, Fs.ty_tl, Fs.ty_tb, Fs.ty_tn, Fs.ty_td, Fs.ty_it, Fs.ty_ii, Fs.ty_is, Fs.ty_il, Fs.ty_ib, Fs.ty_in, Fs.ty_id, Fs.ty_bt, Fs.ty_bi, Fs.ty_bs, Fs.ty_bl, Fs.ty_bb, Fs.ty_bn, Fs.ty_bd, Fs.ty_st, Fs.ty_si, Fs.ty_ss, Fs.ty_sl, Fs.ty_sb, Fs.ty_sn, Fs.ty_sd, Fs.ty_lt, Fs.ty_li, Fs.ty_ls, Fs.ty_ll, Fs.ty_lb, Fs.ty_ln, Fs.ty_ld, Fs.tru_bl, Fs.eq_ii, Fs.ne_ii, Fs.eq_hh, Fs.ne_hh, fLenA, fLen, asBools, lim, fTuple, fList, Fs.q_cut_cut, Fs.q_cut_read, Fs.q_cut_pair, Fs.q_cut_at, Fs.q_cut_above, Fs.q_read_cut, Fs.q_read_read, Fs.q_read_pair, Fs.q_read_at, Fs.q_read_above, Fs.q_pair_cut, Fs.q_pair_read, Fs.q_pair_pair, Fs.q_pair_at, Fs.q_pair_above, Fs.q_at_cut, Fs.q_at_read, Fs.q_at_pair, Fs.q_at_at, Fs.q_at_above, Fs.q_above_cut, Fs.q_above_read, Fs.q_above_pair, Fs.q_above_at, Fs.q_above_above, Fs.Is, fSub, fAdd, fLt, fGt, fLe, fGe, fSl, Fn.cutD, HT.sIx, sMut, sMut0, isLst, fApp, mutAt, vNeg, eLstRg, Fs.IsO, Fs.mul_i, Fs.div_i, Fs.wh_cons, Fs.rg2, Fs.rg3, Fs.rg4, Fs.rg5, Fs.rg6, Fs.rg7, Fs.rg8, Fs.tru_l, Fs.tru_t, Fs.tru_i, a1, a3, a4, f1, f2, f3, f4, f5, f6, g1, g2, g3, q]
end
end Law

set_option maxRecDepth 100000
set_option maxHeartbeats 8000000
namespace Law
open PySem PySem.Spec PyProof.Rows L2 Fn Fs
def Tape (dg mx : Int) : Prop := 0 ≤ dg ∧ 0 ≤ mx ∧ mx < 2147483565
theorem pickT {dg mx many : Int} (h : Tape dg mx) (h4 : 0 < many) (h5 : bits many ≤ 9000) :
    ∃ r dg' mx', 0 ≤ r ∧ r < many ∧ Tape dg' mx' ∧ F_law_pick [tp dg mx, .dat (.int many)] = some (.ok (.dat (.int r)), [tp dg' mx', .dat (.int many)]) := by
  obtain ⟨r, dg', mx', a, b, c, d, e, f⟩ := pick_is h.1 h.2.1 h.2.2 h4 h5
  exact ⟨r, dg', mx', a, b, ⟨c, d, e⟩, f⟩
theorem one_of2 {dg mx : Int} {x y : D} (h : Tape dg mx) : ∃ z dg' mx', (z = x ∨ z = y) ∧ Tape dg' mx' ∧ F_law_one_of [tp dg mx, .dat (.lst [x, y])] = some (.ok (.dat z), [tp dg' mx', .dat (.lst [x, y])]) := by
  obtain ⟨r, dg', mx', r0, r1, t, hp⟩ := pickT (many := 2) h (by decide) (by decide +kernel)
  have : r = 0 ∨ r = 1 := by omega
  rcases this with rfl | rfl
  · refine ⟨x, dg', mx', .inl rfl, t, ?_⟩
    unfold F_law_one_of den_law_one_of
    simp [defF, outs, callF, argOs, argO, lent, back, backOk, O.own, O.sh, O.d, M.bind, M.ret, M.map, M.lift, M.chk, M.fr, M.then_, M.stuck, Rf.get, getS, getL, rVar, eVar, eC, eBin, eBinD, eFun, eFunO, eTru, eT, eIf, mAnd, mOr, mNot, mYes, vAnd, vOr, vNot, lCons, lNil, aCons, aNil, eTup, eLst, eCall, sSeq, sIf, sSet, sPass, sRet, sDrop, sNo, kd, eComp, Fs.comp_nil, Fs.comp_cons, wipeE, restE, iAll, iEnu, Fn.numbered, seqE, Tg.set, Tg.sl, setAll, free, sFor, Fs.for_nil, Fs.for_cons, eIsi, fIs, Fn.isNon, eTxt, fTxt, eIndex, eSlice, pInt, pNone, iRange1, iRange2, rangeD, fIx, atI, ixN, fLenB, fAll, eCh, sAug, sAsg, sAsgL, sPar, parGo, Fn.iRev, D.kn, Fs.ty_tt, Fs.ty_ti, Fs.ty_ts, Fs.ty_tl, Fs.ty_tb, Fs.ty_tn, Fs.ty_td, Fs.ty_it, Fs.ty_ii, Fs.ty_is, Fs.ty_il, Fs.ty_ib, Fs.ty_in, Fs.ty_id, Fs.ty_bt, Fs.ty_bi, Fs.ty_bs, Fs.ty_bl, Fs.ty_bb, Fs.ty_bn, Fs.ty_bd, Fs.ty_st, Fs.ty_si, Fs.ty_ss, Fs.ty_sl, Fs.ty_sb, Fs.ty_sn, Fs.ty_sd, Fs.ty_lt, Fs.ty_li, Fs.ty_ls, Fs.ty_ll, Fs.ty_lb, Fs.ty_ln, Fs.ty_ld, Fs.tru_bl, Fs.eq_ii, Fs.ne_ii, Fs.eq_hh, Fs.ne_hh, fLenA, fLen, asBools, lim, fTuple, fList, Fs.q_cut_cut, Fs.q_cut_read, Fs.q_cut_pair, Fs.q_cut_at, Fs.q_cut_above, Fs.q_read_cut, Fs.q_read_read, Fs.q_read_pair, Fs.q_read_at, Fs.q_read_above, Fs.q_pair_cut, Fs.q_pair_read, Fs.q_pair_pair, Fs.q_pair_at, Fs.q_pair_above, Fs.q_at_cut, Fs.q_at_read, Fs.q_at_pair, Fs.q_at_at, Fs.q_at_above, Fs.q_above_cut, Fs.q_above_read, Fs.q_above_pair, Fs.q_above_at, Fs.q_above_above, Fs.Is, fSub, fAdd, fLt, fGt, fLe, fGe, fSl, Fn.cutD, HT.sIx, sMut, sMut0, isLst, fApp, mutAt, vNeg, eLstRg, Fs.IsO, Fs.mul_i, Fs.div_i, Fs.wh_cons, Fs.rg2, Fs.rg3, Fs.rg4, Fs.rg5, Fs.rg6, Fs.rg7, Fs.rg8, Fs.tru_l, Fs.tru_t, Fs.tru_i, tp, hp]
  · refine ⟨y, dg', mx', .inr rfl, t, ?_⟩
    unfold F_law_one_of den_law_one_of
    simp [defF, outs, callF, argOs, argO, lent, back, backOk, O.own, O.sh, O.d, M.bind, M.ret, M.map, M.lift, M.chk, M.fr, M.then_, M.stuck, Rf.get, getS, getL, rVar, eVar, eC, eBin, eBinD, eFun, eFunO, eTru, eT, eIf, mAnd, mOr, mNot, mYes, vAnd, vOr, vNot, lCons, lNil, aCons, aNil, eTup, eLst, eCall, sSeq, sIf, sSet, sPass, sRet, sDrop, sNo, kd, eComp, Fs.comp_nil, Fs.comp_cons, wipeE, restE, iAll, iEnu, Fn.numbered, seqE, Tg.set, Tg.sl, setAll, free, sFor, Fs.for_nil, Fs.for_cons, eIsi, fIs, Fn.isNon, eTxt, fTxt, eIndex, eSlice, pInt, pNone, iRange1, iRange2, rangeD, fIx, atI, ixN, fLenB, fAll, eCh, sAug, sAsg, sAsgL, sPar, parGo, Fn.iRev, D.kn, Fs.ty_tt, Fs.ty_ti, Fs.ty_ts, Fs.ty_tl, Fs.ty_tb, Fs.ty_tn, Fs.ty_td, Fs.ty_it, Fs.ty_ii, Fs.ty_is, Fs.ty_il, Fs.ty_ib, Fs.ty_in, Fs.ty_id, Fs.ty_bt, Fs.ty_bi, Fs.ty_bs, Fs.ty_bl, Fs.ty_bb, Fs.ty_bn, Fs.ty_bd, Fs.ty_st, Fs.ty_si, Fs.ty_ss, Fs.ty_sl, Fs.ty_sb, Fs.ty_sn, Fs.ty_sd, Fs.ty_lt, Fs.ty_li, Fs.ty_ls, Fs.ty_ll, Fs.ty_lb, Fs.ty_ln, Fs.ty_ld, Fs.tru_bl, Fs.eq_ii, Fs.ne_ii, Fs.eq_hh, Fs.ne_hh, fLenA, fLen, asBools, lim, fTuple, fList, Fs.q_cut_cut, Fs.q_cut_read, Fs.q_cut_pair, Fs.q_cut_at, Fs.q_cut_above, Fs.q_read_cut, Fs.q_read_read, Fs.q_read_pair, Fs.q_read_at, Fs.q_read_above, Fs.q_pair_cut, Fs.q_pair_read, Fs.q_pair_pair, Fs.q_pair_at, Fs.q_pair_above, Fs.q_at_cut, Fs.q_at_read, Fs.q_at_pair, Fs.q_at_at, Fs.q_at_above, Fs.q_above_cut, Fs.q_above_read, Fs.q_above_pair, Fs.q_above_at, Fs.q_above_above, Fs.Is, fSub, fAdd, fLt, fGt, fLe, fGe, fSl, Fn.cutD, HT.sIx, sMut, sMut0, isLst, fApp, mutAt, vNeg, eLstRg, Fs.IsO, Fs.mul_i, Fs.div_i, Fs.wh_cons, Fs.rg2, Fs.rg3, Fs.rg4, Fs.rg5, Fs.rg6, Fs.rg7, Fs.rg8, Fs.tru_l, Fs.tru_t, Fs.tru_i, tp, hp]
theorem obs_some {r : Option (Fl × En)} {is : List Nat} {n : Nat} {xs : List (Option (Option O))} (h : obs r is = some (true, n, xs)) : ∃ ρ', r = some (.nx, ρ') ∧ ρ'.length = n ∧ (is.map fun i => ρ'[i]?) = xs := by
  cases r with
  | none => cases h
  | some p =>
    obtain ⟨fl, ρ'⟩ := p
    have h' : (flNx fl, ρ'.length, is.map fun i => ρ'[i]?) = (true, n, xs) := Option.some.inj h
    obtain ⟨h1, h2⟩ := Prod.mk.inj h'
    obtain ⟨h2, h3⟩ := Prod.mk.inj h2
    cases fl with
    | nx => exact ⟨ρ', rfl, h2, h3⟩
    | _ => cases h1
theorem list13 {α : Type} : ∀ {xs : List α}, xs.length = 13 → ∃ a0 a1 a2 a3 a4 a5 a6 a7 a8 a9 a10 a11 a12, xs = [a0, a1, a2, a3, a4, a5, a6, a7, a8, a9, a10, a11, a12]
  | [a0, a1, a2, a3, a4, a5, a6, a7, a8, a9, a10, a11, a12], _ => ⟨a0, a1, a2, a3, a4, a5, a6, a7, a8, a9, a10, a11, a12, rfl⟩
theorem seq_assoc {a b c : S} : sSeq a (sSeq b c) = sSeq (sSeq a b) c := by
  funext ρ
  unfold sSeq
  cases a ρ with
  | none => rfl
  | some p =>
    obtain ⟨fl, ρ1⟩ := p
    cases fl <;> rfl
theorem stz (s : Int) (h : s = 2 ∨ s = 3 ∨ s = 4 ∨ s = 5 ∨ s = 6 ∨ s = 7) (x0 x1 x2 x3 x4 x5 x6 x8 x9 x10 x11 x12 : Option O) : obs (sSeq lb10 (sSeq lb11 (sSeq lb12 (sSeq lb13 lb14))) [x0, x1, x2, x3, x4, x5, x6, some (.dat (.int s)), x8, x9, x10, x11, x12]) [0] = some (true, 13, [some x0]) := by
  rcases h with rfl | rfl | rfl | rfl | rfl | rfl
  · exact stz_2 ..
  · exact stz_3 ..
  · exact stz_4 ..
  · exact stz_5 ..
  · exact stz_6 ..
  · exact stz_7 ..
theorem st0 {ns : List Int} {i dg mx : Int} (ht : F_law_tape [sc ns, .dat (.int i)] = some (.ok (tp dg mx), [sc ns, .dat (.int i)])) (x2 x3 x4 x5 x6 x7 x8 x9 x10 x11 x12 : Option O) :
    lb0 [some (sc ns), some (.dat (.int i)), x2, x3, x4, x5, x6, x7, x8, x9, x10, x11, x12] = some (.nx, [some (sc ns), some (.dat (.int i)), some (tp dg mx), x3, x4, x5, x6, x7, x8, x9, x10, x11, x12]) := by
  simp only [sc, tp] at ht ⊢
  simp [lb0, defF, outs, callF, argOs, argO, lent, back, backOk, O.own, O.sh, O.d, M.bind, M.ret, M.map, M.lift, M.chk, M.fr, M.then_, M.stuck, Rf.get, getS, getL, rVar, eVar, eC, eBin, eBinD, eFun, eFunO, eTru, eT, eIf, mAnd, mOr, mNot, mYes, vAnd, vOr, vNot, lCons, lNil, aCons, aNil, eTup, eLst, eCall, sSeq, sIf, sSet, sPass, sRet, sDrop, sNo, kd, eComp, Fs.comp_nil, Fs.comp_cons, wipeE, restE, iAll, iEnu, Fn.numbered, seqE, Tg.set, Tg.sl, setAll, free, sFor, Fs.for_nil, Fs.for_cons, eIsi, fIs, Fn.isNon, eTxt, fTxt, eIndex, eSlice, pInt, pNone, iRange1, iRange2, rangeD, fIx, atI, ixN, fLenB, fAll, eCh, sAug, sAsg, sAsgL, sPar, parGo, Fn.iRev, D.kn, Fs.ty_tt, Fs.ty_ti, Fs.ty_ts, Fs.ty_tl, Fs.ty_tb, Fs.ty_tn, Fs.ty_td, Fs.ty_it, Fs.ty_ii, Fs.ty_is, Fs.ty_il, Fs.ty_ib, Fs.ty_in, Fs.ty_id, Fs.ty_bt, Fs.ty_bi, Fs.ty_bs, Fs.ty_bl, Fs.ty_bb, Fs.ty_bn, Fs.ty_bd, Fs.ty_st, Fs.ty_si, Fs.ty_ss, Fs.ty_sl, Fs.ty_sb, Fs.ty_sn, Fs.ty_sd, Fs.ty_lt, Fs.ty_li, Fs.ty_ls, Fs.ty_ll, Fs.ty_lb, Fs.ty_ln, Fs.ty_ld, Fs.tru_bl, Fs.eq_ii, Fs.ne_ii, Fs.eq_hh, Fs.ne_hh, fLenA, fLen, asBools, lim, fTuple, fList, Fs.q_cut_cut, Fs.q_cut_read, Fs.q_cut_pair, Fs.q_cut_at, Fs.q_cut_above, Fs.q_read_cut, Fs.q_read_read, Fs.q_read_pair, Fs.q_read_at, Fs.q_read_above, Fs.q_pair_cut, Fs.q_pair_read, Fs.q_pair_pair, Fs.q_pair_at, Fs.q_pair_above, Fs.q_at_cut, Fs.q_at_read, Fs.q_at_pair, Fs.q_at_at, Fs.q_at_above, Fs.q_above_cut, Fs.q_above_read, Fs.q_above_pair, Fs.q_above_at, Fs.q_above_above, Fs.Is, fSub, fAdd, fLt, fGt, fLe, fGe, fSl, Fn.cutD, HT.sIx, sMut, sMut0, isLst, fApp, mutAt, vNeg, eLstRg, Fs.IsO, Fs.mul_i, Fs.div_i, Fs.wh_cons, Fs.rg2, Fs.rg3, Fs.rg4, Fs.rg5, Fs.rg6, Fs.rg7, Fs.rg8, Fs.tru_l, Fs.tru_t, Fs.tru_i, ht]
theorem st1 {dg mx : Int} (t : Tape dg mx) (x0 x1 x3 x4 x5 x6 x7 x8 x9 x10 x11 x12 : Option O) :
    ∃ r dg' mx', 0 ≤ r ∧ r < 100000000000000000000 ∧ Tape dg' mx' ∧ lb1 [x0, x1, some (tp dg mx), x3, x4, x5, x6, x7, x8, x9, x10, x11, x12] = some (.nx, [x0, x1, some (tp dg' mx'), some (.dat (.int (2 + r))), x4, x5, x6, x7, x8, x9, x10, x11, x12]) := by
  obtain ⟨z, dg1, mx1, hz, t1, e1⟩ := one_of2 (x := .int 9) (y := .int 100000000000000000000) t
  obtain ⟨k, rfl, k1, k2, k3⟩ : ∃ k : Int, z = .int k ∧ 0 < k ∧ k ≤ 100000000000000000000 ∧ bits k ≤ 9000 := by
    rcases hz with rfl | rfl
    · exact ⟨9, rfl, by decide, by decide, by decide +kernel⟩
    · exact ⟨_, rfl, by decide, by decide, by decide +kernel⟩
  obtain ⟨r, dg2, mx2, r0, r1, t2, e2⟩ := pickT t1 k1 k3
  refine ⟨r, dg2, mx2, r0, by omega, t2, ?_⟩
  have p : fPow (.int 10) (.int 20) = some (.int 100000000000000000000) := by kernel_rfl
  simp only [tp] at e1 e2 ⊢
  simp [lb1, defF, outs, callF, argOs, argO, lent, back, backOk, O.own, O.sh, O.d, M.bind, M.ret, M.map, M.lift, M.chk, M.fr, M.then_, M.stuck, Rf.get, getS, getL, rVar, eVar, eC, eBin, eBinD, eFun, eFunO, eTru, eT, eIf, mAnd, mOr, mNot, mYes, vAnd, vOr, vNot, lCons, lNil, aCons, aNil, eTup, eLst, eCall, sSeq, sIf, sSet, sPass, sRet, sDrop, sNo, kd, eComp, Fs.comp_nil, Fs.comp_cons, wipeE, restE, iAll, iEnu, Fn.numbered, seqE, Tg.set, Tg.sl, setAll, free, sFor, Fs.for_nil, Fs.for_cons, eIsi, fIs, Fn.isNon, eTxt, fTxt, eIndex, eSlice, pInt, pNone, iRange1, iRange2, rangeD, fIx, atI, ixN, fLenB, fAll, eCh, sAug, sAsg, sAsgL, sPar, parGo, Fn.iRev, D.kn, Fs.ty_tt, Fs.ty_ti, Fs.ty_ts, Fs.ty_tl, Fs.ty_tb, Fs.ty_tn, Fs.ty_td, Fs.ty_it, Fs.ty_ii, Fs.ty_is, Fs.ty_il, Fs.ty_ib, Fs.ty_in, Fs.ty_id, Fs.ty_bt, Fs.ty_bi, Fs.ty_bs, Fs.ty_bl, Fs.ty_bb, Fs.ty_bn, Fs.ty_bd, Fs.ty_st, Fs.ty_si, Fs.ty_ss, Fs.ty_sl, Fs.ty_sb, Fs.ty_sn, Fs.ty_sd, Fs.ty_lt, Fs.ty_li, Fs.ty_ls, Fs.ty_ll, Fs.ty_lb, Fs.ty_ln, Fs.ty_ld, Fs.tru_bl, Fs.eq_ii, Fs.ne_ii, Fs.eq_hh, Fs.ne_hh, fLenA, fLen, asBools, lim, fTuple, fList, Fs.q_cut_cut, Fs.q_cut_read, Fs.q_cut_pair, Fs.q_cut_at, Fs.q_cut_above, Fs.q_read_cut, Fs.q_read_read, Fs.q_read_pair, Fs.q_read_at, Fs.q_read_above, Fs.q_pair_cut, Fs.q_pair_read, Fs.q_pair_pair, Fs.q_pair_at, Fs.q_pair_above, Fs.q_at_cut, Fs.q_at_read, Fs.q_at_pair, Fs.q_at_at, Fs.q_at_above, Fs.q_above_cut, Fs.q_above_read, Fs.q_above_pair, Fs.q_above_at, Fs.q_above_above, Fs.Is, fSub, fAdd, fLt, fGt, fLe, fGe, fSl, Fn.cutD, HT.sIx, sMut, sMut0, isLst, fApp, mutAt, vNeg, eLstRg, Fs.IsO, Fs.mul_i, Fs.div_i, Fs.wh_cons, Fs.rg2, Fs.rg3, Fs.rg4, Fs.rg5, Fs.rg6, Fs.rg7, Fs.rg8, Fs.tru_l, Fs.tru_t, Fs.tru_i, e1, e2, p]
theorem st9 {dg mx : Int} (t : Tape dg mx) (x0 x1 x3 x4 x5 x6 x7 x8 x9 x10 x11 x12 : Option O) :
    ∃ r dg' mx', 0 ≤ r ∧ r < 6 ∧ Tape dg' mx' ∧ lb9 [x0, x1, some (tp dg mx), x3, x4, x5, x6, x7, x8, x9, x10, x11, x12] = some (.nx, [x0, x1, some (tp dg' mx'), x3, x4, x5, x6, some (.dat (.int (2 + r))), x8, x9, x10, x11, x12]) := by
  obtain ⟨r, dg2, mx2, r0, r1, t2, e2⟩ := pickT (many := 6) t (by decide) (by decide +kernel)
  refine ⟨r, dg2, mx2, r0, by omega, t2, ?_⟩
  simp only [tp] at e2 ⊢
  simp [lb9, defF, outs, callF, argOs, argO, lent, back, backOk, O.own, O.sh, O.d, M.bind, M.ret, M.map, M.lift, M.chk, M.fr, M.then_, M.stuck, Rf.get, getS, getL, rVar, eVar, eC, eBin, eBinD, eFun, eFunO, eTru, eT, eIf, mAnd, mOr, mNot, mYes, vAnd, vOr, vNot, lCons, lNil, aCons, aNil, eTup, eLst, eCall, sSeq, sIf, sSet, sPass, sRet, sDrop, sNo, kd, eComp, Fs.comp_nil, Fs.comp_cons, wipeE, restE, iAll, iEnu, Fn.numbered, seqE, Tg.set, Tg.sl, setAll, free, sFor, Fs.for_nil, Fs.for_cons, eIsi, fIs, Fn.isNon, eTxt, fTxt, eIndex, eSlice, pInt, pNone, iRange1, iRange2, rangeD, fIx, atI, ixN, fLenB, fAll, eCh, sAug, sAsg, sAsgL, sPar, parGo, Fn.iRev, D.kn, Fs.ty_tt, Fs.ty_ti, Fs.ty_ts, Fs.ty_tl, Fs.ty_tb, Fs.ty_tn, Fs.ty_td, Fs.ty_it, Fs.ty_ii, Fs.ty_is, Fs.ty_il, Fs.ty_ib, Fs.ty_in, Fs.ty_id, Fs.ty_bt, Fs.ty_bi, Fs.ty_bs, Fs.ty_bl, Fs.ty_bb, Fs.ty_bn, Fs.ty_bd, Fs.ty_st, Fs.ty_si, Fs.ty_ss, Fs.ty_sl, Fs.ty_sb, Fs.ty_sn, Fs.ty_sd, Fs.ty_lt, Fs.ty_li, Fs.ty_ls, Fs.ty_ll, Fs.ty_lb, Fs.ty_ln, Fs.ty_ld, Fs.tru_bl, Fs.eq_ii, Fs.ne_ii, Fs.eq_hh, Fs.ne_hh, fLenA, fLen, asBools, lim, fTuple, fList, Fs.q_cut_cut, Fs.q_cut_read, Fs.q_cut_pair, Fs.q_cut_at, Fs.q_cut_above, Fs.q_read_cut, Fs.q_read_read, Fs.q_read_pair, Fs.q_read_at, Fs.q_read_above, Fs.q_pair_cut, Fs.q_pair_read, Fs.q_pair_pair, Fs.q_pair_at, Fs.q_pair_above, Fs.q_at_cut, Fs.q_at_read, Fs.q_at_pair, Fs.q_at_at, Fs.q_at_above, Fs.q_above_cut, Fs.q_above_read, Fs.q_above_pair, Fs.q_above_at, Fs.q_above_above, Fs.Is, fSub, fAdd, fLt, fGt, fLe, fGe, fSl, Fn.cutD, HT.sIx, sMut, sMut0, isLst, fApp, mutAt, vNeg, eLstRg, Fs.IsO, Fs.mul_i, Fs.div_i, Fs.wh_cons, Fs.rg2, Fs.rg3, Fs.rg4, Fs.rg5, Fs.rg6, Fs.rg7, Fs.rg8, Fs.tru_l, Fs.tru_t, Fs.tru_i, e2]
/-- one turn -/
theorem turn {ns : List Int} {i : Int} (hb : ∀ z ∈ ns, bits z ≤ 1048576) (h0 : 0 ≤ i) (h1 : i < 3) (x2 x3 x4 x5 x6 x7 x8 x9 x10 x11 x12 : Option O) :
    ∃ ρ', lbody [some (sc ns), some (.dat (.int i)), x2, x3, x4, x5, x6, x7, x8, x9, x10, x11, x12] = some (.nx, ρ') ∧ ρ'.length = 13 ∧ ρ'[0]? = some (some (sc ns)) := by
  obtain ⟨dg, mx, d0, m0, m1, ht⟩ := tape_is hb h0 h1
  have e0 := st0 ht x2 x3 x4 x5 x6 x7 x8 x9 x10 x11 x12
  obtain ⟨r, dg1, mx1, r0, r1, t1, e1⟩ := st1 ⟨d0, m0, m1⟩ (some (sc ns)) (some (.dat (.int i))) x3 x4 x5 x6 x7 x8 x9 x10 x11 x12
  have e2 := stm (m := 2 + r) (by omega) (by omega) (some (sc ns)) (some (.dat (.int i))) (some (tp dg1 mx1)) x4 x5 x6 x7 x8 x9 x10 x11 x12
  obtain ⟨q, dg2, mx2, q0, q1, t2, e9⟩ := st9 t1 (some (sc ns)) (some (.dat (.int i))) (some (.dat (.int (2 + r)))) (some (.dat (near (2 + r)))) (some (.dat plain)) (some (.dat (close (2 + r)))) x7 x8 x9 x10 x11 x12
  obtain ⟨ρ', ez, lz, iz⟩ := obs_some (stz (2 + q) (by omega) (some (sc ns)) (some (.dat (.int i))) (some (tp dg2 mx2)) (some (.dat (.int (2 + r)))) (some (.dat (near (2 + r)))) (some (.dat plain)) (some (.dat (close (2 + r)))) x8 x9 x10 x11 x12)
  refine ⟨ρ', ?_, lz, by simpa using iz⟩
  have w1 : ∀ k : S, sSeq lb2 (sSeq lb3 (sSeq lb4 (sSeq lb5 (sSeq lb6 (sSeq lb7 (sSeq lb8 k)))))) = sSeq (sSeq lb2 (sSeq lb3 (sSeq lb4 (sSeq lb5 (sSeq lb6 (sSeq lb7 lb8)))))) k := fun k => by simp only [← seq_assoc]
  show sSeq lb0 (sSeq lb1 (sSeq lb2 (sSeq lb3 (sSeq lb4 (sSeq lb5 (sSeq lb6 (sSeq lb7 (sSeq lb8 (sSeq lb9 (sSeq lb10 (sSeq lb11 (sSeq lb12 (sSeq lb13 lb14))))))))))))) _ = _
  rw [seq_at e0, seq_at e1, w1, seq_at e2, seq_at e9]
  exact ez
theorem turns {ns : List Int} (hb : ∀ z ∈ ns, bits z ≤ 1048576) : ∀ (ds : List D) (ρ : En), (∀ d ∈ ds, ∃ i : Int, d = .int i ∧ 0 ≤ i ∧ i < 3) → ρ.length = 13 → ρ[0]? = some (some (sc ns)) →
    ∃ ρ', forGo 1 (.n 1) lbody ds ρ = some (.nx, ρ') ∧ ρ'.length = 13
  | [], ρ, _, hl, _ => ⟨ρ, rfl, hl⟩
  | d :: ds, ρ, hd, hl, h0 => by
    obtain ⟨i, rfl, i0, i1⟩ := hd d List.mem_cons_self
    obtain ⟨x0, x1, x2, x3, x4, x5, x6, x7, x8, x9, x10, x11, x12, rfl⟩ := list13 hl
    have e0 : x0 = some (sc ns) := by simpa using h0
    subst e0
    obtain ⟨ρ2, t1, t2, t3⟩ := turn hb i0 i1 x2 x3 x4 x5 x6 x7 x8 x9 x10 x11 x12
    obtain ⟨ρ', r, l⟩ := turns hb ds ρ2 (fun z hz => hd z (List.mem_cons_of_mem _ hz)) t2 t3
    exact ⟨ρ', (forGo_cons (ρ1 := [some (sc ns), some (.dat (.int i)), x2, x3, x4, x5, x6, x7, x8, x9, x10, x11, x12]) rfl rfl t1).trans r, l⟩
/-- where the turns begin -/
theorem src_at (ns : List Int) (x1 x2 x3 x4 x5 x6 x7 x8 x9 x10 x11 x12 : Option O) : ∃ j : Nat, j ≤ 3 ∧ l_src [some (sc ns), x1, x2, x3, x4, x5, x6, x7, x8, x9, x10, x11, x12] = some (.ok (rangeD 0 j), [some (sc ns), x1, x2, x3, x4, x5, x6, x7, x8, x9, x10, x11, x12]) := by
  obtain ⟨j, hj, j3⟩ : ∃ j : Int, (if (if (ns.length : Int) < 3 then (ns.length : Int) else 3) > 1 then (if (ns.length : Int) < 3 then (ns.length : Int) else 3) else 1) = j ∧ j ≤ 3 ∧ 1 ≤ j := ⟨_, rfl, by split <;> split <;> omega⟩
  refine ⟨j.toNat, by omega, ?_⟩
  have a1 : -1000000000 ≤ j ∧ j ≤ 1000000000 := ⟨by omega, by omega⟩
  have e1 : fMin2 [.int 3, .int (ns.length : Int)] = some (.int (if (ns.length : Int) < 3 then (ns.length : Int) else 3)) := rfl
  have e2 : fMax2 [.int 1, .int (if (ns.length : Int) < 3 then (ns.length : Int) else 3)] = some (.int j) := by rw [← hj]; rfl
  have e3 : fLenB [.ro (ns.map D.int)] = some (.int (ns.length : Int)) := by show some (D.int ((ns.map D.int).length : Int)) = _; rw [List.length_map]
  clear hj
  unfold l_src
  simp only [sc, eFun, iRange1, M.bind, aCons, aNil, M.map, M.ret, eC, rVar, getL, Rf.get, getS, M.lift, O.d, List.getElem?_cons_zero, e1, e2, e3, M.chk]
  rw [if_pos (decide_eq_true a1)]
  rfl
/-- the law -/
theorem law_is {ns : List Int} (hb : ∀ z ∈ ns, bits z ≤ 1048576) (hl : ns.length ≤ 63) : F_law [sc ns] = some (.ok (.dat (.bl true)), [sc ns]) := by
  obtain ⟨j, j3, hs⟩ := src_at ns none none none none none none none none none none none none
  obtain ⟨ρ', ht, l13⟩ := turns hb (rangeD 0 j) [some (sc ns), none, none, none, none, none, none, none, none, none, none, none, none] (fun d hd => by
    unfold rangeD at hd
    obtain ⟨k, hk, rfl⟩ := List.mem_map.mp hd
    rw [List.mem_range] at hk
    exact ⟨_, rfl, by omega, by omega⟩) rfl rfl
  obtain ⟨x0, x1, x2, x3, x4, x5, x6, x7, x8, x9, x10, x11, x12, rfl⟩ := list13 l13
  have z := st_end x0 x1 x2 x3 x4 x5 x6 x7 x8 x9 x10 x11 x12
  obtain ⟨ρ2, z2⟩ : ∃ ρ2, sSeq lt1 lt2 [x0, x1, x2, x3, x4, x5, x6, x7, x8, x9, x10, x11, x12] = some (.rt (.dat (.bl true)), ρ2) := by
    split at z
    · rename_i o ρ2 e
      cases z
      exact ⟨ρ2, e⟩
    · cases z
  have d : den_law [some (sc ns), none, none, none, none, none, none, none, none, none, none, none, none] = some (.rt (.dat (.bl true)), ρ2) := by
    rw [den_law_is]
    rw [seq_at (ρ1 := [x0, x1, x2, x3, x4, x5, x6, x7, x8, x9, x10, x11, x12]) ?t]
    · exact z2
    case t =>
      unfold sFor
      rw [then_at hs]
      exact ht
  show defF 13 den_law _ = _
  unfold defF
  rw [show ([sc ns].map some ++ List.replicate (13 - [sc ns].length) none : En) = [some (sc ns), none, none, none, none, none, none, none, none, none, none, none, none] from rfl, d]
  rfl
end Law

set_option maxRecDepth 100000
set_option maxHeartbeats 4000000
namespace Law
open PySem PySem.Spec PyProof.Rows L2 Fn

def objL : List (Str × Addr) := [("Sequence", 295)]
def fnL : List (Str × Addr) := []
def cl : Nms := ⟨fun _ => none, fun x => List.lookup x objL, fun x => List.lookup x fnL⟩
def inck (K : PySem.W.Frag) (C : Addr) : Bool := decide (PySem.W.findIn K (.ref C) "__class__" = some (some (.builtin "object.__class__"))) && (decide (PySem.W.specialIn K (.builtin "object.__class__") "__get__" = some (some (.builtin "getset_descriptor.__get__"))) && (decide (PySem.W.takesIn K (.builtin "object.__class__") = some true) && decide (PySem.W.mroIn K C (.type "object") = some true)))
/-- a table, as the top has it -/
def TbAt (K : PySem.W.Frag) (w : World) (x : Str) (tab : List (Str × Str)) : Prop := ∃ (d : Addr) (es : Array DictEntry) (n : Nat) (ps : List (Str × Value)), PySem.W.nsIn K mainGlobals x = some (some (.ref d)) ∧ K.lookup d = some ⟨.type "dict", none, .dict es n, #[]⟩ ∧ PySem.W.KeysLit w.params es.toList ∧ (d == sysModules) = false ∧ pairsOf es.toList = some ps ∧ tabOk cl.f tab ps = true
theorem tbAt_mk {K : PySem.W.Frag} {w : World} {x : Str} {tab : List (Str × Str)} {d : Addr} {es : Array DictEntry} {n : Nat} {ps : List (Str × Value)} (a : PySem.W.nsIn K mainGlobals x = some (some (.ref d))) (l : K.lookup d = some ⟨.type "dict", none, .dict es n, #[]⟩) (lit : PySem.W.KeysLit w.params es.toList) (low : (d == sysModules) = false) (p : pairsOf es.toList = some ps) (ok : tabOk cl.f tab ps = true) : TbAt K w x tab := ⟨d, es, n, ps, a, l, lit, low, p, ok⟩
theorem conI_mk {K : PySem.W.Frag} {x : Str} {i : Int} {t : Tok} (a : PySem.W.nsIn K mainGlobals x = some (some (.int i t))) : ∃ t, PySem.W.nsIn K mainGlobals x = some (some (.int i t)) := ⟨t, a⟩
theorem conS_mk {K : PySem.W.Frag} {x z : Str} {t : Tok} (a : PySem.W.nsIn K mainGlobals x = some (some (.str z t))) : ∃ t, PySem.W.nsIn K mainGlobals x = some (some (.str z t)) := ⟨t, a⟩
/-- what the top has written -/
structure Wr (K : PySem.W.Frag) (w : World) : Prop where
  oc_Sequence : PySem.W.nsIn K mainGlobals "Sequence" = some (some (.ref 295))
  ok_Sequence : ock K 295 attrs = true
  ic_Sequence : inck K 295 = true
  f_law_tape : FnE K "_law_tape" s_law_tape
  f_law_pick : FnE K "_law_pick" s_law_pick
  f_law_one_of : FnE K "_law_one_of" s_law_one_of
  f_is_integer : FnE K "is_integer" s_is_integer
  f_is_name : FnE K "is_name" s_is_name
  f_is_plain : FnE K "_is_plain" s_is_plain
  f_is_share : FnE K "is_share" s_is_share
  f_is_cut : FnE K "_is_cut" s_is_cut
  f_is_less : FnE K "is_less" s_is_less
  f_is_ahead : FnE K "_is_ahead" s_is_ahead
  f_are_cuts : FnE K "_are_cuts" s_are_cuts
  f_is_word : FnE K "_is_word" s_is_word
  f_are_readings : FnE K "_are_readings" s_are_readings
  f_is_form : FnE K "is_form" s_is_form
  f_need_form : FnE K "need_form" s_need_form
  f_side_by_side : FnE K "_side_by_side" s_side_by_side
  f_read : FnE K "_read" s_read
  f_marks_of : FnE K "marks_of" s_marks_of
  f_least_whole : FnE K "_least_whole" s_least_whole
  f_simplest : FnE K "_simplest" s_simplest
  f_simplest_behind : FnE K "simplest_behind" s_simplest_behind
  f_first_apart : FnE K "first_apart" s_first_apart
  f_starts : FnE K "starts" s_starts
  f_break_of : FnE K "break_of" s_break_of
  f_keeps_always : FnE K "keeps_always" s_keeps_always
  f_are_three_ascending : FnE K "are_three_ascending" s_are_three_ascending
  f_word_at : FnE K "word_at" s_word_at
  f_is_break : FnE K "is_break" s_is_break
  f_law_lowest : FnE K "_law_lowest" s_law_lowest
  f_words_in : FnE K "words_in" s_words_in
  f_words_of : FnE K "words_of" s_words_of
  f_Sequence_alone : MtE K 295 "alone" "Sequence.alone" s_Sequence_alone
  f_Sequence_next_join : MtE K 295 "next_join" "Sequence.next_join" s_Sequence_next_join
  f_Sequence_joined : MtE K 295 "joined" "Sequence.joined" s_Sequence_joined
  f_Sequence_init : MtE K 295 "__init__" "Sequence.__init__" s_Sequence_init
  f_joins : FnE K "joins" s_joins
  f_least_classes : FnE K "least_classes" s_least_classes
  f_law : FnE K "law" s_law
  gcd : PySem.W.nsIn K mainGlobals "gcd" = some (some (.builtin "math.gcd"))
  k_LONGEST_NAME : ∃ t, PySem.W.nsIn K mainGlobals "LONGEST_NAME" = some (some (.int 8 t))
  k_NOTHING : CtAt K "NOTHING" [0, 1]
  k_ALL : CtAt K "ALL" [1, 1]
  bl : (blts.all fun x => decide (PySem.W.nsIn K mainGlobals x = some none)) = true
  sy : SysK K
theorem inck_ok {K : PySem.W.Frag} {x : Str} {C : Addr} (O : OcAt K x C) (h : inck K C = true) : InC K C := by
  unfold inck at h
  simp only [Bool.and_eq_true] at h
  exact ⟨O.2.2.2, of_decide_eq_true h.1, of_decide_eq_true h.2.1, of_decide_eq_true h.2.2.1, of_decide_eq_true h.2.2.2⟩
theorem env2 {P : Program} {w : World} {K : PySem.W.Frag} {mg : Str → Option Value} {h : Heap} (X : K.In h) (G : h.Ns mainGlobals mg) (A : Wr K w) (base : Heap) : Env2 ⟨P, w, K, mg, base, cl⟩ where
  hB := fun x hx => PySem.W.mg_none_of X G (of_decide_eq_true (List.all_eq_true.mp A.bl x hx))
  hS := A.sy
  hX := ⟨fun c C hc => (by cases hc), fun c C hc => (by cases hc), fun c C hc => by
    have m : (c, C) ∈ objL := PySem.mem_of_lookup (show List.lookup c objL = some C from hc)
    unfold objL at m
    obtain ⟨rfl, rfl⟩ := Prod.mk.inj (List.mem_singleton.mp m)
    exact inck_ok (ock_ok A.oc_Sequence A.ok_Sequence).1 A.ic_Sequence⟩
  hO := ⟨fun c C hc => by
    have m : (c, C) ∈ objL := PySem.mem_of_lookup (show List.lookup c objL = some C from hc)
    unfold objL at m
    obtain ⟨rfl, rfl⟩ := Prod.mk.inj (List.mem_singleton.mp m)
    exact (ock_ok A.oc_Sequence A.ok_Sequence).1.2.2.2, fun c C hc => by
    have m : (c, C) ∈ objL := PySem.mem_of_lookup (show List.lookup c objL = some C from hc)
    unfold objL at m
    obtain ⟨rfl, rfl⟩ := Prod.mk.inj (List.mem_singleton.mp m)
    exact (ock_ok A.oc_Sequence A.ok_Sequence).2⟩
  hGcd := PySem.W.mg_of X G A.gcd
  hC_LONGEST_NAME := let ⟨_, e⟩ := A.k_LONGEST_NAME; con_int X G e
  hC_NOTHING := conT_of (is := [0, 1]) X G A.k_NOTHING
  hC_ALL := conT_of (is := [1, 1]) X G A.k_ALL
theorem all_mk {P : Program} {w : World} {K : PySem.W.Frag} {mg : Str → Option Value} {h : Heap} {fa : Addr} (X : K.In h) (G : h.Ns mainGlobals mg) (hfa : mg "law" = some (.ref fa)) (A : Wr K w) :
    ∃ fd : FuncData, (∀ (s : Shared) (u : Value), BindsTo s fd ⟨[u], []⟩ [("script", u)]) ∧ ∀ base : Heap, K.In base → base.Ns mainGlobals mg → FnS P w K mg base (L2.CX P w) 16 fa fd ["script"] (spF ⟨K, cl, P, w⟩ 1 F_law) := by
  obtain ⟨fl, oc, od, an, kV, dc, pm, cd, ct, sl, a1, a2, a3, a4⟩ := A.f_law
  have e := hfa.symm.trans (PySem.W.mg_of X G a1)
  cases e
  refine ⟨PySem.W.fnOf "law" "law" (defArgs s_law) (defBody s_law) (defScope s_law) .none kV dc pm an cd ct, fun s u => .of_eq rfl, fun base X0 G0 => ?_⟩
  have Y : Env2 ⟨P, w, K, mg, base, cl⟩ := env2 X G A base
  have c_law_tape : Cal ⟨P, w, K, mg, base, cl⟩ 1 2 "_law_tape" F_law_tape := calE_of X G A.f_law_tape (fun f fd F => ok_law_tape (T := ⟨P, w, K, mg, base, cl⟩) F Y) (fun _ _ _ _ _ _ us hl => match us, hl with | [_, _], _ => rfl)
  have c_law_pick : Cal ⟨P, w, K, mg, base, cl⟩ 1 2 "_law_pick" F_law_pick := calE_of X G A.f_law_pick (fun f fd F => ok_law_pick (T := ⟨P, w, K, mg, base, cl⟩) F Y) (fun _ _ _ _ _ _ us hl => match us, hl with | [_, _], _ => rfl)
  have c_law_one_of : Cal ⟨P, w, K, mg, base, cl⟩ 2 2 "_law_one_of" F_law_one_of := calE_of X G A.f_law_one_of (fun f fd F => ok_law_one_of (T := ⟨P, w, K, mg, base, cl⟩) F Y (c_law_pick := c_law_pick)) (fun _ _ _ _ _ _ us hl => match us, hl with | [_, _], _ => rfl)
  have c_is_integer : Cal ⟨P, w, K, mg, base, cl⟩ 1 1 "is_integer" F_is_integer := calE_of X G A.f_is_integer (fun f fd F => ok_is_integer (T := ⟨P, w, K, mg, base, cl⟩) F Y) (fun _ _ _ _ _ _ us hl => match us, hl with | [_], _ => rfl)
  have c_is_name : Cal ⟨P, w, K, mg, base, cl⟩ 1 1 "is_name" F_is_name := calE_of X G A.f_is_name (fun f fd F => ok_is_name (T := ⟨P, w, K, mg, base, cl⟩) F Y) (fun _ _ _ _ _ _ us hl => match us, hl with | [_], _ => rfl)
  have c_is_plain : Cal ⟨P, w, K, mg, base, cl⟩ 2 1 "_is_plain" F_is_plain := calE_of X G A.f_is_plain (fun f fd F => ok_is_plain (T := ⟨P, w, K, mg, base, cl⟩) F Y (c_is_integer := c_is_integer) (c_is_name := c_is_name)) (fun _ _ _ _ _ _ us hl => match us, hl with | [_], _ => rfl)
  have c_is_share : Cal ⟨P, w, K, mg, base, cl⟩ 2 1 "is_share" F_is_share := calE_of X G A.f_is_share (fun f fd F => ok_is_share (T := ⟨P, w, K, mg, base, cl⟩) F Y (c_is_integer := c_is_integer)) (fun _ _ _ _ _ _ us hl => match us, hl with | [_], _ => rfl)
  have c_is_cut : Cal ⟨P, w, K, mg, base, cl⟩ 3 1 "_is_cut" F_is_cut := calE_of X G A.f_is_cut (fun f fd F => ok_is_cut (T := ⟨P, w, K, mg, base, cl⟩) F Y (c_is_share := c_is_share) (c_is_plain := c_is_plain)) (fun _ _ _ _ _ _ us hl => match us, hl with | [_], _ => rfl)
  have c_is_less : Cal ⟨P, w, K, mg, base, cl⟩ 1 2 "is_less" F_is_less := calE_of X G A.f_is_less (fun f fd F => ok_is_less (T := ⟨P, w, K, mg, base, cl⟩) F Y) (fun _ _ _ _ _ _ us hl => match us, hl with | [_, _], _ => rfl)
  have c_is_ahead : Cal ⟨P, w, K, mg, base, cl⟩ 2 2 "_is_ahead" F_is_ahead := calE_of X G A.f_is_ahead (fun f fd F => ok_is_ahead (T := ⟨P, w, K, mg, base, cl⟩) F Y (c_is_less := c_is_less)) (fun _ _ _ _ _ _ us hl => match us, hl with | [_, _], _ => rfl)
  have c_are_cuts : Cal ⟨P, w, K, mg, base, cl⟩ 4 1 "_are_cuts" F_are_cuts := calE_of X G A.f_are_cuts (fun f fd F => ok_are_cuts (T := ⟨P, w, K, mg, base, cl⟩) F Y (c_is_cut := c_is_cut) (c_is_ahead := c_is_ahead)) (fun _ _ _ _ _ _ us hl => match us, hl with | [_], _ => rfl)
  have r0_is_word : Cal ⟨P, w, K, mg, base, cl⟩ (3 + 0) 1 "_is_word" (FR_is_word 0) := calNone_of (k := 2) X G A.f_is_word sc_is_word (fun _ _ _ _ _ _ us hl => match us, hl with | [_], _ => rfl)
  have r1_is_word : Cal ⟨P, w, K, mg, base, cl⟩ (3 + 1) 1 "_is_word" (FR_is_word 1) := calE_of X G A.f_is_word (fun f fd F => ok_is_word (T := ⟨P, w, K, mg, base, cl⟩) F Y (c_is_plain := c_is_plain) (m := 0) (R := FR_is_word 0) (c_is_word := r0_is_word)) (fun _ _ _ _ _ _ us hl => match us, hl with | [_], _ => rfl)
  have r2_is_word : Cal ⟨P, w, K, mg, base, cl⟩ (3 + 2) 1 "_is_word" (FR_is_word 2) := calE_of X G A.f_is_word (fun f fd F => ok_is_word (T := ⟨P, w, K, mg, base, cl⟩) F Y (c_is_plain := c_is_plain) (m := 1) (R := FR_is_word 1) (c_is_word := r1_is_word)) (fun _ _ _ _ _ _ us hl => match us, hl with | [_], _ => rfl)
  have r3_is_word : Cal ⟨P, w, K, mg, base, cl⟩ (3 + 3) 1 "_is_word" (FR_is_word 3) := calE_of X G A.f_is_word (fun f fd F => ok_is_word (T := ⟨P, w, K, mg, base, cl⟩) F Y (c_is_plain := c_is_plain) (m := 2) (R := FR_is_word 2) (c_is_word := r2_is_word)) (fun _ _ _ _ _ _ us hl => match us, hl with | [_], _ => rfl)
  have c_is_word : Cal ⟨P, w, K, mg, base, cl⟩ 6 1 "_is_word" F_is_word := r3_is_word
  have c_are_readings : Cal ⟨P, w, K, mg, base, cl⟩ 7 1 "_are_readings" F_are_readings := calE_of X G A.f_are_readings (fun f fd F => ok_are_readings (T := ⟨P, w, K, mg, base, cl⟩) F Y (c_is_word := c_is_word) (c_is_plain := c_is_plain)) (fun _ _ _ _ _ _ us hl => match us, hl with | [_], _ => rfl)
  have r0_is_form : Cal ⟨P, w, K, mg, base, cl⟩ (8 + 0) 1 "is_form" (FR_is_form 0) := calNone_of (k := 7) X G A.f_is_form sc_is_form (fun _ _ _ _ _ _ us hl => match us, hl with | [_], _ => rfl)
  have r1_is_form : Cal ⟨P, w, K, mg, base, cl⟩ (8 + 1) 1 "is_form" (FR_is_form 1) := calE_of X G A.f_is_form (fun f fd F => ok_is_form (T := ⟨P, w, K, mg, base, cl⟩) F Y (c_is_plain := c_is_plain) (c_are_cuts := c_are_cuts) (c_are_readings := c_are_readings) (m := 0) (R := FR_is_form 0) (c_is_form := r0_is_form)) (fun _ _ _ _ _ _ us hl => match us, hl with | [_], _ => rfl)
  have r2_is_form : Cal ⟨P, w, K, mg, base, cl⟩ (8 + 2) 1 "is_form" (FR_is_form 2) := calE_of X G A.f_is_form (fun f fd F => ok_is_form (T := ⟨P, w, K, mg, base, cl⟩) F Y (c_is_plain := c_is_plain) (c_are_cuts := c_are_cuts) (c_are_readings := c_are_readings) (m := 1) (R := FR_is_form 1) (c_is_form := r1_is_form)) (fun _ _ _ _ _ _ us hl => match us, hl with | [_], _ => rfl)
  have r3_is_form : Cal ⟨P, w, K, mg, base, cl⟩ (8 + 3) 1 "is_form" (FR_is_form 3) := calE_of X G A.f_is_form (fun f fd F => ok_is_form (T := ⟨P, w, K, mg, base, cl⟩) F Y (c_is_plain := c_is_plain) (c_are_cuts := c_are_cuts) (c_are_readings := c_are_readings) (m := 2) (R := FR_is_form 2) (c_is_form := r2_is_form)) (fun _ _ _ _ _ _ us hl => match us, hl with | [_], _ => rfl)
  have c_is_form : Cal ⟨P, w, K, mg, base, cl⟩ 11 1 "is_form" F_is_form := r3_is_form
  have c_need_form : Cal ⟨P, w, K, mg, base, cl⟩ 12 1 "need_form" F_need_form := calE_of X G A.f_need_form (fun f fd F => ok_need_form (T := ⟨P, w, K, mg, base, cl⟩) F Y (c_is_form := c_is_form)) (fun _ _ _ _ _ _ us hl => match us, hl with | [_], _ => rfl)
  have c_side_by_side : Cal ⟨P, w, K, mg, base, cl⟩ 3 2 "_side_by_side" F_side_by_side := calE_of X G A.f_side_by_side (fun f fd F => ok_side_by_side (T := ⟨P, w, K, mg, base, cl⟩) F Y (c_is_ahead := c_is_ahead)) (fun _ _ _ _ _ _ us hl => match us, hl with | [_, _], _ => rfl)
  have c_read : Cal ⟨P, w, K, mg, base, cl⟩ 1 2 "_read" F_read := calE_of X G A.f_read (fun f fd F => ok_read (T := ⟨P, w, K, mg, base, cl⟩) F Y) (fun _ _ _ _ _ _ us hl => match us, hl with | [_, _], _ => rfl)
  have r0_marks_of : Cal ⟨P, w, K, mg, base, cl⟩ (4 + 0) 1 "marks_of" (FR_marks_of 0) := calNone_of (k := 3) X G A.f_marks_of sc_marks_of (fun _ _ _ _ _ _ us hl => match us, hl with | [_], _ => rfl)
  have r1_marks_of : Cal ⟨P, w, K, mg, base, cl⟩ (4 + 1) 1 "marks_of" (FR_marks_of 1) := calE_of X G A.f_marks_of (fun f fd F => ok_marks_of (T := ⟨P, w, K, mg, base, cl⟩) F Y (c_side_by_side := c_side_by_side) (c_read := c_read) (m := 0) (R := FR_marks_of 0) (c_marks_of := r0_marks_of)) (fun _ _ _ _ _ _ us hl => match us, hl with | [_], _ => rfl)
  have r2_marks_of : Cal ⟨P, w, K, mg, base, cl⟩ (4 + 2) 1 "marks_of" (FR_marks_of 2) := calE_of X G A.f_marks_of (fun f fd F => ok_marks_of (T := ⟨P, w, K, mg, base, cl⟩) F Y (c_side_by_side := c_side_by_side) (c_read := c_read) (m := 1) (R := FR_marks_of 1) (c_marks_of := r1_marks_of)) (fun _ _ _ _ _ _ us hl => match us, hl with | [_], _ => rfl)
  have r3_marks_of : Cal ⟨P, w, K, mg, base, cl⟩ (4 + 3) 1 "marks_of" (FR_marks_of 3) := calE_of X G A.f_marks_of (fun f fd F => ok_marks_of (T := ⟨P, w, K, mg, base, cl⟩) F Y (c_side_by_side := c_side_by_side) (c_read := c_read) (m := 2) (R := FR_marks_of 2) (c_marks_of := r2_marks_of)) (fun _ _ _ _ _ _ us hl => match us, hl with | [_], _ => rfl)
  have c_marks_of : Cal ⟨P, w, K, mg, base, cl⟩ 7 1 "marks_of" F_marks_of := r3_marks_of
  have c_least_whole : Cal ⟨P, w, K, mg, base, cl⟩ 1 3 "_least_whole" F_least_whole := calE_of X G A.f_least_whole (fun f fd F => ok_least_whole (T := ⟨P, w, K, mg, base, cl⟩) F Y) (fun _ _ _ _ _ _ us hl => match us, hl with | [_, _, _], _ => rfl)
  have c_simplest : Cal ⟨P, w, K, mg, base, cl⟩ 2 4 "_simplest" F_simplest := calE_of X G A.f_simplest (fun f fd F => ok_simplest (T := ⟨P, w, K, mg, base, cl⟩) F Y (c_least_whole := c_least_whole)) (fun _ _ _ _ _ _ us hl => match us, hl with | [_, _, _, _], _ => rfl)
  have c_simplest_behind : Cal ⟨P, w, K, mg, base, cl⟩ 3 2 "simplest_behind" F_simplest_behind := calE_of X G A.f_simplest_behind (fun f fd F => ok_simplest_behind (T := ⟨P, w, K, mg, base, cl⟩) F Y (c_simplest := c_simplest)) (fun _ _ _ _ _ _ us hl => match us, hl with | [_, _], _ => rfl)
  have c_first_apart : Cal ⟨P, w, K, mg, base, cl⟩ 13 2 "first_apart" F_first_apart := calE_of X G A.f_first_apart (fun f fd F => ok_first_apart (T := ⟨P, w, K, mg, base, cl⟩) F Y (c_need_form := c_need_form) (c_side_by_side := c_side_by_side) (c_marks_of := c_marks_of) (c_simplest_behind := c_simplest_behind)) (fun _ _ _ _ _ _ us hl => match us, hl with | [_, _], _ => rfl)
  have c_starts : Cal ⟨P, w, K, mg, base, cl⟩ 13 1 "starts" F_starts := calE_of X G A.f_starts (fun f fd F => ok_starts (T := ⟨P, w, K, mg, base, cl⟩) F Y (c_need_form := c_need_form) (c_marks_of := c_marks_of)) (fun _ _ _ _ _ _ us hl => match us, hl with | [_], _ => rfl)
  have c_break_of : Cal ⟨P, w, K, mg, base, cl⟩ 14 1 "break_of" F_break_of := calE_of X G A.f_break_of (fun f fd F => ok_break_of (T := ⟨P, w, K, mg, base, cl⟩) F Y (c_starts := c_starts) (c_simplest_behind := c_simplest_behind)) (fun _ _ _ _ _ _ us hl => match us, hl with | [_], _ => rfl)
  have c_keeps_always : Cal ⟨P, w, K, mg, base, cl⟩ 15 1 "keeps_always" F_keeps_always := calE_of X G A.f_keeps_always (fun f fd F => ok_keeps_always (T := ⟨P, w, K, mg, base, cl⟩) F Y (c_break_of := c_break_of)) (fun _ _ _ _ _ _ us hl => match us, hl with | [_], _ => rfl)
  have c_are_three_ascending : Cal ⟨P, w, K, mg, base, cl⟩ 3 1 "are_three_ascending" F_are_three_ascending := calE_of X G A.f_are_three_ascending (fun f fd F => ok_are_three_ascending (T := ⟨P, w, K, mg, base, cl⟩) F Y (c_is_share := c_is_share) (c_is_less := c_is_less)) (fun _ _ _ _ _ _ us hl => match us, hl with | [_], _ => rfl)
  have r0_word_at : Cal ⟨P, w, K, mg, base, cl⟩ (2 + 0) 2 "word_at" (FR_word_at 0) := calNone_of (k := 1) X G A.f_word_at sc_word_at (fun _ _ _ _ _ _ us hl => match us, hl with | [_, _], _ => rfl)
  have r1_word_at : Cal ⟨P, w, K, mg, base, cl⟩ (2 + 1) 2 "word_at" (FR_word_at 1) := calE_of X G A.f_word_at (fun f fd F => ok_word_at (T := ⟨P, w, K, mg, base, cl⟩) F Y (c_read := c_read) (c_is_less := c_is_less) (m := 0) (R := FR_word_at 0) (c_word_at := r0_word_at)) (fun _ _ _ _ _ _ us hl => match us, hl with | [_, _], _ => rfl)
  have r2_word_at : Cal ⟨P, w, K, mg, base, cl⟩ (2 + 2) 2 "word_at" (FR_word_at 2) := calE_of X G A.f_word_at (fun f fd F => ok_word_at (T := ⟨P, w, K, mg, base, cl⟩) F Y (c_read := c_read) (c_is_less := c_is_less) (m := 1) (R := FR_word_at 1) (c_word_at := r1_word_at)) (fun _ _ _ _ _ _ us hl => match us, hl with | [_, _], _ => rfl)
  have r3_word_at : Cal ⟨P, w, K, mg, base, cl⟩ (2 + 3) 2 "word_at" (FR_word_at 3) := calE_of X G A.f_word_at (fun f fd F => ok_word_at (T := ⟨P, w, K, mg, base, cl⟩) F Y (c_read := c_read) (c_is_less := c_is_less) (m := 2) (R := FR_word_at 2) (c_word_at := r2_word_at)) (fun _ _ _ _ _ _ us hl => match us, hl with | [_, _], _ => rfl)
  have c_word_at : Cal ⟨P, w, K, mg, base, cl⟩ 5 2 "word_at" F_word_at := r3_word_at
  have c_is_break : Cal ⟨P, w, K, mg, base, cl⟩ 13 2 "is_break" F_is_break := calE_of X G A.f_is_break (fun f fd F => ok_is_break (T := ⟨P, w, K, mg, base, cl⟩) F Y (c_need_form := c_need_form) (c_are_three_ascending := c_are_three_ascending) (c_word_at := c_word_at)) (fun _ _ _ _ _ _ us hl => match us, hl with | [_, _], _ => rfl)
  have c_law_lowest : Cal ⟨P, w, K, mg, base, cl⟩ 1 2 "_law_lowest" F_law_lowest := calE_of X G A.f_law_lowest (fun f fd F => ok_law_lowest (T := ⟨P, w, K, mg, base, cl⟩) F Y) (fun _ _ _ _ _ _ us hl => match us, hl with | [_, _], _ => rfl)
  have c_words_in : Cal ⟨P, w, K, mg, base, cl⟩ 1 1 "words_in" F_words_in := calE_of X G A.f_words_in (fun f fd F => ok_words_in (T := ⟨P, w, K, mg, base, cl⟩) F Y) (fun _ _ _ _ _ _ us hl => match us, hl with | [_], _ => rfl)
  have c_words_of : Cal ⟨P, w, K, mg, base, cl⟩ 13 1 "words_of" F_words_of := calE_of X G A.f_words_of (fun f fd F => ok_words_of (T := ⟨P, w, K, mg, base, cl⟩) F Y (c_need_form := c_need_form) (c_words_in := c_words_in) (c_marks_of := c_marks_of)) (fun _ _ _ _ _ _ us hl => match us, hl with | [_], _ => rfl)
  have c_Sequence_alone : CalM ⟨P, w, K, mg, base, cl⟩ 1 1 "Sequence" "alone" F_Sequence_alone := calM_of (C := 295) (show cl.o "Sequence" = some 295 by decide +kernel) (ock_ok A.oc_Sequence A.ok_Sequence).1.2.2.2 A.f_Sequence_alone (fun f fd F => ok_Sequence_alone (T := ⟨P, w, K, mg, base, cl⟩) F Y) (fun _ _ _ _ _ _ us hl => match us, hl with | [_], _ => rfl)
  have c_Sequence_next_join : CalM ⟨P, w, K, mg, base, cl⟩ 4 2 "Sequence" "next_join" F_Sequence_next_join := calM_of (C := 295) (show cl.o "Sequence" = some 295 by decide +kernel) (ock_ok A.oc_Sequence A.ok_Sequence).1.2.2.2 A.f_Sequence_next_join (fun f fd F => ok_Sequence_next_join (T := ⟨P, w, K, mg, base, cl⟩) F Y (c_simplest_behind := c_simplest_behind)) (fun _ _ _ _ _ _ us hl => match us, hl with | [_, _], _ => rfl)
  have c_Sequence_joined : CalM ⟨P, w, K, mg, base, cl⟩ 6 3 "Sequence" "joined" F_Sequence_joined := calM_of (C := 295) (show cl.o "Sequence" = some 295 by decide +kernel) (ock_ok A.oc_Sequence A.ok_Sequence).1.2.2.2 A.f_Sequence_joined (fun f fd F => ok_Sequence_joined (T := ⟨P, w, K, mg, base, cl⟩) F Y (c_word_at := c_word_at)) (fun _ _ _ _ _ _ us hl => match us, hl with | [_, _, _], _ => rfl)
  have c_Sequence_init : CalN ⟨P, w, K, mg, base, cl⟩ 8 1 "Sequence" F_Sequence_init := calN_of (C := 295) X G (show cl.o "Sequence" = some 295 by decide +kernel) (ock_ok A.oc_Sequence A.ok_Sequence).1 A.f_Sequence_init (fun f fd F => ok_Sequence_init (T := ⟨P, w, K, mg, base, cl⟩) F Y (c_marks_of := c_marks_of) (c_words_in := c_words_in)) (fun _ _ _ _ _ _ us hl => match us, hl with | [_, _], _ => rfl)
  have c_joins : Cal ⟨P, w, K, mg, base, cl⟩ 13 1 "joins" F_joins := calE_of X G A.f_joins (fun f fd F => ok_joins (T := ⟨P, w, K, mg, base, cl⟩) F Y (c_need_form := c_need_form) (c_Sequence_alone := c_Sequence_alone) (c_Sequence_next_join := c_Sequence_next_join) (c_Sequence_joined := c_Sequence_joined) (c_Sequence_init := c_Sequence_init)) (fun _ _ _ _ _ _ us hl => match us, hl with | [_], _ => rfl)
  have c_least_classes : Cal ⟨P, w, K, mg, base, cl⟩ 13 1 "least_classes" F_least_classes := calE_of X G A.f_least_classes (fun f fd F => ok_least_classes (T := ⟨P, w, K, mg, base, cl⟩) F Y (c_need_form := c_need_form) (c_Sequence_init := c_Sequence_init)) (fun _ _ _ _ _ _ us hl => match us, hl with | [_], _ => rfl)
  exact ok_law (T := ⟨P, w, K, mg, base, cl⟩) (fun_mk a2 a3 a4) Y (c_law_tape := c_law_tape) (c_law_pick := c_law_pick) (c_law_one_of := c_law_one_of) (c_first_apart := c_first_apart) (c_keeps_always := c_keeps_always) (c_is_break := c_is_break) (c_starts := c_starts) (c_law_lowest := c_law_lowest) (c_words_of := c_words_of) (c_joins := c_joins) (c_least_classes := c_least_classes)
end Law

set_option maxRecDepth 100000
set_option maxHeartbeats 4000000
namespace Law
open PySem PySem.Spec PyProof.Rows L2 Fn

theorem ints_rep {T : Cs} {G : Hp} : ∀ ns : List Int, RepL T G (ns.map D.int) (ns.map V.int)
  | [] => rfl
  | n :: ns => ⟨_, _, rfl, rfl, ints_rep ns⟩
/-- what the law's def promises is what is asked -/
theorem law_sp {T : Cs} {H : Hp} {a : Addr} {ns : List Int} (hb : ∀ z ∈ ns, bits z ≤ 1048576) (hl : ns.length ≤ 63) (hS : SqL T.K H a (ns.map V.int)) :
    spF T 1 F_law [.ref a] H (fun v _ => v = .bl true) fun _ _ _ => False := by
  refine ⟨rfl, H, [sc ns], _, _, ⟨Ex.refl _, rfl, fun i o h => ?_, fun i j o o' b h1 h2 p1 p2 s1 s2 => ?_⟩, law_is hb hl, rfl, fun v G' H' n k r => ?_⟩
  · cases i with
    | zero =>
      cases h
      exact ⟨.ref a, rfl, a, _, rfl, hS, ints_rep ns⟩
    | succ i => simp at h
  · cases i with
    | zero =>
      cases h1
      cases p1
    | succ i => simp at h1
  · exact r.1
theorem walk {l : PySem.W.OpenLaw} {q : Program} {loose : List Str} {XP : (Str → Option Value) → Heap → Prop} {YP : World → Heap → Prop} {d : DefRec} {K : Params → PySem.W.Frag} (hn : l.most = some 63) (hdf : d.params.defaults = [])
    (hY : ∀ (w : World) (h : Heap), YP w h → (K w.params).In h)
    (F : ∀ (w : World) (mg : Str → Option Value) (fa : Addr) (h : Heap), (K w.params).In h → h.Ns mainGlobals mg → mg d.name = some (.ref fa) →
      ∃ fd : FuncData, (∀ (s : Shared) (u : Value), BindsTo s fd ⟨[u], []⟩ [("script", u)]) ∧ ∀ base : Heap, (K w.params).In base → base.Ns mainGlobals mg → FnS l.prog w (K w.params) mg base (L2.CX l.prog w) 16 fa fd ["script"] (spF ⟨K w.params, cl, l.prog, w⟩ 1 F_law)) :
    PySem.W.WalkO q loose XP YP l.row.toRowW d [] (fun f vs => PySem.call f vs) :=
  end_walk (n := 63) (k := 16) (x := "script") (CX := fun w => L2.CX l.prog w) (sp := fun w => spF ⟨K w.params, cl, l.prog, w⟩ 1 F_law) hn (by decide) hdf ⟨rfl, by decide, by decide⟩ hY F (fun _ _ _ _ hl hb hS => law_sp hb hl hS) fun w H s e s' c => by
    obtain ⟨a, B, H', cls, d, _, _, _, _, _, _, _, z⟩ := c
    exact z.elim
end Law

set_option maxRecDepth 100000
set_option maxHeartbeats 0
open PySem PySem.W PyProof.Rows Fn
theorem PySem.Challenge.cw_talkedalike_k50_forms_by_hand_holds : PySem.Challenge.rw_talkedalike_k50_forms_by_hand.Holds := by
  w_on; o_law; x_head; (case hw => w_witness2)
  k_fill
  refine Law.walk (l := PySem.Challenge.rw_talkedalike_k50_forms_by_hand) rfl rfl (fun w h Y => PySem.W.kIn_of Y) ?F
  case F =>
    intro w mg fa h KX G hmg
    refine Law.all_mk KX G hmg ?A
    refine Law.Wr.mk ?oc_Sequence ?ok_Sequence ?ic_Sequence ?f_law_tape ?f_law_pick ?f_law_one_of ?f_is_integer ?f_is_name ?f_is_plain ?f_is_share ?f_is_cut ?f_is_less ?f_is_ahead ?f_are_cuts ?f_is_word ?f_are_readings ?f_is_form ?f_need_form ?f_side_by_side ?f_read ?f_marks_of ?f_least_whole ?f_simplest ?f_simplest_behind ?f_first_apart ?f_starts ?f_break_of ?f_keeps_always ?f_are_three_ascending ?f_word_at ?f_is_break ?f_law_lowest ?f_words_in ?f_words_of ?f_Sequence_alone ?f_Sequence_next_join ?f_Sequence_joined ?f_Sequence_init ?f_joins ?f_least_classes ?f_law ?gcd ?k_LONGEST_NAME ?k_NOTHING ?k_ALL ?bl ?sy
    (case oc_Sequence => k_is)
    (case ok_Sequence => kernel_rfl)
    (case ic_Sequence => kernel_rfl)
    (case f_law_tape => (refine' fnE_mk ?a ?l ?c ?k; (case a => k_is); (case l => k_is); (case c => k_is); (case k => k_is)))
    (case f_law_pick => (refine' fnE_mk ?a ?l ?c ?k; (case a => k_is); (case l => k_is); (case c => k_is); (case k => k_is)))
    (case f_law_one_of => (refine' fnE_mk ?a ?l ?c ?k; (case a => k_is); (case l => k_is); (case c => k_is); (case k => k_is)))
    (case f_is_integer => (refine' fnE_mk ?a ?l ?c ?k; (case a => k_is); (case l => k_is); (case c => k_is); (case k => k_is)))
    (case f_is_name => (refine' fnE_mk ?a ?l ?c ?k; (case a => k_is); (case l => k_is); (case c => k_is); (case k => k_is)))
    (case f_is_plain => (refine' fnE_mk ?a ?l ?c ?k; (case a => k_is); (case l => k_is); (case c => k_is); (case k => k_is)))
    (case f_is_share => (refine' fnE_mk ?a ?l ?c ?k; (case a => k_is); (case l => k_is); (case c => k_is); (case k => k_is)))
    (case f_is_cut => (refine' fnE_mk ?a ?l ?c ?k; (case a => k_is); (case l => k_is); (case c => k_is); (case k => k_is)))
    (case f_is_less => (refine' fnE_mk ?a ?l ?c ?k; (case a => k_is); (case l => k_is); (case c => k_is); (case k => k_is)))
    (case f_is_ahead => (refine' fnE_mk ?a ?l ?c ?k; (case a => k_is); (case l => k_is); (case c => k_is); (case k => k_is)))
    (case f_are_cuts => (refine' fnE_mk ?a ?l ?c ?k; (case a => k_is); (case l => k_is); (case c => k_is); (case k => k_is)))
    (case f_is_word => (refine' fnE_mk ?a ?l ?c ?k; (case a => k_is); (case l => k_is); (case c => k_is); (case k => k_is)))
    (case f_are_readings => (refine' fnE_mk ?a ?l ?c ?k; (case a => k_is); (case l => k_is); (case c => k_is); (case k => k_is)))
    (case f_is_form => (refine' fnE_mk ?a ?l ?c ?k; (case a => k_is); (case l => k_is); (case c => k_is); (case k => k_is)))
    (case f_need_form => (refine' fnE_mk ?a ?l ?c ?k; (case a => k_is); (case l => k_is); (case c => k_is); (case k => k_is)))
    (case f_side_by_side => (refine' fnE_mk ?a ?l ?c ?k; (case a => k_is); (case l => k_is); (case c => k_is); (case k => k_is)))
    (case f_read => (refine' fnE_mk ?a ?l ?c ?k; (case a => k_is); (case l => k_is); (case c => k_is); (case k => k_is)))
    (case f_marks_of => (refine' fnE_mk ?a ?l ?c ?k; (case a => k_is); (case l => k_is); (case c => k_is); (case k => k_is)))
    (case f_least_whole => (refine' fnE_mk ?a ?l ?c ?k; (case a => k_is); (case l => k_is); (case c => k_is); (case k => k_is)))
    (case f_simplest => (refine' fnE_mk ?a ?l ?c ?k; (case a => k_is); (case l => k_is); (case c => k_is); (case k => k_is)))
    (case f_simplest_behind => (refine' fnE_mk ?a ?l ?c ?k; (case a => k_is); (case l => k_is); (case c => k_is); (case k => k_is)))
    (case f_first_apart => (refine' fnE_mk ?a ?l ?c ?k; (case a => k_is); (case l => k_is); (case c => k_is); (case k => k_is)))
    (case f_starts => (refine' fnE_mk ?a ?l ?c ?k; (case a => k_is); (case l => k_is); (case c => k_is); (case k => k_is)))
    (case f_break_of => (refine' fnE_mk ?a ?l ?c ?k; (case a => k_is); (case l => k_is); (case c => k_is); (case k => k_is)))
    (case f_keeps_always => (refine' fnE_mk ?a ?l ?c ?k; (case a => k_is); (case l => k_is); (case c => k_is); (case k => k_is)))
    (case f_are_three_ascending => (refine' fnE_mk ?a ?l ?c ?k; (case a => k_is); (case l => k_is); (case c => k_is); (case k => k_is)))
    (case f_word_at => (refine' fnE_mk ?a ?l ?c ?k; (case a => k_is); (case l => k_is); (case c => k_is); (case k => k_is)))
    (case f_is_break => (refine' fnE_mk ?a ?l ?c ?k; (case a => k_is); (case l => k_is); (case c => k_is); (case k => k_is)))
    (case f_law_lowest => (refine' fnE_mk ?a ?l ?c ?k; (case a => k_is); (case l => k_is); (case c => k_is); (case k => k_is)))
    (case f_words_in => (refine' fnE_mk ?a ?l ?c ?k; (case a => k_is); (case l => k_is); (case c => k_is); (case k => k_is)))
    (case f_words_of => (refine' fnE_mk ?a ?l ?c ?k; (case a => k_is); (case l => k_is); (case c => k_is); (case k => k_is)))
    (case f_Sequence_alone => (refine' mtE_mk ?a ?l ?c ?k ?i; (case a => k_is); (case l => k_is); (case c => k_is); (case k => k_is); (case i => k_is)))
    (case f_Sequence_next_join => (refine' mtE_mk ?a ?l ?c ?k ?i; (case a => k_is); (case l => k_is); (case c => k_is); (case k => k_is); (case i => k_is)))
    (case f_Sequence_joined => (refine' mtE_mk ?a ?l ?c ?k ?i; (case a => k_is); (case l => k_is); (case c => k_is); (case k => k_is); (case i => k_is)))
    (case f_Sequence_init => (refine' mtE_mk ?a ?l ?c ?k ?i; (case a => k_is); (case l => k_is); (case c => k_is); (case k => k_is); (case i => k_is)))
    (case f_joins => (refine' fnE_mk ?a ?l ?c ?k; (case a => k_is); (case l => k_is); (case c => k_is); (case k => k_is)))
    (case f_least_classes => (refine' fnE_mk ?a ?l ?c ?k; (case a => k_is); (case l => k_is); (case c => k_is); (case k => k_is)))
    (case f_law => (refine' fnE_mk ?a ?l ?c ?k; (case a => k_is); (case l => k_is); (case c => k_is); (case k => k_is)))
    (case gcd => k_is)
    (case k_LONGEST_NAME => (refine' Law.conI_mk ?a; (case a => k_is)))
    (case k_NOTHING => (refine' Fn.ctAt_mk ?ca ?cl ?cz ?cv; (case ca => k_is); (case cl => k_is); (case cz => decide); (case cv => repeat (first | exact .nil | refine' .cons ⟨_, rfl⟩ ?_))))
    (case k_ALL => (refine' Fn.ctAt_mk ?ca ?cl ?cz ?cv; (case ca => k_is); (case cl => k_is); (case cz => decide); (case cv => repeat (first | exact .nil | refine' .cons ⟨_, rfl⟩ ?_))))
    (case bl => kernel_rfl)
    (case sy => (refine' Fn.sysK_mk ?syl ?syc; (case syl => k_is); (case syc => exact fun z => absurd (Value.type.inj z) (by decide))))
