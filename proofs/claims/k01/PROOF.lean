import PyProof.Rows.All
import Wide.All
import OpenK.AllK
import Wide.FinOn
import HandS.ForMost
import HandS.Deep
import HandS.Wide
import HandS.IsInst
import HandS.SetFor
import HandS.Strs
import HandS.Style
import PySem.Challenge.RW_spandrel_k01_sets_of_letters
set_option Elab.async false
set_option linter.all false
set_option maxRecDepth 100000
set_option autoImplicit false
namespace Z
open PySem L2

abbrev D := PySem.PyData
inductive S where
  | d (x : D)
  | o (xs : List D)
abbrev Env := List (Option S)
inductive R where
  | d (x : D)
  | o (xs : List D)
  | b (i : Nat)
inductive Res (α : Type) where
  | no
  | ok (a : α) (ρ : Env)
  | exc (c : Nat) (ρ : Env)
inductive Out where
  | no
  | nx (ρ : Env)
  | rt (s : S) (ρ : Env)
  | bk (ρ : Env)
  | ct (ρ : Env)
  | exc (c : Nat) (ρ : Env)
def Res.bind {α β : Type} (r : Res α) (k : α → Env → Res β) : Res β :=
  match r with
  | .no => .no
  | .ok a ρ => k a ρ
  | .exc c ρ => .exc c ρ

section
variable {K : PySem.W.Frag} {G H G' H' : Hp} {a : Addr} {xs : List V} {v : V}
theorem sqT_same (e : Same H H') (h : SqT K H a xs) : SqT K H' a xs := by
  rcases h with (h | ⟨o, h⟩) | h
  · exact .inl (.inl (e _ _ h))
  · exact .inl (.inr ⟨o, e _ _ h⟩)
  · exact .inr h
mutual
theorem dp_same (e : Same H H') : ∀ (d : D) (v : V), Dp K H v d → Dp K H' v d
  | .none, _, h => by cases h; exact .non
  | .bool _, _, h => by cases h; exact .bl _
  | .int _, _, h => by cases h; exact .int _
  | .str _, _, h => by cases h; exact .str _
  | .list ds, _, h => by
    cases h with
    | lst h1 h2 => exact .lst (e.seq h1) (dpAll_same e ds _ h2)
  | .tuple ds, _, h => by
    cases h with
    | tup h1 h2 => exact .tup (sqT_same e h1) (dpAll_same e ds _ h2)
  | .dict _, _, h => by cases h
theorem dpAll_same (e : Same H H') : ∀ (ds : List D) (vs : List V), DpAll K H vs ds → DpAll K H' vs ds
  | [], _, h => by cases h; exact .nil
  | d :: ds, _, h => by
    cases h with
    | cons h1 h2 => exact .cons (dp_same e d _ h1) (dpAll_same e ds _ h2)
end
theorem dpAll_len : ∀ {ds : List D} {vs : List V}, DpAll K H vs ds → vs.length = ds.length
  | [], _, h => by cases h; rfl
  | d :: ds, _, h => by
    cases h with
    | cons h1 h2 => simp [dpAll_len h2]
theorem dpAll_get : ∀ {ds : List D} {vs : List V} {i : Nat} {d : D}, DpAll K H vs ds → ds[i]? = some d → ∃ v, vs[i]? = some v ∧ Dp K H v d
  | [], _, i, d, h, e => by simp at e
  | x :: ds, _, 0, d, h, e => by
    cases h with
    | cons h1 h2 =>
      simp at e
      subst e
      exact ⟨_, rfl, h1⟩
  | x :: ds, _, i + 1, d, h, e => by
    cases h with
    | cons h1 h2 =>
      obtain ⟨v, q1, q2⟩ := dpAll_get (i := i) h2 (by simpa using e)
      exact ⟨v, by simpa using q1, q2⟩
theorem dpAll_append : ∀ {ds es : List D} {vs ws : List V}, DpAll K H vs ds → DpAll K H ws es → DpAll K H (vs ++ ws) (ds ++ es)
  | [], _, _, _, h, q => by cases h; exact q
  | d :: ds, _, _, _, h, q => by
    cases h with
    | cons h1 h2 => exact .cons h1 (dpAll_append h2 q)
theorem dpAll_set : ∀ {ds : List D} {vs : List V} (i : Nat) {v : V} {d : D}, DpAll K H vs ds → Dp K H v d → DpAll K H (vs.set i v) (ds.set i d)
  | [], _, _, _, _, h, _ => by cases h; exact .nil
  | x :: ds, _, 0, _, _, h, q => by
    cases h with
    | cons h1 h2 => exact .cons q h2
  | x :: ds, _, i + 1, _, _, h, q => by
    cases h with
    | cons h1 h2 => exact .cons h1 (dpAll_set i h2 q)
theorem dpAll_take : ∀ {ds : List D} {vs : List V} (n : Nat), DpAll K H vs ds → DpAll K H (vs.take n) (ds.take n)
  | _, _, 0, h => .nil
  | [], _, n + 1, h => by cases h; exact .nil
  | d :: ds, _, n + 1, h => by
    cases h with
    | cons h1 h2 => exact .cons h1 (dpAll_take n h2)
theorem dpAll_drop : ∀ {ds : List D} {vs : List V} (n : Nat), DpAll K H vs ds → DpAll K H (vs.drop n) (ds.drop n)
  | _, _, 0, h => h
  | [], _, n + 1, h => by cases h; exact .nil
  | d :: ds, _, n + 1, h => by
    cases h with
    | cons h1 h2 => exact dpAll_drop n h2
theorem dp_int {i : Int} {v : V} (h : Dp K H v (.int i)) : v = .int i := by cases h; rfl
theorem dp_bool {b : Bool} {v : V} (h : Dp K H v (.bool b)) : v = .bl b := by cases h; rfl
theorem dp_none {v : V} (h : Dp K H v .none) : v = .non := by cases h; rfl
theorem dp_str {x : Str} {v : V} (h : Dp K H v (.str x)) : v = .str x := by cases h; rfl
theorem dp_tup {ds : List D} {v : V} (h : Dp K H v (.tuple ds)) : ∃ a xs, v = .ref a ∧ SqT K H a xs ∧ DpAll K H xs ds := by
  cases h with
  | tup h1 h2 => exact ⟨_, _, rfl, h1, h2⟩
theorem dp_lst {ds : List D} {v : V} (h : Dp K H v (.list ds)) : ∃ a xs, v = .ref a ∧ SqL K H a xs ∧ DpAll K H xs ds := by
  cases h with
  | lst h1 h2 => exact ⟨_, _, rfl, h1, h2⟩
theorem dpAll_ints : ∀ {ns : List Int} {vs : List V}, DpAll K H vs (ns.map PyData.int) → vs = ns.map V.int
  | [], _, h => by cases h; rfl
  | n :: ns, _, h => by
    cases h with
    | cons h1 h2 => rw [dp_int h1, dpAll_ints h2]; rfl
theorem dpAll_ofInts : ∀ (ns : List Int), DpAll K H (ns.map V.int) (ns.map PyData.int)
  | [] => .nil
  | n :: ns => .cons (.int n) (dpAll_ofInts ns)
end

theorem ne_none_of {α : Type} {x : Option α} {y : α} (h : x = some y) : x ≠ none := by rw [h]; exact fun e => nomatch e

structure Fx where
  F : Hp
  G0 : Hp
  pins : List Addr

structure Rel (K : PySem.W.Frag) (f : Fx) (G H : Hp) (σ : L2.St) (ρ : Env) : Prop where
  len : σ.length = ρ.length
  gh : Same G H
  fh : Same f.F H
  g0 : Same f.G0 G
  gf : ∀ a, f.F a ≠ none → G a ≠ none → f.G0 a ≠ none
  pin : ∀ (i : Nat) (b : Addr), f.pins[i]? = some b → σ[i]? = some (some (V.ref b)) ∧ ∃ xs, ρ[i]? = some (some (S.o xs))
  dat : ∀ (i : Nat) (d : D), ρ[i]? = some (some (S.d d)) → ∃ v, σ[i]? = some (some v) ∧ Dp K G v d
  own : ∀ (i : Nat) (xs : List D), ρ[i]? = some (some (S.o xs)) → ∃ p vs, σ[i]? = some (some (V.ref p)) ∧ H p = some (HO.lst vs) ∧ DpAll K G vs xs ∧ G p = none ∧ f.F p = none
  inj : ∀ (i j : Nat) (p : Addr) (xs ys : List D), ρ[i]? = some (some (S.o xs)) → ρ[j]? = some (some (S.o ys)) → σ[i]? = some (some (V.ref p)) → σ[j]? = some (some (V.ref p)) → i = j

def Grow (G H G' H' : Hp) : Prop := Same G G' ∧ Same H H' ∧ Same G' H' ∧ ∀ a, G' a ≠ none → G a ≠ none ∨ H a = none

section
variable {K : PySem.W.Frag} {f : Fx} {G H G' H' G'' H'' : Hp} {σ : L2.St} {ρ : Env}
theorem Grow.refl (e : Same G H) : Grow G H G H := ⟨.refl _, .refl _, e, fun _ h => .inl h⟩
theorem Grow.trans (x : Grow G H G' H') (y : Grow G' H' G'' H'') : Grow G H G'' H'' :=
  ⟨x.1.trans y.1, x.2.1.trans y.2.1, y.2.2.1, fun a h => by
    rcases y.2.2.2 a h with h | h
    · exact x.2.2.2 a h
    · exact .inr (x.2.1.free h)⟩
theorem same_new {H : Hp} {p : Addr} {o : HO} (h : H p = none) : Same H (upd H p o) := fun b x e => by
  rw [upd_ne (ne_of_none e h)]
  exact e
/-- a new object that is data from its birth -/
theorem Grow.data {p : Addr} {o : HO} (e : Same G H) (h : H p = none) : Grow G H (upd G p o) (upd H p o) := by
  have hg : G p = none := e.free h
  refine ⟨same_new hg, same_new h, fun b x q => ?_, fun b q => ?_⟩
  · by_cases hb : b = p
    · subst hb
      rw [upd_same] at q ⊢
      exact q
    · rw [upd_ne hb] at q ⊢
      exact e _ _ q
  · by_cases hb : b = p
    · subst hb
      exact .inr h
    · rw [upd_ne hb] at q
      exact .inl q
/-- a new object that is owned -/
theorem Grow.fresh {p : Addr} {o : HO} (e : Same G H) (h : H p = none) : Grow G H G (upd H p o) :=
  ⟨.refl _, same_new h, fun b x q => by
    rw [upd_ne (fun z => by subst z; rw [e.free h] at q; cases q)]
    exact e _ _ q, fun b q => .inl q⟩
theorem Rel.grow (r : Rel K f G H σ ρ) (g : Grow G H G' H') : Rel K f G' H' σ ρ where
  len := r.len
  gh := g.2.2.1
  fh := r.fh.trans g.2.1
  g0 := r.g0.trans g.1
  gf := fun a h1 h2 => by
    rcases g.2.2.2 a h2 with h | h
    · exact r.gf a h1 h
    · cases e : f.F a with
      | none => exact absurd e h1
      | some o =>
        rw [r.fh a o e] at h
        cases h
  pin := r.pin
  dat := fun i d h => by
    obtain ⟨v, h1, h2⟩ := r.dat i d h
    exact ⟨v, h1, dp_same g.1 _ _ h2⟩
  own := fun i xs h => by
    obtain ⟨p, vs, h1, h2, h3, h4, h5⟩ := r.own i xs h
    refine ⟨p, vs, h1, g.2.1 _ _ h2, dpAll_same g.1 _ _ h3, ?_, h5⟩
    cases e : G' p with
    | none => rfl
    | some o =>
      rcases g.2.2.2 p (ne_none_of e) with h | h
      · exact absurd h4 h
      · rw [h2] at h
        cases h
  inj := r.inj
end

def cont (ρ : Env) (i : Nat) : Option D :=
  match ρ[i]? with
  | some (some (S.d x)) => some x
  | some (some (S.o xs)) => some (.list xs)
  | _ => none
def opd (ρ : Env) : R → Option D
  | .d x => some x
  | .o xs => some (.list xs)
  | .b i => cont ρ i
def Got (K : PySem.W.Frag) (G H : Hp) (v : V) (d : D) : Prop :=
  Dp K G v d ∨ ∃ p vs xs, v = .ref p ∧ d = .list xs ∧ H p = some (HO.lst vs) ∧ DpAll K G vs xs
def Hold (K : PySem.W.Frag) (G : Hp) (σ : L2.St) (v : V) : R → Prop
  | .d x => Dp K G v x
  | .o xs => Dp K G v (.list xs)
  | .b i => σ[i]? = some (some v)
def VRep (K : PySem.W.Frag) (f : Fx) (G H : Hp) (σ : L2.St) (ρ : Env) (v : V) : R → Prop
  | .d x => Dp K G v x
  | .b i => σ[i]? = some (some v)
  | .o xs => ∃ p vs, v = .ref p ∧ H p = some (HO.lst vs) ∧ DpAll K G vs xs ∧ G p = none ∧ f.F p = none ∧ ∀ (i : Nat) (ys : List D), ρ[i]? = some (some (S.o ys)) → σ[i]? ≠ some (some (V.ref p))
def NewV (K : PySem.W.Frag) (H G' H' : Hp) (v : V) : R → Prop
  | .d x => Dp K G' v x
  | .o xs => ∃ p vs, v = .ref p ∧ H p = none ∧ H' p = some (HO.lst vs) ∧ DpAll K G' vs xs ∧ G' p = none
  | .b _ => False

section
variable {K : PySem.W.Frag} {f : Fx} {G H G' H' : Hp} {σ : L2.St} {ρ : Env} {v : V} {r : R} {d : D}
theorem Got.dp (e : Same G H) (h : Got K G H v d) : Dp K H v d := by
  rcases h with h | ⟨p, vs, xs, rfl, rfl, h1, h2⟩
  · exact dp_same e _ _ h
  · exact .lst (.inl (.inl h1)) (dpAll_same e _ _ h2)
theorem Got.lst {ds : List D} (e : Same G H) (h : Got K G H v (.list ds)) : ∃ a xs, v = .ref a ∧ SqL K H a xs ∧ DpAll K G xs ds := by
  rcases h with h | ⟨p, vs, xs, rfl, q, h1, h2⟩
  · obtain ⟨a, xs, rfl, h1, h2⟩ := dp_lst h
    exact ⟨a, xs, rfl, e.seq h1, h2⟩
  · cases q
    exact ⟨p, vs, rfl, .inl (.inl h1), h2⟩
theorem Got.tup {ds : List D} (e : Same G H) (h : Got K G H v (.tuple ds)) : ∃ a xs, v = .ref a ∧ SqT K H a xs ∧ DpAll K G xs ds := by
  rcases h with h | ⟨p, vs, xs, _, q, _⟩
  · obtain ⟨a, xs, rfl, h1, h2⟩ := dp_tup h
    exact ⟨a, xs, rfl, sqT_same e h1, h2⟩
  · cases q
theorem Got.int {i : Int} (h : Got K G H v (.int i)) : v = .int i := by
  rcases h with h | ⟨p, vs, xs, _, q, _⟩
  · exact dp_int h
  · cases q
theorem Got.bool {i : Bool} (h : Got K G H v (.bool i)) : v = .bl i := by
  rcases h with h | ⟨p, vs, xs, _, q, _⟩
  · exact dp_bool h
  · cases q
theorem Got.none (h : Got K G H v .none) : v = .non := by
  rcases h with h | ⟨p, vs, xs, _, q, _⟩
  · exact dp_none h
  · cases q
theorem Got.str {x : Str} (h : Got K G H v (.str x)) : v = .str x := by
  rcases h with h | ⟨p, vs, xs, _, q, _⟩
  · exact dp_str h
  · cases q
theorem Rel.got (r : Rel K f G H σ ρ) {i : Nat} (h : cont ρ i = some d) : ∃ v, σ[i]? = some (some v) ∧ Got K G H v d := by
  unfold cont at h
  split at h
  · next x e =>
    cases h
    obtain ⟨v, h1, h2⟩ := r.dat i _ e
    exact ⟨v, h1, .inl h2⟩
  · next xs e =>
    cases h
    obtain ⟨p, vs, h1, h2, h3, h4, h5⟩ := r.own i _ e
    exact ⟨_, h1, .inr ⟨p, vs, xs, rfl, rfl, h2, h3⟩⟩
  · cases h
theorem Hold.got (rl : Rel K f G H σ ρ) (h : Hold K G σ v r) (e : opd ρ r = some d) : Got K G H v d := by
  cases r with
  | d x => cases e; exact .inl h
  | o xs => cases e; exact .inl h
  | b i =>
    obtain ⟨u, h1, h2⟩ := rl.got (show cont ρ i = some d from e)
    have h3 : σ[i]? = some (some v) := h
    rw [h3] at h1
    cases h1
    exact h2
theorem Hold.same (e : Same G G') (h : Hold K G σ v r) : Hold K G' σ v r := by
  cases r with
  | d x => exact dp_same e _ _ h
  | o xs => exact dp_same e _ _ h
  | b i => exact h
/-- a fresh list becomes data -/
theorem VRep.hold (rl : Rel K f G H σ ρ) (h : VRep K f G H σ ρ v r) : ∃ G', Same G G' ∧ Rel K f G' H σ ρ ∧ Hold K G' σ v r := by
  cases r with
  | d x => exact ⟨G, .refl _, rl, h⟩
  | b i => exact ⟨G, .refl _, rl, h⟩
  | o xs =>
    obtain ⟨p, vs, rfl, h1, h2, h3, h4, h5⟩ := h
    have sm : Same G (upd G p (.lst vs)) := same_new h3
    refine ⟨upd G p (.lst vs), sm, ⟨rl.len, fun b x q => ?_, rl.fh, rl.g0.trans sm, fun a q1 q2 => ?_, rl.pin, fun i d q => ?_, fun i ys q => ?_, rl.inj⟩, ?_⟩
    · by_cases hb : b = p
      · subst hb
        rw [upd_same] at q
        cases q
        exact h1
      · rw [upd_ne hb] at q
        exact rl.gh _ _ q
    · by_cases hb : a = p
      · subst hb
        exact absurd h4 q1
      · rw [upd_ne hb] at q2
        exact rl.gf a q1 q2
    · obtain ⟨v, q1, q2⟩ := rl.dat i d q
      exact ⟨v, q1, dp_same sm _ _ q2⟩
    · obtain ⟨p', vs', q1, q2, q3, q4, q5⟩ := rl.own i ys q
      refine ⟨p', vs', q1, q2, dpAll_same sm _ _ q3, ?_, q5⟩
      rw [upd_ne]
      · exact q4
      · intro z
        subst z
        exact h5 i ys q q1
    · exact .lst (.inl (.inl upd_same)) (dpAll_same sm _ _ h2)
theorem NewV.vrep (rl : Rel K f G H σ ρ) (g : Grow G H G' H') (h : NewV K H G' H' v r) : VRep K f G' H' σ ρ v r := by
  cases r with
  | d x => exact h
  | b i => exact h.elim
  | o xs =>
    obtain ⟨p, vs, rfl, h1, h2, h3, h4⟩ := h
    refine ⟨p, vs, rfl, h2, h3, h4, rl.fh.free h1, fun i ys q z => ?_⟩
    obtain ⟨p', vs', q1, q2, _⟩ := rl.own i ys q
    rw [z] at q1
    cases q1
    rw [h1] at q2
    cases q2
end

/-! ### judgements -/
abbrev Wish := L2.St → Nat → Hp → Prop
section
variable (K : PySem.W.Frag) (P : Nat) (W : Wish)
def CE (f : Fx) (G : Hp) (σ : L2.St) (Q : VK) : Res R → Prop
  | .no => False
  | .ok r ρ => ∀ v G' H', Same G G' → Rel K f G' H' σ ρ → VRep K f G' H' σ ρ v r → Q v H'
  | .exc c ρ => ∀ G' H', Same G G' → Rel K f G' H' σ ρ → W σ c H'
def CO (f : Fx) (G : Hp) (σ : L2.St) (Q : VK) : Res R → Prop
  | .no => False
  | .ok r ρ => ∀ v G' H', Same G G' → Rel K f G' H' σ ρ → Hold K G' σ v r → Q v H'
  | .exc c ρ => ∀ G' H', Same G G' → Rel K f G' H' σ ρ → W σ c H'
def CT (f : Fx) (G : Hp) (σ : L2.St) (Q : Bool → Hp → Prop) : Res Bool → Prop
  | .no => False
  | .ok b ρ => ∀ G' H', Same G G' → Rel K f G' H' σ ρ → Q b H'
  | .exc c ρ => ∀ G' H', Same G G' → Rel K f G' H' σ ρ → W σ c H'
inductive HoldAll (G : Hp) (σ : L2.St) : List V → List R → Prop
  | nil : HoldAll G σ [] []
  | cons {v : V} {vs : List V} {r : R} {rs : List R} : Hold K G σ v r → HoldAll G σ vs rs → HoldAll G σ (v :: vs) (r :: rs)
def CA (f : Fx) (G : Hp) (σ : L2.St) (Q : List V → Hp → Prop) : Res (List R) → Prop
  | .no => False
  | .ok rs ρ => ∀ vs G' H', Same G G' → Rel K f G' H' σ ρ → HoldAll K G' σ vs rs → Q vs H'
  | .exc c ρ => ∀ G' H', Same G G' → Rel K f G' H' σ ρ → W σ c H'
def SimE (t : TE) (m : Env → Res R) : Prop := ∀ (f : Fx) (G H : Hp) (σ : L2.St) (ρ : Env) (Q : VK), f.pins.length = P → Rel K f G H σ ρ → CE K W f G σ Q (m ρ) → t σ H Q
def SimT (t : TT) (m : Env → Res Bool) : Prop := ∀ (f : Fx) (G H : Hp) (σ : L2.St) (ρ : Env) (Q : Bool → Hp → Prop), f.pins.length = P → Rel K f G H σ ρ → CT K W f G σ Q (m ρ) → t σ H Q
def SimA (t : TA) (m : Env → Res (List R)) : Prop := ∀ (f : Fx) (G H : Hp) (σ : L2.St) (ρ : Env) (Q : List V → Hp → Prop), f.pins.length = P → Rel K f G H σ ρ → CA K W f G σ Q (m ρ) → t σ H Q
end

section
variable {K : PySem.W.Frag} {P : Nat} {W : Wish} {f : Fx} {G H G' H' : Hp} {σ : L2.St} {ρ : Env} {ta tb te : TE} {ma mb me : Env → Res R}
theorem CE.same {Q : VK} {r : Res R} (e : Same G G') (h : CE K W f G σ Q r) : CE K W f G' σ Q r := by
  cases r with
  | no => exact h
  | ok x ρ => exact fun v G1 H1 s => h v G1 H1 (e.trans s)
  | exc c ρ => exact fun G1 H1 s => h G1 H1 (e.trans s)
theorem CO.same {Q : VK} {r : Res R} (e : Same G G') (h : CO K W f G σ Q r) : CO K W f G' σ Q r := by
  cases r with
  | no => exact h
  | ok x ρ => exact fun v G1 H1 s => h v G1 H1 (e.trans s)
  | exc c ρ => exact fun G1 H1 s => h G1 H1 (e.trans s)
theorem CT.same {Q : Bool → Hp → Prop} {r : Res Bool} (e : Same G G') (h : CT K W f G σ Q r) : CT K W f G' σ Q r := by
  cases r with
  | no => exact h
  | ok x ρ => exact fun G1 H1 s => h G1 H1 (e.trans s)
  | exc c ρ => exact fun G1 H1 s => h G1 H1 (e.trans s)
theorem CA.same {Q : List V → Hp → Prop} {r : Res (List R)} (e : Same G G') (h : CA K W f G σ Q r) : CA K W f G' σ Q r := by
  cases r with
  | no => exact h
  | ok x ρ => exact fun v G1 H1 s => h v G1 H1 (e.trans s)
  | exc c ρ => exact fun G1 H1 s => h G1 H1 (e.trans s)
/-- as an operand -/
theorem SimE.op (h : SimE K P W te me) {Q : VK} (hp : f.pins.length = P) (rl : Rel K f G H σ ρ) (hq : CO K W f G σ Q (me ρ)) : te σ H Q := by
  refine h f G H σ ρ Q hp rl ?_
  cases e : me ρ with
  | no => rw [e] at hq; exact hq
  | exc c ρ' => rw [e] at hq; exact hq
  | ok r ρ' =>
    rw [e] at hq
    intro v G1 H1 s1 r1 v1
    obtain ⟨G2, s2, r2, v2⟩ := v1.hold r1
    exact hq v G2 H1 (s1.trans s2) r2 v2
end

/-! ### names, constants -/
def mVar (i : Nat) : Env → Res R := fun ρ => match ρ[i]? with
  | some (some (S.d x)) => .ok (.d x) ρ
  | some (some (S.o _)) => .ok (.b i) ρ
  | _ => .no
def mC (x : D) : Env → Res R := fun ρ => .ok (.d x) ρ
inductive CV : V → D → Prop
  | non : CV .non .none
  | bl (b : Bool) : CV (.bl b) (.bool b)
  | int (i : Int) : CV (.int i) (.int i)
  | str (x : Str) : CV (.str x) (.str x)
theorem CV.dp {K : PySem.W.Frag} {G : Hp} {v : V} {d : D} (h : CV v d) : Dp K G v d := by
  cases h with
  | non => exact .non
  | bl b => exact .bl b
  | int i => exact .int i
  | str x => exact .str x
section
variable {K : PySem.W.Frag} {P : Nat} {W : Wish}
theorem sim_var {i : Nat} : SimE K P W (tVar i) (mVar i) := by
  intro f G H σ ρ Q hp rl hq
  unfold mVar at hq
  split at hq
  · next x e =>
    obtain ⟨v, h1, h2⟩ := rl.dat i _ e
    exact ⟨v, h1, hq v G H (.refl _) rl h2⟩
  · next xs e =>
    obtain ⟨p, vs, h1, h2, _⟩ := rl.own i _ e
    exact ⟨_, h1, hq _ G H (.refl _) rl h1⟩
  · exact hq.elim
theorem sim_c {v : V} {x : D} (h : CV v x) : SimE K P W (tC v) (mC x) := fun f G H σ ρ Q hp rl hq => hq v G H (.refl _) rl h.dp
end

/-! ### operators -/
def mUn (g : D → Option R) (ma : Env → Res R) : Env → Res R := fun ρ => (ma ρ).bind fun r1 ρ1 => match opd ρ1 r1 with
  | some x => (match g x with
    | some z => .ok z ρ1
    | none => .no)
  | none => .no
def mBin (g : D → D → Option R) (ma mb : Env → Res R) : Env → Res R := fun ρ => (ma ρ).bind fun r1 ρ1 => (mb ρ1).bind fun r2 ρ2 => match opd ρ2 r1, opd ρ2 r2 with
  | some x, some y => (match g x y with
    | some z => .ok z ρ2
    | none => .no)
  | _, _ => .no
def OpS (K : PySem.W.Frag) (r : R2) (g : D → D → Option R) : Prop := ∀ (G H : Hp) (x y : V) (d e : D) (z : R) (Q : VK), Same G H → Got K G H x d → Got K G H y e → g d e = some z →
  (∀ v G' H', Grow G H G' H' → NewV K H G' H' v z → Q v H') → r x y H Q
def UnS (K : PySem.W.Frag) (r : V → Hp → VK → Prop) (g : D → Option R) : Prop := ∀ (G H : Hp) (x : V) (d : D) (z : R) (Q : VK), Same G H → Got K G H x d → g d = some z →
  (∀ v G' H', Grow G H G' H' → NewV K H G' H' v z → Q v H') → r x H Q
section
variable {K : PySem.W.Frag} {P : Nat} {W : Wish} {ta tb : TE} {ma mb : Env → Res R}
theorem sim_op {r : R2} {g : D → D → Option R} (h : OpS K r g) (ha : SimE K P W ta ma) (hb : SimE K P W tb mb) : SimE K P W (tOp r ta tb) (mBin g ma mb) := by
  intro f G H σ ρ Q hp rl hq
  refine ha.op hp rl ?_
  unfold mBin at hq
  cases e1 : ma ρ with
  | no => rw [e1] at hq; exact hq
  | exc c ρ1 => rw [e1] at hq; exact hq
  | ok r1 ρ1 =>
    rw [e1] at hq
    intro v1 G1 H1 s1 rl1 h1
    refine hb.op hp rl1 ?_
    have hq : CE K W f G σ Q ((mb ρ1).bind fun r2 ρ2 => match opd ρ2 r1, opd ρ2 r2 with
      | some x, some y => (match g x y with
        | some z => .ok z ρ2
        | none => .no)
      | _, _ => .no) := hq
    cases e2 : mb ρ1 with
    | no => rw [e2] at hq; exact hq
    | exc c ρ2 => rw [e2] at hq; exact CE.same s1 hq
    | ok r2 ρ2 =>
      rw [e2] at hq
      intro v2 G2 H2 s2 rl2 h2
      have hq : CE K W f G σ Q (match opd ρ2 r1, opd ρ2 r2 with
        | some x, some y => (match g x y with
          | some z => .ok z ρ2
          | none => .no)
        | _, _ => .no) := hq
      split at hq
      · next x y ex ey =>
        split at hq
        · next z ez =>
          refine h G2 H2 v1 v2 x y z Q rl2.gh ((h1.same s2).got rl2 ex) (h2.got rl2 ey) ez fun v G3 H3 gr nv => ?_
          exact hq v G3 H3 ((s1.trans s2).trans gr.1) (rl2.grow gr) (nv.vrep rl2 gr)
        · exact hq.elim
      · exact hq.elim
theorem sim_un {r : V → Hp → VK → Prop} {g : D → Option R} (h : UnS K r g) (ha : SimE K P W ta ma) : SimE K P W (tUn r ta) (mUn g ma) := by
  intro f G H σ ρ Q hp rl hq
  refine ha.op hp rl ?_
  unfold mUn at hq
  cases e1 : ma ρ with
  | no => rw [e1] at hq; exact hq
  | exc c ρ1 => rw [e1] at hq; exact hq
  | ok r1 ρ1 =>
    rw [e1] at hq
    intro v1 G1 H1 s1 rl1 h1
    have hq : CE K W f G σ Q (match opd ρ1 r1 with
      | some x => (match g x with
        | some z => .ok z ρ1
        | none => .no)
      | none => .no) := hq
    split at hq
    · next x ex =>
      split at hq
      · next z ez =>
        refine h G1 H1 v1 x z Q rl1.gh (h1.got rl1 ex) ez fun v G3 H3 gr nv => ?_
        exact hq v G3 H3 (s1.trans gr.1) (rl1.grow gr) (nv.vrep rl1 gr)
      · exact hq.elim
    · exact hq.elim
end
end Z
namespace Z
open PySem L2

/-! ### tests -/
def mTest (me : Env → Res R) : Env → Res Bool := fun ρ => (me ρ).bind fun r ρ1 => match r with
  | .d (.bool k) => .ok k ρ1
  | _ => .no
def tru : D → Option Bool
  | .none => some false
  | .bool b => some b
  | .int i => some (i != 0)
  | .list xs => some (!xs.isEmpty)
  | .tuple xs => some (!xs.isEmpty)
  | _ => none
def mTru (me : Env → Res R) : Env → Res Bool := fun ρ => (me ρ).bind fun r ρ1 => match opd ρ1 r with
  | some x => (match tru x with
    | some b => .ok b ρ1
    | none => .no)
  | none => .no
def mNot (mt : Env → Res Bool) : Env → Res Bool := fun ρ => (mt ρ).bind fun b ρ1 => .ok (!b) ρ1
def mAnd (mt mu : Env → Res Bool) : Env → Res Bool := fun ρ => (mt ρ).bind fun b ρ1 => if b = true then mu ρ1 else .ok false ρ1
def mOr (mt mu : Env → Res Bool) : Env → Res Bool := fun ρ => (mt ρ).bind fun b ρ1 => if b = true then .ok true ρ1 else mu ρ1
def mYes : Env → Res Bool := fun ρ => .ok true ρ
def mNotV (ma : Env → Res R) : Env → Res R := fun ρ => (ma ρ).bind fun r ρ1 => match r with
  | .d (.bool k) => .ok (.d (.bool (!k))) ρ1
  | _ => .no
def mAndV (ma mb : Env → Res R) : Env → Res R := fun ρ => (ma ρ).bind fun r ρ1 => match r with
  | .d (.bool k) => if k = true then mb ρ1 else .ok (.d (.bool false)) ρ1
  | _ => .no
def mOrV (ma mb : Env → Res R) : Env → Res R := fun ρ => (ma ρ).bind fun r ρ1 => match r with
  | .d (.bool k) => if k = true then .ok (.d (.bool true)) ρ1 else mb ρ1
  | _ => .no
def mIf (mt : Env → Res Bool) (ma mb : Env → Res R) : Env → Res R := fun ρ => (mt ρ).bind fun b ρ1 => if b = true then ma ρ1 else mb ρ1
def zTru (K : PySem.W.Frag) (te : TE) : TT := fun σ H Q => te σ H fun x H' => ∃ k, TruV K x H' k ∧ Q k H'
theorem zpt_tru {X : Cx} {a : Expr} {ta : TE} (K : PySem.W.Frag) (ha : PE X a ta) (hK : X.K = K := by rfl) (he : ∀ whole, isTrue a X.env whole = (do let v ← whole; standAt a.pos; holding [v] (truthy v)) := by intro _; rfl) : PT X a (zTru K ta) := by
  subst hK
  exact pt_truth ha he

section
variable {K : PySem.W.Frag} {P : Nat} {W : Wish} {te ta tb : TE} {me ma mb : Env → Res R} {t u : TT} {mt mu : Env → Res Bool}
theorem dpAll_empty {G : Hp} {vs : List V} {ds : List D} (h : DpAll K G vs ds) : (!vs.isEmpty) = (!ds.isEmpty) := by
  cases h <;> rfl
theorem tru_got {G H : Hp} {v : V} {x : D} {b : Bool} (e : Same G H) (h : Got K G H v x) (ht : tru x = some b) : TruV K v H b := by
  cases x with
  | none => rw [h.none]; cases ht; exact rfl
  | bool k => rw [h.bool]; cases ht; exact rfl
  | int i => rw [h.int]; cases ht; exact rfl
  | str s => cases ht
  | list xs =>
    cases ht
    obtain ⟨a, vs, rfl, h1, h2⟩ := h.lst e
    exact .inl ⟨vs, h1, (dpAll_empty h2).symm⟩
  | tuple xs =>
    cases ht
    obtain ⟨a, vs, rfl, h1, h2⟩ := h.tup e
    exact .inr (.inl ⟨vs, h1, (dpAll_empty h2).symm⟩)
  | dict _ => cases ht
theorem sim_test (h : SimE K P W te me) : SimT K P W (tTest te) (mTest me) := by
  intro f G H σ ρ Q hp rl hq
  refine h.op hp rl ?_
  unfold mTest at hq
  cases e1 : me ρ with
  | no => rw [e1] at hq; exact hq
  | exc c ρ1 => rw [e1] at hq; exact hq
  | ok r1 ρ1 =>
    rw [e1] at hq
    intro v1 G1 H1 s1 rl1 h1
    cases r1 with
    | o xs => exact hq.elim
    | b i => exact hq.elim
    | d x =>
      cases x with
      | bool k =>
        have e : v1 = .bl k := dp_bool h1
        subst e
        exact ⟨k, rfl, hq G1 H1 s1 rl1⟩
      | _ => exact hq.elim
theorem sim_tru (h : SimE K P W te me) : SimT K P W (zTru K te) (mTru me) := by
  intro f G H σ ρ Q hp rl hq
  refine h.op hp rl ?_
  unfold mTru at hq
  cases e1 : me ρ with
  | no => rw [e1] at hq; exact hq
  | exc c ρ1 => rw [e1] at hq; exact hq
  | ok r1 ρ1 =>
    rw [e1] at hq
    intro v1 G1 H1 s1 rl1 h1
    have hq : CT K W f G σ Q (match opd ρ1 r1 with
      | some x => (match tru x with
        | some b => .ok b ρ1
        | none => .no)
      | none => .no) := hq
    split at hq
    · next x ex =>
      split at hq
      · next b eb => exact ⟨b, tru_got rl1.gh (h1.got rl1 ex) eb, hq G1 H1 s1 rl1⟩
      · exact hq.elim
    · exact hq.elim
theorem sim_yes : SimT K P W tYes mYes := fun f G H σ ρ Q hp rl hq => hq G H (.refl _) rl
theorem sim_not (h : SimT K P W t mt) : SimT K P W (tNot t) (mNot mt) := by
  intro f G H σ ρ Q hp rl hq
  refine h f G H σ ρ _ hp rl ?_
  unfold mNot at hq
  cases e1 : mt ρ with
  | no => rw [e1] at hq; exact hq
  | exc c ρ1 => rw [e1] at hq; exact hq
  | ok b ρ1 => rw [e1] at hq; exact hq
theorem sim_and (h : SimT K P W t mt) (h2 : SimT K P W u mu) : SimT K P W (tAnd t u) (mAnd mt mu) := by
  intro f G H σ ρ Q hp rl hq
  refine h f G H σ ρ _ hp rl ?_
  unfold mAnd at hq
  cases e1 : mt ρ with
  | no => rw [e1] at hq; exact hq
  | exc c ρ1 => rw [e1] at hq; exact hq
  | ok b ρ1 =>
    rw [e1] at hq
    intro G1 H1 s1 rl1
    cases b with
    | true =>
      rw [if_pos rfl]
      exact h2 f G1 H1 σ ρ1 Q hp rl1 (CT.same s1 hq)
    | false =>
      rw [if_neg Bool.false_ne_true]
      exact hq G1 H1 s1 rl1
theorem sim_or (h : SimT K P W t mt) (h2 : SimT K P W u mu) : SimT K P W (tOr t u) (mOr mt mu) := by
  intro f G H σ ρ Q hp rl hq
  refine h f G H σ ρ _ hp rl ?_
  unfold mOr at hq
  cases e1 : mt ρ with
  | no => rw [e1] at hq; exact hq
  | exc c ρ1 => rw [e1] at hq; exact hq
  | ok b ρ1 =>
    rw [e1] at hq
    intro G1 H1 s1 rl1
    cases b with
    | true =>
      rw [if_pos rfl]
      exact hq G1 H1 s1 rl1
    | false =>
      rw [if_neg Bool.false_ne_true]
      exact h2 f G1 H1 σ ρ1 Q hp rl1 (CT.same s1 hq)
theorem sim_if (h : SimT K P W t mt) (h1 : SimE K P W ta ma) (h2 : SimE K P W tb mb) : SimE K P W (tIf t ta tb) (mIf mt ma mb) := by
  intro f G H σ ρ Q hp rl hq
  refine h f G H σ ρ _ hp rl ?_
  unfold mIf at hq
  cases e1 : mt ρ with
  | no => rw [e1] at hq; exact hq
  | exc c ρ1 => rw [e1] at hq; exact hq
  | ok b ρ1 =>
    rw [e1] at hq
    intro G1 H1 s1 rl1
    cases b with
    | true =>
      rw [if_pos rfl]
      exact h1 f G1 H1 σ ρ1 Q hp rl1 (CE.same s1 hq)
    | false =>
      rw [if_neg Bool.false_ne_true]
      exact h2 f G1 H1 σ ρ1 Q hp rl1 (CE.same s1 hq)
theorem sim_notV (h : SimE K P W te me) : SimE K P W (tNotV te) (mNotV me) := by
  intro f G H σ ρ Q hp rl hq
  refine h.op hp rl ?_
  unfold mNotV at hq
  cases e1 : me ρ with
  | no => rw [e1] at hq; exact hq
  | exc c ρ1 => rw [e1] at hq; exact hq
  | ok r1 ρ1 =>
    rw [e1] at hq
    intro v1 G1 H1 s1 rl1 h1
    cases r1 with
    | o xs => exact hq.elim
    | b i => exact hq.elim
    | d x =>
      cases x with
      | bool k =>
        have e : v1 = .bl k := dp_bool h1
        subst e
        exact ⟨k, rfl, hq _ G1 H1 s1 rl1 (.bl _)⟩
      | _ => exact hq.elim
theorem sim_andV (h : SimE K P W ta ma) (h2 : SimE K P W tb mb) : SimE K P W (tAndV ta tb) (mAndV ma mb) := by
  intro f G H σ ρ Q hp rl hq
  refine h.op hp rl ?_
  unfold mAndV at hq
  cases e1 : ma ρ with
  | no => rw [e1] at hq; exact hq
  | exc c ρ1 => rw [e1] at hq; exact hq
  | ok r1 ρ1 =>
    rw [e1] at hq
    intro v1 G1 H1 s1 rl1 h1
    cases r1 with
    | o xs => exact hq.elim
    | b i => exact hq.elim
    | d x =>
      cases x with
      | bool k =>
        have e : v1 = .bl k := dp_bool h1
        subst e
        refine ⟨k, rfl, ?_⟩
        cases k with
        | true =>
          rw [if_pos rfl]
          exact h2 f G1 H1 σ ρ1 Q hp rl1 (CE.same s1 hq)
        | false =>
          rw [if_neg Bool.false_ne_true]
          exact hq _ G1 H1 s1 rl1 (.bl _)
      | _ => exact hq.elim
theorem sim_orV (h : SimE K P W ta ma) (h2 : SimE K P W tb mb) : SimE K P W (tOrV ta tb) (mOrV ma mb) := by
  intro f G H σ ρ Q hp rl hq
  refine h.op hp rl ?_
  unfold mOrV at hq
  cases e1 : ma ρ with
  | no => rw [e1] at hq; exact hq
  | exc c ρ1 => rw [e1] at hq; exact hq
  | ok r1 ρ1 =>
    rw [e1] at hq
    intro v1 G1 H1 s1 rl1 h1
    cases r1 with
    | o xs => exact hq.elim
    | b i => exact hq.elim
    | d x =>
      cases x with
      | bool k =>
        have e : v1 = .bl k := dp_bool h1
        subst e
        refine ⟨k, rfl, ?_⟩
        cases k with
        | true =>
          rw [if_pos rfl]
          exact hq _ G1 H1 s1 rl1 (.bl _)
        | false =>
          rw [if_neg Bool.false_ne_true]
          exact h2 f G1 H1 σ ρ1 Q hp rl1 (CE.same s1 hq)
      | _ => exact hq.elim
end

/-! ### making slots data; lists of operands -/
def frz1 (P : Nat) (ρ : Env) : R → Option Env
  | .b i => (match ρ[i]? with
    | some (some (S.o xs)) => if P ≤ i then some (ρ.set i (some (S.d (.list xs)))) else none
    | _ => some ρ)
  | _ => some ρ
def frzA (P : Nat) : List R → Env → Option Env
  | [], ρ => some ρ
  | r :: rs, ρ => (match frz1 P ρ r with
    | some ρ1 => frzA P rs ρ1
    | none => none)
def dopd (ρ : Env) : R → Option D
  | .d x => some x
  | .o xs => some (.list xs)
  | .b i => (match ρ[i]? with
    | some (some (S.d x)) => some x
    | _ => none)
def opds (ρ : Env) : List R → Option (List D)
  | [] => some []
  | r :: rs => (match opd ρ r, opds ρ rs with
    | some x, some xs => some (x :: xs)
    | _, _ => none)
def dopds (ρ : Env) : List R → Option (List D)
  | [] => some []
  | r :: rs => (match dopd ρ r, dopds ρ rs with
    | some x, some xs => some (x :: xs)
    | _, _ => none)
inductive GotAll (K : PySem.W.Frag) (G H : Hp) : List V → List D → Prop
  | nil : GotAll K G H [] []
  | cons {v : V} {vs : List V} {d : D} {ds : List D} : Got K G H v d → GotAll K G H vs ds → GotAll K G H (v :: vs) (d :: ds)
section
variable {K : PySem.W.Frag} {P : Nat} {W : Wish} {f : Fx} {G H G' H' : Hp} {σ : L2.St} {ρ ρ' : Env} {v : V} {r : R} {d : D} {vs : List V} {rs : List R} {ds : List D}
theorem Rel.freeze {i : Nat} {xs : List D} (rl : Rel K f G H σ ρ) (hp : f.pins.length = P) (hi : P ≤ i) (e : ρ[i]? = some (some (S.o xs))) : ∃ G', Same G G' ∧ Rel K f G' H σ (ρ.set i (some (S.d (.list xs)))) := by
  obtain ⟨p, vs, h1, h2, h3, h4, h5⟩ := rl.own i xs e
  have hil : i < ρ.length := (List.getElem?_eq_some_iff.mp e).1
  have sm : Same G (upd G p (.lst vs)) := same_new h4
  have own' : ∀ (j : Nat) (ys : List D), (ρ.set i (some (S.d (.list xs))))[j]? = some (some (S.o ys)) → j ≠ i ∧ ρ[j]? = some (some (S.o ys)) := by
    intro j ys q
    by_cases hj : i = j
    · subst hj
      rw [List.getElem?_set_self hil] at q
      cases q
    · rw [List.getElem?_set_ne hj] at q
      exact ⟨fun z => hj z.symm, q⟩
  refine ⟨upd G p (.lst vs), sm, ⟨by rw [List.length_set]; exact rl.len, fun b x q => ?_, rl.fh, rl.g0.trans sm, fun a q1 q2 => ?_, fun j b q => ?_, fun j d q => ?_, fun j ys q => ?_, fun j k p' ys zs q1 q2 q3 q4 => ?_⟩⟩
  · by_cases hb : b = p
    · subst hb
      rw [upd_same] at q
      cases q
      exact h2
    · rw [upd_ne hb] at q
      exact rl.gh _ _ q
  · by_cases hb : a = p
    · subst hb
      exact absurd h5 q1
    · rw [upd_ne hb] at q2
      exact rl.gf a q1 q2
  · have hj : j < P := by
      have := (List.getElem?_eq_some_iff.mp q).1
      omega
    obtain ⟨q1, ys, q2⟩ := rl.pin j b q
    exact ⟨q1, ys, by rw [List.getElem?_set_ne (by omega)]; exact q2⟩
  · by_cases hj : i = j
    · subst hj
      rw [List.getElem?_set_self hil] at q
      cases q
      exact ⟨_, h1, .lst (.inl (.inl upd_same)) (dpAll_same sm _ _ h3)⟩
    · rw [List.getElem?_set_ne hj] at q
      obtain ⟨v, q1, q2⟩ := rl.dat j d q
      exact ⟨v, q1, dp_same sm _ _ q2⟩
  · obtain ⟨hj, q⟩ := own' j ys q
    obtain ⟨p', vs', q1, q2, q3, q4, q5⟩ := rl.own j ys q
    refine ⟨p', vs', q1, q2, dpAll_same sm _ _ q3, ?_, q5⟩
    rw [upd_ne]
    · exact q4
    · intro z
      subst z
      exact hj (rl.inj j i p' ys xs q e q1 h1)
  · exact rl.inj j k p' ys zs (own' j ys q1).2 (own' k zs q2).2 q3 q4
theorem Rel.frz1 (rl : Rel K f G H σ ρ) (hp : f.pins.length = P) (e : frz1 P ρ r = some ρ') : ∃ G', Same G G' ∧ Rel K f G' H σ ρ' := by
  cases r with
  | d x => cases e; exact ⟨G, .refl _, rl⟩
  | o xs => cases e; exact ⟨G, .refl _, rl⟩
  | b i =>
    simp only [Z.frz1] at e
    split at e
    · next xs q =>
      split at e
      · next hi =>
        cases e
        exact rl.freeze hp hi q
      · cases e
    · cases e
      exact ⟨G, .refl _, rl⟩
theorem Rel.frzA (rl : Rel K f G H σ ρ) (hp : f.pins.length = P) (e : frzA P rs ρ = some ρ') : ∃ G', Same G G' ∧ Rel K f G' H σ ρ' := by
  induction rs generalizing ρ G with
  | nil => cases e; exact ⟨G, .refl _, rl⟩
  | cons r rs ih =>
    unfold Z.frzA at e
    split at e
    · next ρ1 q =>
      obtain ⟨G1, s1, rl1⟩ := rl.frz1 hp q
      obtain ⟨G2, s2, rl2⟩ := ih rl1 e
      exact ⟨G2, s1.trans s2, rl2⟩
    · cases e
theorem Hold.dat (rl : Rel K f G H σ ρ) (h : Hold K G σ v r) (e : dopd ρ r = some d) : Dp K G v d := by
  cases r with
  | d x => cases e; exact h
  | o xs => cases e; exact h
  | b i =>
    simp only [dopd] at e
    split at e
    · next x q =>
      cases e
      obtain ⟨u, q1, q2⟩ := rl.dat i _ q
      have h3 : σ[i]? = some (some v) := h
      rw [h3] at q1
      cases q1
      exact q2
    · cases e
theorem HoldAll.same (e : Same G G') (h : HoldAll K G σ vs rs) : HoldAll K G' σ vs rs := by
  induction h with
  | nil => exact .nil
  | cons h1 _ ih => exact .cons (h1.same e) ih
theorem HoldAll.got (rl : Rel K f G H σ ρ) (h : HoldAll K G σ vs rs) : ∀ {ds : List D}, opds ρ rs = some ds → GotAll K G H vs ds := by
  induction h with
  | nil => intro ds e; cases e; exact .nil
  | cons h1 _ ih =>
    intro ds e
    unfold opds at e
    split at e
    · next x xs q1 q2 =>
      cases e
      exact .cons (h1.got rl q1) (ih q2)
    · cases e
theorem HoldAll.dat (rl : Rel K f G H σ ρ) (h : HoldAll K G σ vs rs) : ∀ {ds : List D}, dopds ρ rs = some ds → DpAll K G vs ds := by
  induction h with
  | nil => intro ds e; cases e; exact .nil
  | cons h1 _ ih =>
    intro ds e
    unfold dopds at e
    split at e
    · next x xs q1 q2 =>
      cases e
      exact .cons (h1.dat rl q1) (ih q2)
    · cases e
theorem GotAll.dp (e : Same G H) (h : GotAll K G H vs ds) : DpAll K H vs ds := by
  induction h with
  | nil => exact .nil
  | cons h1 _ ih => exact .cons (h1.dp e) ih
end

/-! ### argument lists, displays -/
def mNil : Env → Res (List R) := fun ρ => .ok [] ρ
def mCons (ma : Env → Res R) (ms : Env → Res (List R)) : Env → Res (List R) := fun ρ => (ma ρ).bind fun r ρ1 => (ms ρ1).bind fun rs ρ2 => .ok (r :: rs) ρ2
def mTup (P : Nat) (ms : Env → Res (List R)) : Env → Res R := fun ρ => (ms ρ).bind fun rs ρ1 => match frzA P rs ρ1 with
  | some ρ2 => (match dopds ρ2 rs with
    | some ds => if ds.length ≤ 1000 then .ok (.d (.tuple ds)) ρ2 else .no
    | none => .no)
  | none => .no
def mLst (P : Nat) (ms : Env → Res (List R)) : Env → Res R := fun ρ => (ms ρ).bind fun rs ρ1 => match frzA P rs ρ1 with
  | some ρ2 => (match dopds ρ2 rs with
    | some ds => if ds.length ≤ 1000 then .ok (.o ds) ρ2 else .no
    | none => .no)
  | none => .no
theorem line1000 {n : Nat} (h : n ≤ 1000) : n ≤ sizeLine := Nat.le_trans h (by decide)
section
variable {K : PySem.W.Frag} {P : Nat} {W : Wish} {ta te : TE} {ts : TA} {ma me : Env → Res R} {ms : Env → Res (List R)}
theorem sim_nil : SimA K P W tNil mNil := fun f G H σ ρ Q hp rl hq => hq [] G H (.refl _) rl .nil
theorem sim_cons (ha : SimE K P W ta ma) (hs : SimA K P W ts ms) : SimA K P W (tCons ta ts) (mCons ma ms) := by
  intro f G H σ ρ Q hp rl hq
  refine ha.op hp rl ?_
  unfold mCons at hq
  cases e1 : ma ρ with
  | no => rw [e1] at hq; exact hq
  | exc c ρ1 => rw [e1] at hq; exact hq
  | ok r1 ρ1 =>
    rw [e1] at hq
    intro v1 G1 H1 s1 rl1 h1
    refine hs f G1 H1 σ ρ1 _ hp rl1 ?_
    have hq : CA K W f G σ Q ((ms ρ1).bind fun rs ρ2 => .ok (r1 :: rs) ρ2) := hq
    cases e2 : ms ρ1 with
    | no => rw [e2] at hq; exact hq
    | exc c ρ2 => rw [e2] at hq; exact CA.same s1 hq
    | ok rs ρ2 =>
      rw [e2] at hq
      intro vs G2 H2 s2 rl2 h2
      exact hq (v1 :: vs) G2 H2 (s1.trans s2) rl2 (.cons (h1.same s2) h2)
theorem sim_tup (h : SimA K P W ts ms) : SimE K P W (tTup ts) (mTup P ms) := by
  intro f G H σ ρ Q hp rl hq
  refine h f G H σ ρ _ hp rl ?_
  unfold mTup at hq
  cases e1 : ms ρ with
  | no => rw [e1] at hq; exact hq
  | exc c ρ1 => rw [e1] at hq; exact hq
  | ok rs ρ1 =>
    rw [e1] at hq
    intro vs G1 H1 s1 rl1 h1
    have hq : CE K W f G σ Q (match frzA P rs ρ1 with
      | some ρ2 => (match dopds ρ2 rs with
        | some ds => if ds.length ≤ 1000 then .ok (.d (.tuple ds)) ρ2 else .no
        | none => .no)
      | none => .no) := hq
    split at hq
    · next ρ2 e2 =>
      split at hq
      · next ds e3 =>
        split at hq
        · next hl =>
          obtain ⟨G2, s2, rl2⟩ := rl1.frzA hp e2
          have hd : DpAll K G2 vs ds := (h1.same s2).dat rl2 e3
          refine ⟨line1000 (by rw [dpAll_len hd]; exact hl), fun p np => ?_⟩
          have gr := Grow.data (o := HO.tup vs) rl2.gh np
          exact hq _ _ _ ((s1.trans s2).trans gr.1) (rl2.grow gr) (.tup (.inl (.inl upd_same)) (dpAll_same gr.1 _ _ hd))
        · exact hq.elim
      · exact hq.elim
    · exact hq.elim
theorem sim_lst (h : SimA K P W ts ms) : SimE K P W (tLst ts) (mLst P ms) := by
  intro f G H σ ρ Q hp rl hq
  refine h f G H σ ρ _ hp rl ?_
  unfold mLst at hq
  cases e1 : ms ρ with
  | no => rw [e1] at hq; exact hq
  | exc c ρ1 => rw [e1] at hq; exact hq
  | ok rs ρ1 =>
    rw [e1] at hq
    intro vs G1 H1 s1 rl1 h1
    have hq : CE K W f G σ Q (match frzA P rs ρ1 with
      | some ρ2 => (match dopds ρ2 rs with
        | some ds => if ds.length ≤ 1000 then .ok (.o ds) ρ2 else .no
        | none => .no)
      | none => .no) := hq
    split at hq
    · next ρ2 e2 =>
      split at hq
      · next ds e3 =>
        split at hq
        · next hl =>
          obtain ⟨G2, s2, rl2⟩ := rl1.frzA hp e2
          have hd : DpAll K G2 vs ds := (h1.same s2).dat rl2 e3
          refine ⟨line1000 (by rw [dpAll_len hd]; exact hl), fun p np => ?_⟩
          have gr := Grow.fresh (o := HO.lst vs) rl2.gh np
          have nv : NewV K H1 G2 (upd H1 p (.lst vs)) (.ref p) (.o ds) := ⟨p, vs, rfl, np, upd_same, hd, rl2.gh.free np⟩
          exact hq _ _ _ (s1.trans s2) (rl2.grow gr) (nv.vrep rl2 gr)
        · exact hq.elim
      · exact hq.elim
    · exact hq.elim
end

/-! ### calls of what is built in -/
def mCB (g : List D → Option R) (ms : Env → Res (List R)) : Env → Res R := fun ρ => (ms ρ).bind fun rs ρ1 => match opds ρ1 rs with
  | some ds => (match g ds with
    | some z => .ok z ρ1
    | none => .no)
  | none => .no
def CallS (K : PySem.W.Frag) (r : List V → Hp → VK → Prop) (g : List D → Option R) : Prop := ∀ (G H : Hp) (xs : List V) (ds : List D) (z : R) (Q : VK), Same G H → GotAll K G H xs ds → g ds = some z →
  (∀ v G' H', Grow G H G' H' → NewV K H G' H' v z → Q v H') → r xs H Q
theorem sim_cb {K : PySem.W.Frag} {P : Nat} {W : Wish} {r : List V → Hp → VK → Prop} {g : List D → Option R} {ts : TA} {ms : Env → Res (List R)} (hr : CallS K r g) (h : SimA K P W ts ms) : SimE K P W (tCB r ts) (mCB g ms) := by
  intro f G H σ ρ Q hp rl hq
  refine h f G H σ ρ _ hp rl ?_
  unfold mCB at hq
  cases e1 : ms ρ with
  | no => rw [e1] at hq; exact hq
  | exc c ρ1 => rw [e1] at hq; exact hq
  | ok rs ρ1 =>
    rw [e1] at hq
    intro vs G1 H1 s1 rl1 h1
    have hq : CE K W f G σ Q (match opds ρ1 rs with
      | some ds => (match g ds with
        | some z => .ok z ρ1
        | none => .no)
      | none => .no) := hq
    split at hq
    · next ds e2 =>
      split at hq
      · next z ez =>
        refine hr G1 H1 vs ds z Q rl1.gh (h1.got rl1 e2) ez fun v G3 H3 gr nv => ?_
        exact hq v G3 H3 (s1.trans gr.1) (rl1.grow gr) (nv.vrep rl1 gr)
      · exact hq.elim
    · exact hq.elim
/-- a chain of two comparisons -/
def mChain (g g' : D → D → Option R) (ma mb mc : Env → Res R) : Env → Res R := fun ρ => (ma ρ).bind fun r1 ρ1 => (mb ρ1).bind fun r2 ρ2 => match opd ρ2 r1, opd ρ2 r2 with
  | some x, some y => (match g x y with
    | some (.d (.bool k)) => if k = true then (mc ρ2).bind fun r3 ρ3 => (match opd ρ3 r2, opd ρ3 r3 with
        | some y', some z => (match g' y' z with
          | some w => .ok w ρ3
          | none => .no)
        | _, _ => .no) else .ok (.d (.bool false)) ρ2
    | _ => .no)
  | _, _ => .no
theorem sim_chain {K : PySem.W.Frag} {P : Nat} {W : Wish} {ta tb tc : TE} {ma mb mc : Env → Res R} {r r' : R2} {g g' : D → D → Option R} (h : OpS K r g) (h' : OpS K r' g') (ha : SimE K P W ta ma) (hb : SimE K P W tb mb) (hc : SimE K P W tc mc) :
    SimE K P W (tChain r r' ta tb tc) (mChain g g' ma mb mc) := by
  intro f G H σ ρ Q hp rl hq
  refine ha.op hp rl ?_
  unfold mChain at hq
  cases e1 : ma ρ with
  | no => rw [e1] at hq; exact hq
  | exc c ρ1 => rw [e1] at hq; exact hq
  | ok r1 ρ1 =>
    rw [e1] at hq
    intro v1 G1 H1 s1 rl1 h1
    refine hb.op hp rl1 ?_
    simp only [Res.bind] at hq
    cases e2 : mb ρ1 with
    | no => rw [e2] at hq; exact hq
    | exc c ρ2 => rw [e2] at hq; exact CE.same s1 hq
    | ok r2 ρ2 =>
      rw [e2] at hq
      intro v2 G2 H2 s2 rl2 h2
      simp only at hq
      split at hq
      · next x y ex ey =>
        split at hq
        · next k ek =>
          refine h G2 H2 v1 v2 x y _ _ rl2.gh ((h1.same s2).got rl2 ex) (h2.got rl2 ey) ek fun v G3 H3 gr nv => ?_
          have ev : v = .bl k := dp_bool nv
          subst ev
          refine ⟨k, rfl, ?_⟩
          have rl3 := rl2.grow gr
          cases k with
          | false =>
            rw [if_neg Bool.false_ne_true]
            exact hq _ G3 H3 ((s1.trans s2).trans gr.1) rl3 (.bl _)
          | true =>
            rw [if_pos rfl]
            rw [if_pos rfl] at hq
            refine hc.op hp rl3 ?_
            have s3 := (s1.trans s2).trans gr.1
            cases e3 : mc ρ2 with
            | no => rw [e3] at hq; exact hq
            | exc c ρ3 => rw [e3] at hq; exact CE.same s3 hq
            | ok r3 ρ3 =>
              rw [e3] at hq
              intro v3 G4 H4 s4 rl4 h4
              simp only at hq
              split at hq
              · next y' z ey' ez =>
                split at hq
                · next w ew =>
                  refine h' G4 H4 v2 v3 y' z w Q rl4.gh ((h2.same (gr.1.trans s4)).got rl4 ey') (h4.got rl4 ez) ew fun v G5 H5 gr5 nv5 => ?_
                  exact hq v G5 H5 ((s3.trans s4).trans gr5.1) (rl4.grow gr5) (nv5.vrep rl4 gr5)
                · exact hq.elim
              · exact hq.elim
        · exact hq.elim
      · exact hq.elim
end Z
namespace Z
open PySem L2

/-! ### statements -/
def RRep (K : PySem.W.Frag) (f : Fx) (G H : Hp) (v : V) : S → Prop
  | .d x => Dp K G v x
  | .o xs => ∃ p vs, v = .ref p ∧ H p = some (HO.lst vs) ∧ DpAll K G vs xs ∧ G p = none ∧ f.F p = none ∧ ∀ (i : Nat) (b : Addr), f.pins[i]? = some b → p ≠ b
def CS (K : PySem.W.Frag) (W : Wish) (f : Fx) (G : Hp) (D : Ends) : Out → Prop
  | .no => False
  | .nx ρ => ∀ G' H' σ', Same G G' → Rel K f G' H' σ' ρ → D.nx σ' H'
  | .rt s ρ => ∀ v G' H' σ', Same G G' → Rel K f G' H' σ' ρ → RRep K f G' H' v s → D.rt v H'
  | .bk ρ => ∀ G' H' σ', Same G G' → Rel K f G' H' σ' ρ → D.bk σ' H'
  | .ct ρ => ∀ G' H' σ', Same G G' → Rel K f G' H' σ' ρ → D.ct σ' H'
  | .exc c ρ => ∀ G' H' σ', Same G G' → Rel K f G' H' σ' ρ → W σ' c H'
def SimS (K : PySem.W.Frag) (P : Nat) (W : Wish) (t : TS) (m : Env → Out) : Prop := ∀ (f : Fx) (G H : Hp) (σ : L2.St) (ρ : Env) (D : Ends), f.pins.length = P → Rel K f G H σ ρ → CS K W f G D (m ρ) → t D σ H

def mSeq (ms mt : Env → Out) : Env → Out := fun ρ => match ms ρ with
  | .nx ρ1 => mt ρ1
  | o => o
def mNext : Env → Out := fun ρ => .nx ρ
def mBrk : Env → Out := fun ρ => .bk ρ
def mCt : Env → Out := fun ρ => .ct ρ
def mDrop (me : Env → Res R) : Env → Out := fun ρ => match me ρ with
  | .ok _ ρ1 => .nx ρ1
  | .exc c ρ1 => .exc c ρ1
  | .no => .no
def mRet (P : Nat) (me : Env → Res R) : Env → Out := fun ρ => match me ρ with
  | .ok (.d x) ρ1 => .rt (.d x) ρ1
  | .ok (.o xs) ρ1 => .rt (.o xs) ρ1
  | .ok (.b i) ρ1 => (match ρ1[i]? with
    | some (some (S.d x)) => .rt (.d x) ρ1
    | some (some (S.o xs)) => if P ≤ i then .rt (.o xs) (ρ1.set i none) else .no
    | _ => .no)
  | .exc c ρ1 => .exc c ρ1
  | .no => .no
def mIfS (mt : Env → Res Bool) (m1 m2 : Env → Out) : Env → Out := fun ρ => match mt ρ with
  | .ok b ρ1 => if b = true then m1 ρ1 else m2 ρ1
  | .exc c ρ1 => .exc c ρ1
  | .no => .no
def mAsg (P i : Nat) (me : Env → Res R) : Env → Out := fun ρ => match me ρ with
  | .ok (.d x) ρ1 => .nx (ρ1.set i (some (.d x)))
  | .ok (.o xs) ρ1 => .nx (ρ1.set i (some (.o xs)))
  | .ok (.b j) ρ1 => (match frz1 P ρ1 (.b j) with
    | some ρ2 => (match dopd ρ2 (.b j) with
      | some x => .nx (ρ2.set i (some (.d x)))
      | none => .no)
    | none => .no)
  | .exc c ρ1 => .exc c ρ1
  | .no => .no
def mAug (i : Nat) (g : D → D → Option R) (me : Env → Res R) : Env → Out := fun ρ => match ρ[i]? with
  | some (some (S.d x)) => (match me ρ with
    | .ok r ρ1 => (match opd ρ1 r with
      | some y => (match g x y with
        | some (.d z) => .nx (ρ1.set i (some (.d z)))
        | some (.o zs) => .nx (ρ1.set i (some (.o zs)))
        | _ => .no)
      | none => .no)
    | .exc c ρ1 => .exc c ρ1
    | .no => .no)
  | _ => .no
/-- a method that changes the list of a slot -/
def mMut (P j : Nat) (g : List D → List D → Option (List D)) (ms : Env → Res (List R)) : Env → Out := fun ρ => match ρ[j]? with
  | some (some (S.o _)) => (match ms ρ with
    | .ok rs ρ1 => (match frzA P rs ρ1 with
      | some ρ2 => (match dopds ρ2 rs, ρ2[j]? with
        | some ds, some (some (S.o xs)) => (match g xs ds with
          | some ys => .nx (ρ2.set j (some (S.o ys)))
          | none => .no)
        | _, _ => .no)
      | none => .no)
    | .exc c ρ1 => .exc c ρ1
    | .no => .no)
  | _ => .no
/-- xs[i] = e of a slot's list -/
def mSetI (P j : Nat) (me mi : Env → Res R) : Env → Out := fun ρ => match me ρ with
  | .ok r ρ1 => (match frz1 P ρ1 r with
    | some ρ2 => (match ρ2[j]? with
      | some (some (S.o _)) => (match mi ρ2 with
        | .ok (.d (.int k)) ρ3 => (match dopd ρ3 r, ρ3[j]? with
          | some x, some (some (S.o xs)) => (match ixN xs.length k with
            | some n => .nx (ρ3.set j (some (S.o (xs.set n x))))
            | none => .no)
          | _, _ => .no)
        | .exc c ρ3 => .exc c ρ3
        | _ => .no)
      | _ => .no)
    | none => .no)
  | .exc c ρ1 => .exc c ρ1
  | .no => .no

section
variable {K : PySem.W.Frag} {P : Nat} {W : Wish} {f : Fx} {G H G' H' : Hp} {σ : L2.St} {ρ ρ' : Env} {v : V} {r : R} {d : D} {vs : List V} {rs : List R} {ds : List D}
theorem CS.same {D : Ends} {o : Out} (e : Same G G') (h : CS K W f G D o) : CS K W f G' D o := by
  cases o with
  | no => exact h
  | nx ρ => exact fun G1 H1 σ1 s => h G1 H1 σ1 (e.trans s)
  | rt s ρ => exact fun v G1 H1 σ1 s => h v G1 H1 σ1 (e.trans s)
  | bk ρ => exact fun G1 H1 σ1 s => h G1 H1 σ1 (e.trans s)
  | ct ρ => exact fun G1 H1 σ1 s => h G1 H1 σ1 (e.trans s)
  | exc c ρ => exact fun G1 H1 σ1 s => h G1 H1 σ1 (e.trans s)
/-- a slot is forgotten -/
theorem Rel.forget (rl : Rel K f G H σ ρ) (hp : f.pins.length = P) {i : Nat} (hi : P ≤ i) : Rel K f G H σ (ρ.set i none) := by
  have out : ∀ (j : Nat) (s : S), (ρ.set i none)[j]? = some (some s) → ρ[j]? = some (some s) := by
    intro j s q
    by_cases hj : i = j
    · subst hj
      by_cases hil : i < ρ.length
      · rw [List.getElem?_set_self hil] at q
        cases q
      · rw [List.getElem?_eq_none (by rw [List.length_set]; omega)] at q
        cases q
    · rw [List.getElem?_set_ne hj] at q
      exact q
  refine ⟨by rw [List.length_set]; exact rl.len, rl.gh, rl.fh, rl.g0, rl.gf, fun j b q => ?_, fun j d q => rl.dat j d (out _ _ q), fun j xs q => rl.own j xs (out _ _ q), fun j k p xs ys q1 q2 => rl.inj j k p xs ys (out _ _ q1) (out _ _ q2)⟩
  have hj : j < P := by
    have := (List.getElem?_eq_some_iff.mp q).1
    omega
  obtain ⟨q1, ys, q2⟩ := rl.pin j b q
  exact ⟨q1, ys, by rw [List.getElem?_set_ne (by omega)]; exact q2⟩
/-- a name gets data -/
theorem Rel.putD (rl : Rel K f G H σ ρ) (hp : f.pins.length = P) {i : Nat} (hi : P ≤ i) (h : Dp K G v d) : Rel K f G H (σ.set i (some v)) (ρ.set i (some (.d d))) := by
  by_cases hil : i < ρ.length
  · have his : i < σ.length := by rw [rl.len]; exact hil
    have out : ∀ (j : Nat) (xs : List D), (ρ.set i (some (.d d)))[j]? = some (some (S.o xs)) → i ≠ j ∧ ρ[j]? = some (some (S.o xs)) := by
      intro j s q
      by_cases hj : i = j
      · subst hj
        rw [List.getElem?_set_self hil] at q
        cases q
      · rw [List.getElem?_set_ne hj] at q
        exact ⟨hj, q⟩
    refine ⟨by rw [List.length_set, List.length_set]; exact rl.len, rl.gh, rl.fh, rl.g0, rl.gf, fun j b q => ?_, fun j x q => ?_, fun j xs q => ?_, fun j k p xs ys q1 q2 q3 q4 => ?_⟩
    · have hj : j < P := by
        have := (List.getElem?_eq_some_iff.mp q).1
        omega
      obtain ⟨q1, ys, q2⟩ := rl.pin j b q
      exact ⟨by rw [List.getElem?_set_ne (by omega)]; exact q1, ys, by rw [List.getElem?_set_ne (by omega)]; exact q2⟩
    · by_cases hj : i = j
      · subst hj
        rw [List.getElem?_set_self hil] at q
        cases q
        exact ⟨v, List.getElem?_set_self his, h⟩
      · rw [List.getElem?_set_ne hj] at q ⊢
        exact rl.dat j x q
    · obtain ⟨hj, q⟩ := out j xs q
      rw [List.getElem?_set_ne hj]
      exact rl.own j xs q
    · obtain ⟨h1, q1⟩ := out j xs q1
      obtain ⟨h2, q2⟩ := out k ys q2
      rw [List.getElem?_set_ne h1] at q3
      rw [List.getElem?_set_ne h2] at q4
      exact rl.inj j k p xs ys q1 q2 q3 q4
  · rw [List.set_eq_of_length_le (by rw [rl.len]; omega), List.set_eq_of_length_le (by omega)]
    exact rl
/-- a name gets a list that nobody else has -/
theorem Rel.putO (rl : Rel K f G H σ ρ) (hp : f.pins.length = P) {i : Nat} (hi : P ≤ i) {p : Addr} {xs : List D} (h1 : H p = some (.lst vs)) (h2 : DpAll K G vs xs) (h3 : G p = none) (h4 : f.F p = none)
    (h5 : ∀ (i : Nat) (ys : List D), ρ[i]? = some (some (S.o ys)) → σ[i]? ≠ some (some (V.ref p))) : Rel K f G H (σ.set i (some (.ref p))) (ρ.set i (some (.o xs))) := by
  by_cases hil : i < ρ.length
  · have his : i < σ.length := by rw [rl.len]; exact hil
    have out : ∀ (j : Nat) (ys : List D), (ρ.set i (some (.o xs)))[j]? = some (some (S.o ys)) → (i = j ∧ xs = ys) ∨ (i ≠ j ∧ ρ[j]? = some (some (S.o ys))) := by
      intro j s q
      by_cases hj : i = j
      · subst hj
        rw [List.getElem?_set_self hil] at q
        cases q
        exact .inl ⟨rfl, rfl⟩
      · rw [List.getElem?_set_ne hj] at q
        exact .inr ⟨hj, q⟩
    refine ⟨by rw [List.length_set, List.length_set]; exact rl.len, rl.gh, rl.fh, rl.g0, rl.gf, fun j b q => ?_, fun j x q => ?_, fun j ys q => ?_, fun j k p' ys zs q1 q2 q3 q4 => ?_⟩
    · have hj : j < P := by
        have := (List.getElem?_eq_some_iff.mp q).1
        omega
      obtain ⟨q1, ys, q2⟩ := rl.pin j b q
      exact ⟨by rw [List.getElem?_set_ne (by omega)]; exact q1, ys, by rw [List.getElem?_set_ne (by omega)]; exact q2⟩
    · by_cases hj : i = j
      · subst hj
        rw [List.getElem?_set_self hil] at q
        cases q
      · rw [List.getElem?_set_ne hj] at q ⊢
        exact rl.dat j x q
    · rcases out j ys q with ⟨hj, e⟩ | ⟨hj, q⟩
      · subst hj
        subst e
        exact ⟨p, vs, List.getElem?_set_self his, h1, h2, h3, h4⟩
      · rw [List.getElem?_set_ne hj]
        exact rl.own j ys q
    · rcases out j ys q1 with ⟨h1, _⟩ | ⟨h1, q1⟩
      · subst h1
        rw [List.getElem?_set_self his] at q3
        cases q3
        rcases out k zs q2 with ⟨h2, _⟩ | ⟨h2, q2⟩
        · exact h2
        · rw [List.getElem?_set_ne h2] at q4
          exact absurd q4 (h5 k zs q2)
      · rw [List.getElem?_set_ne h1] at q3
        rcases out k zs q2 with ⟨h2, _⟩ | ⟨h2, q2⟩
        · subst h2
          rw [List.getElem?_set_self his] at q4
          cases q4
          exact absurd q3 (h5 j ys q1)
        · rw [List.getElem?_set_ne h2] at q4
          exact rl.inj j k p' ys zs q1 q2 q3 q4
  · rw [List.set_eq_of_length_le (by rw [rl.len]; omega), List.set_eq_of_length_le (by omega)]
    exact rl
/-- a slot's list is changed -/
theorem Rel.change (rl : Rel K f G H σ ρ) {j : Nat} {p : Addr} {us ws : List V} {xs ys : List D} (e1 : ρ[j]? = some (some (S.o xs))) (e2 : σ[j]? = some (some (V.ref p))) (hG : G p = none) (hF : f.F p = none) (h : DpAll K G ws ys) :
    Rel K f G (upd H p (.lst ws)) σ (ρ.set j (some (.o ys))) := by
  have hjl : j < ρ.length := (List.getElem?_eq_some_iff.mp e1).1
  have out : ∀ (k : Nat) (zs : List D), (ρ.set j (some (.o ys)))[k]? = some (some (S.o zs)) → (j = k ∧ ys = zs) ∨ (j ≠ k ∧ ρ[k]? = some (some (S.o zs))) := by
    intro k s q
    by_cases hj : j = k
    · subst hj
      rw [List.getElem?_set_self hjl] at q
      cases q
      exact .inl ⟨rfl, rfl⟩
    · rw [List.getElem?_set_ne hj] at q
      exact .inr ⟨hj, q⟩
  have was : ∀ (k : Nat) (zs : List D), (ρ.set j (some (.o ys)))[k]? = some (some (S.o zs)) → ∃ zs', ρ[k]? = some (some (S.o zs')) := by
    intro k zs q
    rcases out k zs q with ⟨h1, _⟩ | ⟨_, q⟩
    · subst h1
      exact ⟨_, e1⟩
    · exact ⟨_, q⟩
  refine ⟨by rw [List.length_set]; exact rl.len, fun b x q => ?_, fun b x q => ?_, rl.g0, rl.gf, fun i b q => ?_, fun i x q => ?_, fun k zs q => ?_, fun k l p' zs zs' q1 q2 q3 q4 => ?_⟩
  · rw [upd_ne (fun z => by subst z; rw [hG] at q; cases q)]
    exact rl.gh _ _ q
  · rw [upd_ne (fun z => by subst z; rw [hF] at q; cases q)]
    exact rl.fh _ _ q
  · obtain ⟨q1, zs, q2⟩ := rl.pin i b q
    refine ⟨q1, ?_⟩
    by_cases hj : j = i
    · subst hj
      exact ⟨ys, List.getElem?_set_self hjl⟩
    · exact ⟨zs, by rw [List.getElem?_set_ne hj]; exact q2⟩
  · by_cases hj : j = i
    · subst hj
      rw [List.getElem?_set_self hjl] at q
      cases q
    · rw [List.getElem?_set_ne hj] at q
      exact rl.dat i x q
  · rcases out k zs q with ⟨h1, h2⟩ | ⟨h1, q⟩
    · subst h1
      subst h2
      exact ⟨p, ws, e2, upd_same, h, hG, hF⟩
    · obtain ⟨p', vs', q1, q2, q3, q4, q5⟩ := rl.own k zs q
      refine ⟨p', vs', q1, ?_, q3, q4, q5⟩
      rw [upd_ne]
      · exact q2
      · intro z
        subst z
        exact h1 (rl.inj j k p' xs zs e1 q e2 q1)
  · obtain ⟨z1, w1⟩ := was k zs q1
    obtain ⟨z2, w2⟩ := was l zs' q2
    exact rl.inj k l p' z1 z2 w1 w2 q3 q4

variable {t u : TS} {ms mt : Env → Out} {te : TE} {me : Env → Res R}
theorem sim_seq (h1 : SimS K P W t ms) (h2 : SimS K P W u mt) : SimS K P W (tSeq t u) (mSeq ms mt) := by
  intro f G H σ ρ D hp rl hq
  refine h1 f G H σ ρ _ hp rl ?_
  unfold mSeq at hq
  cases e : ms ρ with
  | nx ρ1 =>
    rw [e] at hq
    exact fun G1 H1 σ1 s1 rl1 => h2 f G1 H1 σ1 ρ1 D hp rl1 (CS.same s1 hq)
  | _ => rw [e] at hq; exact hq
theorem sim_next : SimS K P W tNext mNext := fun f G H σ ρ D hp rl hq => hq G H σ (.refl _) rl
theorem sim_brk : SimS K P W tBreak mBrk := fun f G H σ ρ D hp rl hq => hq G H σ (.refl _) rl
theorem sim_ct : SimS K P W tCont mCt := fun f G H σ ρ D hp rl hq => hq G H σ (.refl _) rl
theorem sim_drop (h : SimE K P W te me) : SimS K P W (tDrop te) (mDrop me) := by
  intro f G H σ ρ D hp rl hq
  refine h f G H σ ρ _ hp rl ?_
  unfold mDrop at hq
  cases e : me ρ with
  | no => rw [e] at hq; exact hq
  | exc c ρ1 => rw [e] at hq; exact fun G1 H1 s1 rl1 => hq G1 H1 σ s1 rl1
  | ok r ρ1 => rw [e] at hq; exact fun v G1 H1 s1 rl1 _ => hq G1 H1 σ s1 rl1
theorem sim_ret (h : SimE K P W te me) : SimS K P W (tRet te) (mRet P me) := by
  intro f G H σ ρ D hp rl hq
  refine h f G H σ ρ _ hp rl ?_
  unfold mRet at hq
  cases e : me ρ with
  | no => rw [e] at hq; exact hq
  | exc c ρ1 => rw [e] at hq; exact fun G1 H1 s1 rl1 => hq G1 H1 σ s1 rl1
  | ok r ρ1 =>
    rw [e] at hq
    intro v G1 H1 s1 rl1 h1
    cases r with
    | d x => exact hq v G1 H1 σ s1 rl1 h1
    | o xs =>
      obtain ⟨p, vs, rfl, q1, q2, q3, q4, q5⟩ := h1
      refine hq _ G1 H1 σ s1 rl1 ⟨p, vs, rfl, q1, q2, q3, q4, fun i b eb z => ?_⟩
      subst z
      obtain ⟨z1, zs, z2⟩ := rl1.pin i _ eb
      exact q5 i zs z2 z1
    | b i =>
      simp only at hq
      split at hq
      · next x ex =>
        obtain ⟨u, q1, q2⟩ := rl1.dat i _ ex
        have h3 : σ[i]? = some (some v) := h1
        rw [h3] at q1
        cases q1
        exact hq v G1 H1 σ s1 rl1 q2
      · next xs ex =>
        split at hq
        · next hi =>
          obtain ⟨p, vs, q1, q2, q3, q4, q5⟩ := rl1.own i _ ex
          have h3 : σ[i]? = some (some v) := h1
          rw [h3] at q1
          cases q1
          refine hq _ G1 H1 σ s1 (rl1.forget hp hi) ⟨p, vs, rfl, q2, q3, q4, q5, fun k b eb z => ?_⟩
          subst z
          obtain ⟨z1, zs, z2⟩ := rl1.pin k _ eb
          have hk : k < P := by
            have := (List.getElem?_eq_some_iff.mp eb).1
            omega
          have := rl1.inj i k p xs zs ex z2 h3 z1
          omega
        · exact hq.elim
      · exact hq.elim
theorem sim_retN : SimS K P W tRetN (fun ρ => .rt (.d .none) ρ) := fun f G H σ ρ D hp rl hq => hq .non G H σ (.refl _) rl .non
theorem sim_ifS {c : TT} {mc : Env → Res Bool} (hc : SimT K P W c mc) (h1 : SimS K P W t ms) (h2 : SimS K P W u mt) : SimS K P W (tIfS c t u) (mIfS mc ms mt) := by
  intro f G H σ ρ D hp rl hq
  refine hc f G H σ ρ _ hp rl ?_
  unfold mIfS at hq
  cases e : mc ρ with
  | no => rw [e] at hq; exact hq
  | exc c ρ1 => rw [e] at hq; exact fun G1 H1 s1 rl1 => hq G1 H1 σ s1 rl1
  | ok b ρ1 =>
    rw [e] at hq
    intro G1 H1 s1 rl1
    cases b with
    | true =>
      rw [if_pos rfl]
      exact h1 f G1 H1 σ ρ1 D hp rl1 (CS.same s1 hq)
    | false =>
      rw [if_neg Bool.false_ne_true]
      exact h2 f G1 H1 σ ρ1 D hp rl1 (CS.same s1 hq)
theorem sim_asg {i : Nat} (h : SimE K P W te me) (hi : P ≤ i) : SimS K P W (tAsg te (gName i)) (mAsg P i me) := by
  intro f G H σ ρ D hp rl hq
  refine h f G H σ ρ _ hp rl ?_
  unfold mAsg at hq
  cases e : me ρ with
  | no => rw [e] at hq; exact hq
  | exc c ρ1 => rw [e] at hq; exact fun G1 H1 s1 rl1 => hq G1 H1 σ s1 rl1
  | ok r ρ1 =>
    rw [e] at hq
    intro v G1 H1 s1 rl1 h1
    cases r with
    | d x => exact hq G1 H1 _ s1 (rl1.putD hp hi h1)
    | o xs =>
      obtain ⟨p, vs, rfl, q1, q2, q3, q4, q5⟩ := h1
      exact hq G1 H1 _ s1 (rl1.putO hp hi q1 q2 q3 q4 q5)
    | b j =>
      simp only at hq
      split at hq
      · next ρ2 e2 =>
        split at hq
        · next x e3 =>
          obtain ⟨G2, s2, rl2⟩ := rl1.frz1 hp e2
          have h3 : Hold K G2 σ v (.b j) := h1
          exact hq G2 H1 _ (s1.trans s2) (rl2.putD hp hi (h3.dat rl2 e3))
        · exact hq.elim
      · exact hq.elim
theorem sim_aug {i : Nat} {ti : R2} {g : D → D → Option R} (hr : OpS K ti g) (h : SimE K P W te me) (hi : P ≤ i) : SimS K P W (tAug i te ti) (mAug i g me) := by
  intro f G H σ ρ D hp rl hq
  unfold mAug at hq
  split at hq
  · next x ex =>
    obtain ⟨v0, q1, q2⟩ := rl.dat i _ ex
    refine ⟨v0, q1, h.op hp rl ?_⟩
    cases e : me ρ with
    | no => rw [e] at hq; exact hq
    | exc c ρ1 => rw [e] at hq; exact fun G1 H1 s1 rl1 => hq G1 H1 σ s1 rl1
    | ok r ρ1 =>
      rw [e] at hq
      intro v G1 H1 s1 rl1 h1
      simp only at hq
      split at hq
      · next y ey =>
        split at hq
        · next z ez =>
          refine hr G1 H1 v0 v x y _ _ rl1.gh (.inl (dp_same s1 _ _ q2)) (h1.got rl1 ey) ez fun w G2 H2 gr nv => ?_
          exact hq G2 H2 _ (s1.trans gr.1) ((rl1.grow gr).putD hp hi nv)
        · next zs ez =>
          refine hr G1 H1 v0 v x y _ _ rl1.gh (.inl (dp_same s1 _ _ q2)) (h1.got rl1 ey) ez fun w G2 H2 gr nv => ?_
          obtain ⟨p, vs, rfl, w1, w2, w3, w4, w5⟩ := nv.vrep rl1 gr
          exact hq G2 H2 _ (s1.trans gr.1) ((rl1.grow gr).putO hp hi w1 w2 w3 w4 w5)
        · exact hq.elim
      · exact hq.elim
  · exact hq.elim
/-- a method of a list that changes it: by values -/
def MutS (K : PySem.W.Frag) (r : V → List V → Hp → VK → Prop) (g : List D → List D → Option (List D)) : Prop := ∀ (G H : Hp) (p : Addr) (vs args : List V) (xs ds ys : List D), Same G H → H p = some (.lst vs) → DpAll K G vs xs → DpAll K G args ds → g xs ds = some ys →
  ∃ ws, DpAll K G ws ys ∧ ∀ Q : VK, Q .non (upd H p (.lst ws)) → r (.ref p) args H Q
theorem sim_mut {j : Nat} {r : V → List V → Hp → VK → Prop} {g : List D → List D → Option (List D)} {ta : TA} {ma : Env → Res (List R)} (hr : MutS K r g) (h : SimA K P W ta ma) : SimS K P W (tDrop (tBM K "list" r (tVar j) ta)) (mMut P j g ma) := by
  intro f G H σ ρ D hp rl hq
  unfold mMut at hq
  split at hq
  · next xs0 ex =>
    obtain ⟨p, vs0, q1, q2, q3, q4, q5⟩ := rl.own j _ ex
    refine ⟨.ref p, q1, .inl ⟨rfl, vs0, .inl (.inl q2)⟩, ?_⟩
    refine h f G H σ ρ _ hp rl ?_
    cases e : ma ρ with
    | no => rw [e] at hq; exact hq
    | exc c ρ1 => rw [e] at hq; exact fun G1 H1 s1 rl1 => hq G1 H1 σ s1 rl1
    | ok rs ρ1 =>
      rw [e] at hq
      intro args G1 H1 s1 rl1 h1
      simp only at hq
      split at hq
      · next ρ2 e2 =>
        split at hq
        · next ds xs e3 e4 =>
          split at hq
          · next ys e5 =>
            obtain ⟨G2, s2, rl2⟩ := rl1.frzA hp e2
            obtain ⟨p', vs, w1, w2, w3, w4, w5⟩ := rl2.own j _ e4
            rw [q1] at w1
            cases w1
            obtain ⟨ws, z1, z2⟩ := hr G2 H1 p vs args xs ds ys rl2.gh w2 w3 ((h1.same s2).dat rl2 e3) e5
            exact z2 _ (hq G2 _ σ (s1.trans s2) (rl2.change (us := vs) e4 q1 w4 w5 z1))
          · exact hq.elim
        · exact hq.elim
      · exact hq.elim
  · exact hq.elim
theorem sim_setI {j : Nat} {ti : TE} {mi : Env → Res R} (h : SimE K P W te me) (h2 : SimE K P W ti mi) : SimS K P W (tAsg te (gSub (tVar j) ti rSetL)) (mSetI P j me mi) := by
  intro f G H σ ρ D hp rl hq
  refine h.op hp rl ?_
  unfold mSetI at hq
  cases e : me ρ with
  | no => rw [e] at hq; exact hq
  | exc c ρ1 => rw [e] at hq; exact fun G1 H1 s1 rl1 => hq G1 H1 σ s1 rl1
  | ok r ρ1 =>
    rw [e] at hq
    intro v G1 H1 s1 rl1 h1
    simp only at hq
    split at hq
    · next ρ2 e2 =>
      obtain ⟨G2, s2, rl2⟩ := rl1.frz1 hp e2
      split at hq
      · next xs0 e0 =>
        obtain ⟨p, vs0, q1, _⟩ := rl2.own j _ e0
        refine ⟨_, q1, h2.op hp rl2 ?_⟩
        cases e3 : mi ρ2 with
        | no => rw [e3] at hq; exact hq.elim
        | exc c ρ3 => rw [e3] at hq; exact fun G3 H3 s3 rl3 => hq G3 H3 σ ((s1.trans s2).trans s3) rl3
        | ok r3 ρ3 =>
          rw [e3] at hq
          intro w G3 H3 s3 rl3 h3
          cases r3 with
          | o _ => exact hq.elim
          | b _ => exact hq.elim
          | d y =>
            cases y with
            | int k =>
              simp only at hq
              split at hq
              · next x xs e4 e5 =>
                split at hq
                · next n e6 =>
                  obtain ⟨p', vs, w1, w2, w3, w4, w5⟩ := rl3.own j _ e5
                  rw [q1] at w1
                  cases w1
                  have hd : Dp K G3 v x := ((h1.same s2).same s3).dat rl3 e4
                  refine ⟨p, vs, k, n, rfl, dp_int h3, w2, by rw [dpAll_len w3]; exact e6, ?_⟩
                  exact hq G3 _ σ ((s1.trans s2).trans s3) (rl3.change (us := vs) e5 q1 w4 w5 (dpAll_set n w3 hd))
                · exact hq.elim
              · exact hq.elim
            | _ => exact hq.elim
      · exact hq.elim
    · exact hq.elim
end
end Z
namespace Z
open PySem L2

/-! ### targets -/
def SimG (K : PySem.W.Frag) (P : Nat) (g : TG) (b : D → Env → Option Env) (ts : List Nat) : Prop := ∀ (f : Fx) (G H : Hp) (σ : L2.St) (ρ ρ' : Env) (v : V) (d : D) (Q : L2.St → Hp → Prop), f.pins.length = P → Rel K f G H σ ρ → Dp K G v d → b d ρ = some ρ' →
  (∀ σ', Rel K f G H σ' ρ' → σ'.length = σ.length → (∀ j, j ∉ ts → σ'[j]? = σ[j]?) → Q σ' H) → g v σ H Q
def SimGs (K : PySem.W.Frag) (P : Nat) (g : TGs) (b : List D → Env → Option Env) (ts : List Nat) : Prop := ∀ (f : Fx) (G H : Hp) (σ : L2.St) (ρ ρ' : Env) (vs : List V) (ds : List D) (Q : L2.St → Hp → Prop), f.pins.length = P → Rel K f G H σ ρ → DpAll K G vs ds → b ds ρ = some ρ' →
  (∀ σ', Rel K f G H σ' ρ' → σ'.length = σ.length → (∀ j, j ∉ ts → σ'[j]? = σ[j]?) → Q σ' H) → g vs σ H Q
def bName (i : Nat) : D → Env → Option Env := fun d ρ => some (ρ.set i (some (.d d)))
def bNil : List D → Env → Option Env := fun ds ρ => match ds with
  | [] => some ρ
  | _ => none
def bCons (b : D → Env → Option Env) (bs : List D → Env → Option Env) : List D → Env → Option Env := fun ds ρ => match ds with
  | [] => none
  | d :: r => (match b d ρ with
    | some ρ1 => bs r ρ1
    | none => none)
def bTup (n : Nat) (bs : List D → Env → Option Env) : D → Env → Option Env := fun d ρ => match d with
  | .tuple ds => if ds.length = n then bs ds ρ else none
  | _ => none
section
variable {K : PySem.W.Frag} {P : Nat} {W : Wish}
theorem simg_name {i : Nat} (hi : P ≤ i) : SimG K P (gName i) (bName i) [i] := by
  intro f G H σ ρ ρ' v d Q hp rl hd e hq
  cases e
  refine hq _ (rl.putD hp hi hd) (List.length_set ..) fun j hj => ?_
  exact List.getElem?_set_ne (fun z => hj (by simp [z]))
theorem simgs_nil : SimGs K P gNil bNil [] := by
  intro f G H σ ρ ρ' vs ds Q hp rl hd e hq
  cases ds with
  | cons _ _ => cases e
  | nil =>
    cases e
    cases hd
    exact ⟨rfl, hq σ rl rfl fun _ _ => rfl⟩
theorem simgs_cons {g : TG} {b : D → Env → Option Env} {ts : List Nat} {gs : TGs} {bs : List D → Env → Option Env} {us : List Nat} (h : SimG K P g b ts) (h2 : SimGs K P gs bs us) : SimGs K P (gCons g gs) (bCons b bs) (ts ++ us) := by
  intro f G H σ ρ ρ' vs ds Q hp rl hd e hq
  cases ds with
  | nil => cases e
  | cons d r =>
    simp only [bCons] at e
    split at e
    · next ρ1 e1 =>
      cases hd with
      | cons h1 hr =>
        refine ⟨_, _, rfl, ?_⟩
        refine h f G H σ ρ ρ1 _ d _ hp rl h1 e1 fun σ' rl' l1 k1 => ?_
        refine h2 f G H σ' ρ1 ρ' _ r Q hp rl' hr e fun σ2 rl2 l2 k2 => ?_
        refine hq σ2 rl2 (l2.trans l1) fun j hj => ?_
        rw [List.mem_append, not_or] at hj
        rw [k2 j hj.2, k1 j hj.1]
    · cases e
theorem simg_tup {n : Nat} {gs : TGs} {bs : List D → Env → Option Env} {us : List Nat} (h : SimGs K P gs bs us) : SimG K P (gTup K n gs) (bTup n bs) us := by
  intro f G H σ ρ ρ' v d Q hp rl hd e hq
  cases d with
  | tuple ds =>
    simp only [bTup] at e
    split at e
    · next hl =>
      obtain ⟨a, xs, rfl, h1, h2⟩ := dp_tup hd
      exact ⟨a, xs, rfl, sqT_same rl.gh h1, by rw [dpAll_len h2]; exact hl, h f G H σ ρ ρ' xs ds Q hp rl h2 e hq⟩
    · cases e
  | _ => cases e
end
/-- targets of any form -/
def mAsgG (P : Nat) (b : D → Env → Option Env) (me : Env → Res R) : Env → Out := fun ρ => match me ρ with
  | .ok r ρ1 => (match frz1 P ρ1 r with
    | some ρ2 => (match dopd ρ2 r with
      | some d => (match b d ρ2 with
        | some ρ3 => .nx ρ3
        | none => .no)
      | none => .no)
    | none => .no)
  | .exc c ρ1 => .exc c ρ1
  | .no => .no
theorem sim_asgG {K : PySem.W.Frag} {P : Nat} {W : Wish} {te : TE} {me : Env → Res R} {g : TG} {b : D → Env → Option Env} {ts : List Nat} (h : SimE K P W te me) (hg : SimG K P g b ts) : SimS K P W (tAsg te g) (mAsgG P b me) := by
  intro f G H σ ρ D hp rl hq
  refine h.op hp rl ?_
  unfold mAsgG at hq
  cases e : me ρ with
  | no => rw [e] at hq; exact hq
  | exc c ρ1 => rw [e] at hq; exact fun G1 H1 s1 rl1 => hq G1 H1 σ s1 rl1
  | ok r ρ1 =>
    rw [e] at hq
    intro v G1 H1 s1 rl1 h1
    simp only at hq
    split at hq
    · next ρ2 e2 =>
      split at hq
      · next d e3 =>
        split at hq
        · next ρ3 e4 =>
          obtain ⟨G2, s2, rl2⟩ := rl1.frz1 hp e2
          exact hg f G2 H1 σ ρ2 ρ3 v d _ hp rl2 ((h1.same s2).dat rl2 e3) e4 fun σ' rl' _ _ => hq G2 H1 σ' (s1.trans s2) rl'
        · exact hq.elim
      · exact hq.elim
    · exact hq.elim

/-! ### what is walked -/
def Walk (K : PySem.W.Frag) (F G : Hp) (J : It) (ds : List D) : Prop := ∀ (G1 H1 : Hp), Same G G1 → Same G1 H1 → Same F H1 →
  (∀ (i : Nat) (d : D), ds[i]? = some d → J.go i H1 ∧ ∀ x H2, J.yld i H1 x H2 → ∃ G2, Grow G1 H1 G2 H2 ∧ Dp K G2 x d) ∧ ∀ i, ds.length ≤ i → J.stop i H1
def CI (K : PySem.W.Frag) (W : Wish) (f : Fx) (G : Hp) (σ : L2.St) (Q : It → Hp → Prop) : Res (List D) → Prop
  | .no => False
  | .ok ds ρ => ∀ J G' H', Same G G' → Rel K f G' H' σ ρ → Walk K f.F G' J ds → Q J H'
  | .exc c ρ => ∀ G' H', Same G G' → Rel K f G' H' σ ρ → W σ c H'
def SimI (K : PySem.W.Frag) (P : Nat) (W : Wish) (wi : TI) (m : Env → Res (List D)) : Prop := ∀ (f : Fx) (G H : Hp) (σ : L2.St) (ρ : Env) (Q : It → Hp → Prop), f.pins.length = P → Rel K f G H σ ρ → CI K W f G σ Q (m ρ) → wi σ H Q
def mIter (P : Nat) (me : Env → Res R) : Env → Res (List D) := fun ρ => (me ρ).bind fun r ρ1 => match frz1 P ρ1 r with
  | some ρ2 => (match dopd ρ2 r with
    | some (.list ds) => .ok ds ρ2
    | some (.tuple ds) => .ok ds ρ2
    | _ => .no)
  | none => .no
def big62 : Int := 4611686018427387904
def mRng1 (ma : Env → Res (List R)) : Env → Res (List D) := fun ρ => (ma ρ).bind fun rs ρ1 => match rs with
  | [.d (.int j)] => if -big62 ≤ j ∧ j < big62 then .ok ((List.range j.toNat).map fun (k : Nat) => .int (k : Int)) ρ1 else .no
  | _ => .no
def mRng2 (ma : Env → Res (List R)) : Env → Res (List D) := fun ρ => (ma ρ).bind fun rs ρ1 => match rs with
  | [.d (.int i), .d (.int j)] => if -big62 ≤ i ∧ i < big62 ∧ -big62 ≤ j ∧ j < big62 then .ok ((List.range (j - i).toNat).map fun (k : Nat) => .int (i + (k : Int))) ρ1 else .no
  | _ => .no
/-- a list or a tuple -/
def iSeq (K : PySem.W.Frag) (tl : TE) : TI := fun σ H Q => tl σ H fun x H1 => ∃ a, x = .ref a ∧ (((∃ xs, SqL K H1 a xs) ∧ Q (Itl K a) H1) ∨ ((∃ xs, SqT K H1 a xs) ∧ Q (Itt K a) H1))
theorem zpi_seq {X : Cx} {tg l : Expr} {tl : TE} (hl : PE X l tl) : PI X tg l (iSeq X.K tl) := by
  constructor
  intro pins s σ H Q I h
  refine thn (hl.run pins s σ H _ I h) fun v s1 hv => ?_
  obtain ⟨x, H1, I1, r1, a, rfl, q1⟩ := hv
  cases r1
  have sz : ∀ (b : Addr), b ∈ [s1.heap.objs.size] → FpOk X pins H1 b := by
    intro b hb
    obtain rfl : b = s1.heap.objs.size := by simpa using hb
    exact I1.fpOk (Nat.le_refl _) (I1.hok.fresh (Nat.le_refl _))
  rcases q1 with ⟨⟨xs, hx⟩, q⟩ | ⟨⟨xs, hx⟩, q⟩
  · obtain ⟨items, rvs, pl, len⟩ := I1.list hx
    apply wpAny_pyIter_list pl.isList
    have kept := I1.kept (h' := s1.heap.push { cls := .type "list_iterator", data := .fields #[.ref a, rawInt 0] }) (t' := s1.toks) fun b u e => Heap.get?_push_of_some _ e
    exact ⟨_, [s1.heap.objs.size], _, _, H1, rfl, kept, turn_list a _, ⟨_, Heap.get?_push_size _ rfl, rfl, rfl⟩, sz, q⟩
  · obtain ⟨items, rvs, pl, len⟩ := I1.tuple hx
    apply wpAny_pyIter_tuple (show s1.heap.IsTuple a items.toArray from pl)
    have kept := fun o : Obj => I1.kept (h' := s1.heap.push o) (t' := s1.toks) fun b u e => Heap.get?_push_of_some _ e
    exact ⟨_, [s1.heap.objs.size], _, _, H1, rfl, kept _, turn_tuple a _, ⟨_, Heap.get?_push_size _ rfl, rfl, rfl⟩, sz, q⟩
section
variable {K : PySem.W.Frag} {P : Nat} {W : Wish} {te : TE} {me : Env → Res R} {ta : TA} {ma : Env → Res (List R)}
theorem walk_list {F G : Hp} {a : Addr} {vs : List V} {ds : List D} (h : SqL K G a vs) (hd : DpAll K G vs ds) : Walk K F G (Itl K a) ds := by
  intro G1 H1 s1 s2 _
  have hs : SqL K H1 a vs := (s1.trans s2).seq h
  refine ⟨fun i d e => ?_, fun i hi => ⟨vs, hs, by rw [dpAll_len hd]; exact hi⟩⟩
  obtain ⟨v, q1, q2⟩ := dpAll_get hd e
  refine ⟨⟨vs, v, hs, q1⟩, fun x H2 hy => ?_⟩
  obtain ⟨rfl, fv⟩ := hy
  have ex : x = v := Option.some.inj ((fv _ hs).symm.trans q1)
  subst ex
  exact ⟨G1, .refl s2, dp_same s1 _ _ q2⟩
theorem walk_tup {F G : Hp} {a : Addr} {vs : List V} {ds : List D} (h : SqT K G a vs) (hd : DpAll K G vs ds) : Walk K F G (Itt K a) ds := by
  intro G1 H1 s1 s2 _
  have hs : SqT K H1 a vs := sqT_same (s1.trans s2) h
  refine ⟨fun i d e => ?_, fun i hi => ⟨vs, hs, by rw [dpAll_len hd]; exact hi⟩⟩
  obtain ⟨v, q1, q2⟩ := dpAll_get hd e
  refine ⟨⟨vs, v, hs, q1⟩, fun x H2 hy => ?_⟩
  obtain ⟨rfl, fv⟩ := hy
  have ex : x = v := Option.some.inj ((fv _ hs).symm.trans q1)
  subst ex
  exact ⟨G1, .refl s2, dp_same s1 _ _ q2⟩
theorem walk_rng {F G : Hp} {lo : Int} {n : Nat} : Walk K F G (Itr lo n) ((List.range n).map fun (k : Nat) => PyData.int (lo + (k : Int))) := by
  intro G1 H1 s1 s2 _
  refine ⟨fun i d e => ?_, fun i hi => ?_⟩
  · rw [List.getElem?_map] at e
    have hi : i < n := by
      by_cases hi : i < n
      · exact hi
      · rw [List.getElem?_eq_none (by rw [List.length_range]; omega)] at e
        cases e
    rw [List.getElem?_range hi] at e
    cases e
    refine ⟨hi, fun x H2 hy => ?_⟩
    obtain ⟨rfl, rfl⟩ := hy
    exact ⟨G1, .refl s2, .int _⟩
  · rw [List.length_map, List.length_range] at hi
    exact hi
theorem sim_iter (h : SimE K P W te me) : SimI K P W (iSeq K te) (mIter P me) := by
  intro f G H σ ρ Q hp rl hq
  refine h.op hp rl ?_
  unfold mIter at hq
  cases e : me ρ with
  | no => rw [e] at hq; exact hq
  | exc c ρ1 => rw [e] at hq; exact hq
  | ok r ρ1 =>
    rw [e] at hq
    intro v G1 H1 s1 rl1 h1
    simp only [Res.bind] at hq
    split at hq
    · next ρ2 e2 =>
      obtain ⟨G2, s2, rl2⟩ := rl1.frz1 hp e2
      split at hq
      · next ds e3 =>
        obtain ⟨a, xs, rfl, q1, q2⟩ := dp_lst ((h1.same s2).dat rl2 e3)
        exact ⟨a, rfl, .inl ⟨⟨xs, rl2.gh.seq q1⟩, hq _ G2 H1 (s1.trans s2) rl2 (walk_list q1 q2)⟩⟩
      · next ds e3 =>
        obtain ⟨a, xs, rfl, q1, q2⟩ := dp_tup ((h1.same s2).dat rl2 e3)
        exact ⟨a, rfl, .inr ⟨⟨xs, sqT_same rl2.gh q1⟩, hq _ G2 H1 (s1.trans s2) rl2 (walk_tup q1 q2)⟩⟩
      · exact hq.elim
    · exact hq.elim
theorem sim_rng1 (h : SimA K P W ta ma) : SimI K P W (iRng1 ta) (mRng1 ma) := by
  intro f G H σ ρ Q hp rl hq
  refine h f G H σ ρ _ hp rl ?_
  unfold mRng1 at hq
  cases e : ma ρ with
  | no => rw [e] at hq; exact hq
  | exc c ρ1 => rw [e] at hq; exact hq
  | ok rs ρ1 =>
    rw [e] at hq
    intro vs G1 H1 s1 rl1 h1
    simp only [Res.bind] at hq
    split at hq
    · next j =>
      split at hq
      · next hj =>
        cases h1 with
        | cons a1 a2 =>
          cases a2
          have ev := dp_int a1
          subst ev
          refine ⟨j, rfl, by have := hj.1; unfold big62 at this; omega, by have := hj.2; unfold big62 at this; omega, hq _ G1 H1 s1 rl1 ?_⟩
          have := walk_rng (K := K) (F := f.F) (G := G1) (lo := 0) (n := j.toNat)
          simp only [Int.zero_add] at this
          exact this
      · exact hq.elim
    · exact hq.elim
theorem sim_rng2 (h : SimA K P W ta ma) : SimI K P W (iRng2 ta) (mRng2 ma) := by
  intro f G H σ ρ Q hp rl hq
  refine h f G H σ ρ _ hp rl ?_
  unfold mRng2 at hq
  cases e : ma ρ with
  | no => rw [e] at hq; exact hq
  | exc c ρ1 => rw [e] at hq; exact hq
  | ok rs ρ1 =>
    rw [e] at hq
    intro vs G1 H1 s1 rl1 h1
    simp only [Res.bind] at hq
    split at hq
    · next i j =>
      split at hq
      · next hj =>
        cases h1 with
        | cons a1 a2 =>
          cases a2 with
          | cons a2 a3 =>
            cases a3
            have ev := dp_int a1
            have ew := dp_int a2
            subst ev
            subst ew
            unfold big62 at hj
            exact ⟨i, j, rfl, ⟨by omega, by omega, by omega, by omega⟩, hq _ G1 H1 s1 rl1 walk_rng⟩
      · exact hq.elim
    · exact hq.elim
end

/-! ### for -/
def forL (b : D → Env → Option Env) (body : Env → Out) : List D → Env → Out
  | [], ρ => .nx ρ
  | d :: ds, ρ => match b d ρ with
    | none => .no
    | some ρ1 => (match body ρ1 with
      | .nx ρ2 => forL b body ds ρ2
      | .ct ρ2 => forL b body ds ρ2
      | .bk ρ2 => .nx ρ2
      | o => o)
def mFor (mi : Env → Res (List D)) (b : D → Env → Option Env) (body : Env → Out) : Env → Out := fun ρ => match mi ρ with
  | .ok ds ρ1 => forL b body ds ρ1
  | .exc c ρ1 => .exc c ρ1
  | .no => .no
theorem sim_for {K : PySem.W.Frag} {P : Nat} {W : Wish} {wi : TI} {mi : Env → Res (List D)} {g : TG} {b : D → Env → Option Env} {ts : List Nat} {tb : TS} {mb : Env → Out} (hi : SimI K P W wi mi) (hg : SimG K P g b ts) (hb : SimS K P W tb mb) :
    SimS K P W (tFor wi g tb) (mFor mi b mb) := by
  intro f G H σ ρ D hp rl hq
  refine hi f G H σ ρ _ hp rl ?_
  unfold mFor at hq
  cases e : mi ρ with
  | no => rw [e] at hq; exact hq
  | exc c ρ1 => rw [e] at hq; exact fun G1 H1 s1 rl1 => hq G1 H1 σ s1 rl1
  | ok ds ρ1 =>
    rw [e] at hq
    intro J G1 H1 s1 rl1 wk
    have hq1 : CS K W f G1 D (forL b mb ds ρ1) := CS.same s1 hq
    refine ⟨fun i m σ' H' => ∃ G' ρ', Same G1 G' ∧ Rel K f G' H' σ' ρ' ∧ i + m = ds.length ∧ CS K W f G' D (forL b mb (ds.drop i) ρ'), ⟨ds.length, G1, ρ1, .refl _, rl1, by omega, hq1⟩, fun i m σ' H' hW => ?_⟩
    obtain ⟨G2, ρ2, s2, rl2, em, hc⟩ := hW
    obtain ⟨wk1, wk2⟩ := wk G2 H' s2 rl2.gh rl2.fh
    by_cases hlt : i < ds.length
    · have ed : ds.drop i = ds[i] :: ds.drop (i + 1) := List.drop_eq_getElem_cons hlt
      obtain ⟨go, yl⟩ := wk1 i ds[i] (List.getElem?_eq_getElem hlt)
      refine .inr ⟨go, fun σ3 H3 => ∃ G' ρ', Same G1 G' ∧ Rel K f G' H3 σ3 ρ' ∧ CS K W f G' D (forL b mb (ds.drop (i + 1)) ρ'), fun σ3 H3 hN => ?_, fun x H3 hy => ?_⟩
      · obtain ⟨G', ρ', a1, a2, a3⟩ := hN
        exact ⟨m - 1, by omega, G', ρ', a1, a2, by omega, a3⟩
      · obtain ⟨G3, gr, hd⟩ := yl x H3 hy
        have rl3 := rl2.grow gr
        have hc3 := CS.same gr.1 hc
        rw [ed] at hc3
        simp only [forL] at hc3
        split at hc3
        · exact hc3.elim
        · next ρ3 e3 =>
          refine hg f G3 H3 σ' ρ2 ρ3 x ds[i] _ hp rl3 hd e3 fun σ4 rl4 _ _ => ?_
          refine hb f G3 H3 σ4 ρ3 _ hp rl4 ?_
          have s3 := s2.trans gr.1
          cases e4 : mb ρ3 with
          | no => rw [e4] at hc3; exact hc3.elim
          | nx ρ4 => rw [e4] at hc3; exact fun G5 H5 σ5 s5 rl5 => ⟨G5, ρ4, s3.trans s5, rl5, CS.same s5 hc3⟩
          | ct ρ4 => rw [e4] at hc3; exact fun G5 H5 σ5 s5 rl5 => ⟨G5, ρ4, s3.trans s5, rl5, CS.same s5 hc3⟩
          | bk ρ4 => rw [e4] at hc3; exact hc3
          | rt s ρ4 => rw [e4] at hc3; exact hc3
          | exc c ρ4 => rw [e4] at hc3; exact hc3
    · have ed : ds.drop i = [] := List.drop_of_length_le (by omega)
      rw [ed] at hc
      exact .inl ⟨wk2 i (by omega), hc G2 H' σ' (.refl _) rl2⟩
/-! ### while, with fuel -/
def whileN (mc : Env → Res Bool) (body : Env → Out) : Nat → Env → Out
  | 0, _ => .no
  | n + 1, ρ => match mc ρ with
    | .ok true ρ1 => (match body ρ1 with
      | .nx ρ2 => whileN mc body n ρ2
      | .ct ρ2 => whileN mc body n ρ2
      | .bk ρ2 => .nx ρ2
      | o => o)
    | .ok false ρ1 => .nx ρ1
    | .exc c ρ1 => .exc c ρ1
    | .no => .no
theorem sim_while {K : PySem.W.Frag} {P : Nat} {W : Wish} {tc : TT} {mc : Env → Res Bool} {tb : TS} {mb : Env → Out} (n : Nat) (hc : SimT K P W tc mc) (hb : SimS K P W tb mb) : SimS K P W (tWhile tc tb) (whileN mc mb n) := by
  intro f G H σ ρ D hp rl hq
  refine ⟨fun m σ' H' => ∃ G' ρ', Same G G' ∧ Rel K f G' H' σ' ρ' ∧ CS K W f G' D (whileN mc mb m ρ'), ⟨n, G, ρ, .refl _, rl, hq⟩, fun m σ' H' hW => ?_⟩
  obtain ⟨G2, ρ2, s2, rl2, hc2⟩ := hW
  refine hc f G2 H' σ' ρ2 _ hp rl2 ?_
  cases m with
  | zero => exact hc2.elim
  | succ m =>
    simp only [whileN] at hc2
    cases e : mc ρ2 with
    | no => rw [e] at hc2; exact hc2
    | exc c ρ3 => rw [e] at hc2; exact fun G1 H1 s1 rl1 => hc2 G1 H1 σ' s1 rl1
    | ok k ρ3 =>
      rw [e] at hc2
      intro G3 H3 s3 rl3
      cases k with
      | false =>
        rw [if_neg Bool.false_ne_true]
        exact hc2 G3 H3 σ' s3 rl3
      | true =>
        rw [if_pos rfl]
        simp only at hc2
        refine ⟨fun σ4 H4 => ∃ G' ρ', Same G G' ∧ Rel K f G' H4 σ4 ρ' ∧ CS K W f G' D (whileN mc mb m ρ'), fun σ4 H4 hN => ⟨m, Nat.lt_succ_self m, hN⟩, ?_⟩
        refine hb f G3 H3 σ' ρ3 _ hp rl3 ?_
        cases e4 : mb ρ3 with
        | no => rw [e4] at hc2; exact hc2.elim
        | nx ρ4 => rw [e4] at hc2; exact fun G5 H5 σ5 s5 rl5 => ⟨G5, ρ4, (s2.trans s3).trans s5, rl5, CS.same (s3.trans s5) hc2⟩
        | ct ρ4 => rw [e4] at hc2; exact fun G5 H5 σ5 s5 rl5 => ⟨G5, ρ4, (s2.trans s3).trans s5, rl5, CS.same (s3.trans s5) hc2⟩
        | bk ρ4 => rw [e4] at hc2; exact CS.same (o := .nx ρ4) s3 hc2
        | rt s ρ4 => rw [e4] at hc2; exact CS.same (o := .rt s ρ4) s3 hc2
        | exc c ρ4 => rw [e4] at hc2; exact CS.same (o := .exc c ρ4) s3 hc2
end Z
namespace Z
open PySem L2

/-! ### comprehensions -/
def wipeE (ρ : Env) : List Nat → Env
  | [] => ρ
  | v :: vs => (wipeE ρ vs).set v none
def back (ρ1 : Env) : List Nat → Env → Env
  | [], ρw => ρw
  | v :: vs, ρw => (back ρ1 vs ρw).set v (match ρ1[v]? with
    | some (some (S.d x)) => some (S.d x)
    | _ => none)
section
variable {K : PySem.W.Frag} {P : Nat} {W : Wish} {f : Fx} {G H G' H' : Hp} {σ σ' : L2.St} {ρ ρ' : Env}
theorem Rel.drop1 (rl : Rel K f G H σ ρ) (hp : f.pins.length = P) {i : Nat} (hi : P ≤ i) : Rel K f G H (σ.set i none) (ρ.set i none) := by
  have out : ∀ (j : Nat) (s : S), (ρ.set i none)[j]? = some (some s) → i ≠ j ∧ ρ[j]? = some (some s) := by
    intro j s q
    by_cases hj : i = j
    · subst hj
      by_cases hil : i < ρ.length
      · rw [List.getElem?_set_self hil] at q
        cases q
      · rw [List.getElem?_eq_none (by rw [List.length_set]; omega)] at q
        cases q
    · rw [List.getElem?_set_ne hj] at q
      exact ⟨hj, q⟩
  refine ⟨by rw [List.length_set, List.length_set]; exact rl.len, rl.gh, rl.fh, rl.g0, rl.gf, fun j b q => ?_, fun j d q => ?_, fun j xs q => ?_, fun j k p xs ys q1 q2 q3 q4 => ?_⟩
  · have hj : j < P := by
      have := (List.getElem?_eq_some_iff.mp q).1
      omega
    obtain ⟨q1, ys, q2⟩ := rl.pin j b q
    exact ⟨by rw [List.getElem?_set_ne (by omega)]; exact q1, ys, by rw [List.getElem?_set_ne (by omega)]; exact q2⟩
  · obtain ⟨hj, q⟩ := out _ _ q
    rw [List.getElem?_set_ne hj]
    exact rl.dat j d q
  · obtain ⟨hj, q⟩ := out _ _ q
    rw [List.getElem?_set_ne hj]
    exact rl.own j xs q
  · obtain ⟨h1, q1⟩ := out _ _ q1
    obtain ⟨h2, q2⟩ := out _ _ q2
    rw [List.getElem?_set_ne h1] at q3
    rw [List.getElem?_set_ne h2] at q4
    exact rl.inj j k p xs ys q1 q2 q3 q4
theorem Rel.wiped (rl : Rel K f G H σ ρ) (hp : f.pins.length = P) : ∀ {vs : List Nat}, (∀ i ∈ vs, P ≤ i) → Rel K f G H (wipe σ vs) (wipeE ρ vs)
  | [], _ => rl
  | v :: vs, h => (Rel.wiped rl hp fun i hi => h i (List.mem_cons_of_mem _ hi)).drop1 hp (h v List.mem_cons_self)
theorem wipe_out' : ∀ {vs : List Nat} {j : Nat}, j ∉ vs → (wipe σ vs)[j]? = σ[j]?
  | [], _, _ => rfl
  | v :: vs, j, h => by
    rw [List.mem_cons, not_or] at h
    show ((wipe σ vs).set v none)[j]? = σ[j]?
    rw [List.getElem?_set_ne (fun e => h.1 e.symm), wipe_out' h.2]
theorem wipe_same {vs ts : List Nat} (hl : σ'.length = (wipe σ vs).length) (hk : ∀ j, j ∉ ts → σ'[j]? = (wipe σ vs)[j]?) (hs : ∀ i ∈ ts, i ∈ vs) : wipe σ' vs = wipe σ vs := by
  have key : ∀ (us : List Nat) (τ : L2.St) (j : Nat), j ∈ us → (wipe τ us)[j]? = if j < τ.length then some none else none := by
    intro us
    induction us with
    | nil => intro τ j h; cases h
    | cons u us ih =>
      intro τ j h
      show ((wipe τ us).set u none)[j]? = _
      by_cases hj : u = j
      · subst hj
        by_cases hl : u < τ.length
        · rw [List.getElem?_set_self (by rw [wipe_length]; exact hl), if_pos hl]
        · rw [List.getElem?_eq_none (by rw [List.length_set, wipe_length]; omega), if_neg hl]
      · rw [List.getElem?_set_ne hj]
        rcases List.mem_cons.mp h with e | h
        · exact absurd e.symm hj
        · exact ih τ j h
  refine List.ext_getElem? fun j => ?_
  by_cases hj : j ∈ vs
  · rw [key vs σ' j hj, key vs σ j hj, hl, wipe_length]
  · rw [wipe_out' hj, wipe_out' hj, hk j fun z => hj (hs j z), wipe_out' hj]
theorem back_len (ρ1 : Env) : ∀ (vs : List Nat) (ρw : Env), (back ρ1 vs ρw).length = ρw.length
  | [], _ => rfl
  | v :: vs, ρw => by
    show ((back ρ1 vs ρw).set v _).length = _
    rw [List.length_set, back_len ρ1 vs ρw]
theorem back_out (ρ1 : Env) : ∀ {vs : List Nat} {ρw : Env} {j : Nat}, j ∉ vs → (back ρ1 vs ρw)[j]? = ρw[j]?
  | [], _, _, _ => rfl
  | v :: vs, ρw, j, h => by
    rw [List.mem_cons, not_or] at h
    show ((back ρ1 vs ρw).set v _)[j]? = _
    rw [List.getElem?_set_ne (fun e => h.1 e.symm), back_out ρ1 h.2]
theorem back_in (ρ1 : Env) : ∀ {vs : List Nat} {ρw : Env} {j : Nat} {s : S}, j ∈ vs → (back ρ1 vs ρw)[j]? = some (some s) → ∃ x, s = .d x ∧ ρ1[j]? = some (some (S.d x))
  | [], _, _, _, h, _ => by cases h
  | v :: vs, ρw, j, s, h, e => by
    have e : ((back ρ1 vs ρw).set v (match ρ1[v]? with
      | some (some (S.d x)) => some (S.d x)
      | _ => none))[j]? = some (some s) := e
    by_cases hj : v = j
    · subst hj
      by_cases hl : v < (back ρ1 vs ρw).length
      · rw [List.getElem?_set_self hl] at e
        split at e
        · next x ex =>
          cases e
          exact ⟨x, rfl, ex⟩
        · cases e
      · rw [List.getElem?_eq_none (by rw [List.length_set]; omega)] at e
        cases e
    · rw [List.getElem?_set_ne hj] at e
      rcases List.mem_cons.mp h with z | h
      · exact absurd z.symm hj
      · exact back_in ρ1 h e
/-- one more object that is to stay -/
def Fx.add (f : Fx) (a : Addr) (o : HO) : Fx := ⟨upd f.F a o, f.G0, f.pins⟩
theorem Rel.addF (rl : Rel K f G H σ ρ) {a : Addr} {o : HO} (h : H a = none) : Rel K (f.add a o) G (upd H a o) σ ρ := by
  have gr : Grow G H G (upd H a o) := Grow.fresh rl.gh h
  have r := rl.grow gr
  refine ⟨r.len, r.gh, fun b x q => ?_, r.g0, fun b q1 q2 => ?_, r.pin, r.dat, fun i xs q => ?_, r.inj⟩
  · by_cases hb : b = a
    · subst hb
      have q : upd f.F b o b = some x := q
      rw [upd_same] at q ⊢
      exact q
    · have q : upd f.F a o b = some x := q
      rw [upd_ne hb] at q
      exact r.fh _ _ q
  · by_cases hb : b = a
    · subst hb
      exact absurd (rl.gh.free h) q2
    · refine r.gf b (fun z => q1 ?_) q2
      show upd f.F a o b = none
      rw [upd_ne hb]
      exact z
  · obtain ⟨p, vs, q1, q2, q3, q4, q5⟩ := rl.own i xs q
    have hpa : p ≠ a := ne_of_none q2 h
    refine ⟨p, vs, q1, ?_, q3, q4, ?_⟩
    · rw [upd_ne hpa]
      exact q2
    · show upd f.F a o p = none
      rw [upd_ne hpa]
      exact q5
theorem Rel.noG {a : Addr} {o : HO} (rl : Rel K (f.add a o) G H σ ρ) (h : f.G0 a = none) : G a = none := by
  cases e : G a with
  | none => rfl
  | some x =>
    refine absurd h (rl.gf a ?_ (ne_none_of e))
    show upd f.F a o a ≠ none
    rw [upd_same]
    exact fun z => nomatch z
theorem Rel.atF {a : Addr} {o : HO} (rl : Rel K (f.add a o) G H σ ρ) : H a = some o := rl.fh a o upd_same
theorem Rel.swapF {a : Addr} {o o' : HO} (rl : Rel K (f.add a o) G H σ ρ) (h : f.G0 a = none) : Rel K (f.add a o') G (upd H a o') σ ρ := by
  have hG := rl.noG h
  refine ⟨rl.len, fun b x q => ?_, fun b x q => ?_, rl.g0, fun b q1 q2 => ?_, rl.pin, rl.dat, fun i xs q => ?_, rl.inj⟩
  · rw [upd_ne (fun z => by subst z; rw [hG] at q; cases q)]
    exact rl.gh _ _ q
  · have q : upd f.F a o' b = some x := q
    by_cases hb : b = a
    · subst hb
      rw [upd_same] at q ⊢
      exact q
    · rw [upd_ne hb] at q ⊢
      refine rl.fh b x ?_
      show upd f.F a o b = some x
      rw [upd_ne hb]
      exact q
  · by_cases hb : b = a
    · subst hb
      exact absurd hG q2
    · refine rl.gf b (fun z => q1 ?_) q2
      have z : upd f.F a o b = none := z
      show upd f.F a o' b = none
      rw [upd_ne hb] at z ⊢
      exact z
  · obtain ⟨p, vs, q1, q2, q3, q4, q5⟩ := rl.own i xs q
    have q5 : upd f.F a o p = none := q5
    have hpa : p ≠ a := fun z => by
      subst z
      rw [upd_same] at q5
      cases q5
    refine ⟨p, vs, q1, ?_, q3, q4, ?_⟩
    · rw [upd_ne hpa]
      exact q2
    · show upd f.F a o' p = none
      rw [upd_ne hpa] at q5 ⊢
      exact q5
/-- behind a comprehension: the frame's own slots -/
theorem Rel.restore {a : Addr} {o : HO} {G1 H1 : Hp} {ρ1 ρw : Env} {vs : List Nat} (rl1 : Rel K f G1 H1 σ ρ1) (hp : f.pins.length = P) (hv : ∀ i ∈ vs, P ≤ i) (s : Same G1 G) (rl : Rel K (f.add a o) G H (wipe σ vs) ρw) (hF : f.F a = none) : Rel K f G H σ (back ρ1 vs ρw) := by
  have sub : ∀ b, f.F b ≠ none → (f.add a o).F b = f.F b := fun b hb => upd_ne (fun z => by subst z; exact hb hF)
  have osl : ∀ (j : Nat) (xs : List D), (back ρ1 vs ρw)[j]? = some (some (S.o xs)) → j ∉ vs ∧ ρw[j]? = some (some (S.o xs)) := by
    intro j xs q
    by_cases hj : j ∈ vs
    · obtain ⟨x, e, _⟩ := back_in ρ1 hj q
      cases e
    · rw [back_out ρ1 hj] at q
      exact ⟨hj, q⟩
  refine ⟨?_, rl.gh, fun b x q => ?_, rl.g0, fun b q1 q2 => ?_, fun i b q => ?_, fun j d q => ?_, fun j xs q => ?_, fun j k p xs ys q1 q2 q3 q4 => ?_⟩
  · rw [back_len, ← rl.len, wipe_length]
  · refine rl.fh b x ?_
    rw [sub b (ne_none_of q)]
    exact q
  · exact rl.gf b (by rw [sub b q1]; exact q1) q2
  · have hi : i < P := by
      have := (List.getElem?_eq_some_iff.mp q).1
      omega
    have hj : i ∉ vs := fun z => by
      have := hv i z
      omega
    obtain ⟨q1, xs, q2⟩ := rl.pin i b q
    exact ⟨by rw [← wipe_out' (σ := σ) hj]; exact q1, xs, by rw [back_out ρ1 hj]; exact q2⟩
  · by_cases hj : j ∈ vs
    · obtain ⟨x, e, q2⟩ := back_in ρ1 hj q
      cases e
      obtain ⟨v, w1, w2⟩ := rl1.dat j _ q2
      exact ⟨v, w1, dp_same s _ _ w2⟩
    · rw [back_out ρ1 hj] at q
      obtain ⟨v, w1, w2⟩ := rl.dat j _ q
      exact ⟨v, by rw [← wipe_out' (σ := σ) hj]; exact w1, w2⟩
  · obtain ⟨hj, q⟩ := osl j xs q
    obtain ⟨p, us, q1, q2, q3, q4, q5⟩ := rl.own j xs q
    refine ⟨p, us, by rw [← wipe_out' (σ := σ) hj]; exact q1, q2, q3, q4, ?_⟩
    have q5 : upd f.F a o p = none := q5
    by_cases hpa : p = a
    · subst hpa
      exact hF
    · rw [upd_ne hpa] at q5
      exact q5
  · obtain ⟨h1, q1⟩ := osl j xs q1
    obtain ⟨h2, q2⟩ := osl k ys q2
    exact rl.inj j k p xs ys q1 q2 (by rw [wipe_out' h1]; exact q3) (by rw [wipe_out' h2]; exact q4)
end
def lcL (P : Nat) (b : D → Env → Option Env) (mt : Env → Res Bool) (me : Env → Res R) (vs : List Nat) : List D → List D → Env → Res (List D)
  | [], acc, ρ => .ok acc ρ
  | d :: ds, acc, ρ => match b d ρ with
    | none => .no
    | some ρ1 => (match mt ρ1 with
      | .ok true ρ2 => (match me ρ2 with
        | .ok r ρ3 => (match frz1 P ρ3 r with
          | some ρ4 => (match dopd ρ4 r with
            | some y => if acc.length < 1000000 then lcL P b mt me vs ds (acc ++ [y]) (wipeE ρ4 vs) else .no
            | none => .no)
          | none => .no)
        | _ => .no)
      | .ok false ρ2 => lcL P b mt me vs ds acc (wipeE ρ2 vs)
      | _ => .no)
def mLc (P : Nat) (mi : Env → Res (List D)) (b : D → Env → Option Env) (mt : Env → Res Bool) (me : Env → Res R) (vs : List Nat) : Env → Res R := fun ρ => (mi ρ).bind fun ds ρ1 => match lcL P b mt me vs ds [] (wipeE ρ1 vs) with
  | .ok acc ρw => .ok (.o acc) (back ρ1 vs ρw)
  | _ => .no
theorem lc_go {K : PySem.W.Frag} {P : Nat} {W : Wish} {g : TG} {b : D → Env → Option Env} {ts vs : List Nat} {tt : TT} {mt : Env → Res Bool} {te : TE} {me : Env → Res R}
    (hg : SimG K P g b ts) (ht : SimT K P W tt mt) (he : SimE K P W te me) (hts : ∀ i ∈ ts, i ∈ vs) (hvs : ∀ i ∈ vs, P ≤ i)
    {f : Fx} {G1 H1 : Hp} {σ : L2.St} {ρ1 : Env} {J : It} {ds : List D} {Q : VK} {accF : List D} {ρF : Env} (hp : f.pins.length = P) (rl1 : Rel K f G1 H1 σ ρ1) (wk : Walk K f.F G1 J ds)
    (hres : lcL P b mt me vs ds [] (wipeE ρ1 vs) = .ok accF ρF)
    (hq : ∀ v G' H', Same G1 G' → Rel K f G' H' σ (back ρ1 vs ρF) → VRep K f G' H' σ (back ρ1 vs ρF) v (.o accF) → Q v H') :
    ∀ A, H1 A = none → ∃ Wv : Nat → Nat → Hp → Prop, (∃ m, Wv 0 m (upd H1 A (.lst []))) ∧ ∀ i m H, Wv i m H →
  (J.stop i H ∧ Q (.ref A) H) ∨ (J.go i H ∧ ∃ Nx : Hp → Prop, (∀ H', Nx H' → ∃ m', m' < m ∧ Wv (i + 1) m' H') ∧ ∀ x H', J.yld i H x H' → g x (wipe σ vs) H' fun σ2 H2 => wipe σ2 vs = wipe σ vs ∧ tt σ2 H2 fun b H3 =>
    if b = true then te σ2 H3 fun y H4 => ∃ acc, H4 A = some (.lst acc) ∧ acc.length < sizeLine ∧ Nx (upd H4 A (.lst (acc ++ [y]))) else Nx H3) := by
  intro A nA
  have gA : G1 A = none := rl1.gh.free nA
  have fA : f.F A = none := rl1.fh.free nA
  have g0A : f.G0 A = none := rl1.g0.free gA
  refine ⟨fun i m H' => ∃ G' ρ' acc avs, Same G1 G' ∧ Rel K (f.add A (.lst avs)) G' H' (wipe σ vs) ρ' ∧ DpAll K G' avs acc ∧ i + m = ds.length ∧ lcL P b mt me vs (ds.drop i) acc ρ' = .ok accF ρF,
    ⟨ds.length, G1, wipeE ρ1 vs, [], [], .refl _, (rl1.wiped hp hvs).addF nA, .nil, by omega, hres⟩, fun i m H' hW => ?_⟩
  obtain ⟨G2, ρ2, acc, avs, s2, rl2, hacc, em, hc⟩ := hW
  have sF : Same f.F H' := fun b o q => rl2.fh b o (by
    show upd f.F A _ b = some o
    rw [upd_ne (fun z => by subst z; rw [fA] at q; cases q)]
    exact q)
  obtain ⟨wk1, wk2⟩ := wk G2 H' s2 rl2.gh sF
  by_cases hlt : i < ds.length
  · have ed : ds.drop i = ds[i] :: ds.drop (i + 1) := List.drop_eq_getElem_cons hlt
    obtain ⟨go, yl⟩ := wk1 i ds[i] (List.getElem?_eq_getElem hlt)
    refine .inr ⟨go, fun H3 => ∃ G' ρ' acc avs, Same G1 G' ∧ Rel K (f.add A (.lst avs)) G' H3 (wipe σ vs) ρ' ∧ DpAll K G' avs acc ∧ lcL P b mt me vs (ds.drop (i + 1)) acc ρ' = .ok accF ρF,
      fun H3 hN => ?_, fun x H3 hy => ?_⟩
    · obtain ⟨G', ρ', acc', avs', a1, a2, a3, a4⟩ := hN
      exact ⟨m - 1, by omega, G', ρ', acc', avs', a1, a2, a3, by omega, a4⟩
    · obtain ⟨G3, gr, hd⟩ := yl x H3 hy
      have rl3 := rl2.grow gr
      have s3 := s2.trans gr.1
      rw [ed] at hc
      simp only [lcL] at hc
      split at hc
      · cases hc
      · next ρ3 e3 =>
        refine hg (f.add A (.lst avs)) G3 H3 (wipe σ vs) ρ2 ρ3 x ds[i] _ hp rl3 hd e3 fun σ4 rl4 l4 k4 => ?_
        have ew := wipe_same l4 k4 hts
        refine ⟨ew, ht (f.add A (.lst avs)) G3 H3 σ4 ρ3 _ hp rl4 ?_⟩
        cases e4 : mt ρ3 with
        | no => rw [e4] at hc; cases hc
        | exc c ρ4 => rw [e4] at hc; cases hc
        | ok k ρ4 =>
          rw [e4] at hc
          intro G5 H5 s5 rl5
          cases k with
          | false =>
            rw [if_neg Bool.false_ne_true]
            have r6 := rl5.wiped hp hvs
            rw [ew] at r6
            exact ⟨G5, _, acc, avs, s3.trans s5, r6, dpAll_same (gr.1.trans s5) _ _ hacc, hc⟩
          | true =>
            rw [if_pos rfl]
            simp only at hc
            refine SimE.op (f := f.add A (.lst avs)) he hp rl5 ?_
            cases e5 : me ρ4 with
            | no => rw [e5] at hc; cases hc
            | exc c ρ5 => rw [e5] at hc; cases hc
            | ok r ρ5 =>
              rw [e5] at hc
              intro v G6 H6 s6 rl6 h6
              simp only at hc
              split at hc
              · next ρ6 e6 =>
                obtain ⟨G7, s7, rl7⟩ := rl6.frz1 hp e6
                split at hc
                · next y e7 =>
                  split at hc
                  · next hlen =>
                    have s27 := ((gr.1.trans s5).trans s6).trans s7
                    have hv : Dp K G7 v y := (h6.same s7).dat rl7 e7
                    have hacc' : DpAll K G7 avs acc := dpAll_same s27 _ _ hacc
                    refine ⟨avs, rl7.atF, ?_, ?_⟩
                    · rw [dpAll_len hacc]
                      exact Nat.lt_of_lt_of_le hlen (by decide)
                    · have r8 := (rl7.swapF (o' := .lst (avs ++ [v])) g0A).wiped hp hvs
                      rw [ew] at r8
                      exact ⟨G7, _, acc ++ [y], avs ++ [v], s2.trans s27, r8, dpAll_append hacc' (.cons hv .nil), hc⟩
                  · cases hc
                · cases hc
              · cases hc
  · have ed : ds.drop i = [] := List.drop_of_length_le (by omega)
    rw [ed] at hc
    simp only [lcL] at hc
    cases hc
    refine .inl ⟨wk2 i (by omega), ?_⟩
    have rl' := rl1.restore hp hvs s2 rl2 fA
    refine hq (.ref A) G2 H' s2 rl' ⟨A, avs, rfl, rl2.atF, hacc, rl2.noG g0A, fA, fun i ys q z => ?_⟩
    by_cases hj : i ∈ vs
    · obtain ⟨x, e, _⟩ := back_in ρ1 hj q
      cases e
    · rw [back_out ρ1 hj] at q
      obtain ⟨p, us, q1, q2, q3, q4, q5⟩ := rl2.own i ys q
      rw [wipe_out' hj, z] at q1
      cases q1
      have q5 : upd f.F A (HO.lst avs) A = none := q5
      rw [upd_same] at q5
      cases q5
theorem sim_lc {K : PySem.W.Frag} {P : Nat} {W : Wish} {wi : TI} {mi : Env → Res (List D)} {g : TG} {b : D → Env → Option Env} {ts vs : List Nat} {tt : TT} {mt : Env → Res Bool} {te : TE} {me : Env → Res R}
    (hi : SimI K P W wi mi) (hg : SimG K P g b ts) (ht : SimT K P W tt mt) (he : SimE K P W te me) (hts : ∀ i ∈ ts, i ∈ vs) (hvs : ∀ i ∈ vs, P ≤ i) : SimE K P W (tLc wi g tt te vs) (mLc P mi b mt me vs) := by
  intro f G H σ ρ Q hp rl hq
  refine hi f G H σ ρ _ hp rl ?_
  unfold mLc at hq
  cases e : mi ρ with
  | no => rw [e] at hq; exact hq
  | exc c ρ1 => rw [e] at hq; exact hq
  | ok ds ρ1 =>
    rw [e] at hq
    simp only [Res.bind] at hq
    intro J G1 H1 s1 rl1 wk
    split at hq
    · next acc ρw hr => exact lc_go hg ht he hts hvs hp rl1 wk hr fun v G' H' s => hq v G' H' (s1.trans s)
    · exact hq.elim
/-- the same over a slot's own list, which the comprehension's parts do not name -/
def mLcH (P j : Nat) (b : D → Env → Option Env) (mt : Env → Res Bool) (me : Env → Res R) (vs : List Nat) : Env → Res R := fun ρ => match ρ[j]? with
  | some (some (S.d (.list ds))) => (match lcL P b mt me vs ds [] (wipeE ρ vs) with
    | .ok acc ρw => .ok (.o acc) (back ρ vs ρw)
    | _ => .no)
  | some (some (S.d (.tuple ds))) => (match lcL P b mt me vs ds [] (wipeE ρ vs) with
    | .ok acc ρw => .ok (.o acc) (back ρ vs ρw)
    | _ => .no)
  | some (some (S.o ds)) => (match lcL P b mt me vs ds [] (wipeE (ρ.set j none) vs) with
    | .ok acc ρw => .ok (.o acc) ((back (ρ.set j none) vs ρw).set j (some (S.o ds)))
    | _ => .no)
  | _ => .no
section
variable {K : PySem.W.Frag} {P : Nat} {W : Wish} {f : Fx} {G H G' H' : Hp} {σ : L2.St} {ρ : Env}
theorem Rel.hide {j : Nat} {p : Addr} {us : List V} {xs : List D} (rl : Rel K f G H σ ρ) (hp : f.pins.length = P) (hj : P ≤ j) (e : ρ[j]? = some (some (S.o xs))) (e2 : σ[j]? = some (some (V.ref p))) (hH : H p = some (.lst us)) (hG : G p = none) :
    Rel K (f.add p (.lst us)) G H σ (ρ.set j none) := by
  have r := rl.forget hp hj
  have out : ∀ (i : Nat) (ys : List D), (ρ.set j none)[i]? = some (some (S.o ys)) → j ≠ i ∧ ρ[i]? = some (some (S.o ys)) := by
    intro i ys q
    by_cases h : j = i
    · subst h
      rw [List.getElem?_set_self (List.getElem?_eq_some_iff.mp e).1] at q
      cases q
    · rw [List.getElem?_set_ne h] at q
      exact ⟨h, q⟩
  refine ⟨r.len, r.gh, fun b o q => ?_, r.g0, fun b q1 q2 => ?_, r.pin, r.dat, fun i ys q => ?_, r.inj⟩
  · have q : upd f.F p (.lst us) b = some o := q
    by_cases hb : b = p
    · subst hb
      rw [upd_same] at q
      cases q
      exact hH
    · rw [upd_ne hb] at q
      exact rl.fh b o q
  · have q1 : upd f.F p (.lst us) b ≠ none := q1
    by_cases hb : b = p
    · subst hb
      exact absurd hG q2
    · rw [upd_ne hb] at q1
      exact rl.gf b q1 q2
  · obtain ⟨hne, q⟩ := out i ys q
    obtain ⟨p', vs', w1, w2, w3, w4, w5⟩ := rl.own i ys q
    refine ⟨p', vs', w1, w2, w3, w4, ?_⟩
    show upd f.F p (.lst us) p' = none
    rw [upd_ne]
    · exact w5
    · intro z
      subst z
      exact hne (rl.inj j i p' xs ys e q e2 w1)
theorem Rel.unhide {j : Nat} {p : Addr} {us : List V} {xs : List D} (rl : Rel K (f.add p (.lst us)) G H σ ρ) (hF : f.F p = none) (h0 : f.G0 p = none) (e2 : σ[j]? = some (some (V.ref p))) (hx : DpAll K G us xs) :
    Rel K f G H σ (ρ.set j (some (S.o xs))) ∧ True := by
  have hG := rl.noG h0
  have hH := rl.atF
  have sub : ∀ b, b ≠ p → (f.add p (.lst us)).F b = f.F b := fun b hb => upd_ne hb
  by_cases hjl : j < ρ.length
  · have out : ∀ (k : Nat) (zs : List D), (ρ.set j (some (S.o xs)))[k]? = some (some (S.o zs)) → (j = k ∧ xs = zs) ∨ (j ≠ k ∧ ρ[k]? = some (some (S.o zs))) := by
      intro k s q
      by_cases hj : j = k
      · subst hj
        rw [List.getElem?_set_self hjl] at q
        cases q
        exact .inl ⟨rfl, rfl⟩
      · rw [List.getElem?_set_ne hj] at q
        exact .inr ⟨hj, q⟩
    have far : ∀ (k : Nat) (zs : List D), ρ[k]? = some (some (S.o zs)) → σ[k]? ≠ some (some (V.ref p)) := by
      intro k zs q z
      obtain ⟨p', vs', w1, w2, w3, w4, w5⟩ := rl.own k zs q
      rw [z] at w1
      cases w1
      have w5 : upd f.F p (HO.lst us) p = none := w5
      rw [upd_same] at w5
      cases w5
    refine ⟨⟨by rw [List.length_set]; exact rl.len, rl.gh, fun b o q => ?_, rl.g0, fun b q1 q2 => ?_, fun i b q => ?_, fun i d q => ?_, fun i ys q => ?_, fun i k p' ys zs q1 q2 q3 q4 => ?_⟩, trivial⟩
    · have hb : b ≠ p := fun z => by
        subst z
        rw [hF] at q
        cases q
      exact rl.fh b o (by rw [sub b hb]; exact q)
    · have hb : b ≠ p := fun z => by
        subst z
        exact q1 hF
      exact rl.gf b (by rw [sub b hb]; exact q1) q2
    · obtain ⟨w1, ys, w2⟩ := rl.pin i b q
      refine ⟨w1, ?_⟩
      by_cases hj : j = i
      · subst hj
        exact ⟨xs, List.getElem?_set_self hjl⟩
      · exact ⟨ys, by rw [List.getElem?_set_ne hj]; exact w2⟩
    · by_cases hj : j = i
      · subst hj
        rw [List.getElem?_set_self hjl] at q
        cases q
      · rw [List.getElem?_set_ne hj] at q
        exact rl.dat i d q
    · rcases out i ys q with ⟨h1, h2⟩ | ⟨h1, q⟩
      · subst h1
        subst h2
        exact ⟨p, us, e2, hH, hx, hG, hF⟩
      · obtain ⟨p', vs', w1, w2, w3, w4, w5⟩ := rl.own i ys q
        have hpp : p' ≠ p := fun z => by
          subst z
          exact far i ys q w1
        exact ⟨p', vs', w1, w2, w3, w4, by rw [← sub p' hpp]; exact w5⟩
    · rcases out i ys q1 with ⟨h1, _⟩ | ⟨h1, q1⟩
      · subst h1
        rw [e2] at q3
        cases q3
        rcases out k zs q2 with ⟨h2, _⟩ | ⟨h2, q2⟩
        · exact h2
        · exact absurd q4 (far k zs q2)
      · rcases out k zs q2 with ⟨h2, _⟩ | ⟨h2, q2⟩
        · subst h2
          rw [e2] at q4
          cases q4
          exact absurd q3 (far i ys q1)
        · exact rl.inj i k p' ys zs q1 q2 q3 q4
  · rw [← rl.len] at hjl
    rw [List.getElem?_eq_none (by omega)] at e2
    cases e2
theorem sim_lcH {j : Nat} {g : TG} {b : D → Env → Option Env} {ts vs : List Nat} {tt : TT} {mt : Env → Res Bool} {te : TE} {me : Env → Res R}
    (hg : SimG K P g b ts) (ht : SimT K P W tt mt) (he : SimE K P W te me) (hts : ∀ i ∈ ts, i ∈ vs) (hvs : ∀ i ∈ vs, P ≤ i) (hj : P ≤ j) : SimE K P W (tLc (iSeq K (tVar j)) g tt te vs) (mLcH P j b mt me vs) := by
  intro f G H σ ρ Q hp rl hq
  unfold mLcH at hq
  split at hq
  · next ds e =>
    split at hq
    · next acc ρw hr =>
      obtain ⟨v, w1, w2⟩ := rl.dat j _ e
      obtain ⟨a, xs, rfl, w3, w4⟩ := dp_lst w2
      exact ⟨_, w1, a, rfl, .inl ⟨⟨xs, rl.gh.seq w3⟩, lc_go hg ht he hts hvs hp rl (walk_list w3 w4) hr fun v G' H' s => hq v G' H' s⟩⟩
    · exact hq.elim
  · next ds e =>
    split at hq
    · next acc ρw hr =>
      obtain ⟨v, w1, w2⟩ := rl.dat j _ e
      obtain ⟨a, xs, rfl, w3, w4⟩ := dp_tup w2
      exact ⟨_, w1, a, rfl, .inr ⟨⟨xs, sqT_same rl.gh w3⟩, lc_go hg ht he hts hvs hp rl (walk_tup w3 w4) hr fun v G' H' s => hq v G' H' s⟩⟩
    · exact hq.elim
  · next ds e =>
    split at hq
    · next acc ρw hr =>
      obtain ⟨p, us, w1, w2, w3, w4, w5⟩ := rl.own j ds e
      refine ⟨_, w1, p, rfl, .inl ⟨⟨us, .inl (.inl w2)⟩, ?_⟩⟩
      have rh := rl.hide hp hj e w1 w2 w4
      have wk : Walk K (f.add p (.lst us)).F G (Itl K p) ds := by
        intro G1 H1 s1 s2 s3
        have hs : H1 p = some (.lst us) := s3 p _ upd_same
        have hq : SqL K H1 p us := .inl (.inl hs)
        refine ⟨fun i d e => ?_, fun i hi => ⟨us, hq, by rw [dpAll_len w3]; exact hi⟩⟩
        obtain ⟨v, q1, q2⟩ := dpAll_get w3 e
        refine ⟨⟨us, v, hq, q1⟩, fun x H2 hy => ?_⟩
        obtain ⟨rfl, fv⟩ := hy
        have ex : x = v := Option.some.inj ((fv _ hq).symm.trans q1)
        subst ex
        exact ⟨G1, .refl s2, dp_same s1 _ _ q2⟩
      refine lc_go (f := f.add p (.lst us)) hg ht he hts hvs hp rh wk hr fun v G' H' s rl' hv => ?_
      have g0p : f.G0 p = none := rl.g0.free w4
      have rl2 := (rl'.unhide w5 g0p w1 (dpAll_same s _ _ w3)).1
      obtain ⟨A, avs, rfl, q1, q2, q3, q4, q5⟩ := hv
      have hpA : A ≠ p := fun z => by
        subst z
        have q4 : upd f.F A (HO.lst us) A = none := q4
        rw [upd_same] at q4
        cases q4
      refine hq _ G' H' s rl2 ⟨A, avs, rfl, q1, q2, q3, ?_, fun i ys q z => ?_⟩
      · have q4 : upd f.F p (HO.lst us) A = none := q4
        rw [upd_ne hpA] at q4
        exact q4
      · by_cases hi : j = i
        · subst hi
          rw [w1] at z
          cases z
          exact hpA rfl
        · rw [List.getElem?_set_ne hi] at q
          exact q5 i ys q z
    · exact hq.elim
  · exact hq.elim
end
end Z
namespace Z
open PySem L2

/-! ### a def's promise: what its mirror says -/
def cut (H : Hp) (pins : List Addr) : Hp := fun a => if a ∈ pins then none else H a
def env0 (n : Nat) (ss : List S) : Env := ss.map some ++ List.replicate (n - ss.length) none
def spM (K : PySem.W.Frag) (P k n : Nat) (WC : XK → Wish) (mb : Env → Out) : Sp := fun vs H Q E => vs.length = k ∧ ∃ (pins : List Addr) (G : Hp) (ss : List S), pins.length = P ∧ ss.length = k ∧
  Rel K ⟨cut H pins, G, pins⟩ G H (vs.map some ++ List.replicate (n - vs.length) none) (env0 n ss) ∧ CS K (WC E) ⟨cut H pins, G, pins⟩ G { nx := fun _ H' => Q .non H', rt := Q } (mb (env0 n ss))
def W0 : XK → Wish := fun _ _ _ _ => False
theorem env0_get {n : Nat} {ss : List S} {i : Nat} {s : S} (h : (env0 n ss)[i]? = some (some s)) : ss[i]? = some s := by
  unfold env0 at h
  by_cases hi : i < ss.length
  · rw [List.getElem?_append_left (by rw [List.length_map]; exact hi), List.getElem?_map] at h
    cases e : ss[i]? with
    | none => rw [e] at h; cases h
    | some x => rw [e] at h; cases h; rfl
  · rw [List.getElem?_append_right (by rw [List.length_map]; omega)] at h
    rw [List.getElem?_replicate] at h
    split at h <;> cases h
theorem start_get {n : Nat} {vs : List V} {i : Nat} {v : V} (h : vs[i]? = some v) : (vs.map some ++ List.replicate (n - vs.length) none)[i]? = some (some v) := by
  have hi : i < vs.length := (List.getElem?_eq_some_iff.mp h).1
  rw [List.getElem?_append_left (by rw [List.length_map]; exact hi), List.getElem?_map, h]
  rfl
section
variable {P : Program} {w : World} {K : PySem.W.Frag} {mg : Str → Option Value} {base : Heap}
theorem ok0 {x qual : Str} {st : Stmt} {f : Addr} {fd : FuncData} {N ps : List Str} {k np kk n : Nat} {mb : Env → Out} (F : Fun K x qual st f fd) (S : FnScope N ps (defScope st)) (hk : ps.length = kk) (hn : N.length = n)
    (body : ∀ (cdv : Value) (A : Around) (outer : List PySem.Env) (s : Shared) (H : Hp) (E : XK), Room k (A.deeper (PyProof.Rows.envOfC qual (defScope st) s.heap.objs.size f cdv)) →
      ∃ t, PSs (cxOf CX0 P w K mg base N qual (defScope st) f cdv A outer s H E).nox (defBody st) t ∧ SimS K np (W0 E) t mb) : FnOk P w K mg base CX0 (k + 1) f fd ps (spM K np kk n W0 mb) := by
  refine F.ok S (fun vs H Q E h => by rw [hk]; exact h.1) fun cdv A outer s H vs Q E hr h => ?_
  obtain ⟨t, h1, h2⟩ := body cdv A outer s H E hr
  refine ⟨t, h1, ?_⟩
  obtain ⟨hl, pins, G, ss, q1, q2, q3, q4⟩ := h
  subst hn
  exact h2 _ G H _ _ _ q1 q3 q4
end

/-! ### calls -/
def flatD : D → Bool
  | .none => true
  | .bool _ => true
  | .int _ => true
  | .str _ => true
  | _ => false
theorem flat_dp {K : PySem.W.Frag} {G G' : Hp} {v : V} {d : D} (h : Dp K G v d) (e : flatD d = true) : Dp K G' v d := by
  cases h with
  | non => exact .non
  | bl b => exact .bl b
  | int i => exact .int i
  | str x => exact .str x
  | lst _ _ => cases e
  | tup _ _ => cases e
def mCall0 (ex : Bool) (P k n : Nat) (mb : Env → Out) (ms : Env → Res (List R)) : Env → Res R := fun ρ => (ms ρ).bind fun rs ρ1 => match frzA P rs ρ1 with
  | none => .no
  | some ρ2 => (match dopds ρ2 rs with
    | none => .no
    | some ds => if ds.length = k then (match mb (env0 n (ds.map S.d)) with
        | .nx _ => .ok (.d .none) ρ1
        | .exc c _ => if ex = true then .exc c ρ1 else .no
        | .rt (.d x) _ => if flatD x = true then .ok (.d x) ρ1 else .ok (.d x) ρ2
        | .rt (.o xs) _ => .ok (.o xs) ρ2
        | _ => .no) else .no)
def mCall1 (ex : Bool) (P k n : Nat) (mb : Env → Out) (ms : Env → Res (List R)) : Env → Res R := fun ρ => (ms ρ).bind fun rs ρ1 => match rs with
  | .b j :: rest => (match frzA P rest ρ1 with
    | none => .no
    | some ρ2 => (match dopds ρ2 rest, ρ2[j]? with
      | some ds, some (some (S.o xs)) => if ds.length + 1 = k then (match mb (env0 n (.o xs :: ds.map S.d)) with
          | .nx ρ' => (match ρ'[0]? with
            | some (some (S.o ys)) => .ok (.d .none) (ρ2.set j (some (S.o ys)))
            | _ => .no)
          | .rt (.d x) ρ' => (match ρ'[0]? with
            | some (some (S.o ys)) => .ok (.d x) (ρ2.set j (some (S.o ys)))
            | _ => .no)
          | .rt (.o zs) ρ' => (match ρ'[0]? with
            | some (some (S.o ys)) => .ok (.o zs) (ρ2.set j (some (S.o ys)))
            | _ => .no)
          | _ => .no) else .no
      | _, _ => .no))
  | _ => .no
section
variable {K : PySem.W.Frag} {P : Nat} {W : Wish} {f : Fx} {G H G' H' : Hp} {σ σ' : L2.St} {ρ ρ' : Env}
theorem cut_nil (H : Hp) : cut H [] = H := by
  funext a
  unfold cut
  rw [if_neg (by simp)]
theorem rel_args {n : Nat} {vs : List V} {ds : List D} (gh : Same G H) (h : DpAll K G vs ds) : Rel K ⟨cut H [], G, []⟩ G H (vs.map some ++ List.replicate (n - vs.length) none) (env0 n (ds.map S.d)) := by
  have hl := dpAll_len h
  have nown : ∀ (i : Nat) (xs : List D), (env0 n (ds.map S.d))[i]? ≠ some (some (S.o xs)) := by
    intro i xs q
    have q2 := env0_get q
    rw [List.getElem?_map] at q2
    cases e : ds[i]? with
    | none => rw [e] at q2; cases q2
    | some x => rw [e] at q2; cases q2
  refine ⟨?_, gh, ?_, .refl _, fun _ _ z => z, fun i b q => ?_, fun i d q => ?_, fun i xs q => absurd q (nown i xs), fun i j p xs ys q => absurd q (nown i xs)⟩
  · unfold env0
    simp [hl]
  · rw [cut_nil]
    exact .refl _
  · simp at q
  · have q2 := env0_get q
    rw [List.getElem?_map] at q2
    cases e : ds[i]? with
    | none => rw [e] at q2; cases q2
    | some x =>
      rw [e] at q2
      cases q2
      obtain ⟨v, w1, w2⟩ := dpAll_get h e
      exact ⟨v, start_get w1, w2⟩
theorem grow_of_args {G3 H3 : Hp} (rl : Rel K ⟨cut H [], G, []⟩ G3 H3 σ' ρ') : Grow G H G3 H3 := by
  refine ⟨rl.g0, ?_, rl.gh, fun a h => ?_⟩
  · have := rl.fh
    rw [cut_nil] at this
    exact this
  · by_cases hH : H a = none
    · exact .inr hH
    · refine .inl (rl.gf a ?_ h)
      rw [cut_nil]
      exact hH
theorem sim_call0 {ex : Bool} {k n : Nat} {mb : Env → Out} {WC : XK → Wish} {E : XK} {ta : TA} {ms : Env → Res (List R)} (h : SimA K P W ta ms) (hx : ex = true → ∀ σ σ' c H, W σ c H → WC E σ' c H) :
    SimE K P W (tCall (spM K 0 k n WC mb) [] E ta) (mCall0 ex P k n mb ms) := by
  intro f G H σ ρ Q hp rl hq
  refine h f G H σ ρ _ hp rl ?_
  unfold mCall0 at hq
  cases e : ms ρ with
  | no => rw [e] at hq; exact hq
  | exc c ρ1 => rw [e] at hq; exact hq
  | ok rs ρ1 =>
    rw [e] at hq
    intro vs G1 H1 s1 rl1 h1
    simp only [Res.bind] at hq
    split at hq
    · exact hq.elim
    · next ρ2 e2 =>
      obtain ⟨G2, s2, rl2⟩ := rl1.frzA hp e2
      split at hq
      · exact hq.elim
      · next ds e3 =>
        split at hq
        · next hk =>
          have hd : DpAll K G2 vs ds := (h1.same s2).dat rl2 e3
          rw [List.append_nil]
          refine ⟨by rw [dpAll_len hd]; exact hk, [], G2, ds.map S.d, rfl, by rw [List.length_map]; exact hk, rel_args rl2.gh hd, ?_⟩
          have same1 : ∀ {G3 H3 : Hp} {σ' : L2.St} {ρ' : Env}, Rel K ⟨cut H1 [], G2, []⟩ G3 H3 σ' ρ' → Grow G1 H1 G1 H3 := fun rl3 => by
            have gr := grow_of_args rl3
            exact ⟨.refl _, gr.2.1, (s2.trans gr.1).trans gr.2.2.1, fun a z => .inl z⟩
          cases e4 : mb (env0 n (ds.map S.d)) with
          | no => rw [e4] at hq; exact hq.elim
          | bk _ => rw [e4] at hq; exact hq.elim
          | ct _ => rw [e4] at hq; exact hq.elim
          | nx ρ3 =>
            rw [e4] at hq
            intro G3 H3 σ3 s3 rl3
            exact hq .non G1 H3 s1 (rl1.grow (same1 rl3)) .non
          | exc c ρ3 =>
            rw [e4] at hq
            intro G3 H3 σ3 s3 rl3
            simp only at hq
            split at hq
            · next hex => exact hx hex σ σ3 c H3 (hq G1 H3 s1 (rl1.grow (same1 rl3)))
            · exact hq.elim
          | rt s ρ3 =>
            rw [e4] at hq
            intro v G3 H3 σ3 s3 rl3 hv
            have gr := grow_of_args rl3
            cases s with
            | d x =>
              simp only at hq
              split at hq
              · next hf => exact hq v G1 H3 s1 (rl1.grow (same1 rl3)) (flat_dp hv hf)
              · exact hq v G3 H3 ((s1.trans s2).trans gr.1) (rl2.grow gr) hv
            | o xs =>
              obtain ⟨p, us, rfl, w1, w2, w3, w4, _⟩ := hv
              have w4 : cut H1 [] p = none := w4
              rw [cut_nil] at w4
              have nv : NewV K H1 G3 H3 (.ref p) (.o xs) := ⟨p, us, rfl, w4, w1, w2, w3⟩
              exact hq _ G3 H3 ((s1.trans s2).trans gr.1) (rl2.grow gr) (nv.vrep rl2 gr)
        · exact hq.elim
theorem rel_args1 {n : Nat} {b : Addr} {us vs : List V} {xs ds : List D} (gh : Same G H) (hb : H b = some (.lst us)) (hx : DpAll K G us xs) (hG : G b = none) (h : DpAll K G vs ds) :
    Rel K ⟨cut H [b], G, [b]⟩ G H ((V.ref b :: vs).map some ++ List.replicate (n - (V.ref b :: vs).length) none) (env0 n (.o xs :: ds.map S.d)) := by
  have hl := dpAll_len h
  have own : ∀ (i : Nat) (ys : List D), (env0 n (.o xs :: ds.map S.d))[i]? = some (some (S.o ys)) → i = 0 ∧ xs = ys := by
    intro i ys q
    have q2 := env0_get q
    cases i with
    | zero =>
      cases q2
      exact ⟨rfl, rfl⟩
    | succ i =>
      rw [List.getElem?_cons_succ, List.getElem?_map] at q2
      cases e : ds[i]? with
      | none => rw [e] at q2; cases q2
      | some x => rw [e] at q2; cases q2
  have at0 : ((V.ref b :: vs).map some ++ List.replicate (n - (V.ref b :: vs).length) none)[0]? = some (some (V.ref b)) := start_get (vs := V.ref b :: vs) (i := 0) rfl
  refine ⟨?_, gh, fun a o q => ?_, .refl _, fun _ _ z => z, fun i c q => ?_, fun i d q => ?_, fun i ys q => ?_, fun i j p ys zs q1 q2 _ _ => ?_⟩
  · unfold env0
    simp [hl]
  · have q : cut H [b] a = some o := q
    unfold cut at q
    split at q
    · cases q
    · exact q
  · cases i with
    | zero =>
      cases q
      exact ⟨at0, xs, rfl⟩
    | succ i => simp at q
  · have q2 := env0_get q
    cases i with
    | zero => cases q2
    | succ i =>
      rw [List.getElem?_cons_succ, List.getElem?_map] at q2
      cases e : ds[i]? with
      | none => rw [e] at q2; cases q2
      | some x =>
        rw [e] at q2
        cases q2
        obtain ⟨v, w1, w2⟩ := dpAll_get h e
        exact ⟨v, start_get (vs := V.ref b :: vs) (i := i + 1) (by rw [List.getElem?_cons_succ]; exact w1), w2⟩
  · obtain ⟨rfl, rfl⟩ := own i ys q
    refine ⟨b, us, at0, hb, hx, hG, ?_⟩
    show cut H [b] b = none
    unfold cut
    rw [if_pos (by simp)]
  · rw [(own i ys q1).1, (own j zs q2).1]
theorem rel_back1 {b : Addr} {j : Nat} {xs ys : List D} {G2 H1 G3 H3 : Hp} {ρ2 : Env} (rl2 : Rel K f G2 H1 σ ρ2) (e1 : ρ2[j]? = some (some (S.o xs))) (e2 : σ[j]? = some (some (V.ref b)))
    (rl3 : Rel K ⟨cut H1 [b], G2, [b]⟩ G3 H3 σ' ρ') (e3 : ρ'[0]? = some (some (S.o ys))) : Rel K f G3 H3 σ (ρ2.set j (some (S.o ys))) ∧ Same G2 G3 ∧ ∀ a, a ≠ b → ∀ o, H1 a = some o → H3 a = some o := by
  have hjl : j < ρ2.length := (List.getElem?_eq_some_iff.mp e1).1
  obtain ⟨b', us, w1, w2, w3, w4, w5⟩ := rl2.own j xs e1
  rw [e2] at w1
  cases w1
  have cutne : ∀ a, a ≠ b → cut H1 [b] a = H1 a := fun a ha => by
    unfold cut
    rw [if_neg (by simpa using ha)]
  have keep : ∀ a, a ≠ b → ∀ o, H1 a = some o → H3 a = some o := fun a ha o q => rl3.fh a o (by rw [← q]; exact cutne a ha)
  obtain ⟨p0, zs, z2⟩ := rl3.pin 0 b rfl
  obtain ⟨q, ws, x1, x2, x3, x4, x5⟩ := rl3.own 0 ys e3
  rw [p0] at x1
  cases x1
  have fnb : ∀ a o, f.F a = some o → a ≠ b := fun a o q z => by
    subst z
    rw [w5] at q
    cases q
  have out : ∀ (k : Nat) (zs : List D), (ρ2.set j (some (S.o ys)))[k]? = some (some (S.o zs)) → (j = k ∧ ys = zs) ∨ (j ≠ k ∧ ρ2[k]? = some (some (S.o zs))) := by
    intro k s q
    by_cases hj : j = k
    · subst hj
      rw [List.getElem?_set_self hjl] at q
      cases q
      exact .inl ⟨rfl, rfl⟩
    · rw [List.getElem?_set_ne hj] at q
      exact .inr ⟨hj, q⟩
  have was : ∀ (k : Nat) (zs : List D), (ρ2.set j (some (S.o ys)))[k]? = some (some (S.o zs)) → ∃ zs', ρ2[k]? = some (some (S.o zs')) := by
    intro k zs q
    rcases out k zs q with ⟨h1, _⟩ | ⟨_, q⟩
    · subst h1
      exact ⟨_, e1⟩
    · exact ⟨_, q⟩
  refine ⟨⟨by rw [List.length_set]; exact rl2.len, rl3.gh, fun a o q => keep a (fnb a o q) o (rl2.fh a o q), rl2.g0.trans rl3.g0, fun a q1 q2 => ?_, fun i c q => ?_, fun i d q => ?_, fun k zs q => ?_, fun k l p' zs zs' q1 q2 q3 q4 => ?_⟩, rl3.g0, keep⟩
  · cases e : f.F a with
    | none => exact absurd e q1
    | some o =>
      have ha := fnb a o e
      refine rl2.gf a q1 (rl3.gf a ?_ q2)
      show cut H1 [b] a ≠ none
      rw [cutne a ha, rl2.fh a o e]
      exact fun z => nomatch z
  · obtain ⟨q1, zs, q2⟩ := rl2.pin i c q
    refine ⟨q1, ?_⟩
    by_cases hj : j = i
    · subst hj
      exact ⟨ys, List.getElem?_set_self hjl⟩
    · exact ⟨zs, by rw [List.getElem?_set_ne hj]; exact q2⟩
  · by_cases hj : j = i
    · subst hj
      rw [List.getElem?_set_self hjl] at q
      cases q
    · rw [List.getElem?_set_ne hj] at q
      obtain ⟨v, y1, y2⟩ := rl2.dat i d q
      exact ⟨v, y1, dp_same rl3.g0 _ _ y2⟩
  · rcases out k zs q with ⟨h1, h2⟩ | ⟨h1, q⟩
    · subst h1
      subst h2
      exact ⟨b, ws, e2, x2, x3, x4, w5⟩
    · obtain ⟨p', vs', y1, y2, y3, y4, y5⟩ := rl2.own k zs q
      have hpb : p' ≠ b := fun z => by
        subst z
        exact h1 (rl2.inj j k p' xs zs e1 q e2 y1)
      refine ⟨p', vs', y1, keep p' hpb _ y2, dpAll_same rl3.g0 _ _ y3, ?_, y5⟩
      cases e : G3 p' with
      | none => rfl
      | some o =>
        refine absurd y4 (rl3.gf p' ?_ (ne_none_of e))
        show cut H1 [b] p' ≠ none
        rw [cutne p' hpb, y2]
        exact fun z => nomatch z
  · obtain ⟨z1, y1⟩ := was k zs q1
    obtain ⟨z2, y2⟩ := was l zs' q2
    exact rl2.inj k l p' z1 z2 y1 y2 q3 q4
theorem sim_call1 {ex : Bool} {k n : Nat} {mb : Env → Out} {WC : XK → Wish} {E : XK} {ta : TA} {ms : Env → Res (List R)} (h : SimA K P W ta ms) :
    SimE K P W (tCall (spM K 1 k n WC mb) [] E ta) (mCall1 ex P k n mb ms) := by
  intro f G H σ ρ Q hp rl hq
  refine h f G H σ ρ _ hp rl ?_
  unfold mCall1 at hq
  cases e : ms ρ with
  | no => rw [e] at hq; exact hq
  | exc c ρ1 => rw [e] at hq; exact hq
  | ok rs ρ1 =>
    rw [e] at hq
    intro vs G1 H1 s1 rl1 h1
    simp only [Res.bind] at hq
    split at hq
    · next j rest =>
      split at hq
      · exact hq.elim
      · next ρ2 e2 =>
        obtain ⟨G2, s2, rl2⟩ := rl1.frzA hp e2
        split at hq
        · next ds xs e3 e4 =>
          split at hq
          · next hk =>
            cases h1 with
            | cons a1 a2 =>
              rename_i v vs
              have a1 : σ[j]? = some (some v) := a1
              obtain ⟨b, us, w1, w2, w3, w4, w5⟩ := rl2.own j xs e4
              rw [a1] at w1
              cases w1
              have hd : DpAll K G2 vs ds := (a2.same s2).dat rl2 e3
              rw [List.append_nil]
              refine ⟨by rw [List.length_cons, dpAll_len hd]; exact hk, [b], G2, .o xs :: ds.map S.d, rfl, by rw [List.length_cons, List.length_map]; exact hk, rel_args1 rl2.gh w2 w3 w4 hd, ?_⟩
              cases e5 : mb (env0 n (.o xs :: ds.map S.d)) with
              | no => rw [e5] at hq; exact hq.elim
              | bk _ => rw [e5] at hq; exact hq.elim
              | ct _ => rw [e5] at hq; exact hq.elim
              | exc c ρ3 => rw [e5] at hq; exact hq.elim
              | nx ρ3 =>
                rw [e5] at hq
                intro G3 H3 σ3 s3 rl3
                simp only at hq
                split at hq
                · next ys e6 =>
                  obtain ⟨r3, s23, _⟩ := rel_back1 rl2 e4 a1 rl3 e6
                  exact hq .non G3 H3 ((s1.trans s2).trans s23) r3 .non
                · exact hq.elim
              | rt s ρ3 =>
                rw [e5] at hq
                intro v G3 H3 σ3 s3 rl3 hv
                cases s with
                | d x =>
                  simp only at hq
                  split at hq
                  · next ys e6 =>
                    obtain ⟨r3, s23, _⟩ := rel_back1 rl2 e4 a1 rl3 e6
                    exact hq v G3 H3 ((s1.trans s2).trans s23) r3 hv
                  · exact hq.elim
                | o zs =>
                  simp only at hq
                  split at hq
                  · next ys e6 =>
                    obtain ⟨r3, s23, keep⟩ := rel_back1 rl2 e4 a1 rl3 e6
                    obtain ⟨p, ts, rfl, y1, y2, y3, y4, y5⟩ := hv
                    have hpb : p ≠ b := y5 0 b rfl
                    have y4 : cut H1 [b] p = none := y4
                    have hp1 : H1 p = none := by
                      unfold cut at y4
                      rw [if_neg (by simpa using hpb)] at y4
                      exact y4
                    refine hq _ G3 H3 ((s1.trans s2).trans s23) r3 ⟨p, ts, rfl, y1, y2, y3, rl2.fh.free hp1, fun i as q z => ?_⟩
                    have : ∃ as', ρ2[i]? = some (some (S.o as')) := by
                      by_cases hj : j = i
                      · subst hj
                        exact ⟨_, e4⟩
                      · rw [List.getElem?_set_ne hj] at q
                        exact ⟨_, q⟩
                    obtain ⟨as', q'⟩ := this
                    obtain ⟨p', vs', g1, g2, _⟩ := rl2.own i as' q'
                    rw [z] at g1
                    cases g1
                    rw [hp1] at g2
                    cases g2
                  · exact hq.elim
          · exact hq.elim
        · exact hq.elim
    · exact hq.elim
end
end Z
namespace Z
open PySem L2

/-! ### operators by data -/
def gI (C : Int → Int → Bool) (g : Int → Int → D) : D → D → Option R
  | .int i, .int j => if C i j = true then some (.d (g i j)) else none
  | _, _ => none
def cAny : Int → Int → Bool := fun _ _ => true
def gAdd : D → D → Option R := gI cAny fun i j => .int (i + j)
def gSub : D → D → Option R := gI cAny fun i j => .int (i - j)
def cMul (i j : Int) : Bool := decide ((-(2 ^ 64) < i ∧ i < 2 ^ 64) ∨ (-(2 ^ 64) < j ∧ j < 2 ^ 64))
def gMul : D → D → Option R := gI cMul fun i j => .int (i * j)
def cDiv (_ j : Int) : Bool := decide (0 < j ∧ j < 1073741824)
def gDiv : D → D → Option R := gI cDiv fun i j => .int (i / j)
def cMod (_ j : Int) : Bool := decide (0 < j)
def gMod : D → D → Option R := gI cMod fun i j => .int (i % j)
def cPow (i j : Int) : Bool := decide (0 ≤ j ∧ j ≤ 1000000 ∧ i.natAbs < 2 ^ 64)
def gPow : D → D → Option R := gI cPow fun i j => .int (i ^ j.toNat)
def gShl : D → D → Option R := gI cPow fun i j => .int (i * 2 ^ j.toNat)
def cShr (_ j : Int) : Bool := decide (0 ≤ j)
def gShr : D → D → Option R := gI cShr fun i j => .int (i / 2 ^ j.toNat)
def gAnd : D → D → Option R := gI cAny fun i j => .int (Builtin.bitAnd i j)
def gOr : D → D → Option R := gI cAny fun i j => .int (Builtin.bitOr i j)
def gLt : D → D → Option R := gI cAny fun i j => .bool (decide (i < j))
def gLe : D → D → Option R := gI cAny fun i j => .bool (decide (i ≤ j))
def gGt : D → D → Option R := gI cAny fun i j => .bool (decide (j < i))
def gGe : D → D → Option R := gI cAny fun i j => .bool (decide (j ≤ i))
def gNeg : D → Option R
  | .int i => some (.d (.int (-i)))
  | _ => none
def gEq (d e : D) : Option R := if (SeqAt.shaped d && SeqAt.shaped e) = true then some (.d (.bool (PyData.eqv d e))) else none
def gNe (d e : D) : Option R := if (SeqAt.shaped d && SeqAt.shaped e) = true then some (.d (.bool (!PyData.eqv d e))) else none
def gIn (d : D) : D → Option R
  | .list es => if (SeqAt.shaped d && SeqAt.shaped (.list es)) = true then some (.d (.bool (es.any fun z => PyData.eqv z d))) else none
  | _ => none
def gNotIn (d : D) : D → Option R
  | .list es => if (SeqAt.shaped d && SeqAt.shaped (.list es)) = true then some (.d (.bool (!es.any fun z => PyData.eqv z d))) else none
  | _ => none
def gIx : D → D → Option R
  | .list xs, .int i => (match atI xs i with
    | some x => some (.d x)
    | none => none)
  | .tuple xs, .int i => (match atI xs i with
    | some x => some (.d x)
    | none => none)
  | _, _ => none
section
variable {K : PySem.W.Frag}
/-- what needs no heap -/
theorem ops_sc {r : R2} {g : D → D → Option R} (h : ∀ (G H : Hp) (x y : V) (d e : D) (z : R), Same G H → Got K G H x d → Got K G H y e → g d e = some z → ∃ v u, z = .d u ∧ CV v u ∧ ∀ Q : VK, Q v H → r x y H Q) : OpS K r g := by
  intro G H x y d e z Q s h1 h2 eg hq
  obtain ⟨v, u, rfl, hc, k⟩ := h G H x y d e z s h1 h2 eg
  exact k Q (hq v G H (.refl s) hc.dp)
theorem ops_I {C : Int → Int → Prop} {c : Int → Int → Bool} {f : Int → Int → V} {g : Int → Int → D} (hc : ∀ i j, c i j = true → C i j) (hf : ∀ i j, CV (f i j) (g i j)) : OpS K (rI C f) (gI c g) := by
  refine ops_sc fun G H x y d e z s h1 h2 eg => ?_
  unfold gI at eg
  split at eg
  · next i j =>
    split at eg
    · next hij =>
      cases eg
      exact ⟨f i j, g i j, rfl, hf i j, fun Q q => ⟨i, j, h1.int, h2.int, hc i j hij, q⟩⟩
    · cases eg
  · cases eg
theorem ops_I0 {f : Int → Int → V} {g : Int → Int → D} (hf : ∀ i j, CV (f i j) (g i j)) : OpS K (rI0 f) (gI cAny g) := by
  refine ops_sc fun G H x y d e z s h1 h2 eg => ?_
  unfold gI at eg
  split at eg
  · next i j =>
    split at eg
    · cases eg
      exact ⟨f i j, g i j, rfl, hf i j, fun Q q => ⟨i, j, h1.int, h2.int, q⟩⟩
    · cases eg
  · cases eg
theorem s_add : OpS K (rI0 fun i j => .int (i + j)) gAdd := ops_I0 fun i j => .int _
theorem s_sub : OpS K (rI0 fun i j => .int (i - j)) gSub := ops_I0 fun i j => .int _
theorem s_mul : OpS K (rI CMul fun i j => .int (i * j)) gMul := ops_I (fun i j h => of_decide_eq_true (p := (-(2 ^ 64) < i ∧ i < 2 ^ 64) ∨ (-(2 ^ 64) < j ∧ j < 2 ^ 64)) h) fun i j => .int _
theorem s_div : OpS K (rI CDiv fun i j => .int (i / j)) gDiv := ops_I (fun i j h => of_decide_eq_true (p := 0 < j ∧ j < 1073741824) h) fun i j => .int _
theorem s_mod : OpS K (rI (fun _ j => 0 < j) fun i j => .int (i % j)) gMod := ops_I (fun i j h => of_decide_eq_true (p := 0 < j) h) fun i j => .int _
theorem s_pow : OpS K (rI CPow fun i j => .int (i ^ j.toNat)) gPow := ops_I (fun i j h => of_decide_eq_true (p := 0 ≤ j ∧ j ≤ 1000000 ∧ i.natAbs < 2 ^ 64) h) fun i j => .int _
theorem s_shl : OpS K (rI CPow fun i j => .int (i * 2 ^ j.toNat)) gShl := ops_I (fun i j h => of_decide_eq_true (p := 0 ≤ j ∧ j ≤ 1000000 ∧ i.natAbs < 2 ^ 64) h) fun i j => .int _
theorem s_shr : OpS K (rI (fun _ j => 0 ≤ j) fun i j => .int (i / 2 ^ j.toNat)) gShr := ops_I (fun i j h => of_decide_eq_true (p := 0 ≤ j) h) fun i j => .int _
theorem s_and : OpS K (rI0 fun i j => .int (Builtin.bitAnd i j)) gAnd := ops_I0 fun i j => .int _
theorem s_or : OpS K (rI0 fun i j => .int (Builtin.bitOr i j)) gOr := ops_I0 fun i j => .int _
theorem s_lt : OpS K (rI0 fun i j => .bl (decide (i < j))) gLt := ops_I0 fun i j => .bl _
theorem s_le : OpS K (rI0 fun i j => .bl (decide (i ≤ j))) gLe := ops_I0 fun i j => .bl _
theorem s_gt : OpS K (rI0 fun i j => .bl (decide (j < i))) gGt := ops_I0 fun i j => .bl _
theorem s_ge : OpS K (rI0 fun i j => .bl (decide (j ≤ i))) gGe := ops_I0 fun i j => .bl _
theorem s_neg : UnS K (rU fun i => .int (-i)) gNeg := by
  intro G H x d z Q s h1 eg hq
  unfold gNeg at eg
  split at eg
  · next i =>
    cases eg
    exact ⟨i, h1.int, hq _ G H (.refl s) (.int _)⟩
  · cases eg
theorem s_eq : OpS K (rEqD K) gEq := by
  refine ops_sc fun G H x y d e z s h1 h2 eg => ?_
  unfold gEq at eg
  split at eg
  · next h =>
    cases eg
    rw [Bool.and_eq_true] at h
    exact ⟨_, _, rfl, .bl _, fun Q q => ⟨d, e, h1.dp s, h2.dp s, h.1, h.2, q⟩⟩
  · cases eg
theorem s_ne : OpS K (rNeD K) gNe := by
  refine ops_sc fun G H x y d e z s h1 h2 eg => ?_
  unfold gNe at eg
  split at eg
  · next h =>
    cases eg
    rw [Bool.and_eq_true] at h
    exact ⟨_, _, rfl, .bl _, fun Q q => ⟨d, e, h1.dp s, h2.dp s, h.1, h.2, q⟩⟩
  · cases eg
theorem s_in : OpS K (rInD K) gIn := by
  refine ops_sc fun G H x y d e z s h1 h2 eg => ?_
  unfold gIn at eg
  split at eg
  · next es =>
    split at eg
    · next h =>
      cases eg
      rw [Bool.and_eq_true] at h
      exact ⟨_, _, rfl, .bl _, fun Q q => ⟨d, es, h1.dp s, h2.dp s, h.1, h.2, q⟩⟩
    · cases eg
  · cases eg
theorem s_notIn : OpS K (rNotInD K) gNotIn := by
  refine ops_sc fun G H x y d e z s h1 h2 eg => ?_
  unfold gNotIn at eg
  split at eg
  · next es =>
    split at eg
    · next h =>
      cases eg
      rw [Bool.and_eq_true] at h
      exact ⟨_, _, rfl, .bl _, fun Q q => ⟨d, es, h1.dp s, h2.dp s, h.1, h.2, q⟩⟩
    · cases eg
  · cases eg
theorem atI_dp {G : Hp} {vs : List V} {ds : List D} {i : Int} {x : D} (h : DpAll K G vs ds) (e : atI ds i = some x) : ∃ v, atI vs i = some v ∧ Dp K G v x := by
  unfold atI at e ⊢
  rw [dpAll_len h]
  cases q : ixN ds.length i with
  | none => rw [q] at e; cases e
  | some j =>
    rw [q] at e
    exact dpAll_get h e
theorem s_ix : OpS K (rIx K) gIx := by
  intro G H x y d e z Q s h1 h2 eg hq
  unfold gIx at eg
  split at eg
  · next xs i =>
    split at eg
    · next u eu =>
      cases eg
      obtain ⟨a, vs, rfl, w1, w2⟩ := h1.lst s
      obtain ⟨v, w3, w4⟩ := atI_dp w2 eu
      exact .inl ⟨a, vs, i, v, rfl, h2.int, w1, w3, hq v G H (.refl s) w4⟩
    · cases eg
  · next xs i =>
    split at eg
    · next u eu =>
      cases eg
      obtain ⟨a, vs, rfl, w1, w2⟩ := h1.tup s
      obtain ⟨v, w3, w4⟩ := atI_dp w2 eu
      exact .inr (.inl ⟨a, vs, i, v, rfl, h2.int, w1, w3, hq v G H (.refl s) w4⟩)
    · cases eg
  · cases eg
end

/-! ### what is built in -/
section
variable {K : PySem.W.Frag}
def cLen : List D → Option R
  | [.list xs] => some (.d (.int xs.length))
  | [.tuple xs] => some (.d (.int xs.length))
  | _ => none
theorem s_len : CallS K (fun xs H Q => ∃ p ys, xs = [.ref p] ∧ (SqL K H p ys ∨ SqT K H p ys) ∧ Q (.int ys.length) H) cLen := by
  intro G H xs ds z Q s h eg hq
  unfold cLen at eg
  split at eg
  · next es =>
    cases eg
    cases h with
    | cons h1 h2 =>
      cases h2
      obtain ⟨a, vs, rfl, w1, w2⟩ := h1.lst s
      refine ⟨a, vs, rfl, .inl w1, ?_⟩
      rw [dpAll_len w2]
      exact hq _ G H (.refl s) (.int _)
  · next es =>
    cases eg
    cases h with
    | cons h1 h2 =>
      cases h2
      obtain ⟨a, vs, rfl, w1, w2⟩ := h1.tup s
      refine ⟨a, vs, rfl, .inr w1, ?_⟩
      rw [dpAll_len w2]
      exact hq _ G H (.refl s) (.int _)
  · cases eg
def cAbs : List D → Option R
  | [.int i] => some (.d (.int (if i < 0 then -i else i)))
  | _ => none
theorem s_abs : CallS K (fun xs H Q => ∃ i, xs = [.int i] ∧ Q (.int (if i < 0 then -i else i)) H) cAbs := by
  intro G H xs ds z Q s h eg hq
  unfold cAbs at eg
  split at eg
  · next i =>
    cases eg
    cases h with
    | cons h1 h2 =>
      cases h2
      exact ⟨i, by rw [h1.int], hq _ G H (.refl s) (.int _)⟩
  · cases eg
def cInt : List D → Option R
  | [.int i] => some (.d (.int i))
  | _ => none
theorem s_int : CallS K (fun xs H Q => (∃ i, xs = [.int i] ∧ Q (.int i) H) ∨ ∃ k, xs = [.bl k] ∧ Q (.int (if k then 1 else 0)) H) cInt := by
  intro G H xs ds z Q s h eg hq
  unfold cInt at eg
  split at eg
  · next i =>
    cases eg
    cases h with
    | cons h1 h2 =>
      cases h2
      exact .inl ⟨i, by rw [h1.int], hq _ G H (.refl s) (.int _)⟩
  · cases eg
def cMax2 : List D → Option R
  | [.int i, .int j] => some (.d (.int (if j > i then j else i)))
  | _ => none
def cMin2 : List D → Option R
  | [.int i, .int j] => some (.d (.int (if j < i then j else i)))
  | _ => none
theorem s_max2 : CallS K (fun xs H Q => ∃ i j, xs = [.int i, .int j] ∧ Q (.int (if j > i then j else i)) H) cMax2 := by
  intro G H xs ds z Q s h eg hq
  unfold cMax2 at eg
  split at eg
  · next i j =>
    cases eg
    cases h with
    | cons h1 h2 =>
      cases h2 with
      | cons h2 h3 =>
        cases h3
        exact ⟨i, j, by rw [h1.int, h2.int], hq _ G H (.refl s) (.int _)⟩
  · cases eg
theorem s_min2 : CallS K (fun xs H Q => ∃ i j, xs = [.int i, .int j] ∧ Q (.int (if j < i then j else i)) H) cMin2 := by
  intro G H xs ds z Q s h eg hq
  unfold cMin2 at eg
  split at eg
  · next i j =>
    cases eg
    cases h with
    | cons h1 h2 =>
      cases h2 with
      | cons h2 h3 =>
        cases h3
        exact ⟨i, j, by rw [h1.int, h2.int], hq _ G H (.refl s) (.int _)⟩
  · cases eg
def cList : List D → Option R
  | [.list xs] => some (.o xs)
  | [.tuple xs] => some (.o xs)
  | _ => none
theorem s_list : CallS K (fun xs H Q => ∃ p ys, xs = [.ref p] ∧ (SqL K H p ys ∨ SqT K H p ys) ∧ ∀ l, H l = none → Q (.ref l) (upd H l (.lst ys))) cList := by
  intro G H xs ds z Q s h eg hq
  unfold cList at eg
  split at eg
  · next es =>
    cases eg
    cases h with
    | cons h1 h2 =>
      cases h2
      obtain ⟨a, vs, rfl, w1, w2⟩ := h1.lst s
      exact ⟨a, vs, rfl, .inl w1, fun l nl => hq _ G _ (Grow.fresh s nl) ⟨l, vs, rfl, nl, upd_same, w2, s.free nl⟩⟩
  · next es =>
    cases eg
    cases h with
    | cons h1 h2 =>
      cases h2
      obtain ⟨a, vs, rfl, w1, w2⟩ := h1.tup s
      exact ⟨a, vs, rfl, .inr w1, fun l nl => hq _ G _ (Grow.fresh s nl) ⟨l, vs, rfl, nl, upd_same, w2, s.free nl⟩⟩
  · cases eg
/-! isinstance(x, T), T a built-in class -/
def tyN : D → String
  | .none => "NoneType"
  | .bool _ => "bool"
  | .int _ => "int"
  | .str _ => "str"
  | .list _ => "list"
  | .tuple _ => "tuple"
  | .dict _ => "dict"
theorem dp_ty {H : Hp} {v : V} {d : D} (h : Dp K H v d) : TyX K H v (.type (tyN d)) := by
  cases h with
  | non => exact .base .non
  | bl b => exact .base (.bl b)
  | int i => exact .base (.int i)
  | str x => exact .base (.str x)
  | lst h1 h2 =>
    rcases h1 with (h1 | ⟨o, h1⟩) | ⟨o, its, n, h1, h2, _⟩
    · exact .base (.lst h1)
    · exact .base (.frz h1)
    · exact .kList h1 h2
  | tup h1 h2 =>
    rcases h1 with (h1 | ⟨o, h1⟩) | ⟨o, its, n, h1, h2, _⟩
    · exact .base (.tup h1)
    · exact .fTuple h1
    · exact .kTuple h1 h2
end
def mIsi (T : String) (me : Env → Res R) : Env → Res R := fun ρ => (me ρ).bind fun r ρ1 => match opd ρ1 r with
  | some d => (match kitB (tyN d) T with
    | some b => .ok (.d (.bool b)) ρ1
    | none => .no)
  | none => .no
theorem sim_isi {K : PySem.W.Frag} {P : Nat} {W : Wish} {T : String} {te : TE} {me : Env → Res R} (h : SimE K P W te me) : SimE K P W (tCB (rIsi K) (tCons te (tCons (tC (.ty T)) tNil))) (mIsi T me) := by
  intro f G H σ ρ Q hp rl hq
  refine h.op hp rl ?_
  unfold mIsi at hq
  cases e1 : me ρ with
  | no => rw [e1] at hq; exact hq
  | exc c ρ1 => rw [e1] at hq; exact hq
  | ok r1 ρ1 =>
    rw [e1] at hq
    intro v G1 H1 s1 rl1 h1
    simp only [Res.bind] at hq
    split at hq
    · next d ed =>
      split at hq
      · next b eb =>
        have hd := (h1.got rl1 ed).dp rl1.gh
        exact ⟨v, .ty T, .type (tyN d), .type T, b, rfl, .ty T, dp_ty hd, kit_ty eb, hq _ G1 H1 s1 rl1 (.bl _)⟩
      · exact hq.elim
    · exact hq.elim
end Z
namespace Z
open PySem L2

/-! ### op= -/
theorem zip_or {X : Cx} : PIp X .BitOr (ipI fun i j => Builtin.bitOr i j) := by
  intro pins s σ H x y v u Q I r1 r2 h
  obtain ⟨i, j, rfl, rfl, q⟩ := h
  obtain ⟨ti, rfl⟩ := r1
  obtain ⟨tj, rfl⟩ := r2
  exact PyProof.Rows.ior_int ⟨V.int _, H, I.tok _, ⟨_, rfl⟩, q⟩
section
variable {K : PySem.W.Frag}
theorem s_ipI {f : Int → Int → Int} : OpS K (ipI f) (gI cAny fun i j => .int (f i j)) := by
  refine ops_sc fun G H x y d e z s h1 h2 eg => ?_
  unfold gI at eg
  split at eg
  · next i j =>
    split at eg
    · cases eg
      exact ⟨_, _, rfl, .int _, fun Q q => ⟨i, j, h1.int, h2.int, q⟩⟩
    · cases eg
  · cases eg
/-! ### methods that change a list -/
def uAppend : List D → List D → Option (List D) := fun xs ds => match ds with
  | [d] => if xs.length < 1000000 then some (xs ++ [d]) else none
  | _ => none
theorem s_append : MutS K rAppend uAppend := by
  intro G H p vs args xs ds ys s hp hx ha eg
  unfold uAppend at eg
  split at eg
  · next d =>
    split at eg
    · next hl =>
      cases eg
      cases ha with
      | cons h1 h2 =>
        cases h2
        refine ⟨_, dpAll_append hx (.cons h1 .nil), fun Q q => ⟨p, vs, _, rfl, rfl, hp, ?_, q⟩⟩
        rw [dpAll_len hx]
        exact Nat.lt_of_lt_of_le hl (by decide)
    · cases eg
  · cases eg
end

/-! ### sorted(set(xs)), ints -/
def insI (k : Int) : List Int → List Int
  | [] => [k]
  | x :: xs => if k < x then k :: x :: xs else if k = x then x :: xs else x :: insI k xs
def sset (ns : List Int) : List Int := ns.foldr insI []
theorem insI_mem (k j : Int) : ∀ xs : List Int, j ∈ insI k xs ↔ j = k ∨ j ∈ xs
  | [] => by simp [insI]
  | x :: xs => by
    unfold insI
    split
    · simp
    · split
      · next h => subst h; simp
      · rw [List.mem_cons, insI_mem k j xs, List.mem_cons]
        constructor <;> (intro h; rcases h with h | h | h <;> simp [h])
theorem insI_up (k : Int) : ∀ xs : List Int, xs.Pairwise (· < ·) → (insI k xs).Pairwise (· < ·)
  | [], _ => by simp [insI]
  | x :: xs, h => by
    unfold insI
    rw [List.pairwise_cons] at h
    split
    · next hk =>
      rw [List.pairwise_cons, List.pairwise_cons]
      refine ⟨fun y hy => ?_, h⟩
      rcases List.mem_cons.mp hy with e | hy
      · omega
      · have := h.1 y hy
        omega
    · split
      · rw [List.pairwise_cons]
        exact h
      · next h1 h2 =>
        rw [List.pairwise_cons]
        refine ⟨fun y hy => ?_, insI_up k xs h.2⟩
        rcases (insI_mem k y xs).mp hy with e | hy
        · omega
        · exact h.1 y hy
theorem sset_mem (j : Int) : ∀ ns : List Int, j ∈ sset ns ↔ j ∈ ns
  | [] => by simp [sset]
  | n :: ns => by
    show j ∈ insI n (sset ns) ↔ _
    rw [insI_mem, sset_mem j ns, List.mem_cons]
theorem sset_up : ∀ ns : List Int, (sset ns).Pairwise (· < ·)
  | [] => by simp [sset]
  | n :: ns => insI_up n _ (sset_up ns)
/-- two rising lists of the same members are one -/
theorem up_one : ∀ (xs ys : List Int), xs.Pairwise (· < ·) → ys.Pairwise (· < ·) → (∀ k : Int, k ∈ xs ↔ k ∈ ys) → xs = ys
  | [], [], _, _, _ => rfl
  | [], y :: ys, _, _, h => absurd ((h y).mpr List.mem_cons_self) (by simp)
  | x :: xs, [], _, _, h => absurd ((h x).mp List.mem_cons_self) (by simp)
  | x :: xs, y :: ys, h1, h2, h => by
    rw [List.pairwise_cons] at h1 h2
    have exy : x = y := by
      rcases List.mem_cons.mp ((h x).mp List.mem_cons_self) with e | hx
      · exact e
      · rcases List.mem_cons.mp ((h y).mpr List.mem_cons_self) with e | hy
        · exact e.symm
        · have := h1.1 y hy
          have := h2.1 x hx
          omega
    subst exy
    have nx : x ∉ xs := fun z => by have := h1.1 x z; omega
    have ny : x ∉ ys := fun z => by have := h2.1 x z; omega
    rw [up_one xs ys h1.2 h2.2 fun k => ?_]
    have hk := h k
    rw [List.mem_cons, List.mem_cons] at hk
    constructor
    · intro z
      rcases hk.mp (.inr z) with e | e
      · subst e; exact absurd z nx
      · exact e
    · intro z
      rcases hk.mpr (.inr z) with e | e
      · subst e; exact absurd z ny
      · exact e

section
open PySem.Spec PyProof.Rows
abbrev noSet (w : World) : Obj := { cls := .type "set", dict := none, data := .set #[] 0 (.fresh 0 0 (!w.params.followText "set-order")) }
variable {P : Program} {w : World} {A : Around} {E : Value → Shared → Prop} {s : Shared}
set_option maxHeartbeats 3200000 in
/-- set(xs) of a list of ints, with what sorted wants to know of it -/
theorem set_of_ints {l : Addr} {its : Array Value} (ns : List Int) {Q : Value → Shared → Prop} (calm : A.handled = none) (hl : s.heap.IsList l its) (hi : IntsAre its.toList ns) (few : ns.length + 1 < scanBound)
    (fin : ∀ (g : Heap) (tk c : Nat), SetR w g s.heap.objs.size (fun j => decide (j ∈ ns)) c → c ≤ ns.length → (∀ b o, s.heap.get? b = some o → g.get? b = some o) → Q (.ref s.heap.objs.size) { s with heap := g, toks := tk }) :
    wpAny (model P w) A (call (.type "set") [.ref l]) Q E s := by
  have size : its.size = ns.length := by rw [← hi.length, Array.length_toList]
  obtain ⟨_, _, hm⟩ := F.called_set.mro
  have f1 := F.called_set.made
  have f2 := F.called_set.sub
  have f3 := F.called_set.notType
  have f4 := F.called_set.canCreate
  have f5 := F.typeCall_set_1 (.ref l)
  apply wpAny_call
  apply codeAny_of_tree
  show wpAny _ _ (callAny (.type "set") _) _ _ _
  apply wpAny_pure
  refine ⟨Code.quiet_builtin _ (by decide +kernel), codeAny_builtin F.entry_type_call ?_⟩
  rw [Around.under_plain (weight_type_call_type "set" [.ref l] []) rfl]
  repeat (any_goals (first | assumption | wp_step))
  apply codeAny_mono (code_set_led1 (.ref l) (E := E) (Q₁ := fun v t => v = .ref s.heap.objs.size ∧ t = { s with heap := s.heap.push (noSet w) }) ⟨rfl, rfl⟩)
  intro r t hr
  match r, hr with
  | .error e, hr => exact hr
  | .ok .next, hr => exact hr.elim
  | .ok .brk, hr => exact hr.elim
  | .ok .cont, hr => exact hr.elim
  | .ok (.ret v), hr =>
    obtain ⟨rfl, rfl⟩ := hr
    have born : (s.heap.push (noSet w)).get? s.heap.objs.size = some (noSet w) := Heap.get?_push_size _ rfl
    have typ : Shared.TypeIs { s with heap := s.heap.push (noSet w) } (.ref s.heap.objs.size) "set" := ⟨_, born, rfl⟩
    have g1 := F.called_set.init.lookup
    have g2 := F.called_set.init.bind (.ref s.heap.objs.size)
    repeat (any_goals (first | assumption | wp_step))
    have was : ∀ (b : Addr) (o : Obj), s.heap.get? b = some o → (s.heap.push (noSet w)).get? b = some o := fun b o e => Heap.get?_push_of_some _ e
    refine codeAny_mono (codeAny_call_builtin (R := wants (fun v t => v = .none ∧ ∃ g tk c, t = { s with heap := g, toks := tk } ∧ SetR w g s.heap.objs.size (fun j => decide (j ∈ ns)) c ∧ c ≤ ns.length ∧ ∀ b o, s.heap.get? b = some o → g.get? b = some o) E)
      F.called_set.init.plain F.entry_set_init (check_set_init_1 typ ?inside)) fun r t hr => ?after
    case inside =>
      have hl1 : (s.heap.push (noSet w)).IsList l its := hl.push _
      have hlt : l < s.heap.objs.size := Heap.lt_size hl.choose_spec.1
      obtain ⟨⟨oc, od, oa, os⟩, ho, hc, nl, hd⟩ := hl
      simp only at hc hd
      subst hc hd
      have ho1 := was _ _ ho
      have b1 := F.sub_list_set
      have b2 := F.sub_list_frozenset
      have b3 : (Value.type "list" == Value.type "dict") = false := by decide
      unfold Builtin.«set.__init__» noKeywords Builtin.Frozenset.updateFrom
      generalize hPI : pyIter = PI
      wp_walk
      subst hPI
      apply wpAny_pyIter_list hl1
      apply wpAny_bind
      apply wpAny_runValue
      have calm3 : A.in1.in1.in1.handled = none := by simp [calm]
      have n1 : l ≠ (s.heap.push (noSet w)).objs.size := by rw [Heap.size_push]; exact Nat.ne_of_lt (Nat.lt_succ_of_lt hlt)
      have at_ : ∀ (i : Nat) (v : Value), its[i]? = some v → ∃ k t, ns[i]? = some k ∧ v = .int k t := by
        intro i v hv
        have hi' : i < ns.length := by rw [← size]; exact (Array.getElem?_eq_some_iff.mp hv).1
        obtain ⟨t, e⟩ := IntsAre.int_at hi i v (by rw [Array.getElem?_toList]; exact hv)
        refine ⟨ns[i], t, List.getElem?_eq_getElem hi', ?_⟩
        rw [e, List.getD_eq_getElem?_getD, List.getElem?_eq_getElem hi']
        rfl
      have n2 : s.heap.objs.size ∉ [(s.heap.push (noSet w)).objs.size, l] := by
        rw [Heap.size_push]
        intro z
        rcases List.mem_cons.mp z with z | z
        · exact Nat.ne_of_lt (Nat.lt_succ_self _) z
        · rw [List.mem_singleton] at z
          exact Nat.ne_of_gt hlt z
      refine set_update_ints ((Walks.list calm3 _ l n1 its).toS) _ n2 ns size few at_ its.size 0 _ rfl (Nat.zero_le _) ⟨⟨_, Heap.get?_push_size _ rfl, rfl, rfl⟩, hl1.push _⟩ ⟨0, Nat.le_refl 0, setR_new_at (Heap.get?_push_of_some _ born)⟩ fun t c mv hc hS => ?_
      obtain ⟨g, tg, td, tk, tos⟩ := t
      obtain rfl : tg = s.gens := mv.gens
      obtain rfl : td = s.drawn := mv.drawn
      obtain rfl : tos = s.os := mv.os
      show wpAny _ _ _ _ _ _
      apply wpAny_pure
      show wpAny _ _ (ret Value.none) _ _ _
      rw [size] at hc
      refine wpAny_pure ⟨rfl, g, tk, c, rfl, hS, hc, fun b o e => ?_⟩
      have hb := Heap.lt_size e
      refine mv.heap b o (fun z => ?_) (Heap.get?_push_of_some _ (was b o e))
      rcases List.mem_cons.mp z with z | z
      · exact Nat.ne_of_lt hb z
      · rw [List.mem_singleton, Heap.size_push] at z
        exact Nat.ne_of_lt (Nat.lt_succ_of_lt hb) z
    case after =>
     match r, hr with
     | .error e, hr => exact hr
     | .ok .next, hr => exact hr.elim
     | .ok .brk, hr => exact hr.elim
     | .ok .cont, hr => exact hr.elim
     | .ok (.ret v), hr =>
      obtain ⟨rfl, g, tk, c, rfl, z1, z2, z3⟩ := hr
      repeat (any_goals (first | assumption | wp_step))
      exact fin g tk c z1 z2 z3
end
end Z
namespace Z
open PySem L2

def rSetI (K : PySem.W.Frag) (w : World) : List V → Hp → VK → Prop := fun xs H Q => ∃ (l : Addr) (ns : List Int), xs = [V.ref l] ∧ SqL K H l (ns.map V.int) ∧ ns.length < 64 ∧
  ∀ a c, H a = none → c ≤ ns.length → Q (.ref a) (upd H a (SetO w a (fun j => decide (j ∈ ns)) c))
theorem zcr_setI {X : Cx} (hc : X.calm = true) : CallR X (.type "set") (rSetI X.K X.w) := by
  intro pins s σ H xs us Q I r h
  obtain ⟨l, ns, rfl, hl, few, q⟩ := h
  rw [Vals.ref1 r]
  obtain ⟨its, rv, pl, hz⟩ := I.list hl
  refine set_of_ints (P := X.prog) (w := X.w) ns (I.ok.hd hc) pl.isList (by simpa using rv.ints) (by have : (scanBound : Nat) = scanBound := rfl; unfold scanBound; omega) fun g tk c R hc' keep => ?_
  exact ⟨.ref _, _, I.laid (t' := tk) keep (Nat.le_refl _) (setO_new R), rfl, q _ c (I.hok.fresh (Nat.le_refl _)) hc'⟩
def intsOf : List D → Option (List Int)
  | [] => some []
  | .int i :: ds => (match intsOf ds with
    | some ns => some (i :: ns)
    | none => none)
  | _ => none
theorem intsOf_map : ∀ ns : List Int, intsOf (ns.map PyData.int) = some ns
  | [] => rfl
  | n :: ns => by
    show (match intsOf (ns.map PyData.int) with
      | some ns => some (n :: ns)
      | none => none) = _
    rw [intsOf_map ns]
theorem intsOf_eq : ∀ {ds : List D} {ns : List Int}, intsOf ds = some ns → ds = ns.map PyData.int
  | [], _, h => by cases h; rfl
  | .int i :: ds, ns, h => by
    have h : (match intsOf ds with
      | some ns => some (i :: ns)
      | none => none) = some ns := h
    cases e : intsOf ds with
    | none => rw [e] at h; cases h
    | some ms =>
      rw [e] at h
      cases h
      rw [intsOf_eq e]
      rfl
  | .none :: _, _, h => by cases h
  | .bool _ :: _, _, h => by cases h
  | .str _ :: _, _, h => by cases h
  | .list _ :: _, _, h => by cases h
  | .tuple _ :: _, _, h => by cases h
  | .dict _ :: _, _, h => by cases h
/-- sorted(set(xs)) -/
def mSortSet (ma : Env → Res R) : Env → Res R := fun ρ => (ma ρ).bind fun r ρ1 => match opd ρ1 r with
  | some (.list ds) => (match intsOf ds with
    | some ns => if ns.length < 64 then .ok (.o ((sset ns).map .int)) ρ1 else .no
    | none => .no)
  | _ => .no
theorem sim_sortSet {K : PySem.W.Frag} {w : World} {P : Nat} {W : Wish} {te : TE} {me : Env → Res R} (h : SimE K P W te me) : SimE K P W (tCB (rSortedSet w) (tCons (tCB (rSetI K w) (tCons te tNil)) tNil)) (mSortSet me) := by
  intro f G H σ ρ Q hp rl hq
  refine h.op hp rl ?_
  unfold mSortSet at hq
  cases e1 : me ρ with
  | no => rw [e1] at hq; exact hq
  | exc c ρ1 => rw [e1] at hq; exact hq
  | ok r1 ρ1 =>
    rw [e1] at hq
    intro v G1 H1 s1 rl1 h1
    simp only [Res.bind] at hq
    split at hq
    · next ds ed =>
      split at hq
      · next ns en =>
        split at hq
        · next few =>
          obtain ⟨l, vs, rfl, w1, w2⟩ := (h1.got rl1 ed).lst rl1.gh
          rw [intsOf_eq en] at w2
          rw [dpAll_ints w2] at w1
          refine ⟨l, ns, rfl, w1, few, fun a c na hc => ?_⟩
          refine ⟨a, _, c, rfl, upd_same, by omega, fun ms p up mem len np => ?_⟩
          have npa : p ≠ a := fun z => by
            subst z
            rw [upd_same] at np
            cases np
          have np1 : H1 p = none := by
            rw [upd_ne npa] at np
            exact np
          have em : ms = sset ns := up_one _ _ up (sset_up ns) fun k => by
            rw [mem k, sset_mem]
            exact decide_eq_true_iff
          subst em
          have g1 : Grow G1 H1 G1 (upd H1 a (SetO w a (fun j => decide (j ∈ ns)) c)) := Grow.fresh rl1.gh na
          have g2 := Grow.fresh (o := .lst ((sset ns).map V.int)) g1.2.2.1 np
          have gr := g1.trans g2
          refine hq _ G1 _ s1 (rl1.grow gr) (NewV.vrep rl1 gr ⟨p, _, rfl, np1, upd_same, dpAll_ofInts _, rl1.gh.free np1⟩)
        · exact hq.elim
      · exact hq.elim
    · exact hq.elim

/-! ### the law's end -/
theorem law_sp {K : PySem.W.Frag} {n : Nat} {mb : Env → Out} (h : ∀ ns : List Int, ns.length ≤ 63 → ∃ ρ', mb (env0 n [.d (.list (ns.map .int))]) = .rt (.d (.bool true)) ρ') (H : Hp) (a : Addr) (ns : List Int) (hl : ns.length ≤ 63) (hS : SqL K H a (ns.map V.int)) :
    spM K 0 1 n W0 mb [.ref a] H (fun v _ => v = .bl true) fun _ _ _ => False := by
  obtain ⟨ρ', e⟩ := h ns hl
  have hd : DpAll K H [V.ref a] [PyData.list (ns.map .int)] := .cons (.lst hS (dpAll_ofInts ns)) .nil
  refine ⟨rfl, [], H, [.d (.list (ns.map .int))], rfl, rfl, rel_args (.refl H) hd, ?_⟩
  rw [e]
  intro v G' H' σ' _ _ hv
  exact dp_bool hv
end Z
namespace Z
open PySem L2
section
variable {X : Cx} (K : PySem.W.Frag)
theorem zix (hK : X.K = K := by rfl) : IxR X (rIx K) := by subst hK; exact ix_seq
theorem zeq (hu : X.A.units + 64 < cLine) (hK : X.K = K := by rfl) : OpR X (compareOp .Eq) (rEqD K) := by subst hK; exact op_eqD hu
theorem zne (hu : X.A.units + 64 < cLine) (hK : X.K = K := by rfl) : OpR X (compareOp .NotEq) (rNeD K) := by subst hK; exact op_neD hu
theorem zin (hu : X.A.units + 65 < cLine) (hK : X.K = K := by rfl) : OpR X (compareOp .In) (rInD K) := by subst hK; exact op_inD hu
theorem znotIn (hu : X.A.units + 65 < cLine) (hK : X.K = K := by rfl) : OpR X (compareOp .NotIn) (rNotInD K) := by subst hK; exact op_notInD hu
theorem zlen (hK : X.K = K := by rfl) : CallR X (.builtin "len") (fun xs H Q => ∃ p ys, xs = [.ref p] ∧ (SqL K H p ys ∨ SqT K H p ys) ∧ Q (.int ys.length) H) := by subst hK; exact call_len_seq
theorem zlist (hK : X.K = K := by rfl) : CallR X (.type "list") (fun xs H Q => ∃ p ys, xs = [.ref p] ∧ (SqL K H p ys ∨ SqT K H p ys) ∧ ∀ l, H l = none → Q (.ref l) (upd H l (.lst ys))) := by subst hK; exact call_list_of
theorem zisi (hK : X.K = K := by rfl) : CallR X (.builtin "isinstance") (rIsi K) := by subst hK; exact call_isi
theorem zseq {tg l : Expr} {tl : TE} (hl : PE X l tl) (hK : X.K = K := by rfl) : PI X tg l (iSeq K tl) := by subst hK; exact zpi_seq hl
variable (w : World)
theorem zsortSet (hc : X.calm = true) (hw : X.w = w := by rfl) : CallR X (.builtin "sorted") (rSortedSet w) := by subst hw; exact cr_sortedSet hc
theorem zsetI (hc : X.calm = true) (hK : X.K = K := by rfl) (hw : X.w = w := by rfl) : CallR X (.type "set") (rSetI K w) := by subst hK; subst hw; exact zcr_setI hc
end
theorem hu64 {A : Around} {k : Nat} (hr : Room k A) : A.units + 64 < cLine := hr.units
theorem hu65 {A : Around} {k : Nat} (hr : Room k A) : A.units + 65 < cLine := by have := hr.un; omega
end Z
namespace Z
open PySem L2
/-! ### the mirrors' evaluation, as rows for simp -/
theorem sh_none : SeqAt.shaped .none = true := by rfl
theorem sh_int (i : Int) : SeqAt.shaped (.int i) = true := by rfl
theorem sh_bool (b : Bool) : SeqAt.shaped (.bool b) = true := by rfl
theorem eqv_int (i j : Int) : PyData.eqv (.int i) (.int j) = decide (i = j) := by
  by_cases h : i = j <;> simp [PyData.eqv, h]
theorem eqv_bool_int (b : Bool) (j : Int) : PyData.eqv (.bool b) (.int j) = decide ((if b then 1 else 0) = j) := by
  cases b <;> simp [PyData.eqv, Bool.beq_eq_decide_eq]
theorem eqv_int_bool (b : Bool) (j : Int) : PyData.eqv (.int j) (.bool b) = decide (j = (if b then 1 else 0)) := by
  cases b <;> simp [PyData.eqv, Bool.beq_eq_decide_eq]
/-! shapes: no dict in it, not too deep -/
def Sh (k : Nat) (d : D) : Prop := PyData.canLay0 d = true ∧ PyData.depth d ≤ k
theorem Sh.shaped {k : Nat} {d : D} (h : Sh k d) (hk : k ≤ 64) : SeqAt.shaped d = true := by
  unfold SeqAt.shaped
  rw [h.1, Bool.true_and]
  exact decide_eq_true (Nat.le_trans h.2 hk)
theorem Sh.mono {k l : Nat} {d : D} (h : Sh k d) (hk : k ≤ l) : Sh l d := ⟨h.1, Nat.le_trans h.2 hk⟩
theorem shs_all {k : Nat} : ∀ {xs : List D}, (∀ x ∈ xs, Sh k x) → PyData.canLayAll0 xs = true ∧ PyData.depthAll xs ≤ k
  | [], _ => ⟨rfl, Nat.zero_le _⟩
  | x :: xs, h => by
    have h1 := h x List.mem_cons_self
    have h2 := shs_all fun y hy => h y (List.mem_cons_of_mem _ hy)
    exact ⟨by simp [PyData.canLayAll0, h1.1, h2.1], by simp only [PyData.depthAll]; exact Nat.max_le.mpr ⟨h1.2, h2.2⟩⟩
theorem Sh.list {k : Nat} {xs : List D} (h : ∀ x ∈ xs, Sh k x) : Sh (k + 1) (.list xs) := by
  have := shs_all h
  exact ⟨by simp only [PyData.canLay0]; exact this.1, by simp only [PyData.depth]; omega⟩
theorem Sh.tuple {k : Nat} {xs : List D} (h : ∀ x ∈ xs, Sh k x) : Sh (k + 1) (.tuple xs) := by
  have := shs_all h
  exact ⟨by simp only [PyData.canLay0]; exact this.1, by simp only [PyData.depth]; omega⟩
theorem Sh.int (i : Int) : Sh 0 (.int i) := ⟨rfl, Nat.le_refl 0⟩
theorem Sh.bool (i : Bool) : Sh 0 (.bool i) := ⟨rfl, Nat.le_refl 0⟩
theorem Sh.none : Sh 0 .none := ⟨rfl, Nat.le_refl 0⟩
theorem Sh.ints (xs : List Int) : Sh 1 (.list (xs.map .int)) := Sh.list fun x hx => by
  obtain ⟨i, _, rfl⟩ := List.mem_map.mp hx
  exact .int i
theorem sh_ints (xs : List Int) : SeqAt.shaped (.list (xs.map .int)) = true := (Sh.ints xs).shaped (by decide)
theorem eqvAll_ints : ∀ xs ys : List Int, PyData.eqvAll (xs.map .int) (ys.map .int) = decide (xs = ys)
  | [], [] => by simp [PyData.eqvAll]
  | [], _ :: _ => by simp [PyData.eqvAll]
  | _ :: _, [] => by simp [PyData.eqvAll]
  | x :: xs, y :: ys => by
    simp only [List.map_cons, PyData.eqvAll, eqvAll_ints xs ys, eqv_int, List.cons.injEq]
    by_cases h : x = y <;> simp [h]
theorem eqv_ints (xs ys : List Int) : PyData.eqv (.list (xs.map .int)) (.list (ys.map .int)) = decide (xs = ys) := by
  simp only [PyData.eqv, eqvAll_ints]
theorem gEq_ints (xs ys : List Int) : gEq (.list (xs.map .int)) (.list (ys.map .int)) = some (.d (.bool (decide (xs = ys)))) := by simp [gEq, sh_ints, eqv_ints]
theorem gNe_ints (xs ys : List Int) : gNe (.list (xs.map .int)) (.list (ys.map .int)) = some (.d (.bool (!decide (xs = ys)))) := by simp [gNe, sh_ints, eqv_ints]
theorem gIn_ints (i : Int) (xs : List Int) : gIn (.int i) (.list (xs.map .int)) = some (.d (.bool (decide (i ∈ xs)))) := by
  have : (xs.map PyData.int).any (fun z => PyData.eqv z (.int i)) = decide (i ∈ xs) := by
    rw [List.any_map]
    induction xs with
    | nil => simp
    | cons x xs ih =>
      rw [List.any_cons, ih]
      simp only [Function.comp, eqv_int, List.mem_cons]
      by_cases h : x = i
      · simp [h]
      · have h' : ¬ i = x := fun e => h e.symm
        simp [h, h']
  unfold gIn
  simp only [sh_int, sh_ints, Bool.and_self, if_true]
  rw [this]
theorem kit_ll : kitB "list" "list" = some true := by decide +kernel
theorem kit_ii : kitB "int" "int" = some true := by decide +kernel
theorem kit_ib : kitB "int" "bool" = some false := by decide +kernel
theorem atI_nn {α : Type} (xs : List α) (i : Int) (h : 0 ≤ i) : atI xs i = xs[i.toNat]? := by
  unfold atI ixN
  rw [if_pos h]
  by_cases h2 : i < xs.length
  · rw [if_pos h2]; rfl
  · rw [if_neg h2]
    show none = _
    rw [List.getElem?_eq_none]
    omega
theorem atI_lit {α : Type} (xs : List α) (n : Nat) : atI xs (no_index (OfNat.ofNat n)) = xs[n]? := by
  rw [atI_nn _ _ (by exact Int.natCast_nonneg n)]
  rfl
theorem ixN_nn (n : Nat) (i : Int) (h : 0 ≤ i) (h2 : i < n) : ixN n i = some i.toNat := by
  unfold ixN
  rw [if_pos h, if_pos h2]
theorem ixN_lit (n k : Nat) : ixN n (no_index (OfNat.ofNat k)) = if k < n then some k else none := by
  show ixN n ((k : Nat) : Int) = _
  unfold ixN
  rw [if_pos (by omega)]
  by_cases h : k < n
  · rw [if_pos h, if_pos (by omega)]; rfl
  · rw [if_neg h, if_neg (by omega)]
theorem atI_map {α β : Type} (f : α → β) (xs : List α) (i : Int) (h : 0 ≤ i) : atI (xs.map f) i = (xs[i.toNat]?).map f := by
  rw [atI_nn _ _ h, List.getElem?_map]
theorem gEq_int (i j : Int) : gEq (.int i) (.int j) = some (.d (.bool (decide (i = j)))) := by simp [gEq, sh_int, eqv_int]
theorem gNe_int (i j : Int) : gNe (.int i) (.int j) = some (.d (.bool (!decide (i = j)))) := by simp [gNe, sh_int, eqv_int]
theorem gAdd_int (i j : Int) : gAdd (.int i) (.int j) = some (.d (.int (i + j))) := rfl
theorem gSub_int (i j : Int) : gSub (.int i) (.int j) = some (.d (.int (i - j))) := rfl
theorem gLt_int (i j : Int) : gLt (.int i) (.int j) = some (.d (.bool (decide (i < j)))) := rfl
theorem gLe_int (i j : Int) : gLe (.int i) (.int j) = some (.d (.bool (decide (i ≤ j)))) := rfl
theorem gGt_int (i j : Int) : gGt (.int i) (.int j) = some (.d (.bool (decide (j < i)))) := rfl
theorem gGe_int (i j : Int) : gGe (.int i) (.int j) = some (.d (.bool (decide (j ≤ i)))) := rfl
theorem gNeg_int (i : Int) : gNeg (.int i) = some (.d (.int (-i))) := rfl
theorem gMod_int (i j : Int) (h : 0 < j) : gMod (.int i) (.int j) = some (.d (.int (i % j))) := by simp [gMod, gI, cMod, h]
theorem gDiv_int (i j : Int) (h : 0 < j) (h2 : j < 1073741824) : gDiv (.int i) (.int j) = some (.d (.int (i / j))) := by simp [gDiv, gI, cDiv, h, h2]
theorem gMul_r (i j : Int) (h : -(18446744073709551616) < j) (h2 : j < 18446744073709551616) : gMul (.int i) (.int j) = some (.d (.int (i * j))) := by
  have : cMul i j = true := by
    unfold cMul
    exact decide_eq_true (.inr ⟨by omega, by omega⟩)
  simp [gMul, gI, this]
theorem gMul_l (i j : Int) (h : -(18446744073709551616) < i) (h2 : i < 18446744073709551616) : gMul (.int i) (.int j) = some (.d (.int (i * j))) := by
  have : cMul i j = true := by
    unfold cMul
    exact decide_eq_true (.inl ⟨by omega, by omega⟩)
  simp [gMul, gI, this]
theorem seq_nx {ms mt : Env → Out} {ρ ρ1 : Env} (h : ms ρ = .nx ρ1) : mSeq ms mt ρ = mt ρ1 := by unfold mSeq; rw [h]
theorem seq_rt {ms mt : Env → Out} {ρ ρ1 : Env} {x : S} (h : ms ρ = .rt x ρ1) : mSeq ms mt ρ = .rt x ρ1 := by unfold mSeq; rw [h]
section
variable {P : Nat} {ma : Env → Res (List R)} {mi : Env → Res (List D)} {b : D → Env → Option Env} {mt : Env → Res Bool} {me : Env → Res R} {vs : List Nat} {ρ ρ1 ρw : Env} {ds acc xs : List D} {m1 m2 body : Env → Out} {i : Nat} {x : D}
theorem mLc_ok (h1 : mi ρ = .ok ds ρ1) (h2 : lcL P b mt me vs ds [] (wipeE ρ1 vs) = .ok acc ρw) : mLc P mi b mt me vs ρ = .ok (.o acc) (back ρ1 vs ρw) := by
  unfold mLc; rw [h1]; simp only [Res.bind, h2]
theorem mLcH_o {j : Nat} (h1 : ρ[j]? = some (some (S.o ds))) (h2 : lcL P b mt me vs ds [] (wipeE (ρ.set j none) vs) = .ok acc ρw) : mLcH P j b mt me vs ρ = .ok (.o acc) ((back (ρ.set j none) vs ρw).set j (some (S.o ds))) := by
  unfold mLcH; rw [h1]; simp only [h2]
theorem mLcH_l {j : Nat} (h1 : ρ[j]? = some (some (S.d (.list ds)))) (h2 : lcL P b mt me vs ds [] (wipeE ρ vs) = .ok acc ρw) : mLcH P j b mt me vs ρ = .ok (.o acc) (back ρ vs ρw) := by
  unfold mLcH; rw [h1]; simp only [h2]
theorem mLcH_t {j : Nat} (h1 : ρ[j]? = some (some (S.d (.tuple ds)))) (h2 : lcL P b mt me vs ds [] (wipeE ρ vs) = .ok acc ρw) : mLcH P j b mt me vs ρ = .ok (.o acc) (back ρ vs ρw) := by
  unfold mLcH; rw [h1]; simp only [h2]
theorem big_nat (N : Nat) (h : N < 1000000) : -big62 ≤ (N : Int) ∧ (N : Int) < big62 := by
  have e : big62 = 4611686018427387904 := rfl
  rw [e]
  constructor <;> omega
theorem mRng1_eq {j : Int} (h : ma ρ = .ok [.d (.int j)] ρ1) : mRng1 ma ρ = if -big62 ≤ j ∧ j < big62 then .ok ((List.range j.toNat).map fun (k : Nat) => .int (k : Int)) ρ1 else .no := by
  unfold mRng1
  rw [h]
  rfl
theorem mRng1_ok (N : Nat) (h : ma ρ = .ok [.d (.int (N : Int))] ρ1) (hN : N < 1000000) : mRng1 ma ρ = .ok ((List.range N).map fun (k : Nat) => .int (k : Int)) ρ1 := by
  rw [mRng1_eq h, if_pos (big_nat N hN), Int.toNat_natCast]
theorem mAsg_d (h : me ρ = .ok (.d x) ρ1) : mAsg P i me ρ = .nx (ρ1.set i (some (.d x))) := by unfold mAsg; rw [h]
theorem mAsg_o (h : me ρ = .ok (.o xs) ρ1) : mAsg P i me ρ = .nx (ρ1.set i (some (.o xs))) := by unfold mAsg; rw [h]
theorem mFor_ok (h : mi ρ = .ok ds ρ1) : mFor mi b body ρ = forL b body ds ρ1 := by unfold mFor; rw [h]
theorem mCall0_o {ex : Bool} {k n : Nat} {mb : Env → Out} {rs : List R} {ρ2 r : Env} (h1 : ma ρ = .ok rs ρ1) (h2 : frzA P rs ρ1 = some ρ2) (h3 : dopds ρ2 rs = some ds) (h4 : ds.length = k) (h5 : mb (env0 n (ds.map S.d)) = .rt (.o xs) r) :
    mCall0 ex P k n mb ma ρ = .ok (.o xs) ρ2 := by
  unfold mCall0
  rw [h1]
  show (match frzA P rs ρ1 with
    | none => _
    | some ρ2 => _) = _
  rw [h2]
  show (match dopds ρ2 rs with
    | none => _
    | some ds => _) = _
  rw [h3]
  show (if ds.length = k then _ else _) = _
  rw [if_pos h4, h5]
theorem mCall0_d {ex : Bool} {k n : Nat} {mb : Env → Out} {rs : List R} {ρ2 r : Env} (h1 : ma ρ = .ok rs ρ1) (h2 : frzA P rs ρ1 = some ρ2) (h3 : dopds ρ2 rs = some ds) (h4 : ds.length = k) (h5 : mb (env0 n (ds.map S.d)) = .rt (.d x) r) :
    mCall0 ex P k n mb ma ρ = if flatD x = true then .ok (.d x) ρ1 else .ok (.d x) ρ2 := by
  unfold mCall0
  rw [h1]
  show (match frzA P rs ρ1 with
    | none => _
    | some ρ2 => _) = _
  rw [h2]
  show (match dopds ρ2 rs with
    | none => _
    | some ds => _) = _
  rw [h3]
  show (if ds.length = k then _ else _) = _
  rw [if_pos h4, h5]
theorem mCall0_f {ex : Bool} {k n : Nat} {mb : Env → Out} {rs : List R} {ρ2 r : Env} (h1 : ma ρ = .ok rs ρ1) (h2 : frzA P rs ρ1 = some ρ2) (h3 : dopds ρ2 rs = some ds) (h4 : ds.length = k) (h5 : mb (env0 n (ds.map S.d)) = .rt (.d x) r) (hf : flatD x = true) :
    mCall0 ex P k n mb ma ρ = .ok (.d x) ρ1 := by rw [mCall0_d h1 h2 h3 h4 h5, if_pos hf]
theorem mBin_ok {ma mb : Env → Res R} {g : D → D → Option R} {r1 r2 z : R} {ρ2 : Env} {y : D} (h1 : ma ρ = .ok r1 ρ1) (h2 : mb ρ1 = .ok r2 ρ2) (h3 : opd ρ2 r1 = some x) (h4 : opd ρ2 r2 = some y) (h5 : g x y = some z) : mBin g ma mb ρ = .ok z ρ2 := by
  unfold mBin
  rw [h1]
  show (mb ρ1).bind _ = _
  rw [h2]
  show (match opd ρ2 r1, opd ρ2 r2 with
    | some x, some y => _
    | _, _ => _) = _
  rw [h3, h4]
  show (match g x y with
    | some z => _
    | none => _) = _
  rw [h5]
theorem mTest_ok {k : Bool} (h : me ρ = .ok (.d (.bool k)) ρ1) : mTest me ρ = .ok k ρ1 := by unfold mTest; rw [h]; rfl
theorem mTru_ok {r : R} {k : Bool} (h : me ρ = .ok r ρ1) (h2 : opd ρ1 r = some x) (h3 : tru x = some k) : mTru me ρ = .ok k ρ1 := by
  unfold mTru
  rw [h]
  show (match opd ρ1 r with
    | some x => _
    | none => _) = _
  rw [h2]
  show (match tru x with
    | some b => _
    | none => _) = _
  rw [h3]
theorem mNot_ok {k : Bool} (h : mt ρ = .ok k ρ1) : mNot mt ρ = .ok (!k) ρ1 := by unfold mNot; rw [h]; rfl
theorem mCons_ok {ma' : Env → Res R} {ms : Env → Res (List R)} {r : R} {rs : List R} {ρ2 : Env} (h : ma' ρ = .ok r ρ1) (h2 : ms ρ1 = .ok rs ρ2) : mCons ma' ms ρ = .ok (r :: rs) ρ2 := by
  unfold mCons
  rw [h]
  show (ms ρ1).bind _ = _
  rw [h2]
  rfl
theorem mAndV_t {ma mb : Env → Res R} {r : R} {ρ2 : Env} (h : ma ρ = .ok (.d (.bool true)) ρ1) (h2 : mb ρ1 = .ok r ρ2) : mAndV ma mb ρ = .ok r ρ2 := by unfold mAndV; rw [h]; exact h2
theorem mRet_d (h : me ρ = .ok (.d x) ρ1) : mRet P me ρ = .rt (.d x) ρ1 := by unfold mRet; rw [h]
theorem mRet_o (h : me ρ = .ok (.o xs) ρ1) : mRet P me ρ = .rt (.o xs) ρ1 := by unfold mRet; rw [h]
theorem mSortSet_ok {r : R} {ns : List Int} (h : me ρ = .ok r ρ1) (h2 : opd ρ1 r = some (.list (ns.map .int))) (h3 : ns.length < 64) : mSortSet me ρ = .ok (.o ((sset ns).map .int)) ρ1 := by
  unfold mSortSet
  rw [h]
  show (match opd ρ1 r with
    | some (.list ds) => _
    | _ => _) = _
  rw [h2]
  show (match intsOf (ns.map PyData.int) with
    | some ns => _
    | none => _) = _
  rw [intsOf_map]
  show (if ns.length < 64 then _ else _) = _
  rw [if_pos h3]
theorem mOr_ff {mt mu : Env → Res Bool} {b : Bool} {ρ2 : Env} (h : mt ρ = .ok false ρ1) (h2 : mu ρ1 = .ok b ρ2) : mOr mt mu ρ = .ok b ρ2 := by unfold mOr; rw [h]; exact h2
theorem mOr_t {mt mu : Env → Res Bool} (h : mt ρ = .ok true ρ1) : mOr mt mu ρ = .ok true ρ1 := by unfold mOr; rw [h]; rfl
theorem mAnd_tt {mt mu : Env → Res Bool} {b : Bool} {ρ2 : Env} (h : mt ρ = .ok true ρ1) (h2 : mu ρ1 = .ok b ρ2) : mAnd mt mu ρ = .ok b ρ2 := by unfold mAnd; rw [h]; exact h2
theorem mAnd_f {mt mu : Env → Res Bool} (h : mt ρ = .ok false ρ1) : mAnd mt mu ρ = .ok false ρ1 := by unfold mAnd; rw [h]; rfl
theorem mIfS_t (h : mt ρ = .ok true ρ1) : mIfS mt m1 m2 ρ = m1 ρ1 := by unfold mIfS; rw [h]; rfl
theorem mIfS_f (h : mt ρ = .ok false ρ1) : mIfS mt m1 m2 ρ = m2 ρ1 := by unfold mIfS; rw [h]; rfl
end
theorem gI_any (g : Int → Int → D) (i j : Int) : gI cAny g (.int i) (.int j) = some (.d (g i j)) := rfl
theorem gPow_18 : gPow (.int 10) (.int 18) = some (.d (.int 1000000000000000000)) := by rfl
theorem gIx_l (xs : List D) (i : Int) : gIx (.list xs) (.int i) = (match atI xs i with
    | some x => some (.d x)
    | none => none) := rfl
theorem gIx_t (xs : List D) (i : Int) : gIx (.tuple xs) (.int i) = (match atI xs i with
    | some x => some (.d x)
    | none => none) := rfl

/-! ### comprehensions -/
theorem lcL_pure {P : Nat} {b : D → Env → Option Env} {mt : Env → Res Bool} {me : Env → Res R} {vs : List Nat} {ρ : Env} (p : D → Bool) (g : D → D) : ∀ (ds acc : List D),
    (∀ d ∈ ds, ∃ ρ1, b d ρ = some ρ1 ∧ mt ρ1 = .ok (p d) ρ1 ∧ (p d = true → me ρ1 = .ok (.d (g d)) ρ1) ∧ wipeE ρ1 vs = ρ) → acc.length + ds.length ≤ 1000000 → lcL P b mt me vs ds acc ρ = .ok (acc ++ (ds.filter p).map g) ρ
  | [], acc, _, _ => by simp [lcL]
  | d :: ds, acc, h, hl => by
    obtain ⟨ρ1, h1, h2, h3, h4⟩ := h d List.mem_cons_self
    have hl' : acc.length + ds.length + 1 ≤ 1000000 := hl
    simp only [lcL, h1, h2]
    cases e : p d with
    | false =>
      simp only [h4, List.filter_cons, e, Bool.false_eq_true, if_false]
      exact lcL_pure p g ds acc (fun x hx => h x (List.mem_cons_of_mem _ hx)) (by omega)
    | true =>
      simp only [h3 e, frz1, dopd, List.filter_cons, e, if_true, List.map_cons]
      rw [if_pos (by omega), h4, lcL_pure p g ds _ (fun x hx => h x (List.mem_cons_of_mem _ hx)) (by rw [List.length_append, List.length_singleton]; omega), List.append_assoc]
      rfl
theorem lcL_over {P : Nat} {b : D → Env → Option Env} {mt : Env → Res Bool} {me : Env → Res R} {vs : List Nat} {ρ : Env} {α : Type} (enc : α → D) (p : α → Bool) (g : α → D) : ∀ (xs : List α) (acc : List D),
    (∀ x ∈ xs, ∃ ρ1, b (enc x) ρ = some ρ1 ∧ mt ρ1 = .ok (p x) ρ1 ∧ (p x = true → me ρ1 = .ok (.d (g x)) ρ1) ∧ wipeE ρ1 vs = ρ) → acc.length + xs.length ≤ 1000000 → lcL P b mt me vs (xs.map enc) acc ρ = .ok (acc ++ (xs.filter p).map g) ρ
  | [], acc, _, _ => by simp [lcL]
  | x :: xs, acc, h, hl => by
    obtain ⟨ρ1, h1, h2, h3, h4⟩ := h x List.mem_cons_self
    have hl' : acc.length + xs.length + 1 ≤ 1000000 := hl
    simp only [List.map_cons, lcL, h1, h2]
    cases e : p x with
    | false =>
      simp only [h4, List.filter_cons, e, Bool.false_eq_true, if_false]
      exact lcL_over enc p g xs acc (fun x hx => h x (List.mem_cons_of_mem _ hx)) (by omega)
    | true =>
      simp only [h3 e, frz1, dopd, List.filter_cons, e, if_true, List.map_cons]
      rw [if_pos (by omega), h4, lcL_over enc p g xs _ (fun x hx => h x (List.mem_cons_of_mem _ hx)) (by rw [List.length_append, List.length_singleton]; omega), List.append_assoc]
      rfl
theorem filter_yes {α : Type} (xs : List α) : (xs.filter fun _ => true) = xs := List.filter_eq_self.mpr fun _ _ => rfl
theorem lcL_inv {P : Nat} {b : D → Env → Option Env} {mt : Env → Res Bool} {me : Env → Res R} {vs : List Nat} (Inv : Env → Prop) (Y : D → Prop) : ∀ (ds acc : List D) (ρ : Env), Inv ρ →
    (∀ d ∈ ds, ∀ ρ, Inv ρ → ∃ ρ1 ρ2 y, b d ρ = some ρ1 ∧ mt ρ1 = .ok true ρ1 ∧ me ρ1 = .ok (.d y) ρ2 ∧ Y y ∧ Inv (wipeE ρ2 vs)) → acc.length + ds.length ≤ 1000000 →
    ∃ ys ρ', lcL P b mt me vs ds acc ρ = .ok (acc ++ ys) ρ' ∧ ys.length = ds.length ∧ (∀ y ∈ ys, Y y) ∧ Inv ρ'
  | [], acc, ρ, hi, _, _ => ⟨[], ρ, by simp [lcL], rfl, (fun _ hy => nomatch hy), hi⟩
  | d :: ds, acc, ρ, hi, h, hl => by
    obtain ⟨ρ1, ρ2, y, h1, h2, h3, h4, h5⟩ := h d List.mem_cons_self ρ hi
    have hl' : acc.length + ds.length + 1 ≤ 1000000 := hl
    obtain ⟨ys, ρ', q1, q2, q3, q4⟩ := lcL_inv Inv Y ds (acc ++ [y]) (wipeE ρ2 vs) h5 (fun x hx => h x (List.mem_cons_of_mem _ hx)) (by rw [List.length_append, List.length_singleton]; omega)
    refine ⟨y :: ys, ρ', ?_, by rw [List.length_cons, q2]; rfl, fun z hz => ?_, q4⟩
    · simp only [lcL, h1, h2, h3, frz1, dopd]
      rw [if_pos (by omega), q1, List.append_assoc]
      rfl
    · rcases List.mem_cons.mp hz with e | hz
      · subst e; exact h4
      · exact q3 z hz
end Z
local macro_rules | `(tactic| walk_at "ev") => `(tactic| simp only [Z.mSeq, Z.mIfS, Z.mTest, Z.mTru, Z.mBin, Z.mUn, Z.mVar, Z.mC, Z.mCB, Z.mCons, Z.mNil, Z.mAsg, Z.mSetI, Z.mRet, Z.mIf, Z.mNext, Z.mDrop, Z.mAug, Z.mMut, Z.mAnd, Z.mOr, Z.mNot, Z.mAndV, Z.mOrV, Z.mNotV, Z.mYes,
  Z.mLst, Z.mTup, Z.Res.bind, Z.opd, Z.cont, Z.opds, Z.dopd, Z.dopds, Z.frz1, Z.frzA, Z.tru, Z.cLen, Z.cAbs, Z.cInt, Z.cMax2, Z.cMin2, Z.cList, Z.uAppend, Z.bName,
  List.getElem?_cons_zero, List.getElem?_cons_succ, List.set_cons_zero, List.set_cons_succ, List.length_cons, List.length_nil, List.map_cons, List.map_nil, List.replicate, List.cons_append, List.nil_append,
  Z.gEq_int, Z.gNe_int, Z.gAdd_int, Z.gSub_int, Z.gLt_int, Z.gLe_int, Z.gGt_int, Z.gGe_int, Z.gNeg_int, Z.gMod_int, Z.gDiv_int, Z.gMul_r, Z.gMul_l, Z.gPow_18, Z.gIx_l, Z.gIx_t, Z.atI_lit, Z.ixN_lit, Nat.reduceAdd, Nat.reduceLT, Nat.reduceLeDiff, Int.reduceLT, Int.reduceNeg, Int.reduceLE, Int.reduceAdd, Int.reduceEq, Int.reduceToNat, List.length_map, Z.wipeE, Z.back, Z.mIsi, Z.tyN, Z.kit_ll, Z.kit_ii, Z.kit_ib, Z.gI_any, Z.gEq_ints, Z.gNe_ints, Z.gIn_ints, and_self, if_true, if_false, Bool.false_eq_true, reduceIte, decide_true, decide_false, decide_eq_true_eq, not_true_eq_false, not_false_eq_true, *])
namespace K01
open PySem L2 Z
def m__law_box_s1 : Z.Env → Z.Out := (mRet 0 (mLst 0 (mCons (mC (.int 0)) (mCons (mC (.int 0)) (mCons (mC (.int 0)) (mCons (mLcH 0 0 (bName 1) mYes (mCB cAbs (mCons (mCB cInt (mCons (mVar 1) mNil)) mNil)) [1]) mNil))))))
/-- _law_box: 0 script 1 x -/
def m__law_box : Z.Env → Z.Out := m__law_box_s1
def m__law_take_s1 : Z.Env → Z.Out := (mIfS (mTest (mBin gEq (mBin gIx (mVar 0) (mC (.int 1))) (mC (.int 0)))) (mSeq (mAsg 1 2 (mBin gIx (mVar 0) (mC (.int 2))))
  (mSeq (mAsg 1 3 (mC (.int 0)))
  (mSeq (mIfS (mTest (mBin gLt (mVar 2) (mCB cLen (mCons (mBin gIx (mVar 0) (mC (.int 3))) mNil)))) (mSeq (mAsg 1 3 (mBin gIx (mBin gIx (mVar 0) (mC (.int 3))) (mVar 2)))
  (mSetI 1 0 (mIf (mTest (mBin gGe (mVar 3) (mBin gPow (mC (.int 10)) (mC (.int 18))))) (mC (.int 60)) (mUn gNeg (mC (.int 9)))) (mC (.int 1)))) mNext)
  (mSeq (mSetI 1 0 (mBin gAdd (mVar 2) (mC (.int 1))) (mC (.int 2)))
  (mSeq (mSetI 1 0 (mVar 3) (mC (.int 0)))
  (mIfS (mTest (mBin gEq (mBin gIx (mVar 0) (mC (.int 1))) (mC (.int 0)))) (mRet 1 (mC (.int 0))) mNext)))))) mNext)
def m__law_take_s2 : Z.Env → Z.Out := (mIfS (mTest (mBin gGt (mBin gIx (mVar 0) (mC (.int 1))) (mC (.int 0)))) (mSeq (mAsg 1 4 (mBin gMod (mCB cInt (mCons (mBin gIx (mVar 0) (mC (.int 0))) mNil)) (mVar 1)))
  (mSeq (mSetI 1 0 (mBin gDiv (mBin gIx (mVar 0) (mC (.int 0))) (mVar 1)) (mC (.int 0)))
  (mSeq (mSetI 1 0 (mIf (mTest (mBin gGt (mBin gIx (mVar 0) (mC (.int 0))) (mC (.int 0)))) (mBin gSub (mBin gIx (mVar 0) (mC (.int 1))) (mC (.int 1))) (mC (.int 0))) (mC (.int 1)))
  (mRet 1 (mVar 4))))) mNext)
def m__law_take_s3 : Z.Env → Z.Out := (mSetI 1 0 (mBin gAdd (mBin gIx (mVar 0) (mC (.int 1))) (mC (.int 1))) (mC (.int 1)))
def m__law_take_s4 : Z.Env → Z.Out := (mSetI 1 0 (mBin gMod (mCB cInt (mCons (mBin gAdd (mBin gMul (mBin gIx (mVar 0) (mC (.int 0))) (mC (.int 48271))) (mBin gMul (mC (.int 69621)) (mBin gAdd (mBin gIx (mVar 0) (mC (.int 1))) (mC (.int 20))))) mNil)) (mC (.int 2147483647))) (mC (.int 0)))
def m__law_take_s5 : Z.Env → Z.Out := (mRet 1 (mBin gMod (mBin gMod (mCB cInt (mCons (mBin gAdd (mBin gDiv (mBin gIx (mVar 0) (mC (.int 0))) (mC (.int 7))) (mBin gIx (mVar 0) (mC (.int 0)))) mNil)) (mC (.int 1000003))) (mVar 1)))
/-- _law_take: 0 box 1 m 2 at 3 cell 4 told -/
def m__law_take : Z.Env → Z.Out := mSeq m__law_take_s1 (mSeq m__law_take_s2 (mSeq m__law_take_s3 (mSeq m__law_take_s4 (m__law_take_s5))))
def m_members_s1 : Z.Env → Z.Out := (mRet 0 (mLc 0 (mRng1 (mCons (mVar 0) mNil)) (bName 2) (mTru (mBin gAnd (mBin gShr (mVar 1) (mVar 2)) (mC (.int 1)))) (mVar 2) [2]))
/-- members: 0 n 1 bits 2 letter -/
def m_members : Z.Env → Z.Out := m_members_s1
def m__law_is_number_s1 : Z.Env → Z.Out := (mRet 0 (mAndV (mIsi "int" (mVar 0)) (mNotV (mIsi "bool" (mVar 0)))))
/-- _law_is_number: 0 x -/
def m__law_is_number : Z.Env → Z.Out := m__law_is_number_s1
def m_bits_of_s1 : Z.Env → Z.Out := (mAsg 0 1 (mC (.int 0)))
def m_bits_of_s2 : Z.Env → Z.Out := (mFor (mIter 0 (mVar 0)) (bName 2) (mAug 1 (gI cAny fun i j => .int (Builtin.bitOr i j)) (mBin gShl (mC (.int 1)) (mVar 2))))
def m_bits_of_s3 : Z.Env → Z.Out := (mRet 0 (mVar 1))
/-- bits_of: 0 letters 1 bits 2 letter -/
def m_bits_of : Z.Env → Z.Out := mSeq m_bits_of_s1 (mSeq m_bits_of_s2 (m_bits_of_s3))
def m_law_s1 : Z.Env → Z.Out := (mAsg 0 1 (mCall0 false 0 1 2 m__law_box (mCons (mVar 0) mNil)))
def m_law_s2 : Z.Env → Z.Out := (mAsg 0 2 (mCall1 false 0 2 5 m__law_take (mCons (mVar 1) (mCons (mC (.int 6)) mNil))))
def m_law_s3 : Z.Env → Z.Out := (mAsg 0 3 (mCall1 false 0 2 5 m__law_take (mCons (mVar 1) (mCons (mBin gIx (mLst 0 (mCons (mC (.int 1)) (mCons (mC (.int 2)) (mCons (mC (.int 4)) (mCons (mC (.int 8)) (mCons (mC (.int 16)) (mCons (mC (.int 32)) mNil))))))) (mVar 2)) mNil))))
def m_law_s4 : Z.Env → Z.Out := (mAsg 0 4 (mLc 0 (mRng1 (mCons (mVar 2) mNil)) (bName 5) (mTest (mBin gEq (mBin gMod (mBin gDiv (mCB cInt (mCons (mVar 3) mNil)) (mBin gIx (mLst 0 (mCons (mC (.int 1)) (mCons (mC (.int 2)) (mCons (mC (.int 4)) (mCons (mC (.int 8)) (mCons (mC (.int 16)) mNil)))))) (mVar 5))) (mC (.int 2))) (mC (.int 1)))) (mVar 5) [5]))
def m_law_s5 : Z.Env → Z.Out := (mAsg 0 6 (mCall0 false 0 2 3 m_members (mCons (mVar 2) (mCons (mVar 3) mNil))))
def m_law_s6 : Z.Env → Z.Out := (mIfS (mOr (mNot (mTru (mIsi "list" (mVar 6)))) (mOr (mTest (mBin gNe (mVar 6) (mVar 4))) (mTest (mBin gIn (mC (.bool false)) (mLcH 0 6 (bName 5) mYes (mCall0 false 0 1 1 m__law_is_number (mCons (mVar 5) mNil)) [5]))))) (mRet 0 (mC (.bool false))) mNext)
def m_law_s7 : Z.Env → Z.Out := (mMut 0 6 uAppend (mCons (mC (.int 9)) mNil))
def m_law_s8 : Z.Env → Z.Out := (mIfS (mOr (mTest (mBin gNe (mCall0 false 0 2 3 m_members (mCons (mVar 2) (mCons (mVar 3) mNil))) (mVar 4))) (mOr (mTest (mBin gNe (mCall0 false 0 1 3 m_bits_of (mCons (mVar 4) mNil)) (mVar 3))) (mNot (mTru (mCall0 false 0 1 1 m__law_is_number (mCons (mCall0 false 0 1 3 m_bits_of (mCons (mVar 4) mNil)) mNil)))))) (mRet 0 (mC (.bool false))) mNext)
def m_law_s9 : Z.Env → Z.Out := (mAsg 0 7 (mLc 0 (mRng1 (mCons (mBin gMul (mCall1 false 0 2 5 m__law_take (mCons (mVar 1) (mCons (mC (.int 8)) mNil))) (mCB cMin2 (mCons (mVar 2) (mCons (mC (.int 1)) mNil)))) mNil)) (bName 8) mYes (mCall1 false 0 2 5 m__law_take (mCons (mVar 1) (mCons (mCB cMax2 (mCons (mVar 2) (mCons (mC (.int 1)) mNil))) mNil))) [8]))
def m_law_s10 : Z.Env → Z.Out := (mAsg 0 9 (mCB cList (mCons (mVar 7) mNil)))
def m_law_s11 : Z.Env → Z.Out := (mAsg 0 10 (mC (.int 0)))
def m_law_s12 : Z.Env → Z.Out := (mFor (mRng1 (mCons (mVar 2) mNil)) (bName 5) (mIfS (mTest (mBin gIn (mVar 5) (mVar 7))) (mAsg 0 10 (mBin gAdd (mVar 10) (mBin gIx (mLst 0 (mCons (mC (.int 1)) (mCons (mC (.int 2)) (mCons (mC (.int 4)) (mCons (mC (.int 8)) (mCons (mC (.int 16)) mNil)))))) (mVar 5)))) mNext))
def m_law_s13 : Z.Env → Z.Out := (mRet 0 (mAndV (mBin gEq (mCall0 false 0 1 3 m_bits_of (mCons (mVar 7) mNil)) (mVar 10)) (mAndV (mBin gEq (mVar 7) (mVar 9)) (mBin gEq (mCall0 false 0 2 3 m_members (mCons (mVar 2) (mCons (mCall0 false 0 1 3 m_bits_of (mCons (mVar 7) mNil)) mNil))) (mSortSet (mVar 7))))))
/-- law: 0 script 1 box 2 n 3 bits 4 due 5 a 6 told 7 letters 8 k 9 kept 10 total -/
def m_law : Z.Env → Z.Out := mSeq m_law_s1 (mSeq m_law_s2 (mSeq m_law_s3 (mSeq m_law_s4 (mSeq m_law_s5 (mSeq m_law_s6 (mSeq m_law_s7 (mSeq m_law_s8 (mSeq m_law_s9 (mSeq m_law_s10 (mSeq m_law_s11 (mSeq m_law_s12 (m_law_s13))))))))))))


end K01
namespace K01
open PySem L2 Z
def BoxL (c mode pl : Int) (cells : List Int) : List Z.D := [.int c, .int mode, .int pl, .list (cells.map .int)]
structure BoxP (c mode pl : Int) (cells : List Int) : Prop where
  cells0 : ∀ x ∈ cells, (0 : Int) ≤ x
  pl0 : 0 ≤ pl
  c0 : 0 ≤ c
  c1 : mode < 0 → c < 1000000000000000000
  lo : -9 ≤ mode
  hi : mode ≤ 60
def Box (xs : List Z.D) : Prop := ∃ (c mode pl : Int) (cells : List Int), xs = BoxL c mode pl cells ∧ BoxP c mode pl cells
/-- what a draw does -/
def Told (o : Z.Out) (m : Int) : Prop := ∃ (t : Int) (ys : List Z.D) (r : Z.Env), o = .rt (.d (.int t)) (some (.o ys) :: r) ∧ Box ys ∧ 0 ≤ t ∧ t < m
theorem told_of {m t c mode pl : Int} {cells : List Int} {r : Z.Env} (h : BoxP c mode pl cells) (h1 : 0 ≤ t) (h2 : t < m) : Told (.rt (.d (.int t)) (some (.o [.int c, .int mode, .int pl, .list (cells.map .int)]) :: r)) m :=
  ⟨t, _, r, rfl, ⟨c, mode, pl, cells, rfl, h⟩, h1, h2⟩
theorem take_up (c mode pl m : Int) (cells : List Int) (r2 r3 r4 : Option Z.S) (h : BoxP c mode pl cells) (hm : 0 < m) (hm2 : m < 1073741824) (h0 : ¬ mode = 0) :
    Told (mSeq m__law_take_s2 (mSeq m__law_take_s3 (mSeq m__law_take_s4 m__law_take_s5)) [some (.o (BoxL c mode pl cells)), some (.d (.int m)), r2, r3, r4]) m := by
  unfold m__law_take_s2 m__law_take_s3 m__law_take_s4 m__law_take_s5 BoxL
  obtain ⟨h1, h2, h3, h4, h5, h6⟩ := h
  have k0 := Int.emod_nonneg c (show m ≠ 0 by omega)
  have k1 := Int.emod_lt_of_pos c hm
  have k2 : 0 ≤ c / m := Int.ediv_nonneg h3 (by omega)
  by_cases up : 0 < mode
  · by_cases q : 0 < c / m
    · walk_at "ev"
      exact told_of ⟨h1, h2, k2, fun z => by omega, by omega, by omega⟩ k0 k1
    · walk_at "ev"
      exact told_of ⟨h1, h2, k2, fun z => by omega, by omega, by omega⟩ k0 k1
  · walk_at "ev"
    have k3 := Int.emod_nonneg (c * 48271 + 69621 * (mode + 1 + 20)) (show (2147483647 : Int) ≠ 0 by decide)
    have k4 := Int.emod_lt_of_pos (c * 48271 + 69621 * (mode + 1 + 20)) (show (0 : Int) < 2147483647 by decide)
    refine told_of ⟨h1, h2, k3, fun z => by omega, by omega, by omega⟩ (Int.emod_nonneg _ (by omega)) (Int.emod_lt_of_pos _ hm)
theorem take_ok (c mode pl m : Int) (cells : List Int) (h : BoxP c mode pl cells) (hm : 0 < m) (hm2 : m < 1073741824) :
    Told (m__law_take (env0 5 [.o (BoxL c mode pl cells), .d (.int m)])) m := by
  obtain ⟨h1, h2, h3, h4, h5, h6⟩ := id h
  unfold m__law_take env0
  by_cases z : mode = 0
  · subst z
    by_cases q : pl < cells.length
    · have hq : cells[pl.toNat]? = some cells[pl.toNat] := List.getElem?_eq_getElem (by omega)
      have hx : 0 ≤ cells[pl.toNat] := h1 _ (List.getElem_mem _)
      generalize cells[pl.toNat] = x at hq hx
      have ha := atI_map PyData.int cells pl h2
      rw [hq] at ha
      replace ha : atI (cells.map PyData.int) pl = some (.int x) := ha
      by_cases big : 1000000000000000000 ≤ x
      · have e : m__law_take_s1 [some (.o (BoxL c 0 pl cells)), some (.d (.int m)), none, none, none] = .nx [some (.o (BoxL x 60 (pl + 1) cells)), some (.d (.int m)), some (.d (.int pl)), some (.d (.int x)), none] := by
          unfold m__law_take_s1 BoxL
          walk_at "ev"
        show Told (mSeq m__law_take_s1 _ [some (.o (BoxL c 0 pl cells)), some (.d (.int m)), none, none, none]) m
        rw [mSeq, e]
        exact take_up x 60 (pl + 1) m cells _ _ _ ⟨h1, by omega, hx, fun z => by omega, by omega, by omega⟩ hm hm2 (by decide)
      · have e : m__law_take_s1 [some (.o (BoxL c 0 pl cells)), some (.d (.int m)), none, none, none] = .nx [some (.o (BoxL x (-9) (pl + 1) cells)), some (.d (.int m)), some (.d (.int pl)), some (.d (.int x)), none] := by
          unfold m__law_take_s1 BoxL
          walk_at "ev"
        show Told (mSeq m__law_take_s1 _ [some (.o (BoxL c 0 pl cells)), some (.d (.int m)), none, none, none]) m
        rw [mSeq, e]
        exact take_up x (-9) (pl + 1) m cells _ _ _ ⟨h1, by omega, hx, fun z => by omega, by omega, by omega⟩ hm hm2 (by decide)
    · have e : m__law_take_s1 [some (.o (BoxL c 0 pl cells)), some (.d (.int m)), none, none, none] = .rt (.d (.int 0)) [some (.o (BoxL 0 0 (pl + 1) cells)), some (.d (.int m)), some (.d (.int pl)), some (.d (.int 0)), none] := by
        unfold m__law_take_s1 BoxL
        walk_at "ev"
      show Told (mSeq m__law_take_s1 _ [some (.o (BoxL c 0 pl cells)), some (.d (.int m)), none, none, none]) m
      rw [mSeq, e]
      exact told_of ⟨h1, by omega, by omega, fun z => by omega, by omega, by omega⟩ (by omega) hm
  · have e : m__law_take_s1 [some (.o (BoxL c mode pl cells)), some (.d (.int m)), none, none, none] = .nx [some (.o (BoxL c mode pl cells)), some (.d (.int m)), none, none, none] := by
      unfold m__law_take_s1 BoxL
      walk_at "ev"
    show Told (mSeq m__law_take_s1 _ [some (.o (BoxL c mode pl cells)), some (.d (.int m)), none, none, none]) m
    rw [mSeq, e]
    exact take_up c mode pl m cells _ _ _ h hm hm2 z
end K01
namespace K01
open PySem L2 Z
theorem take_call (P j : Nat) (ms : Z.Env → Res (List R)) (ρ : Z.Env) (xs : List Z.D) (m : Int) (hms : ms ρ = .ok [.b j, .d (.int m)] ρ) (hj : ρ[j]? = some (some (.o xs))) (hb : Box xs) (hm : 0 < m) (hm2 : m < 1073741824) :
    ∃ t ys, mCall1 false P 2 5 m__law_take ms ρ = .ok (.d (.int t)) (ρ.set j (some (.o ys))) ∧ Box ys ∧ 0 ≤ t ∧ t < m := by
  obtain ⟨c, mode, pl, cells, rfl, hp⟩ := hb
  obtain ⟨t, ys, r, e, h1, h2, h3⟩ := take_ok c mode pl m cells hp hm hm2
  refine ⟨t, ys, ?_, h1, h2, h3⟩
  have e' : m__law_take (env0 5 (.o (BoxL c mode pl cells) :: [PyData.int m].map Z.S.d)) = .rt (.d (.int t)) (some (.o ys) :: r) := e
  simp only [mCall1, hms, Res.bind, frzA, frz1, dopds, dopd, hj, List.length_cons, List.length_nil, e', List.getElem?_cons_zero, if_true]
def absI (i : Int) : Int := if i < 0 then -i else i
theorem absI0 (i : Int) : 0 ≤ absI i := by unfold absI; split <;> omega
theorem box_ok (ns : List Int) (h : ns.length ≤ 63) : ∃ r, m__law_box (env0 2 [.d (.list (ns.map .int))]) = .rt (.o (BoxL 0 0 0 (ns.map absI))) r := by
  have e := lcL_over (P := 0) (b := bName 1) (mt := mYes) (me := mCB cAbs (mCons (mCB cInt (mCons (mVar 1) mNil)) mNil)) (vs := [1]) (ρ := [some (.d (.list (ns.map .int))), none]) PyData.int (fun _ => true) (fun i => .int (absI i)) ns [] (fun i _ =>
      ⟨[some (.d (.list (ns.map .int))), some (.d (.int i))], by walk_at "ev", by walk_at "ev", fun _ => by walk_at "ev"; rfl, by walk_at "ev"⟩) (by simp; omega)
  rw [filter_yes, List.nil_append] at e
  refine ⟨[some (.d (.list (ns.map .int))), none], ?_⟩
  unfold m__law_box m__law_box_s1 env0 mLcH BoxL
  rw [List.map_map]
  walk_at "ev"
  rfl
/-! ### members, bits_of -/
def outI : Z.Out → Option (List Int)
  | .rt (.o xs) _ => intsOf xs
  | _ => none
def Mem (n b : Nat) : List Int := ((List.range n).filter fun a => b / 2 ^ a % 2 == 1).map fun (a : Nat) => (a : Int)
theorem mem_all : ((List.range 6).all fun n => (List.range 32).all fun b => outI (m_members (env0 3 [.d (.int n), .d (.int b)])) == some (Mem n b)) = true := by decide +kernel
theorem members_ok (n b : Nat) (hn : n < 6) (hb : b < 32) : ∃ r, m_members (env0 3 [.d (.int n), .d (.int b)]) = .rt (.o ((Mem n b).map .int)) r := by
  have h := mem_all
  rw [List.all_eq_true] at h
  have h := h n (List.mem_range.mpr hn)
  rw [List.all_eq_true] at h
  have h := h b (List.mem_range.mpr hb)
  rw [beq_iff_eq] at h
  generalize m_members (env0 3 [.d (.int n), .d (.int b)]) = o at h
  match o, h with
  | .rt (.o xs) r, h =>
    have h : intsOf xs = some (Mem n b) := h
    rw [intsOf_eq h]
    exact ⟨r, rfl⟩
end K01
namespace K01
open PySem L2 Z
/-! ### masks -/
def val (b0 b1 b2 b3 b4 : Bool) : Int := (if b0 then 1 else 0) + (if b1 then 2 else 0) + (if b2 then 4 else 0) + (if b3 then 8 else 0) + (if b4 then 16 else 0)
def Msk (xs : List Int) : Int := val (decide (0 ∈ xs)) (decide (1 ∈ xs)) (decide (2 ∈ xs)) (decide (3 ∈ xs)) (decide (4 ∈ xs))
theorem val_or : ∀ b0 b1 b2 b3 b4 : Bool, Builtin.bitOr (val b0 b1 b2 b3 b4) 1 = val true b1 b2 b3 b4 ∧ Builtin.bitOr (val b0 b1 b2 b3 b4) 2 = val b0 true b2 b3 b4 ∧ Builtin.bitOr (val b0 b1 b2 b3 b4) 4 = val b0 b1 true b3 b4 ∧
    Builtin.bitOr (val b0 b1 b2 b3 b4) 8 = val b0 b1 b2 true b4 ∧ Builtin.bitOr (val b0 b1 b2 b3 b4) 16 = val b0 b1 b2 b3 true := by decide +kernel
theorem Msk_add (xs : List Int) (l : Int) (h0 : 0 ≤ l) (h5 : l < 5) : Builtin.bitOr (Msk xs) (1 * 2 ^ l.toNat) = Msk (xs ++ [l]) := by
  have h := val_or (decide (0 ∈ xs)) (decide (1 ∈ xs)) (decide (2 ∈ xs)) (decide (3 ∈ xs)) (decide (4 ∈ xs))
  obtain ⟨a0, a1, a2, a3, a4⟩ := h
  have : l = 0 ∨ l = 1 ∨ l = 2 ∨ l = 3 ∨ l = 4 := by omega
  unfold Msk
  rcases this with rfl | rfl | rfl | rfl | rfl
  · simpa using a0
  · simpa using a1
  · simpa using a2
  · simpa using a3
  · simpa using a4
theorem gShl_1 (l : Int) (h0 : 0 ≤ l) (h5 : l < 5) : gShl (.int 1) (.int l) = some (.d (.int (1 * 2 ^ l.toNat))) := by
  have : cPow 1 l = true := by
    unfold cPow
    exact decide_eq_true ⟨h0, by omega, by decide⟩
  simp [gShl, gI, this]
theorem bits_loop : ∀ (ys pre : List Int) (s0 r2 : Option Z.S), (∀ y ∈ ys, 0 ≤ y ∧ y < 5) → ∃ r2', forL (bName 2) (mAug 1 (gI cAny fun i j => .int (Builtin.bitOr i j)) (mBin gShl (mC (.int 1)) (mVar 2))) (ys.map .int) [s0, some (.d (.int (Msk pre))), r2] = .nx [s0, some (.d (.int (Msk (pre ++ ys)))), r2']
  | [], pre, s0, r2, _ => ⟨r2, by simp [forL]⟩
  | y :: ys, pre, s0, r2, h => by
    obtain ⟨h0, h5⟩ := h y List.mem_cons_self
    obtain ⟨r, e⟩ := bits_loop ys (pre ++ [y]) s0 (some (.d (.int y))) fun z hz => h z (List.mem_cons_of_mem _ hz)
    refine ⟨r, ?_⟩
    have hs := gShl_1 y h0 h5
    have hm := Msk_add pre y h0 h5
    have st : mAug 1 (gI cAny fun i j => .int (Builtin.bitOr i j)) (mBin gShl (mC (.int 1)) (mVar 2)) [s0, some (.d (.int (Msk pre))), some (.d (.int y))] = .nx [s0, some (.d (.int (Msk (pre ++ [y])))), some (.d (.int y))] := by
      walk_at "ev"
    simp only [List.map_cons, forL, bName, List.set_cons_succ, List.set_cons_zero, st, e, List.append_assoc, List.cons_append, List.nil_append]
theorem bits_ok (ys : List Int) (h : ∀ y ∈ ys, 0 ≤ y ∧ y < 5) : ∃ r, m_bits_of (env0 3 [.d (.list (ys.map .int))]) = .rt (.d (.int (Msk ys))) r := by
  obtain ⟨r2, e⟩ := bits_loop ys [] (some (.d (.list (ys.map .int)))) none h
  refine ⟨[some (.d (.list (ys.map .int))), some (.d (.int (Msk ys))), r2], ?_⟩
  have e0 : Msk [] = 0 := by decide
  rw [e0, List.nil_append] at e
  unfold m_bits_of m_bits_of_s1 m_bits_of_s2 m_bits_of_s3 env0 mFor mIter
  walk_at "ev"
theorem num_ok (i : Int) : ∃ r, m__law_is_number (env0 1 [.d (.int i)]) = .rt (.d (.bool true)) r := by
  refine ⟨[some (.d (.int i))], ?_⟩
  unfold m__law_is_number m__law_is_number_s1 env0
  walk_at "ev"
  rfl
end K01
namespace K01
open PySem L2 Z
theorem pow6 (N : Nat) (h : N < 6) : atI [PyData.int 1, .int 2, .int 4, .int 8, .int 16, .int 32] (N : Int) = some (.int ((2 ^ N : Nat) : Int)) := by
  rcases N with _ | _ | _ | _ | _ | _ | N
  all_goals first | (exfalso; omega) | rfl
theorem pow5 (N : Nat) (h : N < 5) : atI [PyData.int 1, .int 2, .int 4, .int 8, .int 16] (N : Int) = some (.int ((2 ^ N : Nat) : Int)) := by
  rcases N with _ | _ | _ | _ | _ | N
  all_goals first | (exfalso; omega) | rfl
theorem pow_lt (N : Nat) (h : N < 6) : 0 < ((2 ^ N : Nat) : Int) ∧ ((2 ^ N : Nat) : Int) < 1073741824 := by
  rcases N with _ | _ | _ | _ | _ | _ | N
  all_goals first | (exfalso; omega) | decide
theorem due_test (a B : Nat) : (B / 2 ^ a % 2 == 1) = decide ((B : Int) / ((2 ^ a : Nat) : Int) % 2 = 1) := by
  rw [show ((B : Int) / ((2 ^ a : Nat) : Int) % 2) = ((B / 2 ^ a % 2 : Nat) : Int) by push_cast; rfl]
  by_cases q : B / 2 ^ a % 2 = 1
  · rw [q]; rfl
  · rw [decide_eq_false (by omega)]
    simpa using q
abbrev E4 (s0 s1 : Option Z.S) (N B : Nat) (x4 x5 x6 x7 x8 x9 x10 : Option Z.S) : Z.Env := [s0, s1, some (.d (.int N)), some (.d (.int B)), x4, x5, x6, x7, x8, x9, x10]
/-- the letters due -/
theorem due_ok (N B : Nat) (hN : N < 6) (s0 s1 : Option Z.S) : m_law_s4 (E4 s0 s1 N B none none none none none none none) = .nx (E4 s0 s1 N B (some (.o ((Mem N B).map .int))) none none none none none none) := by
  have e := lcL_over (P := 0) (b := bName 5) (mt := (mTest (mBin gEq (mBin gMod (mBin gDiv (mCB cInt (mCons (mVar 3) mNil)) (mBin gIx (mLst 0 (mCons (mC (.int 1)) (mCons (mC (.int 2)) (mCons (mC (.int 4)) (mCons (mC (.int 8)) (mCons (mC (.int 16)) mNil)))))) (mVar 5))) (mC (.int 2))) (mC (.int 1))))) (me := mVar 5) (vs := [5])
    (ρ := E4 s0 s1 N B none none none none none none none) (fun (k : Nat) => PyData.int (k : Int)) (fun a => B / 2 ^ a % 2 == 1) (fun a => .int (a : Int)) (List.range N) [] (fun a ha => by
      have ha := List.mem_range.mp ha
      have hp := pow5 a (by omega)
      obtain ⟨h1, h2⟩ := pow_lt a (by omega)
      rw [due_test]
      exact ⟨E4 s0 s1 N B none (some (.d (.int a))) none none none none none, by walk_at "ev", by walk_at "ev", fun _ => by walk_at "ev", by walk_at "ev"⟩) (by simp; omega)
  have e2 : ((List.range N).filter fun a => B / 2 ^ a % 2 == 1).map (fun (a : Nat) => PyData.int (a : Int)) = (Mem N B).map .int := by
    unfold Mem
    rw [List.map_map]
    rfl
  rw [e2, List.nil_append] at e
  have r := mRng1_ok (ma := mCons (mVar 2) mNil) (ρ := E4 s0 s1 N B none none none none none none none) (ρ1 := E4 s0 s1 N B none none none none none none none) N (by walk_at "ev") (by omega)
  exact mAsg_o (P := 0) (i := 4) (mLc_ok r e)
theorem mask_all : ((List.range 6).all fun n => (List.range (2 ^ n)).all fun b => (Msk (Mem n b) == (b : Int)) && (Mem n b).all fun x => decide (0 ≤ x ∧ x < 5)) = true := by decide +kernel
theorem mask_ok (N B : Nat) (hN : N < 6) (hB : B < 2 ^ N) : Msk (Mem N B) = (B : Int) ∧ ∀ x ∈ Mem N B, 0 ≤ x ∧ x < 5 := by
  have h := mask_all
  rw [List.all_eq_true] at h
  have h := h N (List.mem_range.mpr hN)
  rw [List.all_eq_true] at h
  have h := h B (List.mem_range.mpr hB)
  rw [Bool.and_eq_true, beq_iff_eq, List.all_eq_true] at h
  exact ⟨h.1, fun x hx => of_decide_eq_true (h.2 x hx)⟩
theorem pow_le5 (N : Nat) (h : N < 6) : 2 ^ N ≤ 32 := by
  rcases N with _ | _ | _ | _ | _ | _ | N
  all_goals first | (exfalso; omega) | decide
/-- told = members(n, bits) -/
theorem told_ok (N B : Nat) (hN : N < 6) (hB : B < 2 ^ N) (s0 s1 s4 : Option Z.S) : m_law_s5 (E4 s0 s1 N B s4 none none none none none none) = .nx (E4 s0 s1 N B s4 none (some (.o ((Mem N B).map .int))) none none none none) := by
  have hp := pow_le5 N hN
  obtain ⟨r, e⟩ := members_ok N B hN (by omega)
  have e1 : mCons (mVar 2) (mCons (mVar 3) mNil) (E4 s0 s1 N B s4 none none none none none none) = .ok [.d (.int N), .d (.int B)] (E4 s0 s1 N B s4 none none none none none none) := by walk_at "ev"
  exact mAsg_o (mCall0_o (ex := false) (P := 0) (k := 2) e1 rfl rfl rfl e)
theorem nums_false : ∀ xs : List Int, (xs.map fun _ => PyData.bool true).any (fun z => PyData.eqv z (.bool false)) = false
  | [] => rfl
  | x :: xs => by
    rw [List.map_cons, List.any_cons, nums_false xs]
    rfl
theorem s6_ok (N B : Nat) (s0 s1 : Option Z.S) (ms : List Int) (hm : ms.length ≤ 100) : m_law_s6 (E4 s0 s1 N B (some (.o (ms.map .int))) none (some (.o (ms.map .int))) none none none none) = .nx (E4 s0 s1 N B (some (.o (ms.map .int))) none (some (.o (ms.map .int))) none none none none) := by
  have e := lcL_over (P := 0) (b := bName 5) (mt := mYes) (me := mCall0 false 0 1 1 m__law_is_number (mCons (mVar 5) mNil)) (vs := [5]) (ρ := E4 s0 s1 N B (some (.o (ms.map .int))) none none none none none none) PyData.int (fun _ => true) (fun _ => .bool true) ms [] (fun i _ => by
      obtain ⟨r, e⟩ := num_ok i
      have e1 : mCons (mVar 5) mNil (E4 s0 s1 N B (some (.o (ms.map .int))) (some (.d (.int i))) none none none none none) = .ok [.d (.int i)] (E4 s0 s1 N B (some (.o (ms.map .int))) (some (.d (.int i))) none none none none none) := by walk_at "ev"
      exact ⟨E4 s0 s1 N B (some (.o (ms.map .int))) (some (.d (.int i))) none none none none none, by walk_at "ev", by walk_at "ev", fun _ => mCall0_f (ex := false) (P := 0) (k := 1) e1 rfl rfl rfl e rfl, by walk_at "ev"⟩) (by simp; omega)
  rw [filter_yes, List.nil_append] at e
  have e1 := mLcH_o (P := 0) (j := 6) (b := bName 5) (mt := mYes) (me := mCall0 false 0 1 1 m__law_is_number (mCons (mVar 5) mNil)) (vs := [5]) (ρ := E4 s0 s1 N B (some (.o (ms.map .int))) none (some (.o (ms.map .int))) none none none none) rfl e
  have sh : SeqAt.shaped (.list (ms.map fun _ => PyData.bool true)) = true := (Sh.list (k := 0) fun x hx => by
    obtain ⟨i, _, rfl⟩ := List.mem_map.mp hx
    exact .bool true).shaped (by decide)
  have g := nums_false ms
  have gi : gIn (.bool false) (.list (ms.map fun _ => PyData.bool true)) = some (.d (.bool false)) := by
    unfold gIn
    simp only [sh, sh_bool, g, Bool.and_self, if_true]
  have c1 : mNot (mTru (mIsi "list" (mVar 6))) (E4 s0 s1 N B (some (.o (ms.map .int))) none (some (.o (ms.map .int))) none none none none) = .ok false (E4 s0 s1 N B (some (.o (ms.map .int))) none (some (.o (ms.map .int))) none none none none) := by
    walk_at "ev"
    rfl
  have c2 : mTest (mBin gNe (mVar 6) (mVar 4)) (E4 s0 s1 N B (some (.o (ms.map .int))) none (some (.o (ms.map .int))) none none none none) = .ok false (E4 s0 s1 N B (some (.o (ms.map .int))) none (some (.o (ms.map .int))) none none none none) := by
    walk_at "ev"
    simp
  have c3 : mTest (mBin gIn (mC (.bool false)) (mLcH 0 6 (bName 5) mYes (mCall0 false 0 1 1 m__law_is_number (mCons (mVar 5) mNil)) [5])) (E4 s0 s1 N B (some (.o (ms.map .int))) none (some (.o (ms.map .int))) none none none none) = .ok false (E4 s0 s1 N B (some (.o (ms.map .int))) none (some (.o (ms.map .int))) none none none none) := by
    unfold mTest mBin mC
    simp only [Res.bind]
    rw [e1]
    simp only [opd, gi]
    rfl
  unfold m_law_s6
  rw [mIfS_f (mOr_ff c1 (mOr_ff c2 c3))]
  rfl
end K01
namespace K01
open PySem L2 Z
theorem s7_ok (N B : Nat) (s0 s1 s4 : Option Z.S) (ms : List Int) (hm : ms.length < 1000000) : m_law_s7 (E4 s0 s1 N B s4 none (some (.o (ms.map .int))) none none none none) = .nx (E4 s0 s1 N B s4 none (some (.o (ms.map .int ++ [.int 9]))) none none none none) := by
  unfold m_law_s7 E4
  walk_at "ev"
theorem s8_ok (N B : Nat) (hN : N < 6) (hB : B < 2 ^ N) (s0 s1 s6 : Option Z.S) : m_law_s8 (E4 s0 s1 N B (some (.o ((Mem N B).map .int))) none s6 none none none none) = .nx (E4 s0 s1 N B (some (.o ((Mem N B).map .int))) none s6 none none none none) := by
  have hp := pow_le5 N hN
  obtain ⟨r1, e1⟩ := members_ok N B hN (by omega)
  obtain ⟨hm, h5⟩ := mask_ok N B hN hB
  obtain ⟨r2, e2⟩ := bits_ok (Mem N B) h5
  rw [hm] at e2
  obtain ⟨r3, e3⟩ := num_ok (B : Int)
  have a1 : mCons (mVar 2) (mCons (mVar 3) mNil) (E4 s0 s1 N B (some (.o ((Mem N B).map .int))) none s6 none none none none) = .ok [.d (.int N), .d (.int B)] (E4 s0 s1 N B (some (.o ((Mem N B).map .int))) none s6 none none none none) := by walk_at "ev"
  have a2 : mCons (mVar 4) mNil (E4 s0 s1 N B (some (.o ((Mem N B).map .int))) none s6 none none none none) = .ok [.b 4] (E4 s0 s1 N B (some (.o ((Mem N B).map .int))) none s6 none none none none) := by walk_at "ev"
  have v4 : mVar 4 (E4 s0 s1 N B (some (.o ((Mem N B).map .int))) none s6 none none none none) = .ok (.b 4) (E4 s0 s1 N B (some (.o ((Mem N B).map .int))) none s6 none none none none) := by walk_at "ev"
  have v3 : mVar 3 (E4 s0 s1 N B (some (.o ((Mem N B).map .int))) none s6 none none none none) = .ok (.d (.int B)) (E4 s0 s1 N B (some (.o ((Mem N B).map .int))) none s6 none none none none) := by walk_at "ev"
  have c2 := mCall0_o (ex := false) (P := 0) (k := 2) a1 rfl rfl rfl e1
  have cb := mCall0_f (ex := false) (P := 0) (k := 1) (n := 3) (mb := m_bits_of) a2 rfl rfl rfl e2 rfl
  have t1 := mTest_ok (mBin_ok c2 v4 rfl rfl (gNe_ints (Mem N B) (Mem N B)))
  have t2 := mTest_ok (mBin_ok cb v3 rfl rfl (gNe_int B B))
  have cn := mCall0_f (ex := false) (P := 0) (k := 1) (n := 1) (mb := m__law_is_number) (mCons_ok cb (ms := mNil) rfl) rfl rfl rfl e3 rfl
  have t3 := mNot_ok (mTru_ok cn rfl rfl)
  rw [decide_eq_true rfl] at t1 t2
  unfold m_law_s8
  rw [mIfS_f (mOr_ff t1 (mOr_ff t2 t3))]
  rfl
/-! ### the letters -/
theorem s9_ok (N B : Nat) (hN : N < 6) (s0 s4 s6 : Option Z.S) (bx : List Z.D) (hb : Box bx) : ∃ (bx' : List Z.D) (ls : List Int), (∀ l ∈ ls, (0 : Int) ≤ l ∧ l < N) ∧ ls.length < 8 ∧
    m_law_s9 (E4 s0 (some (.o bx)) N B s4 none s6 none none none none) = .nx (E4 s0 (some (.o bx')) N B s4 none s6 (some (.o (ls.map .int))) none none none) := by
  obtain ⟨t, b1, e1, hb1, t0, t8⟩ := take_call 0 1 (mCons (mVar 1) (mCons (mC (.int 8)) mNil)) (E4 s0 (some (.o bx)) N B s4 none s6 none none none none) bx 8 (by walk_at "ev") rfl hb (by decide) (by decide)
  have e1 : mCall1 false 0 2 5 m__law_take (mCons (mVar 1) (mCons (mC (.int 8)) mNil)) (E4 s0 (some (.o bx)) N B s4 none s6 none none none none) = .ok (.d (.int t)) (E4 s0 (some (.o b1)) N B s4 none s6 none none none none) := e1
  have e2 : mCB cMin2 (mCons (mVar 2) (mCons (mC (.int 1)) mNil)) (E4 s0 (some (.o b1)) N B s4 none s6 none none none none) = .ok (.d (.int (if (1 : Int) < N then 1 else N))) (E4 s0 (some (.o b1)) N B s4 none s6 none none none none) := by
    walk_at "ev"
  have small : -(18446744073709551616) < (if (1 : Int) < N then 1 else (N : Int)) ∧ (if (1 : Int) < N then 1 else (N : Int)) < 18446744073709551616 := by split <;> omega
  have e3 := mBin_ok (g := gMul) e1 e2 rfl rfl (gMul_r _ _ small.1 small.2)
  obtain ⟨Kn, hK, hK8, hK0⟩ : ∃ Kn : Nat, t * (if (1 : Int) < N then 1 else (N : Int)) = Kn ∧ Kn < 8 ∧ (N = 0 → Kn = 0) := by
    rcases N with _ | _ | N
    · exact ⟨0, by simp, by decide, fun _ => rfl⟩
    · exact ⟨t.toNat, by simp; omega, by omega, fun z => by cases z⟩
    · refine ⟨t.toNat, ?_, by omega, fun z => by cases z⟩
      rw [if_pos (by omega)]
      omega
  rw [hK] at e3
  have e4 := mRng1_ok Kn (mCons_ok e3 (ms := mNil) rfl) (by omega)
  obtain ⟨M, hM, hM0, hM5, hMN⟩ : ∃ M : Int, (if (1 : Int) > N then 1 else (N : Int)) = M ∧ 0 < M ∧ M < 6 ∧ (N ≠ 0 → M = N) := by
    refine ⟨_, rfl, ?_, ?_, fun z => ?_⟩
    · split <;> omega
    · split <;> omega
    · rw [if_neg (by omega)]
  obtain ⟨ys, ρ', e5, e6, e7, bx', hb', e8⟩ := lcL_inv (P := 0) (b := bName 8) (mt := mYes) (me := mCall1 false 0 2 5 m__law_take (mCons (mVar 1) (mCons (mCB cMax2 (mCons (mVar 2) (mCons (mC (.int 1)) mNil))) mNil))) (vs := [8])
    (fun ρ => ∃ b, Box b ∧ ρ = E4 s0 (some (.o b)) N B s4 none s6 none none none none) (fun y => ∃ i : Int, y = .int i ∧ 0 ≤ i ∧ i < M) ((List.range Kn).map fun (k : Nat) => PyData.int (k : Int)) [] (E4 s0 (some (.o b1)) N B s4 none s6 none none none none) ⟨b1, hb1, rfl⟩
    (fun d hd ρ hρ => by
      obtain ⟨b, hb, rfl⟩ := hρ
      have m1 : mCons (mVar 1) (mCons (mCB cMax2 (mCons (mVar 2) (mCons (mC (.int 1)) mNil))) mNil) (E4 s0 (some (.o b)) N B s4 none s6 none (some (.d d)) none none) = .ok [.b 1, .d (.int M)] (E4 s0 (some (.o b)) N B s4 none s6 none (some (.d d)) none none) := by
        walk_at "ev"
      obtain ⟨u, b2, f1, hb2, u0, uM⟩ := take_call 0 1 _ (E4 s0 (some (.o b)) N B s4 none s6 none (some (.d d)) none none) b M m1 rfl hb hM0 (by omega)
      exact ⟨_, _, .int u, rfl, rfl, f1, ⟨u, rfl, u0, uM⟩, b2, hb2, rfl⟩) (by simp; omega)
  subst e8
  obtain ⟨ls, rfl⟩ : ∃ ls : List Int, ys = ls.map .int := by
    clear e5 e6
    induction ys with
    | nil => exact ⟨[], rfl⟩
    | cons y ys ih =>
      obtain ⟨i, rfl, _⟩ := e7 y List.mem_cons_self
      obtain ⟨ls, rfl⟩ := ih fun z hz => e7 z (List.mem_cons_of_mem _ hz)
      exact ⟨i :: ls, rfl⟩
  rw [List.length_map, List.length_map, List.length_range] at e6
  refine ⟨bx', ls, fun l hl => ?_, by omega, ?_⟩
  · obtain ⟨i, e, h1, h2⟩ := e7 (.int l) (List.mem_map_of_mem hl)
    cases e
    by_cases z : N = 0
    · have := hK0 z
      have : ls = [] := List.eq_nil_of_length_eq_zero (by omega)
      subst this
      cases hl
    · have := hMN z
      omega
  · exact mAsg_o (P := 0) (i := 7) (mLc_ok e4 e5)
end K01
namespace K01
open PySem L2 Z
theorem s10_ok (N B : Nat) (s0 s1 s4 s6 : Option Z.S) (ls : List Int) : m_law_s10 (E4 s0 s1 N B s4 none s6 (some (.o (ls.map .int))) none none none) = .nx (E4 s0 s1 N B s4 none s6 (some (.o (ls.map .int))) none (some (.o (ls.map .int))) none) := by
  unfold m_law_s10 E4
  walk_at "ev"
theorem s11_ok (N B : Nat) (s0 s1 s4 s6 s7 s9 : Option Z.S) : m_law_s11 (E4 s0 s1 N B s4 none s6 s7 none s9 none) = .nx (E4 s0 s1 N B s4 none s6 s7 none s9 (some (.d (.int 0)))) := by
  unfold m_law_s11 E4
  walk_at "ev"
def Tot (xs : List Int) : Nat → Int
  | 0 => 0
  | a + 1 => Tot xs a + (if (a : Int) ∈ xs then ((2 ^ a : Nat) : Int) else 0)
theorem tot_msk (xs : List Int) : Tot xs 5 = Msk xs := by
  have f : ∀ a : Int, (if a ∈ xs then (1 : Int) else 0) = if decide (a ∈ xs) = true then 1 else 0 := fun a => by by_cases h : a ∈ xs <;> simp [h]
  unfold Msk val
  simp only [Tot, decide_eq_true_eq]
  rw [Int.zero_add]
  rfl
theorem tot_from (xs : List Int) (N : Nat) (h : ∀ l ∈ xs, l < N) : ∀ k : Nat, Tot xs (N + k) = Tot xs N
  | 0 => rfl
  | k + 1 => by
    show Tot xs (N + k) + (if ((N + k : Nat) : Int) ∈ xs then _ else 0) = _
    rw [if_neg (fun z => by have := h _ z; omega), tot_from xs N h k]
    omega
theorem tot_all (xs : List Int) (N : Nat) (hN : N < 6) (h : ∀ l ∈ xs, l < N) : Tot xs N = Msk xs := by
  rw [← tot_msk]
  have := tot_from xs N h (5 - N)
  rw [show N + (5 - N) = 5 by omega] at this
  exact this.symm
theorem s12_loop (N B : Nat) (s0 s1 s4 s6 s8 s9 : Option Z.S) (ls : List Int) : ∀ (k a : Nat) (x5 : Option Z.S), a + k < 6 → ∃ y5, forL (bName 5) (mIfS (mTest (mBin gIn (mVar 5) (mVar 7))) (mAsg 0 10 (mBin gAdd (mVar 10) (mBin gIx (mLst 0 (mCons (mC (.int 1)) (mCons (mC (.int 2)) (mCons (mC (.int 4)) (mCons (mC (.int 8)) (mCons (mC (.int 16)) mNil)))))) (mVar 5)))) mNext)
    ((List.range' a k).map fun (k : Nat) => PyData.int (k : Int)) (E4 s0 s1 N B s4 x5 s6 (some (.o (ls.map .int))) s8 s9 (some (.d (.int (Tot ls a))))) = .nx (E4 s0 s1 N B s4 y5 s6 (some (.o (ls.map .int))) s8 s9 (some (.d (.int (Tot ls (a + k))))))
  | 0, a, x5, _ => ⟨x5, rfl⟩
  | k + 1, a, x5, h => by
    obtain ⟨y5, e⟩ := s12_loop N B s0 s1 s4 s6 s8 s9 ls k (a + 1) (some (.d (.int a))) (by omega)
    refine ⟨y5, ?_⟩
    have hp := pow5 a (by omega)
    have st : mIfS (mTest (mBin gIn (mVar 5) (mVar 7))) (mAsg 0 10 (mBin gAdd (mVar 10) (mBin gIx (mLst 0 (mCons (mC (.int 1)) (mCons (mC (.int 2)) (mCons (mC (.int 4)) (mCons (mC (.int 8)) (mCons (mC (.int 16)) mNil)))))) (mVar 5)))) mNext (E4 s0 s1 N B s4 (some (.d (.int a))) s6 (some (.o (ls.map .int))) s8 s9 (some (.d (.int (Tot ls a)))))
        = .nx (E4 s0 s1 N B s4 (some (.d (.int a))) s6 (some (.o (ls.map .int))) s8 s9 (some (.d (.int (Tot ls (a + 1)))))) := by
      have v5 : mVar 5 (E4 s0 s1 N B s4 (some (.d (.int a))) s6 (some (.o (ls.map .int))) s8 s9 (some (.d (.int (Tot ls a))))) = .ok (.d (.int a)) (E4 s0 s1 N B s4 (some (.d (.int a))) s6 (some (.o (ls.map .int))) s8 s9 (some (.d (.int (Tot ls a))))) := rfl
      have v7 : mVar 7 (E4 s0 s1 N B s4 (some (.d (.int a))) s6 (some (.o (ls.map .int))) s8 s9 (some (.d (.int (Tot ls a))))) = .ok (.b 7) (E4 s0 s1 N B s4 (some (.d (.int a))) s6 (some (.o (ls.map .int))) s8 s9 (some (.d (.int (Tot ls a))))) := rfl
      have t := mTest_ok (mBin_ok v5 v7 rfl rfl (gIn_ints (a : Int) ls))
      by_cases q : (a : Int) ∈ ls
      · rw [decide_eq_true q] at t
        have et : Tot ls (a + 1) = Tot ls a + ((2 ^ a : Nat) : Int) := by
          show Tot ls a + (if (a : Int) ∈ ls then _ else 0) = _
          rw [if_pos q]
        rw [mIfS_t t, et]
        clear t v5 v7 e
        walk_at "ev"
      · rw [decide_eq_false q] at t
        have et : Tot ls (a + 1) = Tot ls a := by
          show Tot ls a + (if (a : Int) ∈ ls then _ else 0) = _
          rw [if_neg q]
          omega
        rw [mIfS_f t, et]
        rfl
    rw [List.range'_succ, List.map_cons]
    simp only [forL]
    have hb : bName 5 (PyData.int (a : Int)) (E4 s0 s1 N B s4 x5 s6 (some (.o (ls.map .int))) s8 s9 (some (.d (.int (Tot ls a))))) = some (E4 s0 s1 N B s4 (some (.d (.int a))) s6 (some (.o (ls.map .int))) s8 s9 (some (.d (.int (Tot ls a))))) := rfl
    rw [hb]
    simp only [st]
    rw [e, show a + 1 + k = a + (k + 1) by omega]
theorem s12_ok (N B : Nat) (hN : N < 6) (s0 s1 s4 s6 s9 : Option Z.S) (ls : List Int) : ∃ y5, m_law_s12 (E4 s0 s1 N B s4 none s6 (some (.o (ls.map .int))) none s9 (some (.d (.int 0)))) = .nx (E4 s0 s1 N B s4 y5 s6 (some (.o (ls.map .int))) none s9 (some (.d (.int (Tot ls N))))) := by
  obtain ⟨y5, e⟩ := s12_loop N B s0 s1 s4 s6 none s9 ls N 0 none (by omega)
  rw [← List.range_eq_range', Nat.zero_add] at e
  have r := mRng1_ok (ma := mCons (mVar 2) mNil) (ρ := E4 s0 s1 N B s4 none s6 (some (.o (ls.map .int))) none s9 (some (.d (.int 0)))) (ρ1 := E4 s0 s1 N B s4 none s6 (some (.o (ls.map .int))) none s9 (some (.d (.int 0)))) N (by walk_at "ev") (by omega)
  exact ⟨y5, (mFor_ok r).trans e⟩
/-! ### the end -/
theorem val_bits : ∀ b0 b1 b2 b3 b4 : Bool, (0 ≤ val b0 b1 b2 b3 b4 ∧ val b0 b1 b2 b3 b4 < 32) ∧ ((val b0 b1 b2 b3 b4).toNat / 2 ^ 0 % 2 == 1) = b0 ∧ ((val b0 b1 b2 b3 b4).toNat / 2 ^ 1 % 2 == 1) = b1 ∧ ((val b0 b1 b2 b3 b4).toNat / 2 ^ 2 % 2 == 1) = b2 ∧
    ((val b0 b1 b2 b3 b4).toNat / 2 ^ 3 % 2 == 1) = b3 ∧ ((val b0 b1 b2 b3 b4).toNat / 2 ^ 4 % 2 == 1) = b4 := by decide +kernel
theorem msk_bit (ls : List Int) (a : Nat) (h : a < 5) : ((Msk ls).toNat / 2 ^ a % 2 == 1) = decide ((a : Int) ∈ ls) := by
  obtain ⟨_, h0, h1, h2, h3, h4⟩ := val_bits (decide (0 ∈ ls)) (decide (1 ∈ ls)) (decide (2 ∈ ls)) (decide (3 ∈ ls)) (decide (4 ∈ ls))
  rcases a with _ | _ | _ | _ | _ | a
  · exact h0
  · exact h1
  · exact h2
  · exact h3
  · exact h4
  · omega
theorem mem_sset (ls : List Int) (N : Nat) (hN : N < 6) (h : ∀ l ∈ ls, 0 ≤ l ∧ l < N) : Mem N (Msk ls).toNat = sset ls := by
  refine up_one _ _ ?_ (sset_up ls) fun k => ?_
  · unfold Mem
    rw [List.pairwise_map]
    exact (List.pairwise_lt_range.filter _).imp fun h => by omega
  · rw [sset_mem]
    unfold Mem
    rw [List.mem_map]
    constructor
    · rintro ⟨a, ha, rfl⟩
      rw [List.mem_filter, List.mem_range] at ha
      have := ha.2
      rw [msk_bit ls a (by omega)] at this
      exact of_decide_eq_true this
    · intro hk
      obtain ⟨h1, h2⟩ := h k hk
      refine ⟨k.toNat, ?_, by omega⟩
      rw [List.mem_filter, List.mem_range, msk_bit ls k.toNat (by omega)]
      refine ⟨by omega, decide_eq_true ?_⟩
      rw [show ((k.toNat : Nat) : Int) = k by omega]
      exact hk
theorem s13_ok (N B : Nat) (hN : N < 6) (s0 s1 s4 y5 s6 : Option Z.S) (ls : List Int) (h : ∀ l ∈ ls, (0 : Int) ≤ l ∧ l < N) (hl : ls.length < 8) : ∃ ρ', m_law_s13 (E4 s0 s1 N B s4 y5 s6 (some (.o (ls.map .int))) none (some (.o (ls.map .int))) (some (.d (.int (Tot ls N))))) = .rt (.d (.bool true)) ρ' := by
  have ht := tot_all ls N hN fun l hl => (h l hl).2
  obtain ⟨⟨v0, v32⟩, _⟩ := val_bits (decide (0 ∈ ls)) (decide (1 ∈ ls)) (decide (2 ∈ ls)) (decide (3 ∈ ls)) (decide (4 ∈ ls))
  have v0 : 0 ≤ Msk ls := v0
  have v32 : Msk ls < 32 := v32
  have hB : Msk ls = ((Msk ls).toNat : Int) := by omega
  obtain ⟨r1, e1⟩ := bits_ok ls fun l hl => by have := h l hl; omega
  obtain ⟨r2, e2⟩ := members_ok N (Msk ls).toNat hN (by omega)
  rw [mem_sset ls N hN h] at e2
  generalize hE : E4 s0 s1 N B s4 y5 s6 (some (.o (ls.map .int))) none (some (.o (ls.map .int))) (some (.d (.int (Tot ls N)))) = ρ
  have v7 : mVar 7 ρ = .ok (.b 7) ρ := by rw [← hE]; rfl
  have v9 : mVar 9 ρ = .ok (.b 9) ρ := by rw [← hE]; rfl
  have v2 : mVar 2 ρ = .ok (.d (.int N)) ρ := by rw [← hE]; rfl
  have v10 : mVar 10 ρ = .ok (.d (.int (Tot ls N))) ρ := by rw [← hE]; rfl
  have o7 : opd ρ (.b 7) = some (.list (ls.map .int)) := by rw [← hE]; rfl
  have o9 : opd ρ (.b 9) = some (.list (ls.map .int)) := by rw [← hE]; rfl
  have f7 : frzA 0 [.b 7] ρ = some (ρ.set 7 (some (.d (.list (ls.map .int))))) := by rw [← hE]; rfl
  have d7 : dopds (ρ.set 7 (some (.d (.list (ls.map .int))))) [.b 7] = some [.list (ls.map .int)] := by rw [← hE]; rfl
  have cb := mCall0_f (ex := false) (P := 0) (k := 1) (n := 3) (mb := m_bits_of) (mCons_ok v7 (ms := mNil) rfl) f7 d7 rfl e1 rfl
  have t1 := mBin_ok cb v10 rfl rfl (gEq_int (Msk ls) (Tot ls N))
  have t2 := mBin_ok v7 v9 o7 o9 (gEq_ints ls ls)
  have e2' : m_members (env0 3 (([.int (N : Int), .int (Msk ls)] : List Z.D).map Z.S.d)) = .rt (.o ((sset ls).map .int)) r2 := by
    rw [hB]
    exact e2
  have cm := mCall0_o (ex := false) (P := 0) (k := 2) (n := 3) (mb := m_members) (mCons_ok v2 (mCons_ok cb (ms := mNil) rfl)) rfl rfl rfl e2'
  have cs := mSortSet_ok v7 o7 (by omega)
  have t3 := mBin_ok cm cs rfl rfl (gEq_ints (sset ls) (sset ls))
  rw [ht, decide_eq_true rfl] at t1
  rw [decide_eq_true rfl] at t2 t3
  exact ⟨ρ, mRet_d (mAndV_t t1 (mAndV_t t2 t3))⟩
theorem law_true : ∀ ns : List Int, ns.length ≤ 63 → ∃ ρ', m_law (env0 11 [.d (.list (ns.map .int))]) = .rt (.d (.bool true)) ρ' := by
  intro ns h
  obtain ⟨r, e1⟩ := box_ok ns h
  have b0 : Box (BoxL 0 0 0 (ns.map absI)) := ⟨0, 0, 0, _, rfl, fun x hx => by
    obtain ⟨i, _, rfl⟩ := List.mem_map.mp hx
    exact absI0 i, by omega, by omega, fun z => by omega, by omega, by omega⟩
  generalize BoxL 0 0 0 (ns.map absI) = bx at e1 b0
  have a1 : mCons (mVar 0) mNil (env0 11 [.d (.list (ns.map .int))]) = .ok [.d (.list (ns.map .int))] (env0 11 [.d (.list (ns.map .int))]) := rfl
  have c1 := mCall0_o (ex := false) (P := 0) (k := 1) (n := 2) (mb := m__law_box) (ds := [.list (ns.map .int)]) a1 rfl rfl rfl e1
  have q1 : m_law_s1 (env0 11 [.d (.list (ns.map .int))]) = .nx [some (.d (.list (ns.map .int))), some (.o bx), none, none, none, none, none, none, none, none, none] := mAsg_o (P := 0) (i := 1) c1
  obtain ⟨n, b1, f2, hb1, n0, n6⟩ := take_call 0 1 (mCons (mVar 1) (mCons (mC (.int 6)) mNil)) [some (.d (.list (ns.map .int))), some (.o bx), none, none, none, none, none, none, none, none, none] bx 6 (by walk_at "ev") rfl b0 (by decide) (by decide)
  have q2 : m_law_s2 [some (.d (.list (ns.map .int))), some (.o bx), none, none, none, none, none, none, none, none, none] = .nx [some (.d (.list (ns.map .int))), some (.o b1), some (.d (.int n)), none, none, none, none, none, none, none, none] := mAsg_d f2
  obtain ⟨N, rfl⟩ : ∃ N : Nat, n = N := ⟨n.toNat, by omega⟩
  have hN : N < 6 := by omega
  obtain ⟨p1, p2⟩ := pow_lt N hN
  have hp := pow6 N hN
  obtain ⟨b, b2, f3, hb2, g0, g1⟩ := take_call 0 1 (mCons (mVar 1) (mCons (mBin gIx (mLst 0 (mCons (mC (.int 1)) (mCons (mC (.int 2)) (mCons (mC (.int 4)) (mCons (mC (.int 8)) (mCons (mC (.int 16)) (mCons (mC (.int 32)) mNil))))))) (mVar 2)) mNil)) [some (.d (.list (ns.map .int))), some (.o b1), some (.d (.int N)), none, none, none, none, none, none, none, none] b1 ((2 ^ N : Nat) : Int) (by walk_at "ev") rfl hb1 p1 p2
  obtain ⟨B, rfl⟩ : ∃ B : Nat, b = B := ⟨b.toNat, by omega⟩
  have hB : B < 2 ^ N := by omega
  have q3 : m_law_s3 [some (.d (.list (ns.map .int))), some (.o b1), some (.d (.int N)), none, none, none, none, none, none, none, none] = .nx (E4 (some (.d (.list (ns.map .int)))) (some (.o b2)) N B none none none none none none none) := mAsg_d f3
  have hm : (Mem N B).length < 6 := by
    unfold Mem
    rw [List.length_map]
    exact Nat.lt_of_le_of_lt (List.length_filter_le _ _) (by rw [List.length_range]; exact hN)
  obtain ⟨b3, ls, hls, hl8, q9⟩ := s9_ok N B hN (some (.d (.list (ns.map .int)))) (some (.o ((Mem N B).map .int))) (some (.o ((Mem N B).map .int ++ [.int 9]))) b2 hb2
  obtain ⟨y5, q12⟩ := s12_ok N B hN (some (.d (.list (ns.map .int)))) (some (.o b3)) (some (.o ((Mem N B).map .int))) (some (.o ((Mem N B).map .int ++ [.int 9]))) (some (.o (ls.map .int))) ls
  obtain ⟨ρ', q13⟩ := s13_ok N B hN (some (.d (.list (ns.map .int)))) (some (.o b3)) (some (.o ((Mem N B).map .int))) y5 (some (.o ((Mem N B).map .int ++ [.int 9]))) ls hls hl8
  refine ⟨ρ', ?_⟩
  unfold m_law
  rw [seq_nx q1, seq_nx q2, seq_nx q3, seq_nx (due_ok N B hN _ _), seq_nx (told_ok N B hN hB _ _ _), seq_nx (s6_ok N B _ _ _ (by omega)), seq_nx (s7_ok N B _ _ _ _ (by omega)), seq_nx (s8_ok N B hN hB _ _ _), seq_nx q9, seq_nx (s10_ok ..), seq_nx (s11_ok ..), seq_nx q12, q13]
end K01
namespace K01
open PySem L2 Z
def top (i : Nat) : Stmt := PySem.Challenge.pw_spandrel_k01_sets_of_letters.main.body.getD i (.Pass ⟨0, 0, 0, 0⟩)
abbrev s__law_box : Stmt := top 4
abbrev s__law_take : Stmt := top 5
abbrev s_members : Stmt := top 1
abbrev s__law_is_number : Stmt := top 7
abbrev s_bits_of : Stmt := top 2
abbrev s_law : Stmt := top 8
theorem sc__law_box : FnScope ["script", "x"] ["script"] (defScope s__law_box) := ⟨rfl, rfl, rfl, by decide +kernel, rfl, by decide +kernel, by decide +kernel⟩
theorem sc__law_take : FnScope ["box", "m", "at", "cell", "told"] ["box", "m"] (defScope s__law_take) := ⟨rfl, rfl, rfl, by decide +kernel, rfl, by decide +kernel, by decide +kernel⟩
theorem sc_members : FnScope ["n", "bits", "letter"] ["n", "bits"] (defScope s_members) := ⟨rfl, rfl, rfl, by decide +kernel, rfl, by decide +kernel, by decide +kernel⟩
theorem sc__law_is_number : FnScope ["x"] ["x"] (defScope s__law_is_number) := ⟨rfl, rfl, rfl, by decide +kernel, rfl, by decide +kernel, by decide +kernel⟩
theorem sc_bits_of : FnScope ["letters", "bits", "letter"] ["letters"] (defScope s_bits_of) := ⟨rfl, rfl, rfl, by decide +kernel, rfl, by decide +kernel, by decide +kernel⟩
theorem sc_law : FnScope ["script", "box", "n", "bits", "due", "a", "told", "letters", "k", "kept", "total"] ["script"] (defScope s_law) := ⟨rfl, rfl, rfl, by decide +kernel, rfl, by decide +kernel, by decide +kernel⟩
structure Tx (K : PySem.W.Frag) (mg : Str → Option Value) where
  a__law_box : Addr
  fd__law_box : FuncData
  F__law_box : Fun K "_law_box" "_law_box" s__law_box a__law_box fd__law_box
  mg__law_box : mg "_law_box" = some (.ref a__law_box)
  b__law_box : Binds K fd__law_box ["script"] []
  a__law_take : Addr
  fd__law_take : FuncData
  F__law_take : Fun K "_law_take" "_law_take" s__law_take a__law_take fd__law_take
  mg__law_take : mg "_law_take" = some (.ref a__law_take)
  b__law_take : Binds K fd__law_take ["box", "m"] []
  a_members : Addr
  fd_members : FuncData
  F_members : Fun K "members" "members" s_members a_members fd_members
  mg_members : mg "members" = some (.ref a_members)
  b_members : Binds K fd_members ["n", "bits"] []
  a__law_is_number : Addr
  fd__law_is_number : FuncData
  F__law_is_number : Fun K "_law_is_number" "_law_is_number" s__law_is_number a__law_is_number fd__law_is_number
  mg__law_is_number : mg "_law_is_number" = some (.ref a__law_is_number)
  b__law_is_number : Binds K fd__law_is_number ["x"] []
  a_bits_of : Addr
  fd_bits_of : FuncData
  F_bits_of : Fun K "bits_of" "bits_of" s_bits_of a_bits_of fd_bits_of
  mg_bits_of : mg "bits_of" = some (.ref a_bits_of)
  b_bits_of : Binds K fd_bits_of ["letters"] []
  a_law : Addr
  fd_law : FuncData
  F_law : Fun K "law" "law" s_law a_law fd_law
  mg_law : mg "law" = some (.ref a_law)
  b_law : Binds K fd_law ["script"] []
  z_abs : mg "abs" = none
  z_bool : mg "bool" = none
  z_int : mg "int" = none
  z_isinstance : mg "isinstance" = none
  z_len : mg "len" = none
  z_list : mg "list" = none
  z_max : mg "max" = none
  z_min : mg "min" = none
  z_range : mg "range" = none
  z_set : mg "set" = none
  z_sorted : mg "sorted" = none
section
variable {P : Program} {w : World} {K : PySem.W.Frag} {mg : Str → Option Value} {base : Heap}
set_option maxHeartbeats 4000000 in
theorem ok__law_box (T : Tx K mg) : FnOk P w K mg base CX0 1 T.a__law_box T.fd__law_box ["script"] (spM K 0 1 2 W0 m__law_box) := by
  refine ok0 T.F__law_box sc__law_box rfl rfl fun cdv A outer s H E hr => ⟨_,
    (pss_one (ps_ret (pe_lst (pa_cons pe_int (pa_cons pe_int (pa_cons pe_int (pa_cons (pe_lc (own := [("x", 1)]) rfl sc__law_box.nd (zseq K (pv 0)) (blkOk_by (N := ["script", "x"]) (sc := defScope s__law_box) (by decide +kernel)) (fun _ _ _ _ _ => (pg_name (i := 1) sc__law_box.nd rfl (by first | exact Or.inl rfl | exact Or.inr rfl))) (fun _ _ _ _ _ => pts_nil) (fun _ _ _ _ _ => (pe_callB call_abs (by rfl) T.z_abs (by decide +kernel) (pa_cons (pe_callTy call_int1 (by rfl) T.z_int (by decide +kernel) (pa_cons (pv 1) pa_nil)) pa_nil)))) pa_nil))))))),
    ?_⟩
  exact (sim_ret (sim_lst (sim_cons (sim_c (.int _)) (sim_cons (sim_c (.int _)) (sim_cons (sim_c (.int _)) (sim_cons (sim_lcH (simg_name (by decide)) sim_yes (sim_cb s_abs (sim_cons (sim_cb s_int (sim_cons sim_var sim_nil)) sim_nil)) (by decide) (by decide) (by decide)) sim_nil))))))
set_option maxHeartbeats 4000000 in
theorem ok__law_take (T : Tx K mg) : FnOk P w K mg base CX0 1 T.a__law_take T.fd__law_take ["box", "m"] (spM K 1 2 5 W0 m__law_take) := by
  refine ok0 T.F__law_take sc__law_take rfl rfl fun cdv A outer s H E hr => ⟨_,
    (pss_cons (ps_if (pt_cmpR (zeq K (hu64 hr)) (pe_ix (zix K) (pv 0) pe_int (fun _ _ => rfl)) pe_int (nomark _)) (pss_cons (ps_set (i := 2) sc__law_take.nd rfl (by first | exact Or.inl rfl | exact Or.inr rfl) (pe_ix (zix K) (pv 0) pe_int (fun _ _ => rfl)))
      (pss_cons (ps_set (i := 3) sc__law_take.nd rfl (by first | exact Or.inl rfl | exact Or.inr rfl) pe_int)
      (pss_cons (ps_if (pt_cmpR op_lt (pv 2) (pe_callB (zlen K) (by rfl) T.z_len (by decide +kernel) (pa_cons (pe_ix (zix K) (pv 0) pe_int (fun _ _ => rfl)) pa_nil)) (nomark _)) (pss_cons (ps_set (i := 3) sc__law_take.nd rfl (by first | exact Or.inl rfl | exact Or.inr rfl) (pe_ix (zix K) (pe_ix (zix K) (pv 0) pe_int (fun _ _ => rfl)) (pv 2) (fun _ _ => rfl)))
      (pss_one (ps_asg (pe_ifExp (pt_cmpR op_ge (pv 3) (pe_op op_pow pe_int pe_int) (nomark _)) pe_int (pe_un un_neg pe_int)) (pg_sub (pv 0) pe_int set_list)))) pss_nil)
      (pss_cons (ps_asg (pe_op op_add (pv 2) pe_int) (pg_sub (pv 0) pe_int set_list))
      (pss_cons (ps_asg (pv 3) (pg_sub (pv 0) pe_int set_list))
      (pss_one (ps_if (pt_cmpR (zeq K (hu64 hr)) (pe_ix (zix K) (pv 0) pe_int (fun _ _ => rfl)) pe_int (nomark _)) (pss_one (ps_ret pe_int)) pss_nil))))))) pss_nil)
      (pss_cons (ps_if (pt_cmpR op_gt (pe_ix (zix K) (pv 0) pe_int (fun _ _ => rfl)) pe_int (nomark _)) (pss_cons (ps_set (i := 4) sc__law_take.nd rfl (by first | exact Or.inl rfl | exact Or.inr rfl) (pe_op op_mod (pe_callTy call_int1 (by rfl) T.z_int (by decide +kernel) (pa_cons (pe_ix (zix K) (pv 0) pe_int (fun _ _ => rfl)) pa_nil)) (pv 1)))
      (pss_cons (ps_asg (pe_op op_fdiv (pe_ix (zix K) (pv 0) pe_int (fun _ _ => rfl)) (pv 1)) (pg_sub (pv 0) pe_int set_list))
      (pss_cons (ps_asg (pe_ifExp (pt_cmpR op_gt (pe_ix (zix K) (pv 0) pe_int (fun _ _ => rfl)) pe_int (nomark _)) (pe_op op_sub (pe_ix (zix K) (pv 0) pe_int (fun _ _ => rfl)) pe_int) pe_int) (pg_sub (pv 0) pe_int set_list))
      (pss_one (ps_ret (pv 4)))))) pss_nil)
      (pss_cons (ps_asg (pe_op op_add (pe_ix (zix K) (pv 0) pe_int (fun _ _ => rfl)) pe_int) (pg_sub (pv 0) pe_int set_list))
      (pss_cons (ps_asg (pe_op op_mod (pe_callTy call_int1 (by rfl) T.z_int (by decide +kernel) (pa_cons (pe_op op_add (pe_op op_mul (pe_ix (zix K) (pv 0) pe_int (fun _ _ => rfl)) pe_int) (pe_op op_mul pe_int (pe_op op_add (pe_ix (zix K) (pv 0) pe_int (fun _ _ => rfl)) pe_int))) pa_nil)) pe_int) (pg_sub (pv 0) pe_int set_list))
      (pss_one (ps_ret (pe_op op_mod (pe_op op_mod (pe_callTy call_int1 (by rfl) T.z_int (by decide +kernel) (pa_cons (pe_op op_add (pe_op op_fdiv (pe_ix (zix K) (pv 0) pe_int (fun _ _ => rfl)) pe_int) (pe_ix (zix K) (pv 0) pe_int (fun _ _ => rfl))) pa_nil)) pe_int) (pv 1)))))))),
    ?_⟩
  exact (sim_seq (sim_ifS (sim_test (sim_op s_eq (sim_op s_ix sim_var (sim_c (.int _))) (sim_c (.int _)))) (sim_seq (sim_asg (sim_op s_ix sim_var (sim_c (.int _))) (by decide))
      (sim_seq (sim_asg (sim_c (.int _)) (by decide))
      (sim_seq (sim_ifS (sim_test (sim_op s_lt sim_var (sim_cb s_len (sim_cons (sim_op s_ix sim_var (sim_c (.int _))) sim_nil)))) (sim_seq (sim_asg (sim_op s_ix (sim_op s_ix sim_var (sim_c (.int _))) sim_var) (by decide))
      (sim_setI (sim_if (sim_test (sim_op s_ge sim_var (sim_op s_pow (sim_c (.int _)) (sim_c (.int _))))) (sim_c (.int _)) (sim_un s_neg (sim_c (.int _)))) (sim_c (.int _)))) sim_next)
      (sim_seq (sim_setI (sim_op s_add sim_var (sim_c (.int _))) (sim_c (.int _)))
      (sim_seq (sim_setI sim_var (sim_c (.int _)))
      (sim_ifS (sim_test (sim_op s_eq (sim_op s_ix sim_var (sim_c (.int _))) (sim_c (.int _)))) (sim_ret (sim_c (.int _))) sim_next)))))) sim_next)
      (sim_seq (sim_ifS (sim_test (sim_op s_gt (sim_op s_ix sim_var (sim_c (.int _))) (sim_c (.int _)))) (sim_seq (sim_asg (sim_op s_mod (sim_cb s_int (sim_cons (sim_op s_ix sim_var (sim_c (.int _))) sim_nil)) sim_var) (by decide))
      (sim_seq (sim_setI (sim_op s_div (sim_op s_ix sim_var (sim_c (.int _))) sim_var) (sim_c (.int _)))
      (sim_seq (sim_setI (sim_if (sim_test (sim_op s_gt (sim_op s_ix sim_var (sim_c (.int _))) (sim_c (.int _)))) (sim_op s_sub (sim_op s_ix sim_var (sim_c (.int _))) (sim_c (.int _))) (sim_c (.int _))) (sim_c (.int _)))
      (sim_ret sim_var)))) sim_next)
      (sim_seq (sim_setI (sim_op s_add (sim_op s_ix sim_var (sim_c (.int _))) (sim_c (.int _))) (sim_c (.int _)))
      (sim_seq (sim_setI (sim_op s_mod (sim_cb s_int (sim_cons (sim_op s_add (sim_op s_mul (sim_op s_ix sim_var (sim_c (.int _))) (sim_c (.int _))) (sim_op s_mul (sim_c (.int _)) (sim_op s_add (sim_op s_ix sim_var (sim_c (.int _))) (sim_c (.int _))))) sim_nil)) (sim_c (.int _))) (sim_c (.int _)))
      (sim_ret (sim_op s_mod (sim_op s_mod (sim_cb s_int (sim_cons (sim_op s_add (sim_op s_div (sim_op s_ix sim_var (sim_c (.int _))) (sim_c (.int _))) (sim_op s_ix sim_var (sim_c (.int _)))) sim_nil)) (sim_c (.int _))) sim_var))))))
set_option maxHeartbeats 4000000 in
theorem ok_members (T : Tx K mg) : FnOk P w K mg base CX0 1 T.a_members T.fd_members ["n", "bits"] (spM K 0 2 3 W0 m_members) := by
  refine ok0 T.F_members sc_members rfl rfl fun cdv A outer s H E hr => ⟨_,
    (pss_one (ps_ret (pe_lc (own := [("letter", 2)]) rfl sc_members.nd (pi_range1 (by rfl) T.z_range (pa_cons (pv 0) pa_nil)) (blkOk_by (N := ["n", "bits", "letter"]) (sc := defScope s_members) (by decide +kernel)) (fun _ _ _ _ _ => (pg_name (i := 2) sc_members.nd rfl (by first | exact Or.inl rfl | exact Or.inr rfl))) (fun _ _ _ _ _ => (pts_one (zpt_tru K (pe_op op_and (pe_op op_shr (pv 1) (pv 2)) pe_int)))) (fun _ _ _ _ _ => (pv 2))))),
    ?_⟩
  exact (sim_ret (sim_lc (sim_rng1 (sim_cons sim_var sim_nil)) (simg_name (by decide)) (sim_tru (sim_op s_and (sim_op s_shr sim_var sim_var) (sim_c (.int _)))) sim_var (by decide) (by decide)))
set_option maxHeartbeats 4000000 in
theorem ok__law_is_number (T : Tx K mg) : FnOk P w K mg base CX0 1 T.a__law_is_number T.fd__law_is_number ["x"] (spM K 0 1 1 W0 m__law_is_number) := by
  refine ok0 T.F__law_is_number sc__law_is_number rfl rfl fun cdv A outer s H E hr => ⟨_,
    (pss_one (ps_ret (pe_and (pe_callB (zisi K) (by rfl) T.z_isinstance (by decide +kernel) (pa_cons (pv 0) (pa_cons (pe_bltn (v := .ty "int") (by rfl) T.z_int (by decide +kernel) rfl) pa_nil))) (pe_one (pe_not (pe_callB (zisi K) (by rfl) T.z_isinstance (by decide +kernel) (pa_cons (pv 0) (pa_cons (pe_bltn (v := .ty "bool") (by rfl) T.z_bool (by decide +kernel) rfl) pa_nil)))))))),
    ?_⟩
  exact (sim_ret (sim_andV (sim_isi sim_var) (sim_notV (sim_isi sim_var))))
set_option maxHeartbeats 4000000 in
theorem ok_bits_of (T : Tx K mg) : FnOk P w K mg base CX0 1 T.a_bits_of T.fd_bits_of ["letters"] (spM K 0 1 3 W0 m_bits_of) := by
  refine ok0 T.F_bits_of sc_bits_of rfl rfl fun cdv A outer s H E hr => ⟨_,
    (pss_cons (ps_set (i := 1) sc_bits_of.nd rfl (by first | exact Or.inl rfl | exact Or.inr rfl) pe_int)
      (pss_cons (ps_for PassesOwn.never rfl (zseq K (pv 0)) (pg_name (i := 2) sc_bits_of.nd rfl (by first | exact Or.inl rfl | exact Or.inr rfl)) (pss_one (ps_aug (i := 1) sc_bits_of.nd rfl (by first | exact Or.inl rfl | exact Or.inr rfl) (pe_op op_shl pe_int (pv 2)) zip_or)))
      (pss_one (ps_ret (pv 1))))),
    ?_⟩
  exact (sim_seq (sim_asg (sim_c (.int _)) (by decide))
      (sim_seq (sim_for (sim_iter sim_var) (simg_name (by decide)) (sim_aug s_ipI (sim_op s_shl (sim_c (.int _)) sim_var) (by decide)))
      (sim_ret sim_var)))
set_option maxHeartbeats 4000000 in
theorem ok_law (T : Tx K mg) : FnOk P w K mg base CX0 2 T.a_law T.fd_law ["script"] (spM K 0 1 11 W0 m_law) := by
  refine ok0 T.F_law sc_law rfl rfl fun cdv A outer s H E hr => ⟨_,
    (pss_cons (ps_set (i := 1) sc_law.nd rfl (by first | exact Or.inl rfl | exact Or.inr rfl) (pe_call (ok__law_box T) (hr.mono (by decide)) rfl T.mg__law_box T.F__law_box.kp T.b__law_box .nil pass0 (pa_cons (pv 0) pa_nil)))
      (pss_cons (ps_set (i := 2) sc_law.nd rfl (by first | exact Or.inl rfl | exact Or.inr rfl) (pe_call (ok__law_take T) (hr.mono (by decide)) rfl T.mg__law_take T.F__law_take.kp T.b__law_take .nil pass0 (pa_cons (pv 1) (pa_cons pe_int pa_nil))))
      (pss_cons (ps_set (i := 3) sc_law.nd rfl (by first | exact Or.inl rfl | exact Or.inr rfl) (pe_call (ok__law_take T) (hr.mono (by decide)) rfl T.mg__law_take T.F__law_take.kp T.b__law_take .nil pass0 (pa_cons (pv 1) (pa_cons (pe_ix (zix K) (pe_lst (pa_cons pe_int (pa_cons pe_int (pa_cons pe_int (pa_cons pe_int (pa_cons pe_int (pa_cons pe_int pa_nil))))))) (pv 2) (fun _ _ => rfl)) pa_nil))))
      (pss_cons (ps_setLc (i := 4) (own := [("a", 5)]) rfl sc_law.nd rfl rfl (sw_true rfl rfl rfl (by decide +kernel)) (pi_range1 (by rfl) T.z_range (pa_cons (pv 2) pa_nil)) (blkOk_by (N := ["script", "box", "n", "bits", "due", "a", "told", "letters", "k", "kept", "total"]) (sc := defScope s_law) (by decide +kernel)) (fun _ _ _ _ _ => (pg_name (i := 5) sc_law.nd rfl (by first | exact Or.inl rfl | exact Or.inr rfl))) (fun _ _ _ _ _ => (pts_one (pt_cmpR (zeq K (hu64 hr)) (pe_op op_mod (pe_op op_fdiv (pe_callTy call_int1 (by rfl) T.z_int (by decide +kernel) (pa_cons (pv 3) pa_nil)) (pe_ix (zix K) (pe_lst (pa_cons pe_int (pa_cons pe_int (pa_cons pe_int (pa_cons pe_int (pa_cons pe_int pa_nil)))))) (pv 5) (fun _ _ => rfl))) pe_int) pe_int (nomark _)))) (fun _ _ _ _ _ => (pv 5)))
      (pss_cons (ps_set (i := 6) sc_law.nd rfl (by first | exact Or.inl rfl | exact Or.inr rfl) (pe_call (ok_members T) (hr.mono (by decide)) rfl T.mg_members T.F_members.kp T.b_members .nil pass0 (pa_cons (pv 2) (pa_cons (pv 3) pa_nil))))
      (pss_cons (ps_if (PW.pt (pw_or (pt_not (zpt_tru K (pe_callB (zisi K) (by rfl) T.z_isinstance (by decide +kernel) (pa_cons (pv 6) (pa_cons (pe_bltn (v := .ty "list") (by rfl) T.z_list (by decide +kernel) rfl) pa_nil))))) (pw_or (pt_cmpR (zne K (hu64 hr)) (pv 6) (pv 4) (nomark _)) (pw_or1 (pt_cmpR (zin K (hu65 hr)) pe_bl (pe_lc (own := [("a", 5)]) rfl sc_law.nd (zseq K (pv 6)) (blkOk_by (N := ["script", "box", "n", "bits", "due", "a", "told", "letters", "k", "kept", "total"]) (sc := defScope s_law) (by decide +kernel)) (fun _ _ _ _ _ => (pg_name (i := 5) sc_law.nd rfl (by first | exact Or.inl rfl | exact Or.inr rfl))) (fun _ _ _ _ _ => pts_nil) (fun _ _ _ _ _ => (pe_call (ok__law_is_number T) (hr.mono (by decide)) rfl T.mg__law_is_number T.F__law_is_number.kp T.b__law_is_number .nil pass0 (pa_cons (pv 5) pa_nil)))) (by rfl)))))) (pss_one (ps_ret pe_bl)) pss_nil)
      (pss_cons (ps_expr (pe_bm PySem.F.plainAttrs_list PySem.F.slot_list_append PySem.F.type_list_append mt_append (pv 6) (pa_cons pe_int pa_nil)))
      (pss_cons (ps_if (PW.pt (pw_or (pt_cmpR (zne K (hu64 hr)) (pe_call (ok_members T) (hr.mono (by decide)) rfl T.mg_members T.F_members.kp T.b_members .nil pass0 (pa_cons (pv 2) (pa_cons (pv 3) pa_nil))) (pv 4) (nomark _)) (pw_or (pt_cmpR (zne K (hu64 hr)) (pe_call (ok_bits_of T) (hr.mono (by decide)) rfl T.mg_bits_of T.F_bits_of.kp T.b_bits_of .nil pass0 (pa_cons (pv 4) pa_nil)) (pv 3) (nomark _)) (pw_or1 (pt_not (zpt_tru K (pe_call (ok__law_is_number T) (hr.mono (by decide)) rfl T.mg__law_is_number T.F__law_is_number.kp T.b__law_is_number .nil pass0 (pa_cons (pe_call (ok_bits_of T) (hr.mono (by decide)) rfl T.mg_bits_of T.F_bits_of.kp T.b_bits_of .nil pass0 (pa_cons (pv 4) pa_nil)) pa_nil)))))))) (pss_one (ps_ret pe_bl)) pss_nil)
      (pss_cons (ps_setLc (i := 7) (own := [("k", 8)]) rfl sc_law.nd rfl rfl (sw_true rfl rfl rfl (by decide +kernel)) (pi_range1 (by rfl) T.z_range (pa_cons (pe_op op_mul (pe_call (ok__law_take T) (hr.mono (by decide)) rfl T.mg__law_take T.F__law_take.kp T.b__law_take .nil pass0 (pa_cons (pv 1) (pa_cons pe_int pa_nil))) (pe_callB (call_min2 rfl) (by rfl) T.z_min (by decide +kernel) (pa_cons (pv 2) (pa_cons pe_int pa_nil)))) pa_nil)) (blkOk_by (N := ["script", "box", "n", "bits", "due", "a", "told", "letters", "k", "kept", "total"]) (sc := defScope s_law) (by decide +kernel)) (fun _ _ _ _ _ => (pg_name (i := 8) sc_law.nd rfl (by first | exact Or.inl rfl | exact Or.inr rfl))) (fun _ _ _ _ _ => pts_nil) (fun _ _ _ _ _ => (pe_call (ok__law_take T) (hr.mono (by decide)) rfl T.mg__law_take T.F__law_take.kp T.b__law_take .nil pass0 (pa_cons (pv 1) (pa_cons (pe_callB (call_max2 rfl) (by rfl) T.z_max (by decide +kernel) (pa_cons (pv 2) (pa_cons pe_int pa_nil))) pa_nil)))))
      (pss_cons (ps_set (i := 9) sc_law.nd rfl (by first | exact Or.inl rfl | exact Or.inr rfl) (pe_callTy (zlist K) (by rfl) T.z_list (by decide +kernel) (pa_cons (pv 7) pa_nil)))
      (pss_cons (ps_set (i := 10) sc_law.nd rfl (by first | exact Or.inl rfl | exact Or.inr rfl) pe_int)
      (pss_cons (ps_for PassesOwn.never rfl (pi_range1 (by rfl) T.z_range (pa_cons (pv 2) pa_nil)) (pg_name (i := 5) sc_law.nd rfl (by first | exact Or.inl rfl | exact Or.inr rfl)) (pss_one (ps_if (pt_cmpR (zin K (hu65 hr)) (pv 5) (pv 7) (by rfl)) (pss_one (ps_set (i := 10) sc_law.nd rfl (by first | exact Or.inl rfl | exact Or.inr rfl) (pe_op op_add (pv 10) (pe_ix (zix K) (pe_lst (pa_cons pe_int (pa_cons pe_int (pa_cons pe_int (pa_cons pe_int (pa_cons pe_int pa_nil)))))) (pv 5) (fun _ _ => rfl))))) pss_nil)))
      (pss_one (ps_ret (pe_and (pe_cmpR (zeq K (hu64 hr)) (pe_call (ok_bits_of T) (hr.mono (by decide)) rfl T.mg_bits_of T.F_bits_of.kp T.b_bits_of .nil pass0 (pa_cons (pv 7) pa_nil)) (pv 10) (nomark _)) (pe_and (pe_cmpR (zeq K (hu64 hr)) (pv 7) (pv 9) (nomark _)) (pe_one (pe_cmpR (zeq K (hu64 hr)) (pe_call (ok_members T) (hr.mono (by decide)) rfl T.mg_members T.F_members.kp T.b_members .nil pass0 (pa_cons (pv 2) (pa_cons (pe_call (ok_bits_of T) (hr.mono (by decide)) rfl T.mg_bits_of T.F_bits_of.kp T.b_bits_of .nil pass0 (pa_cons (pv 7) pa_nil)) pa_nil))) (pe_callB (zsortSet w rfl) (by rfl) T.z_sorted (by decide +kernel) (pa_cons (pe_callTy (zsetI K w rfl) (by rfl) T.z_set (by decide +kernel) (pa_cons (pv 7) pa_nil)) pa_nil)) (nomark _))))))))))))))))))),
    ?_⟩
  exact (sim_seq (sim_asg (sim_call0 (sim_cons sim_var sim_nil) (fun h => nomatch h)) (by decide))
      (sim_seq (sim_asg (sim_call1 (sim_cons sim_var (sim_cons (sim_c (.int _)) sim_nil))) (by decide))
      (sim_seq (sim_asg (sim_call1 (sim_cons sim_var (sim_cons (sim_op s_ix (sim_lst (sim_cons (sim_c (.int _)) (sim_cons (sim_c (.int _)) (sim_cons (sim_c (.int _)) (sim_cons (sim_c (.int _)) (sim_cons (sim_c (.int _)) (sim_cons (sim_c (.int _)) sim_nil))))))) sim_var) sim_nil))) (by decide))
      (sim_seq (sim_asg (sim_lc (sim_rng1 (sim_cons sim_var sim_nil)) (simg_name (by decide)) (sim_test (sim_op s_eq (sim_op s_mod (sim_op s_div (sim_cb s_int (sim_cons sim_var sim_nil)) (sim_op s_ix (sim_lst (sim_cons (sim_c (.int _)) (sim_cons (sim_c (.int _)) (sim_cons (sim_c (.int _)) (sim_cons (sim_c (.int _)) (sim_cons (sim_c (.int _)) sim_nil)))))) sim_var)) (sim_c (.int _))) (sim_c (.int _)))) sim_var (by decide) (by decide)) (by decide))
      (sim_seq (sim_asg (sim_call0 (sim_cons sim_var (sim_cons sim_var sim_nil)) (fun h => nomatch h)) (by decide))
      (sim_seq (sim_ifS (sim_or (sim_not (sim_tru (sim_isi sim_var))) (sim_or (sim_test (sim_op s_ne sim_var sim_var)) (sim_test (sim_op s_in (sim_c (.bl _)) (sim_lcH (simg_name (by decide)) sim_yes (sim_call0 (sim_cons sim_var sim_nil) (fun h => nomatch h)) (by decide) (by decide) (by decide)))))) (sim_ret (sim_c (.bl _))) sim_next)
      (sim_seq (sim_mut s_append (sim_cons (sim_c (.int _)) sim_nil))
      (sim_seq (sim_ifS (sim_or (sim_test (sim_op s_ne (sim_call0 (sim_cons sim_var (sim_cons sim_var sim_nil)) (fun h => nomatch h)) sim_var)) (sim_or (sim_test (sim_op s_ne (sim_call0 (sim_cons sim_var sim_nil) (fun h => nomatch h)) sim_var)) (sim_not (sim_tru (sim_call0 (sim_cons (sim_call0 (sim_cons sim_var sim_nil) (fun h => nomatch h)) sim_nil) (fun h => nomatch h)))))) (sim_ret (sim_c (.bl _))) sim_next)
      (sim_seq (sim_asg (sim_lc (sim_rng1 (sim_cons (sim_op s_mul (sim_call1 (sim_cons sim_var (sim_cons (sim_c (.int _)) sim_nil))) (sim_cb s_min2 (sim_cons sim_var (sim_cons (sim_c (.int _)) sim_nil)))) sim_nil)) (simg_name (by decide)) sim_yes (sim_call1 (sim_cons sim_var (sim_cons (sim_cb s_max2 (sim_cons sim_var (sim_cons (sim_c (.int _)) sim_nil))) sim_nil))) (by decide) (by decide)) (by decide))
      (sim_seq (sim_asg (sim_cb s_list (sim_cons sim_var sim_nil)) (by decide))
      (sim_seq (sim_asg (sim_c (.int _)) (by decide))
      (sim_seq (sim_for (sim_rng1 (sim_cons sim_var sim_nil)) (simg_name (by decide)) (sim_ifS (sim_test (sim_op s_in sim_var sim_var)) (sim_asg (sim_op s_add sim_var (sim_op s_ix (sim_lst (sim_cons (sim_c (.int _)) (sim_cons (sim_c (.int _)) (sim_cons (sim_c (.int _)) (sim_cons (sim_c (.int _)) (sim_cons (sim_c (.int _)) sim_nil)))))) sim_var)) (by decide)) sim_next))
      (sim_ret (sim_andV (sim_op s_eq (sim_call0 (sim_cons sim_var sim_nil) (fun h => nomatch h)) sim_var) (sim_andV (sim_op s_eq sim_var sim_var) (sim_op s_eq (sim_call0 (sim_cons sim_var (sim_cons (sim_call0 (sim_cons sim_var sim_nil) (fun h => nomatch h)) sim_nil)) (fun h => nomatch h)) (sim_sortSet sim_var)))))))))))))))))
end
theorem all_mk {l : PySem.W.OpenLaw} {w : World} {K : PySem.W.Frag} {h : Heap} {mg : Str → Option Value} {fa : Addr} (X : K.In h) (G : h.Ns mainGlobals mg) (hfa : mg "law" = some (.ref fa))
    {od0 an0 : Option Addr} {sl0 : Array (Option Value)} {oc0 kV0 dc0 pm0 cd0 ct0 : Value} {f0 : Addr}
    (a0 : PySem.W.nsIn K mainGlobals "_law_box" = some (some (.ref f0))) (l0 : K.lookup f0 = some ⟨oc0, od0, .func (PySem.W.fnOf "_law_box" "_law_box" (defArgs s__law_box) (defBody s__law_box) (defScope s__law_box) .none kV0 dc0 pm0 an0 cd0 ct0), sl0⟩) (c0 : PySem.W.codeIn K cd0 "_law_box" = true) (k0 : PySem.W.keepIn K (.ref f0) = true)
    {od1 an1 : Option Addr} {sl1 : Array (Option Value)} {oc1 kV1 dc1 pm1 cd1 ct1 : Value} {f1 : Addr}
    (a1 : PySem.W.nsIn K mainGlobals "_law_take" = some (some (.ref f1))) (l1 : K.lookup f1 = some ⟨oc1, od1, .func (PySem.W.fnOf "_law_take" "_law_take" (defArgs s__law_take) (defBody s__law_take) (defScope s__law_take) .none kV1 dc1 pm1 an1 cd1 ct1), sl1⟩) (c1 : PySem.W.codeIn K cd1 "_law_take" = true) (k1 : PySem.W.keepIn K (.ref f1) = true)
    {od2 an2 : Option Addr} {sl2 : Array (Option Value)} {oc2 kV2 dc2 pm2 cd2 ct2 : Value} {f2 : Addr}
    (a2 : PySem.W.nsIn K mainGlobals "members" = some (some (.ref f2))) (l2 : K.lookup f2 = some ⟨oc2, od2, .func (PySem.W.fnOf "members" "members" (defArgs s_members) (defBody s_members) (defScope s_members) .none kV2 dc2 pm2 an2 cd2 ct2), sl2⟩) (c2 : PySem.W.codeIn K cd2 "members" = true) (k2 : PySem.W.keepIn K (.ref f2) = true)
    {od3 an3 : Option Addr} {sl3 : Array (Option Value)} {oc3 kV3 dc3 pm3 cd3 ct3 : Value} {f3 : Addr}
    (a3 : PySem.W.nsIn K mainGlobals "_law_is_number" = some (some (.ref f3))) (l3 : K.lookup f3 = some ⟨oc3, od3, .func (PySem.W.fnOf "_law_is_number" "_law_is_number" (defArgs s__law_is_number) (defBody s__law_is_number) (defScope s__law_is_number) .none kV3 dc3 pm3 an3 cd3 ct3), sl3⟩) (c3 : PySem.W.codeIn K cd3 "_law_is_number" = true) (k3 : PySem.W.keepIn K (.ref f3) = true)
    {od4 an4 : Option Addr} {sl4 : Array (Option Value)} {oc4 kV4 dc4 pm4 cd4 ct4 : Value} {f4 : Addr}
    (a4 : PySem.W.nsIn K mainGlobals "bits_of" = some (some (.ref f4))) (l4 : K.lookup f4 = some ⟨oc4, od4, .func (PySem.W.fnOf "bits_of" "bits_of" (defArgs s_bits_of) (defBody s_bits_of) (defScope s_bits_of) .none kV4 dc4 pm4 an4 cd4 ct4), sl4⟩) (c4 : PySem.W.codeIn K cd4 "bits_of" = true) (k4 : PySem.W.keepIn K (.ref f4) = true)
    {od5 an5 : Option Addr} {sl5 : Array (Option Value)} {oc5 kV5 dc5 pm5 cd5 ct5 : Value} {f5 : Addr}
    (a5 : PySem.W.nsIn K mainGlobals "law" = some (some (.ref f5))) (l5 : K.lookup f5 = some ⟨oc5, od5, .func (PySem.W.fnOf "law" "law" (defArgs s_law) (defBody s_law) (defScope s_law) .none kV5 dc5 pm5 an5 cd5 ct5), sl5⟩) (c5 : PySem.W.codeIn K cd5 "law" = true) (k5 : PySem.W.keepIn K (.ref f5) = true)
    (z_abs : PySem.W.nsIn K mainGlobals "abs" = some none)
    (z_bool : PySem.W.nsIn K mainGlobals "bool" = some none)
    (z_int : PySem.W.nsIn K mainGlobals "int" = some none)
    (z_isinstance : PySem.W.nsIn K mainGlobals "isinstance" = some none)
    (z_len : PySem.W.nsIn K mainGlobals "len" = some none)
    (z_list : PySem.W.nsIn K mainGlobals "list" = some none)
    (z_max : PySem.W.nsIn K mainGlobals "max" = some none)
    (z_min : PySem.W.nsIn K mainGlobals "min" = some none)
    (z_range : PySem.W.nsIn K mainGlobals "range" = some none)
    (z_set : PySem.W.nsIn K mainGlobals "set" = some none)
    (z_sorted : PySem.W.nsIn K mainGlobals "sorted" = some none) :
    ∃ fd : FuncData, (∀ (s : Shared) (v : Value), BindsTo s fd ⟨[v], []⟩ [("script", v)]) ∧ ∀ base : Heap, K.In base → base.Ns mainGlobals mg → FnOk l.prog w K mg base CX0 2 fa fd ["script"] (spM K 0 1 11 W0 m_law) := by
  have e := hfa.symm.trans (PySem.W.mg_of X G a5)
  cases e
  refine ⟨PySem.W.fnOf "law" "law" (defArgs s_law) (defBody s_law) (defScope s_law) .none kV5 dc5 pm5 an5 cd5 ct5, fun s v => .of_eq rfl, fun base _ _ => ok_law (P := l.prog) (w := w) (base := base) ({
    a__law_box := _
    fd__law_box := _
    F__law_box := fun_mk (st := s__law_box) l0 c0 k0
    mg__law_box := PySem.W.mg_of X G a0
    b__law_box := (fun_mk (st := s__law_box) l0 c0 k0).binds (ps := ["script"]) fun _ _ _ _ _ _ us hl => match us, hl with | [_], _ => rfl
    a__law_take := _
    fd__law_take := _
    F__law_take := fun_mk (st := s__law_take) l1 c1 k1
    mg__law_take := PySem.W.mg_of X G a1
    b__law_take := (fun_mk (st := s__law_take) l1 c1 k1).binds (ps := ["box", "m"]) fun _ _ _ _ _ _ us hl => match us, hl with | [_, _], _ => rfl
    a_members := _
    fd_members := _
    F_members := fun_mk (st := s_members) l2 c2 k2
    mg_members := PySem.W.mg_of X G a2
    b_members := (fun_mk (st := s_members) l2 c2 k2).binds (ps := ["n", "bits"]) fun _ _ _ _ _ _ us hl => match us, hl with | [_, _], _ => rfl
    a__law_is_number := _
    fd__law_is_number := _
    F__law_is_number := fun_mk (st := s__law_is_number) l3 c3 k3
    mg__law_is_number := PySem.W.mg_of X G a3
    b__law_is_number := (fun_mk (st := s__law_is_number) l3 c3 k3).binds (ps := ["x"]) fun _ _ _ _ _ _ us hl => match us, hl with | [_], _ => rfl
    a_bits_of := _
    fd_bits_of := _
    F_bits_of := fun_mk (st := s_bits_of) l4 c4 k4
    mg_bits_of := PySem.W.mg_of X G a4
    b_bits_of := (fun_mk (st := s_bits_of) l4 c4 k4).binds (ps := ["letters"]) fun _ _ _ _ _ _ us hl => match us, hl with | [_], _ => rfl
    a_law := _
    fd_law := _
    F_law := fun_mk (st := s_law) l5 c5 k5
    mg_law := PySem.W.mg_of X G a5
    b_law := (fun_mk (st := s_law) l5 c5 k5).binds (ps := ["script"]) fun _ _ _ _ _ _ us hl => match us, hl with | [_], _ => rfl
    z_abs := PySem.W.mg_none_of X G z_abs
    z_bool := PySem.W.mg_none_of X G z_bool
    z_int := PySem.W.mg_none_of X G z_int
    z_isinstance := PySem.W.mg_none_of X G z_isinstance
    z_len := PySem.W.mg_none_of X G z_len
    z_list := PySem.W.mg_none_of X G z_list
    z_max := PySem.W.mg_none_of X G z_max
    z_min := PySem.W.mg_none_of X G z_min
    z_range := PySem.W.mg_none_of X G z_range
    z_set := PySem.W.mg_none_of X G z_set
    z_sorted := PySem.W.mg_none_of X G z_sorted
  } : Tx K mg)⟩


end K01
open PySem PySem.W PyProof.Rows
set_option maxHeartbeats 0 in
theorem PySem.Challenge.cw_spandrel_k01_sets_of_letters_holds : PySem.Challenge.rw_spandrel_k01_sets_of_letters.Holds := by
  w_on; o_law; k_head; (case hw => w_witness2)
  k_fill
  refine L2.walk_ofK (l := PySem.Challenge.rw_spandrel_k01_sets_of_letters) (n := 63) (k := 2) (x := "script") (CX := L2.CX0) (sp := fun K => Z.spM K 0 1 11 Z.W0 K01.m_law) rfl (by decide) rfl ⟨rfl, by decide, by decide⟩ (fun w h Y => PySem.W.kIn_of Y) ?F (fun K H a ns hl _ hS => Z.law_sp K01.law_true H a ns hl hS) (fun _ _ _ _ h => h)
  case F =>
    intro w mg fa h KX G hmg
    refine' K01.all_mk KX G hmg ?a0 ?l0 ?c0 ?k0 ?a1 ?l1 ?c1 ?k1 ?a2 ?l2 ?c2 ?k2 ?a3 ?l3 ?c3 ?k3 ?a4 ?l4 ?c4 ?k4 ?a5 ?l5 ?c5 ?k5 ?z_abs ?z_bool ?z_int ?z_isinstance ?z_len ?z_list ?z_max ?z_min ?z_range ?z_set ?z_sorted
    (case a0 => k_is); (case l0 => k_is); (case c0 => k_is); (case k0 => k_is); (case a1 => k_is); (case l1 => k_is); (case c1 => k_is); (case k1 => k_is); (case a2 => k_is); (case l2 => k_is); (case c2 => k_is); (case k2 => k_is); (case a3 => k_is); (case l3 => k_is); (case c3 => k_is); (case k3 => k_is); (case a4 => k_is); (case l4 => k_is); (case c4 => k_is); (case k4 => k_is); (case a5 => k_is); (case l5 => k_is); (case c5 => k_is); (case k5 => k_is); (case z_abs => k_is); (case z_bool => k_is); (case z_int => k_is); (case z_isinstance => k_is); (case z_len => k_is); (case z_list => k_is); (case z_max => k_is); (case z_min => k_is); (case z_range => k_is); (case z_set => k_is); (case z_sorted => k_is)


