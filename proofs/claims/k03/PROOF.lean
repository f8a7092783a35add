import PyProof.Rows.All
import Wide.All
import OpenK.AllK
import Wide.FinOn
import HandS.ForMost
import HandS.Deep
import HandS.Wide
import KE.KeyNested
import KE.KDictKeyed
import HandS.IsInst
import HandS.SetFor
import HandS.Strs
import HandS.Style
import HandS.ForExc
import HandS.ExcCtx
import HandS.HotCalls
import HandS.ExcIs
import HandS.TupMul
import HandS.TupAny
import HandS.SortRule
import HandS.SetBool
import HandS.Conv
import HandS.Steps
import HandS.SortInts
import HandS.Small
import HandS.More
import HandS.DictComp
import PySem.Challenge.RW_spandrel_k03_what_is_a_demand
set_option Elab.async false
set_option linter.all false
set_option maxRecDepth 100000
set_option autoImplicit false
namespace Z
open PySem L2

abbrev D := PySem.PyData
inductive S where
  | d (x : D)
  | o (xs : List D)
  /-- a dict of one's own: whether its keys are tuples (else ints); keys and values, in their order -/
  | m (tk : Bool) (kvs : List (D × D))
def S.own : S → Bool
  | .d _ => false
  | .o _ => true
  | .m _ _ => true
abbrev Env := List (Option S)
inductive R where
  | d (x : D)
  | o (xs : List D)
  | b (i : Nat)
inductive Res (α : Type) where
  | no
  | ok (a : α) (ρ : Env)
  | exc (c : Nat) (ρ : Env)
inductive Out where
  | no
  | nx (ρ : Env)
  | rt (s : S) (ρ : Env)
  | bk (ρ : Env)
  | ct (ρ : Env)
  | exc (c : Nat) (ρ : Env)
def Res.bind {α β : Type} (r : Res α) (k : α → Env → Res β) : Res β :=
  match r with
  | .no => .no
  | .ok a ρ => k a ρ
  | .exc c ρ => .exc c ρ

section
variable {K : PySem.W.Frag} {G H G' H' : Hp} {a : Addr} {xs : List V} {v : V}
theorem sqT_same (e : Same H H') (h : SqT K H a xs) : SqT K H' a xs := by
  rcases h with (h | ⟨o, h⟩) | h
  · exact .inl (.inl (e _ _ h))
  · exact .inl (.inr ⟨o, e _ _ h⟩)
  · exact .inr h
mutual
theorem dp_same (e : Same H H') : ∀ (d : D) (v : V), Dp K H v d → Dp K H' v d
  | .none, _, h => by cases h; exact .non
  | .bool _, _, h => by cases h; exact .bl _
  | .int _, _, h => by cases h; exact .int _
  | .str _, _, h => by cases h; exact .str _
  | .list ds, _, h => by
    cases h with
    | lst h1 h2 => exact .lst (e.seq h1) (dpAll_same e ds _ h2)
  | .tuple ds, _, h => by
    cases h with
    | tup h1 h2 => exact .tup (sqT_same e h1) (dpAll_same e ds _ h2)
  | .dict _, _, h => by cases h
theorem dpAll_same (e : Same H H') : ∀ (ds : List D) (vs : List V), DpAll K H vs ds → DpAll K H' vs ds
  | [], _, h => by cases h; exact .nil
  | d :: ds, _, h => by
    cases h with
    | cons h1 h2 => exact .cons (dp_same e d _ h1) (dpAll_same e ds _ h2)
end
theorem dpAll_len : ∀ {ds : List D} {vs : List V}, DpAll K H vs ds → vs.length = ds.length
  | [], _, h => by cases h; rfl
  | d :: ds, _, h => by
    cases h with
    | cons h1 h2 => simp [dpAll_len h2]
theorem dpAll_get : ∀ {ds : List D} {vs : List V} {i : Nat} {d : D}, DpAll K H vs ds → ds[i]? = some d → ∃ v, vs[i]? = some v ∧ Dp K H v d
  | [], _, i, d, h, e => by simp at e
  | x :: ds, _, 0, d, h, e => by
    cases h with
    | cons h1 h2 =>
      simp at e
      subst e
      exact ⟨_, rfl, h1⟩
  | x :: ds, _, i + 1, d, h, e => by
    cases h with
    | cons h1 h2 =>
      obtain ⟨v, q1, q2⟩ := dpAll_get (i := i) h2 (by simpa using e)
      exact ⟨v, by simpa using q1, q2⟩
theorem dpAll_append : ∀ {ds es : List D} {vs ws : List V}, DpAll K H vs ds → DpAll K H ws es → DpAll K H (vs ++ ws) (ds ++ es)
  | [], _, _, _, h, q => by cases h; exact q
  | d :: ds, _, _, _, h, q => by
    cases h with
    | cons h1 h2 => exact .cons h1 (dpAll_append h2 q)
theorem dpAll_set : ∀ {ds : List D} {vs : List V} (i : Nat) {v : V} {d : D}, DpAll K H vs ds → Dp K H v d → DpAll K H (vs.set i v) (ds.set i d)
  | [], _, _, _, _, h, _ => by cases h; exact .nil
  | x :: ds, _, 0, _, _, h, q => by
    cases h with
    | cons h1 h2 => exact .cons q h2
  | x :: ds, _, i + 1, _, _, h, q => by
    cases h with
    | cons h1 h2 => exact .cons h1 (dpAll_set i h2 q)
theorem dpAll_take : ∀ {ds : List D} {vs : List V} (n : Nat), DpAll K H vs ds → DpAll K H (vs.take n) (ds.take n)
  | _, _, 0, h => .nil
  | [], _, n + 1, h => by cases h; exact .nil
  | d :: ds, _, n + 1, h => by
    cases h with
    | cons h1 h2 => exact .cons h1 (dpAll_take n h2)
theorem dpAll_drop : ∀ {ds : List D} {vs : List V} (n : Nat), DpAll K H vs ds → DpAll K H (vs.drop n) (ds.drop n)
  | _, _, 0, h => h
  | [], _, n + 1, h => by cases h; exact .nil
  | d :: ds, _, n + 1, h => by
    cases h with
    | cons h1 h2 => exact dpAll_drop n h2
theorem dp_int {i : Int} {v : V} (h : Dp K H v (.int i)) : v = .int i := by cases h; rfl
theorem dp_bool {b : Bool} {v : V} (h : Dp K H v (.bool b)) : v = .bl b := by cases h; rfl
theorem dp_none {v : V} (h : Dp K H v .none) : v = .non := by cases h; rfl
theorem dp_str {x : Str} {v : V} (h : Dp K H v (.str x)) : v = .str x := by cases h; rfl
theorem dp_tup {ds : List D} {v : V} (h : Dp K H v (.tuple ds)) : ∃ a xs, v = .ref a ∧ SqT K H a xs ∧ DpAll K H xs ds := by
  cases h with
  | tup h1 h2 => exact ⟨_, _, rfl, h1, h2⟩
theorem dp_lst {ds : List D} {v : V} (h : Dp K H v (.list ds)) : ∃ a xs, v = .ref a ∧ SqL K H a xs ∧ DpAll K H xs ds := by
  cases h with
  | lst h1 h2 => exact ⟨_, _, rfl, h1, h2⟩
theorem dpAll_ints : ∀ {ns : List Int} {vs : List V}, DpAll K H vs (ns.map PyData.int) → vs = ns.map V.int
  | [], _, h => by cases h; rfl
  | n :: ns, _, h => by
    cases h with
    | cons h1 h2 => rw [dp_int h1, dpAll_ints h2]; rfl
theorem dpAll_ofInts : ∀ (ns : List Int), DpAll K H (ns.map V.int) (ns.map PyData.int)
  | [] => .nil
  | n :: ns => .cons (.int n) (dpAll_ofInts ns)
end

theorem ne_none_of {α : Type} {x : Option α} {y : α} (h : x = some y) : x ≠ none := by rw [h]; exact fun e => nomatch e

/-! ### dicts of one's own -/
/-- a key that is a tuple (of whole numbers and such tuples) -/
def toNK : D → Option NestedKey
  | .int i => some (.num i)
  | .tuple ds => (toNKs ds).map .tup
  | _ => none
where toNKs : List D → Option (List NestedKey)
  | [] => some []
  | d :: ds => (match toNK d, toNKs ds with
    | some k, some ks => some (k :: ks)
    | _, _ => none)
inductive KvI (K : PySem.W.Frag) (G : Hp) : List (Int × V) → List (D × D) → Prop
  | nil : KvI K G [] []
  | cons {i : Int} {v : V} {d : D} {ks : List (Int × V)} {kvs : List (D × D)} : Dp K G v d → KvI K G ks kvs → KvI K G ((i, v) :: ks) ((.int i, d) :: kvs)
inductive KvN (K : PySem.W.Frag) (G : Hp) : List (NestedKey × Addr × V) → List (D × D) → Prop
  | nil : KvN K G [] []
  | cons {n : NestedKey} {b : Addr} {v : V} {k d : D} {ks : List (NestedKey × Addr × V)} {kvs : List (D × D)} : toNK k = some n → n.depth ≤ 8 → Dp K G (.ref b) k → Dp K G v d → KvN K G ks kvs → KvN K G ((n, b, v) :: ks) ((k, d) :: kvs)
/-- what is known of the one object of a dict with tuples as keys (no texts in them: the hash asks nothing of the world) -/
def rawN (a : Addr) (L : List (NestedKey × Addr × V)) : Heap → Prop := fun h => L.length ≤ sizeLine ∧ (a == sysModules) = false ∧ ∃ xs : List (NestedKey × Addr × Value),
  Paired (fun (p : NestedKey × Addr × V) (q : NestedKey × Addr × Value) => p.1 = q.1 ∧ p.2.1 = q.2.1 ∧ RelV p.2.2 q.2.2) L xs ∧
  (∃ o es ep, h.get? a = some o ∧ o.ExactDict ∧ o.data = .dict es ep ∧ ∀ w : World, es.toList = xs.map fun x => (⟨x.1.hash w, .ref x.2.1, x.2.2⟩ : DictEntry)) ∧ (xs.map (·.1)).Nodup
def NestO (a : Addr) (L : List (NestedKey × Addr × V)) : HO := .ext (rawN a L)
inductive OwnR (K : PySem.W.Frag) (G : Hp) (p : Addr) : HO → S → Prop
  | o {vs : List V} {xs : List D} : DpAll K G vs xs → OwnR K G p (.lst vs) (.o xs)
  | i {ks : List (Int × V)} {kvs : List (D × D)} : KvI K G ks kvs → OwnR K G p (.dK (ks.map fun q => (Sum.inl q.1, q.2))) (.m false kvs)
  | n {L : List (NestedKey × Addr × V)} {kvs : List (D × D)} : KvN K G L kvs → OwnR K G p (NestO p L) (.m true kvs)
theorem kvI_same {K : PySem.W.Frag} {G H : Hp} (e : Same G H) {ks : List (Int × V)} {kvs : List (D × D)} (h : KvI K G ks kvs) : KvI K H ks kvs := by
  induction h with
  | nil => exact .nil
  | cons h1 _ ih => exact .cons (dp_same e _ _ h1) ih
theorem kvN_same {K : PySem.W.Frag} {G H : Hp} (e : Same G H) {ks : List (NestedKey × Addr × V)} {kvs : List (D × D)} (h : KvN K G ks kvs) : KvN K H ks kvs := by
  induction h with
  | nil => exact .nil
  | cons h1 h0 h2 h3 _ ih => exact .cons h1 h0 (dp_same e _ _ h2) (dp_same e _ _ h3) ih
theorem OwnR.same {K : PySem.W.Frag} {G H : Hp} (e : Same G H) {p : Addr} {o : HO} {s : S} (h : OwnR K G p o s) : OwnR K H p o s := by
  cases h with
  | o h => exact .o (dpAll_same e _ _ h)
  | i h => exact .i (kvI_same e h)
  | n h => exact .n (kvN_same e h)
structure Fx where
  F : Hp
  G0 : Hp
  pins : List (Option Addr)

structure Rel (K : PySem.W.Frag) (f : Fx) (G H : Hp) (σ : L2.St) (ρ : Env) : Prop where
  len : σ.length = ρ.length
  gh : Same G H
  fh : Same f.F H
  g0 : Same f.G0 G
  gf : ∀ a, f.F a ≠ none → G a ≠ none → f.G0 a ≠ none
  pin : ∀ (i : Nat) (b : Addr), f.pins[i]? = some (some b) → σ[i]? = some (some (V.ref b)) ∧ ∃ s, ρ[i]? = some (some s) ∧ s.own = true
  dat : ∀ (i : Nat) (d : D), ρ[i]? = some (some (S.d d)) → ∃ v, σ[i]? = some (some v) ∧ Dp K G v d
  ow : ∀ (i : Nat) (s : S), ρ[i]? = some (some s) → s.own = true → ∃ p o, σ[i]? = some (some (V.ref p)) ∧ H p = some o ∧ OwnR K G p o s ∧ G p = none ∧ f.F p = none
  injS : ∀ (i j : Nat) (p : Addr) (s t : S), ρ[i]? = some (some s) → ρ[j]? = some (some t) → s.own = true → t.own = true → σ[i]? = some (some (V.ref p)) → σ[j]? = some (some (V.ref p)) → i = j
theorem Rel.own {K : PySem.W.Frag} {f : Fx} {G H : Hp} {σ : L2.St} {ρ : Env} (r : Rel K f G H σ ρ) (i : Nat) (xs : List D) (e : ρ[i]? = some (some (S.o xs))) :
    ∃ p vs, σ[i]? = some (some (V.ref p)) ∧ H p = some (HO.lst vs) ∧ DpAll K G vs xs ∧ G p = none ∧ f.F p = none := by
  obtain ⟨p, o, h1, h2, h3, h4, h5⟩ := r.ow i _ e rfl
  cases h3 with
  | o h3 => exact ⟨p, _, h1, h2, h3, h4, h5⟩
theorem Rel.inj {K : PySem.W.Frag} {f : Fx} {G H : Hp} {σ : L2.St} {ρ : Env} (r : Rel K f G H σ ρ) (i j : Nat) (p : Addr) (xs ys : List D) (e1 : ρ[i]? = some (some (S.o xs))) (e2 : ρ[j]? = some (some (S.o ys))) (e3 : σ[i]? = some (some (V.ref p))) (e4 : σ[j]? = some (some (V.ref p))) : i = j :=
  r.injS i j p _ _ e1 e2 rfl rfl e3 e4

def Grow (G H G' H' : Hp) : Prop := Same G G' ∧ Same H H' ∧ Same G' H' ∧ ∀ a, G' a ≠ none → G a ≠ none ∨ H a = none

section
variable {K : PySem.W.Frag} {f : Fx} {G H G' H' G'' H'' : Hp} {σ : L2.St} {ρ : Env}
theorem Grow.refl (e : Same G H) : Grow G H G H := ⟨.refl _, .refl _, e, fun _ h => .inl h⟩
theorem Grow.trans (x : Grow G H G' H') (y : Grow G' H' G'' H'') : Grow G H G'' H'' :=
  ⟨x.1.trans y.1, x.2.1.trans y.2.1, y.2.2.1, fun a h => by
    rcases y.2.2.2 a h with h | h
    · exact x.2.2.2 a h
    · exact .inr (x.2.1.free h)⟩
theorem same_new {H : Hp} {p : Addr} {o : HO} (h : H p = none) : Same H (upd H p o) := fun b x e => by
  rw [upd_ne (ne_of_none e h)]
  exact e
/-- a new object that is data from its birth -/
theorem Grow.data {p : Addr} {o : HO} (e : Same G H) (h : H p = none) : Grow G H (upd G p o) (upd H p o) := by
  have hg : G p = none := e.free h
  refine ⟨same_new hg, same_new h, fun b x q => ?_, fun b q => ?_⟩
  · by_cases hb : b = p
    · subst hb
      rw [upd_same] at q ⊢
      exact q
    · rw [upd_ne hb] at q ⊢
      exact e _ _ q
  · by_cases hb : b = p
    · subst hb
      exact .inr h
    · rw [upd_ne hb] at q
      exact .inl q
/-- a new object that is owned -/
theorem Grow.fresh {p : Addr} {o : HO} (e : Same G H) (h : H p = none) : Grow G H G (upd H p o) :=
  ⟨.refl _, same_new h, fun b x q => by
    rw [upd_ne (fun z => by subst z; rw [e.free h] at q; cases q)]
    exact e _ _ q, fun b q => .inl q⟩
theorem Rel.grow (r : Rel K f G H σ ρ) (g : Grow G H G' H') : Rel K f G' H' σ ρ where
  len := r.len
  gh := g.2.2.1
  fh := r.fh.trans g.2.1
  g0 := r.g0.trans g.1
  gf := fun a h1 h2 => by
    rcases g.2.2.2 a h2 with h | h
    · exact r.gf a h1 h
    · cases e : f.F a with
      | none => exact absurd e h1
      | some o =>
        rw [r.fh a o e] at h
        cases h
  pin := r.pin
  dat := fun i d h => by
    obtain ⟨v, h1, h2⟩ := r.dat i d h
    exact ⟨v, h1, dp_same g.1 _ _ h2⟩
  ow := fun i xs h hs => by
    obtain ⟨p, vs, h1, h2, h3, h4, h5⟩ := r.ow i xs h hs
    refine ⟨p, vs, h1, g.2.1 _ _ h2, h3.same g.1, ?_, h5⟩
    cases e : G' p with
    | none => rfl
    | some o =>
      rcases g.2.2.2 p (ne_none_of e) with h | h
      · exact absurd h4 h
      · rw [h2] at h
        cases h
  injS := r.injS
end

def cont (ρ : Env) (i : Nat) : Option D :=
  match ρ[i]? with
  | some (some (S.d x)) => some x
  | some (some (S.o xs)) => some (.list xs)
  | _ => none
def opd (ρ : Env) : R → Option D
  | .d x => some x
  | .o xs => some (.list xs)
  | .b i => cont ρ i
def Got (K : PySem.W.Frag) (G H : Hp) (v : V) (d : D) : Prop :=
  Dp K G v d ∨ ∃ p vs xs, v = .ref p ∧ d = .list xs ∧ H p = some (HO.lst vs) ∧ DpAll K G vs xs
def Hold (K : PySem.W.Frag) (G : Hp) (σ : L2.St) (v : V) : R → Prop
  | .d x => Dp K G v x
  | .o xs => Dp K G v (.list xs)
  | .b i => σ[i]? = some (some v)
def VRep (K : PySem.W.Frag) (f : Fx) (G H : Hp) (σ : L2.St) (ρ : Env) (v : V) : R → Prop
  | .d x => Dp K G v x
  | .b i => σ[i]? = some (some v)
  | .o xs => ∃ p vs, v = .ref p ∧ H p = some (HO.lst vs) ∧ DpAll K G vs xs ∧ G p = none ∧ f.F p = none ∧ ∀ (i : Nat) (s : S), ρ[i]? = some (some s) → s.own = true → σ[i]? ≠ some (some (V.ref p))
def NewV (K : PySem.W.Frag) (H G' H' : Hp) (v : V) : R → Prop
  | .d x => Dp K G' v x
  | .o xs => ∃ p vs, v = .ref p ∧ H p = none ∧ H' p = some (HO.lst vs) ∧ DpAll K G' vs xs ∧ G' p = none
  | .b _ => False

section
variable {K : PySem.W.Frag} {f : Fx} {G H G' H' : Hp} {σ : L2.St} {ρ : Env} {v : V} {r : R} {d : D}
theorem Got.dp (e : Same G H) (h : Got K G H v d) : Dp K H v d := by
  rcases h with h | ⟨p, vs, xs, rfl, rfl, h1, h2⟩
  · exact dp_same e _ _ h
  · exact .lst (.inl (.inl h1)) (dpAll_same e _ _ h2)
theorem Got.lst {ds : List D} (e : Same G H) (h : Got K G H v (.list ds)) : ∃ a xs, v = .ref a ∧ SqL K H a xs ∧ DpAll K G xs ds := by
  rcases h with h | ⟨p, vs, xs, rfl, q, h1, h2⟩
  · obtain ⟨a, xs, rfl, h1, h2⟩ := dp_lst h
    exact ⟨a, xs, rfl, e.seq h1, h2⟩
  · cases q
    exact ⟨p, vs, rfl, .inl (.inl h1), h2⟩
theorem Got.tup {ds : List D} (e : Same G H) (h : Got K G H v (.tuple ds)) : ∃ a xs, v = .ref a ∧ SqT K H a xs ∧ DpAll K G xs ds := by
  rcases h with h | ⟨p, vs, xs, _, q, _⟩
  · obtain ⟨a, xs, rfl, h1, h2⟩ := dp_tup h
    exact ⟨a, xs, rfl, sqT_same e h1, h2⟩
  · cases q
theorem Got.int {i : Int} (h : Got K G H v (.int i)) : v = .int i := by
  rcases h with h | ⟨p, vs, xs, _, q, _⟩
  · exact dp_int h
  · cases q
theorem Got.bool {i : Bool} (h : Got K G H v (.bool i)) : v = .bl i := by
  rcases h with h | ⟨p, vs, xs, _, q, _⟩
  · exact dp_bool h
  · cases q
theorem Got.none (h : Got K G H v .none) : v = .non := by
  rcases h with h | ⟨p, vs, xs, _, q, _⟩
  · exact dp_none h
  · cases q
theorem Got.str {x : Str} (h : Got K G H v (.str x)) : v = .str x := by
  rcases h with h | ⟨p, vs, xs, _, q, _⟩
  · exact dp_str h
  · cases q
theorem Rel.got (r : Rel K f G H σ ρ) {i : Nat} (h : cont ρ i = some d) : ∃ v, σ[i]? = some (some v) ∧ Got K G H v d := by
  unfold cont at h
  split at h
  · next x e =>
    cases h
    obtain ⟨v, h1, h2⟩ := r.dat i _ e
    exact ⟨v, h1, .inl h2⟩
  · next xs e =>
    cases h
    obtain ⟨p, vs, h1, h2, h3, h4, h5⟩ := r.own i _ e
    exact ⟨_, h1, .inr ⟨p, vs, xs, rfl, rfl, h2, h3⟩⟩
  · cases h
theorem Hold.got (rl : Rel K f G H σ ρ) (h : Hold K G σ v r) (e : opd ρ r = some d) : Got K G H v d := by
  cases r with
  | d x => cases e; exact .inl h
  | o xs => cases e; exact .inl h
  | b i =>
    obtain ⟨u, h1, h2⟩ := rl.got (show cont ρ i = some d from e)
    have h3 : σ[i]? = some (some v) := h
    rw [h3] at h1
    cases h1
    exact h2
theorem Hold.same (e : Same G G') (h : Hold K G σ v r) : Hold K G' σ v r := by
  cases r with
  | d x => exact dp_same e _ _ h
  | o xs => exact dp_same e _ _ h
  | b i => exact h
/-- a fresh list becomes data -/
theorem VRep.hold (rl : Rel K f G H σ ρ) (h : VRep K f G H σ ρ v r) : ∃ G', Same G G' ∧ Rel K f G' H σ ρ ∧ Hold K G' σ v r := by
  cases r with
  | d x => exact ⟨G, .refl _, rl, h⟩
  | b i => exact ⟨G, .refl _, rl, h⟩
  | o xs =>
    obtain ⟨p, vs, rfl, h1, h2, h3, h4, h5⟩ := h
    have sm : Same G (upd G p (.lst vs)) := same_new h3
    refine ⟨upd G p (.lst vs), sm, ⟨rl.len, fun b x q => ?_, rl.fh, rl.g0.trans sm, fun a q1 q2 => ?_, rl.pin, fun i d q => ?_, fun i ys q hs => ?_, rl.injS⟩, ?_⟩
    · by_cases hb : b = p
      · subst hb
        rw [upd_same] at q
        cases q
        exact h1
      · rw [upd_ne hb] at q
        exact rl.gh _ _ q
    · by_cases hb : a = p
      · subst hb
        exact absurd h4 q1
      · rw [upd_ne hb] at q2
        exact rl.gf a q1 q2
    · obtain ⟨v, q1, q2⟩ := rl.dat i d q
      exact ⟨v, q1, dp_same sm _ _ q2⟩
    · obtain ⟨p', vs', q1, q2, q3, q4, q5⟩ := rl.ow i ys q hs
      refine ⟨p', vs', q1, q2, q3.same sm, ?_, q5⟩
      rw [upd_ne]
      · exact q4
      · intro z
        subst z
        exact h5 i ys q hs q1
    · exact .lst (.inl (.inl upd_same)) (dpAll_same sm _ _ h2)
theorem NewV.vrep (rl : Rel K f G H σ ρ) (g : Grow G H G' H') (h : NewV K H G' H' v r) : VRep K f G' H' σ ρ v r := by
  cases r with
  | d x => exact h
  | b i => exact h.elim
  | o xs =>
    obtain ⟨p, vs, rfl, h1, h2, h3, h4⟩ := h
    refine ⟨p, vs, rfl, h2, h3, h4, rl.fh.free h1, fun i ys q hs z => ?_⟩
    obtain ⟨p', vs', q1, q2, _⟩ := rl.ow i ys q hs
    rw [z] at q1
    cases q1
    rw [h1] at q2
    cases q2
end

/-! ### judgements -/
abbrev Wish := L2.St → Nat → Hp → Prop
section
variable (K : PySem.W.Frag) (P : Nat) (W : Wish)
def CE (f : Fx) (G : Hp) (σ : L2.St) (Q : VK) : Res R → Prop
  | .no => False
  | .ok r ρ => ∀ v G' H', Same G G' → Rel K f G' H' σ ρ → VRep K f G' H' σ ρ v r → Q v H'
  | .exc c ρ => ∀ G' H', Same G G' → Rel K f G' H' σ ρ → W σ c H'
def CO (f : Fx) (G : Hp) (σ : L2.St) (Q : VK) : Res R → Prop
  | .no => False
  | .ok r ρ => ∀ v G' H', Same G G' → Rel K f G' H' σ ρ → Hold K G' σ v r → Q v H'
  | .exc c ρ => ∀ G' H', Same G G' → Rel K f G' H' σ ρ → W σ c H'
def CT (f : Fx) (G : Hp) (σ : L2.St) (Q : Bool → Hp → Prop) : Res Bool → Prop
  | .no => False
  | .ok b ρ => ∀ G' H', Same G G' → Rel K f G' H' σ ρ → Q b H'
  | .exc c ρ => ∀ G' H', Same G G' → Rel K f G' H' σ ρ → W σ c H'
inductive HoldAll (G : Hp) (σ : L2.St) : List V → List R → Prop
  | nil : HoldAll G σ [] []
  | cons {v : V} {vs : List V} {r : R} {rs : List R} : Hold K G σ v r → HoldAll G σ vs rs → HoldAll G σ (v :: vs) (r :: rs)
def CA (f : Fx) (G : Hp) (σ : L2.St) (Q : List V → Hp → Prop) : Res (List R) → Prop
  | .no => False
  | .ok rs ρ => ∀ vs G' H', Same G G' → Rel K f G' H' σ ρ → HoldAll K G' σ vs rs → Q vs H'
  | .exc c ρ => ∀ G' H', Same G G' → Rel K f G' H' σ ρ → W σ c H'
def SimE (t : TE) (m : Env → Res R) : Prop := ∀ (f : Fx) (G H : Hp) (σ : L2.St) (ρ : Env) (Q : VK), f.pins.length = P → Rel K f G H σ ρ → CE K W f G σ Q (m ρ) → t σ H Q
def SimT (t : TT) (m : Env → Res Bool) : Prop := ∀ (f : Fx) (G H : Hp) (σ : L2.St) (ρ : Env) (Q : Bool → Hp → Prop), f.pins.length = P → Rel K f G H σ ρ → CT K W f G σ Q (m ρ) → t σ H Q
def SimA (t : TA) (m : Env → Res (List R)) : Prop := ∀ (f : Fx) (G H : Hp) (σ : L2.St) (ρ : Env) (Q : List V → Hp → Prop), f.pins.length = P → Rel K f G H σ ρ → CA K W f G σ Q (m ρ) → t σ H Q
end

section
variable {K : PySem.W.Frag} {P : Nat} {W : Wish} {f : Fx} {G H G' H' : Hp} {σ : L2.St} {ρ : Env} {ta tb te : TE} {ma mb me : Env → Res R}
theorem CE.same {Q : VK} {r : Res R} (e : Same G G') (h : CE K W f G σ Q r) : CE K W f G' σ Q r := by
  cases r with
  | no => exact h
  | ok x ρ => exact fun v G1 H1 s => h v G1 H1 (e.trans s)
  | exc c ρ => exact fun G1 H1 s => h G1 H1 (e.trans s)
theorem CO.same {Q : VK} {r : Res R} (e : Same G G') (h : CO K W f G σ Q r) : CO K W f G' σ Q r := by
  cases r with
  | no => exact h
  | ok x ρ => exact fun v G1 H1 s => h v G1 H1 (e.trans s)
  | exc c ρ => exact fun G1 H1 s => h G1 H1 (e.trans s)
theorem CT.same {Q : Bool → Hp → Prop} {r : Res Bool} (e : Same G G') (h : CT K W f G σ Q r) : CT K W f G' σ Q r := by
  cases r with
  | no => exact h
  | ok x ρ => exact fun G1 H1 s => h G1 H1 (e.trans s)
  | exc c ρ => exact fun G1 H1 s => h G1 H1 (e.trans s)
theorem CA.same {Q : List V → Hp → Prop} {r : Res (List R)} (e : Same G G') (h : CA K W f G σ Q r) : CA K W f G' σ Q r := by
  cases r with
  | no => exact h
  | ok x ρ => exact fun v G1 H1 s => h v G1 H1 (e.trans s)
  | exc c ρ => exact fun G1 H1 s => h G1 H1 (e.trans s)
/-- as an operand -/
theorem SimE.op (h : SimE K P W te me) {Q : VK} (hp : f.pins.length = P) (rl : Rel K f G H σ ρ) (hq : CO K W f G σ Q (me ρ)) : te σ H Q := by
  refine h f G H σ ρ Q hp rl ?_
  cases e : me ρ with
  | no => rw [e] at hq; exact hq
  | exc c ρ' => rw [e] at hq; exact hq
  | ok r ρ' =>
    rw [e] at hq
    intro v G1 H1 s1 r1 v1
    obtain ⟨G2, s2, r2, v2⟩ := v1.hold r1
    exact hq v G2 H1 (s1.trans s2) r2 v2
end

/-! ### names, constants -/
def mVar (i : Nat) : Env → Res R := fun ρ => match ρ[i]? with
  | some (some (S.d x)) => .ok (.d x) ρ
  | some (some (S.o _)) => .ok (.b i) ρ
  | some (some (S.m _ _)) => .ok (.b i) ρ
  | _ => .no
def mC (x : D) : Env → Res R := fun ρ => .ok (.d x) ρ
inductive CV : V → D → Prop
  | non : CV .non .none
  | bl (b : Bool) : CV (.bl b) (.bool b)
  | int (i : Int) : CV (.int i) (.int i)
  | str (x : Str) : CV (.str x) (.str x)
theorem CV.dp {K : PySem.W.Frag} {G : Hp} {v : V} {d : D} (h : CV v d) : Dp K G v d := by
  cases h with
  | non => exact .non
  | bl b => exact .bl b
  | int i => exact .int i
  | str x => exact .str x
section
variable {K : PySem.W.Frag} {P : Nat} {W : Wish}
theorem sim_var {i : Nat} : SimE K P W (tVar i) (mVar i) := by
  intro f G H σ ρ Q hp rl hq
  unfold mVar at hq
  split at hq
  · next x e =>
    obtain ⟨v, h1, h2⟩ := rl.dat i _ e
    exact ⟨v, h1, hq v G H (.refl _) rl h2⟩
  · next xs e =>
    obtain ⟨p, vs, h1, h2, _⟩ := rl.own i _ e
    exact ⟨_, h1, hq _ G H (.refl _) rl h1⟩
  · next xs e =>
    obtain ⟨p, o, h1, h2, _⟩ := rl.ow i _ e rfl
    exact ⟨_, h1, hq _ G H (.refl _) rl h1⟩
  · exact hq.elim
theorem sim_c {v : V} {x : D} (h : CV v x) : SimE K P W (tC v) (mC x) := fun f G H σ ρ Q hp rl hq => hq v G H (.refl _) rl h.dp
end

/-! ### operators -/
def mUn (g : D → Option R) (ma : Env → Res R) : Env → Res R := fun ρ => (ma ρ).bind fun r1 ρ1 => match opd ρ1 r1 with
  | some x => (match g x with
    | some z => .ok z ρ1
    | none => .no)
  | none => .no
def mBin (g : D → D → Option R) (ma mb : Env → Res R) : Env → Res R := fun ρ => (ma ρ).bind fun r1 ρ1 => (mb ρ1).bind fun r2 ρ2 => match opd ρ2 r1, opd ρ2 r2 with
  | some x, some y => (match g x y with
    | some z => .ok z ρ2
    | none => .no)
  | _, _ => .no
def OpS (K : PySem.W.Frag) (r : R2) (g : D → D → Option R) : Prop := ∀ (G H : Hp) (x y : V) (d e : D) (z : R) (Q : VK), Same G H → Got K G H x d → Got K G H y e → g d e = some z →
  (∀ v G' H', Grow G H G' H' → NewV K H G' H' v z → Q v H') → r x y H Q
def UnS (K : PySem.W.Frag) (r : V → Hp → VK → Prop) (g : D → Option R) : Prop := ∀ (G H : Hp) (x : V) (d : D) (z : R) (Q : VK), Same G H → Got K G H x d → g d = some z →
  (∀ v G' H', Grow G H G' H' → NewV K H G' H' v z → Q v H') → r x H Q
section
variable {K : PySem.W.Frag} {P : Nat} {W : Wish} {ta tb : TE} {ma mb : Env → Res R}
theorem sim_op {r : R2} {g : D → D → Option R} (h : OpS K r g) (ha : SimE K P W ta ma) (hb : SimE K P W tb mb) : SimE K P W (tOp r ta tb) (mBin g ma mb) := by
  intro f G H σ ρ Q hp rl hq
  refine ha.op hp rl ?_
  unfold mBin at hq
  cases e1 : ma ρ with
  | no => rw [e1] at hq; exact hq
  | exc c ρ1 => rw [e1] at hq; exact hq
  | ok r1 ρ1 =>
    rw [e1] at hq
    intro v1 G1 H1 s1 rl1 h1
    refine hb.op hp rl1 ?_
    have hq : CE K W f G σ Q ((mb ρ1).bind fun r2 ρ2 => match opd ρ2 r1, opd ρ2 r2 with
      | some x, some y => (match g x y with
        | some z => .ok z ρ2
        | none => .no)
      | _, _ => .no) := hq
    cases e2 : mb ρ1 with
    | no => rw [e2] at hq; exact hq
    | exc c ρ2 => rw [e2] at hq; exact CE.same s1 hq
    | ok r2 ρ2 =>
      rw [e2] at hq
      intro v2 G2 H2 s2 rl2 h2
      have hq : CE K W f G σ Q (match opd ρ2 r1, opd ρ2 r2 with
        | some x, some y => (match g x y with
          | some z => .ok z ρ2
          | none => .no)
        | _, _ => .no) := hq
      split at hq
      · next x y ex ey =>
        split at hq
        · next z ez =>
          refine h G2 H2 v1 v2 x y z Q rl2.gh ((h1.same s2).got rl2 ex) (h2.got rl2 ey) ez fun v G3 H3 gr nv => ?_
          exact hq v G3 H3 ((s1.trans s2).trans gr.1) (rl2.grow gr) (nv.vrep rl2 gr)
        · exact hq.elim
      · exact hq.elim
theorem sim_un {r : V → Hp → VK → Prop} {g : D → Option R} (h : UnS K r g) (ha : SimE K P W ta ma) : SimE K P W (tUn r ta) (mUn g ma) := by
  intro f G H σ ρ Q hp rl hq
  refine ha.op hp rl ?_
  unfold mUn at hq
  cases e1 : ma ρ with
  | no => rw [e1] at hq; exact hq
  | exc c ρ1 => rw [e1] at hq; exact hq
  | ok r1 ρ1 =>
    rw [e1] at hq
    intro v1 G1 H1 s1 rl1 h1
    have hq : CE K W f G σ Q (match opd ρ1 r1 with
      | some x => (match g x with
        | some z => .ok z ρ1
        | none => .no)
      | none => .no) := hq
    split at hq
    · next x ex =>
      split at hq
      · next z ez =>
        refine h G1 H1 v1 x z Q rl1.gh (h1.got rl1 ex) ez fun v G3 H3 gr nv => ?_
        exact hq v G3 H3 (s1.trans gr.1) (rl1.grow gr) (nv.vrep rl1 gr)
      · exact hq.elim
    · exact hq.elim
end
end Z
namespace Z
open PySem L2

/-! ### tests -/
def mTest (me : Env → Res R) : Env → Res Bool := fun ρ => (me ρ).bind fun r ρ1 => match r with
  | .d (.bool k) => .ok k ρ1
  | _ => .no
def tru : D → Option Bool
  | .none => some false
  | .bool b => some b
  | .int i => some (i != 0)
  | .list xs => some (!xs.isEmpty)
  | .tuple xs => some (!xs.isEmpty)
  | _ => none
def mTru (me : Env → Res R) : Env → Res Bool := fun ρ => (me ρ).bind fun r ρ1 => match opd ρ1 r with
  | some x => (match tru x with
    | some b => .ok b ρ1
    | none => .no)
  | none => .no
def mNot (mt : Env → Res Bool) : Env → Res Bool := fun ρ => (mt ρ).bind fun b ρ1 => .ok (!b) ρ1
def mAnd (mt mu : Env → Res Bool) : Env → Res Bool := fun ρ => (mt ρ).bind fun b ρ1 => if b = true then mu ρ1 else .ok false ρ1
def mOr (mt mu : Env → Res Bool) : Env → Res Bool := fun ρ => (mt ρ).bind fun b ρ1 => if b = true then .ok true ρ1 else mu ρ1
def mYes : Env → Res Bool := fun ρ => .ok true ρ
def mNotV (ma : Env → Res R) : Env → Res R := fun ρ => (ma ρ).bind fun r ρ1 => match r with
  | .d (.bool k) => .ok (.d (.bool (!k))) ρ1
  | _ => .no
def mAndV (ma mb : Env → Res R) : Env → Res R := fun ρ => (ma ρ).bind fun r ρ1 => match r with
  | .d (.bool k) => if k = true then mb ρ1 else .ok (.d (.bool false)) ρ1
  | _ => .no
def mOrV (ma mb : Env → Res R) : Env → Res R := fun ρ => (ma ρ).bind fun r ρ1 => match r with
  | .d (.bool k) => if k = true then .ok (.d (.bool true)) ρ1 else mb ρ1
  | _ => .no
def mIf (mt : Env → Res Bool) (ma mb : Env → Res R) : Env → Res R := fun ρ => (mt ρ).bind fun b ρ1 => if b = true then ma ρ1 else mb ρ1
def zTru (K : PySem.W.Frag) (te : TE) : TT := fun σ H Q => te σ H fun x H' => ∃ k, TruV K x H' k ∧ Q k H'
theorem zpt_tru {X : Cx} {a : Expr} {ta : TE} (K : PySem.W.Frag) (ha : PE X a ta) (hK : X.K = K := by rfl) (he : ∀ whole, isTrue a X.env whole = (do let v ← whole; standAt a.pos; holding [v] (truthy v)) := by intro _; rfl) : PT X a (zTru K ta) := by
  subst hK
  exact pt_truth ha he

section
variable {K : PySem.W.Frag} {P : Nat} {W : Wish} {te ta tb : TE} {me ma mb : Env → Res R} {t u : TT} {mt mu : Env → Res Bool}
theorem dpAll_empty {G : Hp} {vs : List V} {ds : List D} (h : DpAll K G vs ds) : (!vs.isEmpty) = (!ds.isEmpty) := by
  cases h <;> rfl
theorem tru_got {G H : Hp} {v : V} {x : D} {b : Bool} (e : Same G H) (h : Got K G H v x) (ht : tru x = some b) : TruV K v H b := by
  cases x with
  | none => rw [h.none]; cases ht; exact rfl
  | bool k => rw [h.bool]; cases ht; exact rfl
  | int i => rw [h.int]; cases ht; exact rfl
  | str s => cases ht
  | list xs =>
    cases ht
    obtain ⟨a, vs, rfl, h1, h2⟩ := h.lst e
    exact .inl ⟨vs, h1, (dpAll_empty h2).symm⟩
  | tuple xs =>
    cases ht
    obtain ⟨a, vs, rfl, h1, h2⟩ := h.tup e
    exact .inr (.inl ⟨vs, h1, (dpAll_empty h2).symm⟩)
  | dict _ => cases ht
theorem sim_test (h : SimE K P W te me) : SimT K P W (tTest te) (mTest me) := by
  intro f G H σ ρ Q hp rl hq
  refine h.op hp rl ?_
  unfold mTest at hq
  cases e1 : me ρ with
  | no => rw [e1] at hq; exact hq
  | exc c ρ1 => rw [e1] at hq; exact hq
  | ok r1 ρ1 =>
    rw [e1] at hq
    intro v1 G1 H1 s1 rl1 h1
    cases r1 with
    | o xs => exact hq.elim
    | b i => exact hq.elim
    | d x =>
      cases x with
      | bool k =>
        have e : v1 = .bl k := dp_bool h1
        subst e
        exact ⟨k, rfl, hq G1 H1 s1 rl1⟩
      | _ => exact hq.elim
theorem sim_tru (h : SimE K P W te me) : SimT K P W (zTru K te) (mTru me) := by
  intro f G H σ ρ Q hp rl hq
  refine h.op hp rl ?_
  unfold mTru at hq
  cases e1 : me ρ with
  | no => rw [e1] at hq; exact hq
  | exc c ρ1 => rw [e1] at hq; exact hq
  | ok r1 ρ1 =>
    rw [e1] at hq
    intro v1 G1 H1 s1 rl1 h1
    have hq : CT K W f G σ Q (match opd ρ1 r1 with
      | some x => (match tru x with
        | some b => .ok b ρ1
        | none => .no)
      | none => .no) := hq
    split at hq
    · next x ex =>
      split at hq
      · next b eb => exact ⟨b, tru_got rl1.gh (h1.got rl1 ex) eb, hq G1 H1 s1 rl1⟩
      · exact hq.elim
    · exact hq.elim
theorem sim_yes : SimT K P W tYes mYes := fun f G H σ ρ Q hp rl hq => hq G H (.refl _) rl
theorem sim_not (h : SimT K P W t mt) : SimT K P W (tNot t) (mNot mt) := by
  intro f G H σ ρ Q hp rl hq
  refine h f G H σ ρ _ hp rl ?_
  unfold mNot at hq
  cases e1 : mt ρ with
  | no => rw [e1] at hq; exact hq
  | exc c ρ1 => rw [e1] at hq; exact hq
  | ok b ρ1 => rw [e1] at hq; exact hq
theorem sim_and (h : SimT K P W t mt) (h2 : SimT K P W u mu) : SimT K P W (tAnd t u) (mAnd mt mu) := by
  intro f G H σ ρ Q hp rl hq
  refine h f G H σ ρ _ hp rl ?_
  unfold mAnd at hq
  cases e1 : mt ρ with
  | no => rw [e1] at hq; exact hq
  | exc c ρ1 => rw [e1] at hq; exact hq
  | ok b ρ1 =>
    rw [e1] at hq
    intro G1 H1 s1 rl1
    cases b with
    | true =>
      rw [if_pos rfl]
      exact h2 f G1 H1 σ ρ1 Q hp rl1 (CT.same s1 hq)
    | false =>
      rw [if_neg Bool.false_ne_true]
      exact hq G1 H1 s1 rl1
theorem sim_or (h : SimT K P W t mt) (h2 : SimT K P W u mu) : SimT K P W (tOr t u) (mOr mt mu) := by
  intro f G H σ ρ Q hp rl hq
  refine h f G H σ ρ _ hp rl ?_
  unfold mOr at hq
  cases e1 : mt ρ with
  | no => rw [e1] at hq; exact hq
  | exc c ρ1 => rw [e1] at hq; exact hq
  | ok b ρ1 =>
    rw [e1] at hq
    intro G1 H1 s1 rl1
    cases b with
    | true =>
      rw [if_pos rfl]
      exact hq G1 H1 s1 rl1
    | false =>
      rw [if_neg Bool.false_ne_true]
      exact h2 f G1 H1 σ ρ1 Q hp rl1 (CT.same s1 hq)
theorem sim_if (h : SimT K P W t mt) (h1 : SimE K P W ta ma) (h2 : SimE K P W tb mb) : SimE K P W (tIf t ta tb) (mIf mt ma mb) := by
  intro f G H σ ρ Q hp rl hq
  refine h f G H σ ρ _ hp rl ?_
  unfold mIf at hq
  cases e1 : mt ρ with
  | no => rw [e1] at hq; exact hq
  | exc c ρ1 => rw [e1] at hq; exact hq
  | ok b ρ1 =>
    rw [e1] at hq
    intro G1 H1 s1 rl1
    cases b with
    | true =>
      rw [if_pos rfl]
      exact h1 f G1 H1 σ ρ1 Q hp rl1 (CE.same s1 hq)
    | false =>
      rw [if_neg Bool.false_ne_true]
      exact h2 f G1 H1 σ ρ1 Q hp rl1 (CE.same s1 hq)
theorem sim_notV (h : SimE K P W te me) : SimE K P W (tNotV te) (mNotV me) := by
  intro f G H σ ρ Q hp rl hq
  refine h.op hp rl ?_
  unfold mNotV at hq
  cases e1 : me ρ with
  | no => rw [e1] at hq; exact hq
  | exc c ρ1 => rw [e1] at hq; exact hq
  | ok r1 ρ1 =>
    rw [e1] at hq
    intro v1 G1 H1 s1 rl1 h1
    cases r1 with
    | o xs => exact hq.elim
    | b i => exact hq.elim
    | d x =>
      cases x with
      | bool k =>
        have e : v1 = .bl k := dp_bool h1
        subst e
        exact ⟨k, rfl, hq _ G1 H1 s1 rl1 (.bl _)⟩
      | _ => exact hq.elim
theorem sim_andV (h : SimE K P W ta ma) (h2 : SimE K P W tb mb) : SimE K P W (tAndV ta tb) (mAndV ma mb) := by
  intro f G H σ ρ Q hp rl hq
  refine h.op hp rl ?_
  unfold mAndV at hq
  cases e1 : ma ρ with
  | no => rw [e1] at hq; exact hq
  | exc c ρ1 => rw [e1] at hq; exact hq
  | ok r1 ρ1 =>
    rw [e1] at hq
    intro v1 G1 H1 s1 rl1 h1
    cases r1 with
    | o xs => exact hq.elim
    | b i => exact hq.elim
    | d x =>
      cases x with
      | bool k =>
        have e : v1 = .bl k := dp_bool h1
        subst e
        refine ⟨k, rfl, ?_⟩
        cases k with
        | true =>
          rw [if_pos rfl]
          exact h2 f G1 H1 σ ρ1 Q hp rl1 (CE.same s1 hq)
        | false =>
          rw [if_neg Bool.false_ne_true]
          exact hq _ G1 H1 s1 rl1 (.bl _)
      | _ => exact hq.elim
theorem sim_orV (h : SimE K P W ta ma) (h2 : SimE K P W tb mb) : SimE K P W (tOrV ta tb) (mOrV ma mb) := by
  intro f G H σ ρ Q hp rl hq
  refine h.op hp rl ?_
  unfold mOrV at hq
  cases e1 : ma ρ with
  | no => rw [e1] at hq; exact hq
  | exc c ρ1 => rw [e1] at hq; exact hq
  | ok r1 ρ1 =>
    rw [e1] at hq
    intro v1 G1 H1 s1 rl1 h1
    cases r1 with
    | o xs => exact hq.elim
    | b i => exact hq.elim
    | d x =>
      cases x with
      | bool k =>
        have e : v1 = .bl k := dp_bool h1
        subst e
        refine ⟨k, rfl, ?_⟩
        cases k with
        | true =>
          rw [if_pos rfl]
          exact hq _ G1 H1 s1 rl1 (.bl _)
        | false =>
          rw [if_neg Bool.false_ne_true]
          exact h2 f G1 H1 σ ρ1 Q hp rl1 (CE.same s1 hq)
      | _ => exact hq.elim
end

/-! ### making slots data; lists of operands -/
def frz1 (P : Nat) (ρ : Env) : R → Option Env
  | .b i => (match ρ[i]? with
    | some (some (S.o xs)) => if P ≤ i then some (ρ.set i (some (S.d (.list xs)))) else none
    | _ => some ρ)
  | _ => some ρ
def frzA (P : Nat) : List R → Env → Option Env
  | [], ρ => some ρ
  | r :: rs, ρ => (match frz1 P ρ r with
    | some ρ1 => frzA P rs ρ1
    | none => none)
def dopd (ρ : Env) : R → Option D
  | .d x => some x
  | .o xs => some (.list xs)
  | .b i => (match ρ[i]? with
    | some (some (S.d x)) => some x
    | _ => none)
def opds (ρ : Env) : List R → Option (List D)
  | [] => some []
  | r :: rs => (match opd ρ r, opds ρ rs with
    | some x, some xs => some (x :: xs)
    | _, _ => none)
def dopds (ρ : Env) : List R → Option (List D)
  | [] => some []
  | r :: rs => (match dopd ρ r, dopds ρ rs with
    | some x, some xs => some (x :: xs)
    | _, _ => none)
inductive GotAll (K : PySem.W.Frag) (G H : Hp) : List V → List D → Prop
  | nil : GotAll K G H [] []
  | cons {v : V} {vs : List V} {d : D} {ds : List D} : Got K G H v d → GotAll K G H vs ds → GotAll K G H (v :: vs) (d :: ds)
section
variable {K : PySem.W.Frag} {P : Nat} {W : Wish} {f : Fx} {G H G' H' : Hp} {σ : L2.St} {ρ ρ' : Env} {v : V} {r : R} {d : D} {vs : List V} {rs : List R} {ds : List D}
theorem Rel.freeze {i : Nat} {xs : List D} (rl : Rel K f G H σ ρ) (hp : f.pins.length = P) (hi : P ≤ i) (e : ρ[i]? = some (some (S.o xs))) : ∃ G', Same G G' ∧ Rel K f G' H σ (ρ.set i (some (S.d (.list xs)))) := by
  obtain ⟨p, vs, h1, h2, h3, h4, h5⟩ := rl.own i xs e
  have hil : i < ρ.length := (List.getElem?_eq_some_iff.mp e).1
  have sm : Same G (upd G p (.lst vs)) := same_new h4
  have own' : ∀ (j : Nat) (s : S), (ρ.set i (some (S.d (.list xs))))[j]? = some (some s) → s.own = true → j ≠ i ∧ ρ[j]? = some (some s) := by
    intro j ys q hs
    by_cases hj : i = j
    · subst hj
      rw [List.getElem?_set_self hil] at q
      cases q
      cases hs
    · rw [List.getElem?_set_ne hj] at q
      exact ⟨fun z => hj z.symm, q⟩
  refine ⟨upd G p (.lst vs), sm, ⟨by rw [List.length_set]; exact rl.len, fun b x q => ?_, rl.fh, rl.g0.trans sm, fun a q1 q2 => ?_, fun j b q => ?_, fun j d q => ?_, fun j ys q hs => ?_, fun j k p' ys zs q1 q2 hs1 hs2 q3 q4 => ?_⟩⟩
  · by_cases hb : b = p
    · subst hb
      rw [upd_same] at q
      cases q
      exact h2
    · rw [upd_ne hb] at q
      exact rl.gh _ _ q
  · by_cases hb : a = p
    · subst hb
      exact absurd h5 q1
    · rw [upd_ne hb] at q2
      exact rl.gf a q1 q2
  · have hj : j < P := by
      have := (List.getElem?_eq_some_iff.mp q).1
      omega
    obtain ⟨q1, ys, q2⟩ := rl.pin j b q
    exact ⟨q1, ys, by rw [List.getElem?_set_ne (by omega)]; exact q2⟩
  · by_cases hj : i = j
    · subst hj
      rw [List.getElem?_set_self hil] at q
      cases q
      exact ⟨_, h1, .lst (.inl (.inl upd_same)) (dpAll_same sm _ _ h3)⟩
    · rw [List.getElem?_set_ne hj] at q
      obtain ⟨v, q1, q2⟩ := rl.dat j d q
      exact ⟨v, q1, dp_same sm _ _ q2⟩
  · obtain ⟨hj, q⟩ := own' j ys q hs
    obtain ⟨p', vs', q1, q2, q3, q4, q5⟩ := rl.ow j ys q hs
    refine ⟨p', vs', q1, q2, q3.same sm, ?_, q5⟩
    rw [upd_ne]
    · exact q4
    · intro z
      subst z
      exact hj (rl.injS j i p' ys (.o xs) q e hs rfl q1 h1)
  · exact rl.injS j k p' ys zs (own' j ys q1 hs1).2 (own' k zs q2 hs2).2 hs1 hs2 q3 q4
theorem Rel.frz1 (rl : Rel K f G H σ ρ) (hp : f.pins.length = P) (e : frz1 P ρ r = some ρ') : ∃ G', Same G G' ∧ Rel K f G' H σ ρ' := by
  cases r with
  | d x => cases e; exact ⟨G, .refl _, rl⟩
  | o xs => cases e; exact ⟨G, .refl _, rl⟩
  | b i =>
    simp only [Z.frz1] at e
    split at e
    · next xs q =>
      split at e
      · next hi =>
        cases e
        exact rl.freeze hp hi q
      · cases e
    · cases e
      exact ⟨G, .refl _, rl⟩
theorem Rel.frzA (rl : Rel K f G H σ ρ) (hp : f.pins.length = P) (e : frzA P rs ρ = some ρ') : ∃ G', Same G G' ∧ Rel K f G' H σ ρ' := by
  induction rs generalizing ρ G with
  | nil => cases e; exact ⟨G, .refl _, rl⟩
  | cons r rs ih =>
    unfold Z.frzA at e
    split at e
    · next ρ1 q =>
      obtain ⟨G1, s1, rl1⟩ := rl.frz1 hp q
      obtain ⟨G2, s2, rl2⟩ := ih rl1 e
      exact ⟨G2, s1.trans s2, rl2⟩
    · cases e
theorem Hold.dat (rl : Rel K f G H σ ρ) (h : Hold K G σ v r) (e : dopd ρ r = some d) : Dp K G v d := by
  cases r with
  | d x => cases e; exact h
  | o xs => cases e; exact h
  | b i =>
    simp only [dopd] at e
    split at e
    · next x q =>
      cases e
      obtain ⟨u, q1, q2⟩ := rl.dat i _ q
      have h3 : σ[i]? = some (some v) := h
      rw [h3] at q1
      cases q1
      exact q2
    · cases e
theorem HoldAll.same (e : Same G G') (h : HoldAll K G σ vs rs) : HoldAll K G' σ vs rs := by
  induction h with
  | nil => exact .nil
  | cons h1 _ ih => exact .cons (h1.same e) ih
theorem HoldAll.got (rl : Rel K f G H σ ρ) (h : HoldAll K G σ vs rs) : ∀ {ds : List D}, opds ρ rs = some ds → GotAll K G H vs ds := by
  induction h with
  | nil => intro ds e; cases e; exact .nil
  | cons h1 _ ih =>
    intro ds e
    unfold opds at e
    split at e
    · next x xs q1 q2 =>
      cases e
      exact .cons (h1.got rl q1) (ih q2)
    · cases e
theorem HoldAll.dat (rl : Rel K f G H σ ρ) (h : HoldAll K G σ vs rs) : ∀ {ds : List D}, dopds ρ rs = some ds → DpAll K G vs ds := by
  induction h with
  | nil => intro ds e; cases e; exact .nil
  | cons h1 _ ih =>
    intro ds e
    unfold dopds at e
    split at e
    · next x xs q1 q2 =>
      cases e
      exact .cons (h1.dat rl q1) (ih q2)
    · cases e
theorem GotAll.dp (e : Same G H) (h : GotAll K G H vs ds) : DpAll K H vs ds := by
  induction h with
  | nil => exact .nil
  | cons h1 _ ih => exact .cons (h1.dp e) ih
end

/-! ### argument lists, displays -/
def mNil : Env → Res (List R) := fun ρ => .ok [] ρ
def mCons (ma : Env → Res R) (ms : Env → Res (List R)) : Env → Res (List R) := fun ρ => (ma ρ).bind fun r ρ1 => (ms ρ1).bind fun rs ρ2 => .ok (r :: rs) ρ2
def mTup (P : Nat) (ms : Env → Res (List R)) : Env → Res R := fun ρ => (ms ρ).bind fun rs ρ1 => match frzA P rs ρ1 with
  | some ρ2 => (match dopds ρ2 rs with
    | some ds => if ds.length ≤ 1000 then .ok (.d (.tuple ds)) ρ2 else .no
    | none => .no)
  | none => .no
def mLst (P : Nat) (ms : Env → Res (List R)) : Env → Res R := fun ρ => (ms ρ).bind fun rs ρ1 => match frzA P rs ρ1 with
  | some ρ2 => (match dopds ρ2 rs with
    | some ds => if ds.length ≤ 1000 then .ok (.o ds) ρ2 else .no
    | none => .no)
  | none => .no
theorem line1000 {n : Nat} (h : n ≤ 1000) : n ≤ sizeLine := Nat.le_trans h (by decide)
section
variable {K : PySem.W.Frag} {P : Nat} {W : Wish} {ta te : TE} {ts : TA} {ma me : Env → Res R} {ms : Env → Res (List R)}
theorem sim_nil : SimA K P W tNil mNil := fun f G H σ ρ Q hp rl hq => hq [] G H (.refl _) rl .nil
theorem sim_cons (ha : SimE K P W ta ma) (hs : SimA K P W ts ms) : SimA K P W (tCons ta ts) (mCons ma ms) := by
  intro f G H σ ρ Q hp rl hq
  refine ha.op hp rl ?_
  unfold mCons at hq
  cases e1 : ma ρ with
  | no => rw [e1] at hq; exact hq
  | exc c ρ1 => rw [e1] at hq; exact hq
  | ok r1 ρ1 =>
    rw [e1] at hq
    intro v1 G1 H1 s1 rl1 h1
    refine hs f G1 H1 σ ρ1 _ hp rl1 ?_
    have hq : CA K W f G σ Q ((ms ρ1).bind fun rs ρ2 => .ok (r1 :: rs) ρ2) := hq
    cases e2 : ms ρ1 with
    | no => rw [e2] at hq; exact hq
    | exc c ρ2 => rw [e2] at hq; exact CA.same s1 hq
    | ok rs ρ2 =>
      rw [e2] at hq
      intro vs G2 H2 s2 rl2 h2
      exact hq (v1 :: vs) G2 H2 (s1.trans s2) rl2 (.cons (h1.same s2) h2)
theorem sim_tup (h : SimA K P W ts ms) : SimE K P W (tTup ts) (mTup P ms) := by
  intro f G H σ ρ Q hp rl hq
  refine h f G H σ ρ _ hp rl ?_
  unfold mTup at hq
  cases e1 : ms ρ with
  | no => rw [e1] at hq; exact hq
  | exc c ρ1 => rw [e1] at hq; exact hq
  | ok rs ρ1 =>
    rw [e1] at hq
    intro vs G1 H1 s1 rl1 h1
    have hq : CE K W f G σ Q (match frzA P rs ρ1 with
      | some ρ2 => (match dopds ρ2 rs with
        | some ds => if ds.length ≤ 1000 then .ok (.d (.tuple ds)) ρ2 else .no
        | none => .no)
      | none => .no) := hq
    split at hq
    · next ρ2 e2 =>
      split at hq
      · next ds e3 =>
        split at hq
        · next hl =>
          obtain ⟨G2, s2, rl2⟩ := rl1.frzA hp e2
          have hd : DpAll K G2 vs ds := (h1.same s2).dat rl2 e3
          refine ⟨line1000 (by rw [dpAll_len hd]; exact hl), fun p np => ?_⟩
          have gr := Grow.data (o := HO.tup vs) rl2.gh np
          exact hq _ _ _ ((s1.trans s2).trans gr.1) (rl2.grow gr) (.tup (.inl (.inl upd_same)) (dpAll_same gr.1 _ _ hd))
        · exact hq.elim
      · exact hq.elim
    · exact hq.elim
theorem sim_lst (h : SimA K P W ts ms) : SimE K P W (tLst ts) (mLst P ms) := by
  intro f G H σ ρ Q hp rl hq
  refine h f G H σ ρ _ hp rl ?_
  unfold mLst at hq
  cases e1 : ms ρ with
  | no => rw [e1] at hq; exact hq
  | exc c ρ1 => rw [e1] at hq; exact hq
  | ok rs ρ1 =>
    rw [e1] at hq
    intro vs G1 H1 s1 rl1 h1
    have hq : CE K W f G σ Q (match frzA P rs ρ1 with
      | some ρ2 => (match dopds ρ2 rs with
        | some ds => if ds.length ≤ 1000 then .ok (.o ds) ρ2 else .no
        | none => .no)
      | none => .no) := hq
    split at hq
    · next ρ2 e2 =>
      split at hq
      · next ds e3 =>
        split at hq
        · next hl =>
          obtain ⟨G2, s2, rl2⟩ := rl1.frzA hp e2
          have hd : DpAll K G2 vs ds := (h1.same s2).dat rl2 e3
          refine ⟨line1000 (by rw [dpAll_len hd]; exact hl), fun p np => ?_⟩
          have gr := Grow.fresh (o := HO.lst vs) rl2.gh np
          have nv : NewV K H1 G2 (upd H1 p (.lst vs)) (.ref p) (.o ds) := ⟨p, vs, rfl, np, upd_same, hd, rl2.gh.free np⟩
          exact hq _ _ _ (s1.trans s2) (rl2.grow gr) (nv.vrep rl2 gr)
        · exact hq.elim
      · exact hq.elim
    · exact hq.elim
end

/-! ### calls of what is built in -/
def mCB (g : List D → Option R) (ms : Env → Res (List R)) : Env → Res R := fun ρ => (ms ρ).bind fun rs ρ1 => match opds ρ1 rs with
  | some ds => (match g ds with
    | some z => .ok z ρ1
    | none => .no)
  | none => .no
def CallS (K : PySem.W.Frag) (r : List V → Hp → VK → Prop) (g : List D → Option R) : Prop := ∀ (G H : Hp) (xs : List V) (ds : List D) (z : R) (Q : VK), Same G H → GotAll K G H xs ds → g ds = some z →
  (∀ v G' H', Grow G H G' H' → NewV K H G' H' v z → Q v H') → r xs H Q
theorem sim_cb {K : PySem.W.Frag} {P : Nat} {W : Wish} {r : List V → Hp → VK → Prop} {g : List D → Option R} {ts : TA} {ms : Env → Res (List R)} (hr : CallS K r g) (h : SimA K P W ts ms) : SimE K P W (tCB r ts) (mCB g ms) := by
  intro f G H σ ρ Q hp rl hq
  refine h f G H σ ρ _ hp rl ?_
  unfold mCB at hq
  cases e1 : ms ρ with
  | no => rw [e1] at hq; exact hq
  | exc c ρ1 => rw [e1] at hq; exact hq
  | ok rs ρ1 =>
    rw [e1] at hq
    intro vs G1 H1 s1 rl1 h1
    have hq : CE K W f G σ Q (match opds ρ1 rs with
      | some ds => (match g ds with
        | some z => .ok z ρ1
        | none => .no)
      | none => .no) := hq
    split at hq
    · next ds e2 =>
      split at hq
      · next z ez =>
        refine hr G1 H1 vs ds z Q rl1.gh (h1.got rl1 e2) ez fun v G3 H3 gr nv => ?_
        exact hq v G3 H3 (s1.trans gr.1) (rl1.grow gr) (nv.vrep rl1 gr)
      · exact hq.elim
    · exact hq.elim
/-- a chain of two comparisons -/
def mChain (g g' : D → D → Option R) (ma mb mc : Env → Res R) : Env → Res R := fun ρ => (ma ρ).bind fun r1 ρ1 => (mb ρ1).bind fun r2 ρ2 => match opd ρ2 r1, opd ρ2 r2 with
  | some x, some y => (match g x y with
    | some (.d (.bool k)) => if k = true then (mc ρ2).bind fun r3 ρ3 => (match opd ρ3 r2, opd ρ3 r3 with
        | some y', some z => (match g' y' z with
          | some w => .ok w ρ3
          | none => .no)
        | _, _ => .no) else .ok (.d (.bool false)) ρ2
    | _ => .no)
  | _, _ => .no
theorem sim_chain {K : PySem.W.Frag} {P : Nat} {W : Wish} {ta tb tc : TE} {ma mb mc : Env → Res R} {r r' : R2} {g g' : D → D → Option R} (h : OpS K r g) (h' : OpS K r' g') (ha : SimE K P W ta ma) (hb : SimE K P W tb mb) (hc : SimE K P W tc mc) :
    SimE K P W (tChain r r' ta tb tc) (mChain g g' ma mb mc) := by
  intro f G H σ ρ Q hp rl hq
  refine ha.op hp rl ?_
  unfold mChain at hq
  cases e1 : ma ρ with
  | no => rw [e1] at hq; exact hq
  | exc c ρ1 => rw [e1] at hq; exact hq
  | ok r1 ρ1 =>
    rw [e1] at hq
    intro v1 G1 H1 s1 rl1 h1
    refine hb.op hp rl1 ?_
    simp only [Res.bind] at hq
    cases e2 : mb ρ1 with
    | no => rw [e2] at hq; exact hq
    | exc c ρ2 => rw [e2] at hq; exact CE.same s1 hq
    | ok r2 ρ2 =>
      rw [e2] at hq
      intro v2 G2 H2 s2 rl2 h2
      simp only at hq
      split at hq
      · next x y ex ey =>
        split at hq
        · next k ek =>
          refine h G2 H2 v1 v2 x y _ _ rl2.gh ((h1.same s2).got rl2 ex) (h2.got rl2 ey) ek fun v G3 H3 gr nv => ?_
          have ev : v = .bl k := dp_bool nv
          subst ev
          refine ⟨k, rfl, ?_⟩
          have rl3 := rl2.grow gr
          cases k with
          | false =>
            rw [if_neg Bool.false_ne_true]
            exact hq _ G3 H3 ((s1.trans s2).trans gr.1) rl3 (.bl _)
          | true =>
            rw [if_pos rfl]
            rw [if_pos rfl] at hq
            refine hc.op hp rl3 ?_
            have s3 := (s1.trans s2).trans gr.1
            cases e3 : mc ρ2 with
            | no => rw [e3] at hq; exact hq
            | exc c ρ3 => rw [e3] at hq; exact CE.same s3 hq
            | ok r3 ρ3 =>
              rw [e3] at hq
              intro v3 G4 H4 s4 rl4 h4
              simp only at hq
              split at hq
              · next y' z ey' ez =>
                split at hq
                · next w ew =>
                  refine h' G4 H4 v2 v3 y' z w Q rl4.gh ((h2.same (gr.1.trans s4)).got rl4 ey') (h4.got rl4 ez) ew fun v G5 H5 gr5 nv5 => ?_
                  exact hq v G5 H5 ((s3.trans s4).trans gr5.1) (rl4.grow gr5) (nv5.vrep rl4 gr5)
                · exact hq.elim
              · exact hq.elim
        · exact hq.elim
      · exact hq.elim
end Z
namespace Z
open PySem L2

/-! ### statements -/
def RRep (K : PySem.W.Frag) (f : Fx) (G H : Hp) (v : V) : S → Prop
  | .d x => Dp K G v x
  | .m _ _ => False
  | .o xs => ∃ p vs, v = .ref p ∧ H p = some (HO.lst vs) ∧ DpAll K G vs xs ∧ G p = none ∧ f.F p = none ∧ ∀ (i : Nat) (b : Addr), f.pins[i]? = some (some b) → p ≠ b
def CS (K : PySem.W.Frag) (W : Wish) (f : Fx) (G : Hp) (D : Ends) : Out → Prop
  | .no => False
  | .nx ρ => ∀ G' H' σ', Same G G' → Rel K f G' H' σ' ρ → D.nx σ' H'
  | .rt s ρ => ∀ v G' H' σ', Same G G' → Rel K f G' H' σ' ρ → RRep K f G' H' v s → D.rt v H'
  | .bk ρ => ∀ G' H' σ', Same G G' → Rel K f G' H' σ' ρ → D.bk σ' H'
  | .ct ρ => ∀ G' H' σ', Same G G' → Rel K f G' H' σ' ρ → D.ct σ' H'
  | .exc c ρ => ∀ G' H' σ', Same G G' → Rel K f G' H' σ' ρ → W σ' c H'
def SimS (K : PySem.W.Frag) (P : Nat) (W : Wish) (t : TS) (m : Env → Out) : Prop := ∀ (f : Fx) (G H : Hp) (σ : L2.St) (ρ : Env) (D : Ends), f.pins.length = P → Rel K f G H σ ρ → CS K W f G D (m ρ) → t D σ H

def mSeq (ms mt : Env → Out) : Env → Out := fun ρ => match ms ρ with
  | .nx ρ1 => mt ρ1
  | o => o
def mNext : Env → Out := fun ρ => .nx ρ
def mBrk : Env → Out := fun ρ => .bk ρ
def mCt : Env → Out := fun ρ => .ct ρ
def mDrop (me : Env → Res R) : Env → Out := fun ρ => match me ρ with
  | .ok _ ρ1 => .nx ρ1
  | .exc c ρ1 => .exc c ρ1
  | .no => .no
def mRet (P : Nat) (me : Env → Res R) : Env → Out := fun ρ => match me ρ with
  | .ok (.d x) ρ1 => .rt (.d x) ρ1
  | .ok (.o xs) ρ1 => .rt (.o xs) ρ1
  | .ok (.b i) ρ1 => (match ρ1[i]? with
    | some (some (S.d x)) => .rt (.d x) ρ1
    | some (some (S.o xs)) => if P ≤ i then .rt (.o xs) (ρ1.set i none) else .no
    | _ => .no)
  | .exc c ρ1 => .exc c ρ1
  | .no => .no
def mIfS (mt : Env → Res Bool) (m1 m2 : Env → Out) : Env → Out := fun ρ => match mt ρ with
  | .ok b ρ1 => if b = true then m1 ρ1 else m2 ρ1
  | .exc c ρ1 => .exc c ρ1
  | .no => .no
def mAsg (P i : Nat) (me : Env → Res R) : Env → Out := fun ρ => match me ρ with
  | .ok (.d x) ρ1 => .nx (ρ1.set i (some (.d x)))
  | .ok (.o xs) ρ1 => .nx (ρ1.set i (some (.o xs)))
  | .ok (.b j) ρ1 => (match frz1 P ρ1 (.b j) with
    | some ρ2 => (match dopd ρ2 (.b j) with
      | some x => .nx (ρ2.set i (some (.d x)))
      | none => .no)
    | none => .no)
  | .exc c ρ1 => .exc c ρ1
  | .no => .no
def mAug (i : Nat) (g : D → D → Option R) (me : Env → Res R) : Env → Out := fun ρ => match ρ[i]? with
  | some (some (S.d x)) => (match me ρ with
    | .ok r ρ1 => (match opd ρ1 r with
      | some y => (match g x y with
        | some (.d z) => .nx (ρ1.set i (some (.d z)))
        | some (.o zs) => .nx (ρ1.set i (some (.o zs)))
        | _ => .no)
      | none => .no)
    | .exc c ρ1 => .exc c ρ1
    | .no => .no)
  | _ => .no
/-- a method that changes the list of a slot -/
def mMut (P j : Nat) (g : List D → List D → Option (List D)) (ms : Env → Res (List R)) : Env → Out := fun ρ => match ρ[j]? with
  | some (some (S.o _)) => (match ms ρ with
    | .ok rs ρ1 => (match frzA P rs ρ1 with
      | some ρ2 => (match dopds ρ2 rs, ρ2[j]? with
        | some ds, some (some (S.o xs)) => (match g xs ds with
          | some ys => .nx (ρ2.set j (some (S.o ys)))
          | none => .no)
        | _, _ => .no)
      | none => .no)
    | .exc c ρ1 => .exc c ρ1
    | .no => .no)
  | _ => .no
/-- xs[i] = e of a slot's list -/
def mSetI (P j : Nat) (me mi : Env → Res R) : Env → Out := fun ρ => match me ρ with
  | .ok r ρ1 => (match frz1 P ρ1 r with
    | some ρ2 => (match ρ2[j]? with
      | some (some (S.o _)) => (match mi ρ2 with
        | .ok (.d (.int k)) ρ3 => (match dopd ρ3 r, ρ3[j]? with
          | some x, some (some (S.o xs)) => (match ixN xs.length k with
            | some n => .nx (ρ3.set j (some (S.o (xs.set n x))))
            | none => .no)
          | _, _ => .no)
        | .exc c ρ3 => .exc c ρ3
        | _ => .no)
      | _ => .no)
    | none => .no)
  | .exc c ρ1 => .exc c ρ1
  | .no => .no

section
variable {K : PySem.W.Frag} {P : Nat} {W : Wish} {f : Fx} {G H G' H' : Hp} {σ : L2.St} {ρ ρ' : Env} {v : V} {r : R} {d : D} {vs : List V} {rs : List R} {ds : List D}
theorem CS.same {D : Ends} {o : Out} (e : Same G G') (h : CS K W f G D o) : CS K W f G' D o := by
  cases o with
  | no => exact h
  | nx ρ => exact fun G1 H1 σ1 s => h G1 H1 σ1 (e.trans s)
  | rt s ρ => exact fun v G1 H1 σ1 s => h v G1 H1 σ1 (e.trans s)
  | bk ρ => exact fun G1 H1 σ1 s => h G1 H1 σ1 (e.trans s)
  | ct ρ => exact fun G1 H1 σ1 s => h G1 H1 σ1 (e.trans s)
  | exc c ρ => exact fun G1 H1 σ1 s => h G1 H1 σ1 (e.trans s)
/-- a slot is forgotten -/
theorem Rel.forget (rl : Rel K f G H σ ρ) (hp : f.pins.length = P) {i : Nat} (hi : P ≤ i) : Rel K f G H σ (ρ.set i none) := by
  have out : ∀ (j : Nat) (s : S), (ρ.set i none)[j]? = some (some s) → ρ[j]? = some (some s) := by
    intro j s q
    by_cases hj : i = j
    · subst hj
      by_cases hil : i < ρ.length
      · rw [List.getElem?_set_self hil] at q
        cases q
      · rw [List.getElem?_eq_none (by rw [List.length_set]; omega)] at q
        cases q
    · rw [List.getElem?_set_ne hj] at q
      exact q
  refine ⟨by rw [List.length_set]; exact rl.len, rl.gh, rl.fh, rl.g0, rl.gf, fun j b q => ?_, fun j d q => rl.dat j d (out _ _ q), fun j s q => rl.ow j s (out _ _ q), fun j k p xs ys q1 q2 => rl.injS j k p xs ys (out _ _ q1) (out _ _ q2)⟩
  have hj : j < P := by
    have := (List.getElem?_eq_some_iff.mp q).1
    omega
  obtain ⟨q1, ys, q2⟩ := rl.pin j b q
  exact ⟨q1, ys, by rw [List.getElem?_set_ne (by omega)]; exact q2⟩
/-- a name gets data -/
theorem Rel.putD (rl : Rel K f G H σ ρ) (hp : f.pins.length = P) {i : Nat} (hi : P ≤ i) (h : Dp K G v d) : Rel K f G H (σ.set i (some v)) (ρ.set i (some (.d d))) := by
  by_cases hil : i < ρ.length
  · have his : i < σ.length := by rw [rl.len]; exact hil
    have out : ∀ (j : Nat) (s : S), (ρ.set i (some (.d d)))[j]? = some (some s) → s.own = true → i ≠ j ∧ ρ[j]? = some (some s) := by
      intro j s q hs
      by_cases hj : i = j
      · subst hj
        rw [List.getElem?_set_self hil] at q
        cases q
        cases hs
      · rw [List.getElem?_set_ne hj] at q
        exact ⟨hj, q⟩
    refine ⟨by rw [List.length_set, List.length_set]; exact rl.len, rl.gh, rl.fh, rl.g0, rl.gf, fun j b q => ?_, fun j x q => ?_, fun j xs q hs => ?_, fun j k p xs ys q1 q2 hs1 hs2 q3 q4 => ?_⟩
    · have hj : j < P := by
        have := (List.getElem?_eq_some_iff.mp q).1
        omega
      obtain ⟨q1, ys, q2⟩ := rl.pin j b q
      exact ⟨by rw [List.getElem?_set_ne (by omega)]; exact q1, ys, by rw [List.getElem?_set_ne (by omega)]; exact q2⟩
    · by_cases hj : i = j
      · subst hj
        rw [List.getElem?_set_self hil] at q
        cases q
        exact ⟨v, List.getElem?_set_self his, h⟩
      · rw [List.getElem?_set_ne hj] at q ⊢
        exact rl.dat j x q
    · obtain ⟨hj, q⟩ := out j xs q hs
      rw [List.getElem?_set_ne hj]
      exact rl.ow j xs q hs
    · obtain ⟨h1, q1⟩ := out j xs q1 hs1
      obtain ⟨h2, q2⟩ := out k ys q2 hs2
      rw [List.getElem?_set_ne h1] at q3
      rw [List.getElem?_set_ne h2] at q4
      exact rl.injS j k p xs ys q1 q2 hs1 hs2 q3 q4
  · rw [List.set_eq_of_length_le (by rw [rl.len]; omega), List.set_eq_of_length_le (by omega)]
    exact rl
/-- a name gets a list that nobody else has -/
theorem Rel.putS (rl : Rel K f G H σ ρ) (hp : f.pins.length = P) {i : Nat} (hi : P ≤ i) {p : Addr} {o : HO} {xs : S} (hx : xs.own = true) (h1 : H p = some o) (h2 : OwnR K G p o xs) (h3 : G p = none) (h4 : f.F p = none)
    (h5 : ∀ (i : Nat) (ys : S), ρ[i]? = some (some ys) → ys.own = true → σ[i]? ≠ some (some (V.ref p))) : Rel K f G H (σ.set i (some (.ref p))) (ρ.set i (some xs)) := by
  by_cases hil : i < ρ.length
  · have his : i < σ.length := by rw [rl.len]; exact hil
    have out : ∀ (j : Nat) (ys : S), (ρ.set i (some xs))[j]? = some (some ys) → (i = j ∧ xs = ys) ∨ (i ≠ j ∧ ρ[j]? = some (some ys)) := by
      intro j s q
      by_cases hj : i = j
      · subst hj
        rw [List.getElem?_set_self hil] at q
        cases q
        exact .inl ⟨rfl, rfl⟩
      · rw [List.getElem?_set_ne hj] at q
        exact .inr ⟨hj, q⟩
    refine ⟨by rw [List.length_set, List.length_set]; exact rl.len, rl.gh, rl.fh, rl.g0, rl.gf, fun j b q => ?_, fun j x q => ?_, fun j ys q hs => ?_, fun j k p' ys zs q1 q2 hs1 hs2 q3 q4 => ?_⟩
    · have hj : j < P := by
        have := (List.getElem?_eq_some_iff.mp q).1
        omega
      obtain ⟨q1, ys, q2⟩ := rl.pin j b q
      exact ⟨by rw [List.getElem?_set_ne (by omega)]; exact q1, ys, by rw [List.getElem?_set_ne (by omega)]; exact q2⟩
    · by_cases hj : i = j
      · subst hj
        rw [List.getElem?_set_self hil] at q
        cases q
        cases hx
      · rw [List.getElem?_set_ne hj] at q ⊢
        exact rl.dat j x q
    · rcases out j ys q with ⟨hj, e⟩ | ⟨hj, q⟩
      · subst hj
        subst e
        exact ⟨p, o, List.getElem?_set_self his, h1, h2, h3, h4⟩
      · rw [List.getElem?_set_ne hj]
        exact rl.ow j ys q hs
    · rcases out j ys q1 with ⟨h1, _⟩ | ⟨h1, q1⟩
      · subst h1
        rw [List.getElem?_set_self his] at q3
        cases q3
        rcases out k zs q2 with ⟨h2, _⟩ | ⟨h2, q2⟩
        · exact h2
        · rw [List.getElem?_set_ne h2] at q4
          exact absurd q4 (h5 k zs q2 hs2)
      · rw [List.getElem?_set_ne h1] at q3
        rcases out k zs q2 with ⟨h2, _⟩ | ⟨h2, q2⟩
        · subst h2
          rw [List.getElem?_set_self his] at q4
          cases q4
          exact absurd q3 (h5 j ys q1 hs1)
        · rw [List.getElem?_set_ne h2] at q4
          exact rl.injS j k p' ys zs q1 q2 hs1 hs2 q3 q4
  · rw [List.set_eq_of_length_le (by rw [rl.len]; omega), List.set_eq_of_length_le (by omega)]
    exact rl
theorem Rel.putO (rl : Rel K f G H σ ρ) (hp : f.pins.length = P) {i : Nat} (hi : P ≤ i) {p : Addr} {xs : List D} (h1 : H p = some (.lst vs)) (h2 : DpAll K G vs xs) (h3 : G p = none) (h4 : f.F p = none)
    (h5 : ∀ (i : Nat) (ys : S), ρ[i]? = some (some ys) → ys.own = true → σ[i]? ≠ some (some (V.ref p))) : Rel K f G H (σ.set i (some (.ref p))) (ρ.set i (some (.o xs))) :=
  rl.putS hp hi rfl h1 (.o h2) h3 h4 h5
/-- what a slot owns is changed -/
theorem Rel.changeS (rl : Rel K f G H σ ρ) {j : Nat} {p : Addr} {o' : HO} {xs ys : S} (e1 : ρ[j]? = some (some xs)) (hx : xs.own = true) (hy : ys.own = true) (e2 : σ[j]? = some (some (V.ref p))) (hG : G p = none) (hF : f.F p = none) (h : OwnR K G p o' ys) :
    Rel K f G (upd H p o') σ (ρ.set j (some ys)) := by
  have hjl : j < ρ.length := (List.getElem?_eq_some_iff.mp e1).1
  have out : ∀ (k : Nat) (zs : S), (ρ.set j (some ys))[k]? = some (some zs) → (j = k ∧ ys = zs) ∨ (j ≠ k ∧ ρ[k]? = some (some zs)) := by
    intro k s q
    by_cases hj : j = k
    · subst hj
      rw [List.getElem?_set_self hjl] at q
      cases q
      exact .inl ⟨rfl, rfl⟩
    · rw [List.getElem?_set_ne hj] at q
      exact .inr ⟨hj, q⟩
  have was : ∀ (k : Nat) (zs : S), (ρ.set j (some ys))[k]? = some (some zs) → zs.own = true → ∃ zs', ρ[k]? = some (some zs') ∧ S.own zs' = true := by
    intro k zs q hs
    rcases out k zs q with ⟨h1, _⟩ | ⟨_, q⟩
    · subst h1
      exact ⟨_, e1, hx⟩
    · exact ⟨_, q, hs⟩
  refine ⟨by rw [List.length_set]; exact rl.len, fun b x q => ?_, fun b x q => ?_, rl.g0, rl.gf, fun i b q => ?_, fun i x q => ?_, fun k zs q hs => ?_, fun k l p' zs zs' q1 q2 hs1 hs2 q3 q4 => ?_⟩
  · rw [upd_ne (fun z => by subst z; rw [hG] at q; cases q)]
    exact rl.gh _ _ q
  · rw [upd_ne (fun z => by subst z; rw [hF] at q; cases q)]
    exact rl.fh _ _ q
  · obtain ⟨q1, zs, q2, q3⟩ := rl.pin i b q
    refine ⟨q1, ?_⟩
    by_cases hj : j = i
    · subst hj
      exact ⟨ys, List.getElem?_set_self hjl, hy⟩
    · exact ⟨zs, by rw [List.getElem?_set_ne hj]; exact q2, q3⟩
  · by_cases hj : j = i
    · subst hj
      rw [List.getElem?_set_self hjl] at q
      cases q
      cases hy
    · rw [List.getElem?_set_ne hj] at q
      exact rl.dat i x q
  · rcases out k zs q with ⟨h1, h2⟩ | ⟨h1, q⟩
    · subst h1
      subst h2
      exact ⟨p, o', e2, upd_same, h, hG, hF⟩
    · obtain ⟨p', vs', q1, q2, q3, q4, q5⟩ := rl.ow k zs q hs
      refine ⟨p', vs', q1, ?_, q3, q4, q5⟩
      rw [upd_ne]
      · exact q2
      · intro z
        subst z
        exact h1 (rl.injS j k p' xs zs e1 q hx hs e2 q1)
  · obtain ⟨z1, w1, w3⟩ := was k zs q1 hs1
    obtain ⟨z2, w2, w4⟩ := was l zs' q2 hs2
    exact rl.injS k l p' z1 z2 w1 w2 w3 w4 q3 q4

theorem Rel.change (rl : Rel K f G H σ ρ) {j : Nat} {p : Addr} {us ws : List V} {xs ys : List D} (e1 : ρ[j]? = some (some (S.o xs))) (e2 : σ[j]? = some (some (V.ref p))) (hG : G p = none) (hF : f.F p = none) (h : DpAll K G ws ys) :
    Rel K f G (upd H p (.lst ws)) σ (ρ.set j (some (.o ys))) := rl.changeS e1 rfl rfl e2 hG hF (.o h)

variable {t u : TS} {ms mt : Env → Out} {te : TE} {me : Env → Res R}
theorem sim_seq (h1 : SimS K P W t ms) (h2 : SimS K P W u mt) : SimS K P W (tSeq t u) (mSeq ms mt) := by
  intro f G H σ ρ D hp rl hq
  refine h1 f G H σ ρ _ hp rl ?_
  unfold mSeq at hq
  cases e : ms ρ with
  | nx ρ1 =>
    rw [e] at hq
    exact fun G1 H1 σ1 s1 rl1 => h2 f G1 H1 σ1 ρ1 D hp rl1 (CS.same s1 hq)
  | _ => rw [e] at hq; exact hq
theorem sim_next : SimS K P W tNext mNext := fun f G H σ ρ D hp rl hq => hq G H σ (.refl _) rl
theorem sim_brk : SimS K P W tBreak mBrk := fun f G H σ ρ D hp rl hq => hq G H σ (.refl _) rl
theorem sim_ct : SimS K P W tCont mCt := fun f G H σ ρ D hp rl hq => hq G H σ (.refl _) rl
theorem sim_drop (h : SimE K P W te me) : SimS K P W (tDrop te) (mDrop me) := by
  intro f G H σ ρ D hp rl hq
  refine h f G H σ ρ _ hp rl ?_
  unfold mDrop at hq
  cases e : me ρ with
  | no => rw [e] at hq; exact hq
  | exc c ρ1 => rw [e] at hq; exact fun G1 H1 s1 rl1 => hq G1 H1 σ s1 rl1
  | ok r ρ1 => rw [e] at hq; exact fun v G1 H1 s1 rl1 _ => hq G1 H1 σ s1 rl1
theorem sim_ret (h : SimE K P W te me) : SimS K P W (tRet te) (mRet P me) := by
  intro f G H σ ρ D hp rl hq
  refine h f G H σ ρ _ hp rl ?_
  unfold mRet at hq
  cases e : me ρ with
  | no => rw [e] at hq; exact hq
  | exc c ρ1 => rw [e] at hq; exact fun G1 H1 s1 rl1 => hq G1 H1 σ s1 rl1
  | ok r ρ1 =>
    rw [e] at hq
    intro v G1 H1 s1 rl1 h1
    cases r with
    | d x => exact hq v G1 H1 σ s1 rl1 h1
    | o xs =>
      obtain ⟨p, vs, rfl, q1, q2, q3, q4, q5⟩ := h1
      refine hq _ G1 H1 σ s1 rl1 ⟨p, vs, rfl, q1, q2, q3, q4, fun i b eb z => ?_⟩
      subst z
      obtain ⟨z1, zs, z2, z3⟩ := rl1.pin i _ eb
      exact q5 i zs z2 z3 z1
    | b i =>
      simp only at hq
      split at hq
      · next x ex =>
        obtain ⟨u, q1, q2⟩ := rl1.dat i _ ex
        have h3 : σ[i]? = some (some v) := h1
        rw [h3] at q1
        cases q1
        exact hq v G1 H1 σ s1 rl1 q2
      · next xs ex =>
        split at hq
        · next hi =>
          obtain ⟨p, vs, q1, q2, q3, q4, q5⟩ := rl1.own i _ ex
          have h3 : σ[i]? = some (some v) := h1
          rw [h3] at q1
          cases q1
          refine hq _ G1 H1 σ s1 (rl1.forget hp hi) ⟨p, vs, rfl, q2, q3, q4, q5, fun k b eb z => ?_⟩
          subst z
          obtain ⟨z1, zs, z2, z4⟩ := rl1.pin k _ eb
          have hk : k < P := by
            have := (List.getElem?_eq_some_iff.mp eb).1
            omega
          have := rl1.injS i k p (.o xs) zs ex z2 rfl z4 h3 z1
          omega
        · exact hq.elim
      · exact hq.elim
theorem sim_retN : SimS K P W tRetN (fun ρ => .rt (.d .none) ρ) := fun f G H σ ρ D hp rl hq => hq .non G H σ (.refl _) rl .non
theorem sim_ifS {c : TT} {mc : Env → Res Bool} (hc : SimT K P W c mc) (h1 : SimS K P W t ms) (h2 : SimS K P W u mt) : SimS K P W (tIfS c t u) (mIfS mc ms mt) := by
  intro f G H σ ρ D hp rl hq
  refine hc f G H σ ρ _ hp rl ?_
  unfold mIfS at hq
  cases e : mc ρ with
  | no => rw [e] at hq; exact hq
  | exc c ρ1 => rw [e] at hq; exact fun G1 H1 s1 rl1 => hq G1 H1 σ s1 rl1
  | ok b ρ1 =>
    rw [e] at hq
    intro G1 H1 s1 rl1
    cases b with
    | true =>
      rw [if_pos rfl]
      exact h1 f G1 H1 σ ρ1 D hp rl1 (CS.same s1 hq)
    | false =>
      rw [if_neg Bool.false_ne_true]
      exact h2 f G1 H1 σ ρ1 D hp rl1 (CS.same s1 hq)
theorem sim_asg {i : Nat} (h : SimE K P W te me) (hi : P ≤ i) : SimS K P W (tAsg te (gName i)) (mAsg P i me) := by
  intro f G H σ ρ D hp rl hq
  refine h f G H σ ρ _ hp rl ?_
  unfold mAsg at hq
  cases e : me ρ with
  | no => rw [e] at hq; exact hq
  | exc c ρ1 => rw [e] at hq; exact fun G1 H1 s1 rl1 => hq G1 H1 σ s1 rl1
  | ok r ρ1 =>
    rw [e] at hq
    intro v G1 H1 s1 rl1 h1
    cases r with
    | d x => exact hq G1 H1 _ s1 (rl1.putD hp hi h1)
    | o xs =>
      obtain ⟨p, vs, rfl, q1, q2, q3, q4, q5⟩ := h1
      exact hq G1 H1 _ s1 (rl1.putO hp hi q1 q2 q3 q4 q5)
    | b j =>
      simp only at hq
      split at hq
      · next ρ2 e2 =>
        split at hq
        · next x e3 =>
          obtain ⟨G2, s2, rl2⟩ := rl1.frz1 hp e2
          have h3 : Hold K G2 σ v (.b j) := h1
          exact hq G2 H1 _ (s1.trans s2) (rl2.putD hp hi (h3.dat rl2 e3))
        · exact hq.elim
      · exact hq.elim
theorem sim_aug {i : Nat} {ti : R2} {g : D → D → Option R} (hr : OpS K ti g) (h : SimE K P W te me) (hi : P ≤ i) : SimS K P W (tAug i te ti) (mAug i g me) := by
  intro f G H σ ρ D hp rl hq
  unfold mAug at hq
  split at hq
  · next x ex =>
    obtain ⟨v0, q1, q2⟩ := rl.dat i _ ex
    refine ⟨v0, q1, h.op hp rl ?_⟩
    cases e : me ρ with
    | no => rw [e] at hq; exact hq
    | exc c ρ1 => rw [e] at hq; exact fun G1 H1 s1 rl1 => hq G1 H1 σ s1 rl1
    | ok r ρ1 =>
      rw [e] at hq
      intro v G1 H1 s1 rl1 h1
      simp only at hq
      split at hq
      · next y ey =>
        split at hq
        · next z ez =>
          refine hr G1 H1 v0 v x y _ _ rl1.gh (.inl (dp_same s1 _ _ q2)) (h1.got rl1 ey) ez fun w G2 H2 gr nv => ?_
          exact hq G2 H2 _ (s1.trans gr.1) ((rl1.grow gr).putD hp hi nv)
        · next zs ez =>
          refine hr G1 H1 v0 v x y _ _ rl1.gh (.inl (dp_same s1 _ _ q2)) (h1.got rl1 ey) ez fun w G2 H2 gr nv => ?_
          obtain ⟨p, vs, rfl, w1, w2, w3, w4, w5⟩ := nv.vrep rl1 gr
          exact hq G2 H2 _ (s1.trans gr.1) ((rl1.grow gr).putO hp hi w1 w2 w3 w4 w5)
        · exact hq.elim
      · exact hq.elim
  · exact hq.elim
/-- a method of a list that changes it: by values -/
def MutS (K : PySem.W.Frag) (r : V → List V → Hp → VK → Prop) (g : List D → List D → Option (List D)) : Prop := ∀ (G H : Hp) (p : Addr) (vs args : List V) (xs ds ys : List D), Same G H → H p = some (.lst vs) → DpAll K G vs xs → DpAll K G args ds → g xs ds = some ys →
  ∃ ws, DpAll K G ws ys ∧ ∀ Q : VK, Q .non (upd H p (.lst ws)) → r (.ref p) args H Q
theorem sim_mut {j : Nat} {r : V → List V → Hp → VK → Prop} {g : List D → List D → Option (List D)} {ta : TA} {ma : Env → Res (List R)} (hr : MutS K r g) (h : SimA K P W ta ma) : SimS K P W (tDrop (tBM K "list" r (tVar j) ta)) (mMut P j g ma) := by
  intro f G H σ ρ D hp rl hq
  unfold mMut at hq
  split at hq
  · next xs0 ex =>
    obtain ⟨p, vs0, q1, q2, q3, q4, q5⟩ := rl.own j _ ex
    refine ⟨.ref p, q1, .inl ⟨rfl, vs0, .inl (.inl q2)⟩, ?_⟩
    refine h f G H σ ρ _ hp rl ?_
    cases e : ma ρ with
    | no => rw [e] at hq; exact hq
    | exc c ρ1 => rw [e] at hq; exact fun G1 H1 s1 rl1 => hq G1 H1 σ s1 rl1
    | ok rs ρ1 =>
      rw [e] at hq
      intro args G1 H1 s1 rl1 h1
      simp only at hq
      split at hq
      · next ρ2 e2 =>
        split at hq
        · next ds xs e3 e4 =>
          split at hq
          · next ys e5 =>
            obtain ⟨G2, s2, rl2⟩ := rl1.frzA hp e2
            obtain ⟨p', vs, w1, w2, w3, w4, w5⟩ := rl2.own j _ e4
            rw [q1] at w1
            cases w1
            obtain ⟨ws, z1, z2⟩ := hr G2 H1 p vs args xs ds ys rl2.gh w2 w3 ((h1.same s2).dat rl2 e3) e5
            exact z2 _ (hq G2 _ σ (s1.trans s2) (rl2.change (us := vs) e4 q1 w4 w5 z1))
          · exact hq.elim
        · exact hq.elim
      · exact hq.elim
  · exact hq.elim
theorem sim_setI {j : Nat} {ti : TE} {mi : Env → Res R} (h : SimE K P W te me) (h2 : SimE K P W ti mi) : SimS K P W (tAsg te (gSub (tVar j) ti rSetL)) (mSetI P j me mi) := by
  intro f G H σ ρ D hp rl hq
  refine h.op hp rl ?_
  unfold mSetI at hq
  cases e : me ρ with
  | no => rw [e] at hq; exact hq
  | exc c ρ1 => rw [e] at hq; exact fun G1 H1 s1 rl1 => hq G1 H1 σ s1 rl1
  | ok r ρ1 =>
    rw [e] at hq
    intro v G1 H1 s1 rl1 h1
    simp only at hq
    split at hq
    · next ρ2 e2 =>
      obtain ⟨G2, s2, rl2⟩ := rl1.frz1 hp e2
      split at hq
      · next xs0 e0 =>
        obtain ⟨p, vs0, q1, _⟩ := rl2.own j _ e0
        refine ⟨_, q1, h2.op hp rl2 ?_⟩
        cases e3 : mi ρ2 with
        | no => rw [e3] at hq; exact hq.elim
        | exc c ρ3 => rw [e3] at hq; exact fun G3 H3 s3 rl3 => hq G3 H3 σ ((s1.trans s2).trans s3) rl3
        | ok r3 ρ3 =>
          rw [e3] at hq
          intro w G3 H3 s3 rl3 h3
          cases r3 with
          | o _ => exact hq.elim
          | b _ => exact hq.elim
          | d y =>
            cases y with
            | int k =>
              simp only at hq
              split at hq
              · next x xs e4 e5 =>
                split at hq
                · next n e6 =>
                  obtain ⟨p', vs, w1, w2, w3, w4, w5⟩ := rl3.own j _ e5
                  rw [q1] at w1
                  cases w1
                  have hd : Dp K G3 v x := ((h1.same s2).same s3).dat rl3 e4
                  refine ⟨p, vs, k, n, rfl, dp_int h3, w2, by rw [dpAll_len w3]; exact e6, ?_⟩
                  exact hq G3 _ σ ((s1.trans s2).trans s3) (rl3.change (us := vs) e5 q1 w4 w5 (dpAll_set n w3 hd))
                · exact hq.elim
              · exact hq.elim
            | _ => exact hq.elim
      · exact hq.elim
    · exact hq.elim
end
end Z
namespace Z
open PySem L2

/-! ### targets -/
def SimG (K : PySem.W.Frag) (P : Nat) (g : TG) (b : D → Env → Option Env) (ts : List Nat) : Prop := ∀ (f : Fx) (G H : Hp) (σ : L2.St) (ρ ρ' : Env) (v : V) (d : D) (Q : L2.St → Hp → Prop), f.pins.length = P → Rel K f G H σ ρ → Dp K G v d → b d ρ = some ρ' →
  (∀ σ', Rel K f G H σ' ρ' → σ'.length = σ.length → (∀ j, j ∉ ts → σ'[j]? = σ[j]?) → Q σ' H) → g v σ H Q
def SimGs (K : PySem.W.Frag) (P : Nat) (g : TGs) (b : List D → Env → Option Env) (ts : List Nat) : Prop := ∀ (f : Fx) (G H : Hp) (σ : L2.St) (ρ ρ' : Env) (vs : List V) (ds : List D) (Q : L2.St → Hp → Prop), f.pins.length = P → Rel K f G H σ ρ → DpAll K G vs ds → b ds ρ = some ρ' →
  (∀ σ', Rel K f G H σ' ρ' → σ'.length = σ.length → (∀ j, j ∉ ts → σ'[j]? = σ[j]?) → Q σ' H) → g vs σ H Q
def bName (i : Nat) : D → Env → Option Env := fun d ρ => some (ρ.set i (some (.d d)))
def bNil : List D → Env → Option Env := fun ds ρ => match ds with
  | [] => some ρ
  | _ => none
def bCons (b : D → Env → Option Env) (bs : List D → Env → Option Env) : List D → Env → Option Env := fun ds ρ => match ds with
  | [] => none
  | d :: r => (match b d ρ with
    | some ρ1 => bs r ρ1
    | none => none)
def bTup (n : Nat) (bs : List D → Env → Option Env) : D → Env → Option Env := fun d ρ => match d with
  | .tuple ds => if ds.length = n then bs ds ρ else none
  | _ => none
section
variable {K : PySem.W.Frag} {P : Nat} {W : Wish}
theorem simg_name {i : Nat} (hi : P ≤ i) : SimG K P (gName i) (bName i) [i] := by
  intro f G H σ ρ ρ' v d Q hp rl hd e hq
  cases e
  refine hq _ (rl.putD hp hi hd) (List.length_set ..) fun j hj => ?_
  exact List.getElem?_set_ne (fun z => hj (by simp [z]))
theorem simgs_nil : SimGs K P gNil bNil [] := by
  intro f G H σ ρ ρ' vs ds Q hp rl hd e hq
  cases ds with
  | cons _ _ => cases e
  | nil =>
    cases e
    cases hd
    exact ⟨rfl, hq σ rl rfl fun _ _ => rfl⟩
theorem simgs_cons {g : TG} {b : D → Env → Option Env} {ts : List Nat} {gs : TGs} {bs : List D → Env → Option Env} {us : List Nat} (h : SimG K P g b ts) (h2 : SimGs K P gs bs us) : SimGs K P (gCons g gs) (bCons b bs) (ts ++ us) := by
  intro f G H σ ρ ρ' vs ds Q hp rl hd e hq
  cases ds with
  | nil => cases e
  | cons d r =>
    simp only [bCons] at e
    split at e
    · next ρ1 e1 =>
      cases hd with
      | cons h1 hr =>
        refine ⟨_, _, rfl, ?_⟩
        refine h f G H σ ρ ρ1 _ d _ hp rl h1 e1 fun σ' rl' l1 k1 => ?_
        refine h2 f G H σ' ρ1 ρ' _ r Q hp rl' hr e fun σ2 rl2 l2 k2 => ?_
        refine hq σ2 rl2 (l2.trans l1) fun j hj => ?_
        rw [List.mem_append, not_or] at hj
        rw [k2 j hj.2, k1 j hj.1]
    · cases e
theorem simg_tup {n : Nat} {gs : TGs} {bs : List D → Env → Option Env} {us : List Nat} (h : SimGs K P gs bs us) : SimG K P (gTup K n gs) (bTup n bs) us := by
  intro f G H σ ρ ρ' v d Q hp rl hd e hq
  cases d with
  | tuple ds =>
    simp only [bTup] at e
    split at e
    · next hl =>
      obtain ⟨a, xs, rfl, h1, h2⟩ := dp_tup hd
      exact ⟨a, xs, rfl, sqT_same rl.gh h1, by rw [dpAll_len h2]; exact hl, h f G H σ ρ ρ' xs ds Q hp rl h2 e hq⟩
    · cases e
  | _ => cases e
end
/-- targets of any form -/
def mAsgG (P : Nat) (b : D → Env → Option Env) (me : Env → Res R) : Env → Out := fun ρ => match me ρ with
  | .ok r ρ1 => (match frz1 P ρ1 r with
    | some ρ2 => (match dopd ρ2 r with
      | some d => (match b d ρ2 with
        | some ρ3 => .nx ρ3
        | none => .no)
      | none => .no)
    | none => .no)
  | .exc c ρ1 => .exc c ρ1
  | .no => .no
theorem sim_asgG {K : PySem.W.Frag} {P : Nat} {W : Wish} {te : TE} {me : Env → Res R} {g : TG} {b : D → Env → Option Env} {ts : List Nat} (h : SimE K P W te me) (hg : SimG K P g b ts) : SimS K P W (tAsg te g) (mAsgG P b me) := by
  intro f G H σ ρ D hp rl hq
  refine h.op hp rl ?_
  unfold mAsgG at hq
  cases e : me ρ with
  | no => rw [e] at hq; exact hq
  | exc c ρ1 => rw [e] at hq; exact fun G1 H1 s1 rl1 => hq G1 H1 σ s1 rl1
  | ok r ρ1 =>
    rw [e] at hq
    intro v G1 H1 s1 rl1 h1
    simp only at hq
    split at hq
    · next ρ2 e2 =>
      split at hq
      · next d e3 =>
        split at hq
        · next ρ3 e4 =>
          obtain ⟨G2, s2, rl2⟩ := rl1.frz1 hp e2
          exact hg f G2 H1 σ ρ2 ρ3 v d _ hp rl2 ((h1.same s2).dat rl2 e3) e4 fun σ' rl' _ _ => hq G2 H1 σ' (s1.trans s2) rl'
        · exact hq.elim
      · exact hq.elim
    · exact hq.elim

/-! ### what is walked -/
def Walk (K : PySem.W.Frag) (F G : Hp) (J : It) (ds : List D) : Prop := ∀ (G1 H1 : Hp), Same G G1 → Same G1 H1 → Same F H1 →
  (∀ (i : Nat) (d : D), ds[i]? = some d → J.go i H1 ∧ ∀ x H2, J.yld i H1 x H2 → ∃ G2, Grow G1 H1 G2 H2 ∧ Dp K G2 x d) ∧ ∀ i, ds.length ≤ i → J.stop i H1
def CI (K : PySem.W.Frag) (W : Wish) (f : Fx) (G : Hp) (σ : L2.St) (Q : It → Hp → Prop) : Res (List D) → Prop
  | .no => False
  | .ok ds ρ => ∀ J G' H', Same G G' → Rel K f G' H' σ ρ → Walk K f.F G' J ds → Q J H'
  | .exc c ρ => ∀ G' H', Same G G' → Rel K f G' H' σ ρ → W σ c H'
def SimI (K : PySem.W.Frag) (P : Nat) (W : Wish) (wi : TI) (m : Env → Res (List D)) : Prop := ∀ (f : Fx) (G H : Hp) (σ : L2.St) (ρ : Env) (Q : It → Hp → Prop), f.pins.length = P → Rel K f G H σ ρ → CI K W f G σ Q (m ρ) → wi σ H Q
def mIter (P : Nat) (me : Env → Res R) : Env → Res (List D) := fun ρ => (me ρ).bind fun r ρ1 => match frz1 P ρ1 r with
  | some ρ2 => (match dopd ρ2 r with
    | some (.list ds) => .ok ds ρ2
    | some (.tuple ds) => .ok ds ρ2
    | _ => .no)
  | none => .no
def big62 : Int := 4611686018427387904
def mRng1 (ma : Env → Res (List R)) : Env → Res (List D) := fun ρ => (ma ρ).bind fun rs ρ1 => match rs with
  | [.d (.int j)] => if -big62 ≤ j ∧ j < big62 then .ok ((List.range j.toNat).map fun (k : Nat) => .int (k : Int)) ρ1 else .no
  | _ => .no
def mRng2 (ma : Env → Res (List R)) : Env → Res (List D) := fun ρ => (ma ρ).bind fun rs ρ1 => match rs with
  | [.d (.int i), .d (.int j)] => if -big62 ≤ i ∧ i < big62 ∧ -big62 ≤ j ∧ j < big62 then .ok ((List.range (j - i).toNat).map fun (k : Nat) => .int (i + (k : Int))) ρ1 else .no
  | _ => .no
/-- a list or a tuple -/
def iSeq (K : PySem.W.Frag) (tl : TE) : TI := fun σ H Q => tl σ H fun x H1 => ∃ a, x = .ref a ∧ (((∃ xs, SqL K H1 a xs) ∧ Q (Itl K a) H1) ∨ ((∃ xs, SqT K H1 a xs) ∧ Q (Itt K a) H1))
theorem zpi_seq {X : Cx} {tg l : Expr} {tl : TE} (hl : PE X l tl) : PI X tg l (iSeq X.K tl) := by
  constructor
  intro pins s σ H Q I h
  refine thn (hl.run pins s σ H _ I h) fun v s1 hv => ?_
  obtain ⟨x, H1, I1, r1, a, rfl, q1⟩ := hv
  cases r1
  have sz : ∀ (b : Addr), b ∈ [s1.heap.objs.size] → FpOk X pins H1 b := by
    intro b hb
    obtain rfl : b = s1.heap.objs.size := by simpa using hb
    exact I1.fpOk (Nat.le_refl _) (I1.hok.fresh (Nat.le_refl _))
  rcases q1 with ⟨⟨xs, hx⟩, q⟩ | ⟨⟨xs, hx⟩, q⟩
  · obtain ⟨items, rvs, pl, len⟩ := I1.list hx
    apply wpAny_pyIter_list pl.isList
    have kept := I1.kept (h' := s1.heap.push { cls := .type "list_iterator", data := .fields #[.ref a, rawInt 0] }) (t' := s1.toks) fun b u e => Heap.get?_push_of_some _ e
    exact ⟨_, [s1.heap.objs.size], _, _, H1, rfl, kept, turn_list a _, ⟨_, Heap.get?_push_size _ rfl, rfl, rfl⟩, sz, q⟩
  · obtain ⟨items, rvs, pl, len⟩ := I1.tuple hx
    apply wpAny_pyIter_tuple (show s1.heap.IsTuple a items.toArray from pl)
    have kept := fun o : Obj => I1.kept (h' := s1.heap.push o) (t' := s1.toks) fun b u e => Heap.get?_push_of_some _ e
    exact ⟨_, [s1.heap.objs.size], _, _, H1, rfl, kept _, turn_tuple a _, ⟨_, Heap.get?_push_size _ rfl, rfl, rfl⟩, sz, q⟩
section
variable {K : PySem.W.Frag} {P : Nat} {W : Wish} {te : TE} {me : Env → Res R} {ta : TA} {ma : Env → Res (List R)}
theorem walk_list {F G : Hp} {a : Addr} {vs : List V} {ds : List D} (h : SqL K G a vs) (hd : DpAll K G vs ds) : Walk K F G (Itl K a) ds := by
  intro G1 H1 s1 s2 _
  have hs : SqL K H1 a vs := (s1.trans s2).seq h
  refine ⟨fun i d e => ?_, fun i hi => ⟨vs, hs, by rw [dpAll_len hd]; exact hi⟩⟩
  obtain ⟨v, q1, q2⟩ := dpAll_get hd e
  refine ⟨⟨vs, v, hs, q1⟩, fun x H2 hy => ?_⟩
  obtain ⟨rfl, fv⟩ := hy
  have ex : x = v := Option.some.inj ((fv _ hs).symm.trans q1)
  subst ex
  exact ⟨G1, .refl s2, dp_same s1 _ _ q2⟩
theorem walk_tup {F G : Hp} {a : Addr} {vs : List V} {ds : List D} (h : SqT K G a vs) (hd : DpAll K G vs ds) : Walk K F G (Itt K a) ds := by
  intro G1 H1 s1 s2 _
  have hs : SqT K H1 a vs := sqT_same (s1.trans s2) h
  refine ⟨fun i d e => ?_, fun i hi => ⟨vs, hs, by rw [dpAll_len hd]; exact hi⟩⟩
  obtain ⟨v, q1, q2⟩ := dpAll_get hd e
  refine ⟨⟨vs, v, hs, q1⟩, fun x H2 hy => ?_⟩
  obtain ⟨rfl, fv⟩ := hy
  have ex : x = v := Option.some.inj ((fv _ hs).symm.trans q1)
  subst ex
  exact ⟨G1, .refl s2, dp_same s1 _ _ q2⟩
theorem walk_rng {F G : Hp} {lo : Int} {n : Nat} : Walk K F G (Itr lo n) ((List.range n).map fun (k : Nat) => PyData.int (lo + (k : Int))) := by
  intro G1 H1 s1 s2 _
  refine ⟨fun i d e => ?_, fun i hi => ?_⟩
  · rw [List.getElem?_map] at e
    have hi : i < n := by
      by_cases hi : i < n
      · exact hi
      · rw [List.getElem?_eq_none (by rw [List.length_range]; omega)] at e
        cases e
    rw [List.getElem?_range hi] at e
    cases e
    refine ⟨hi, fun x H2 hy => ?_⟩
    obtain ⟨rfl, rfl⟩ := hy
    exact ⟨G1, .refl s2, .int _⟩
  · rw [List.length_map, List.length_range] at hi
    exact hi
theorem sim_iter (h : SimE K P W te me) : SimI K P W (iSeq K te) (mIter P me) := by
  intro f G H σ ρ Q hp rl hq
  refine h.op hp rl ?_
  unfold mIter at hq
  cases e : me ρ with
  | no => rw [e] at hq; exact hq
  | exc c ρ1 => rw [e] at hq; exact hq
  | ok r ρ1 =>
    rw [e] at hq
    intro v G1 H1 s1 rl1 h1
    simp only [Res.bind] at hq
    split at hq
    · next ρ2 e2 =>
      obtain ⟨G2, s2, rl2⟩ := rl1.frz1 hp e2
      split at hq
      · next ds e3 =>
        obtain ⟨a, xs, rfl, q1, q2⟩ := dp_lst ((h1.same s2).dat rl2 e3)
        exact ⟨a, rfl, .inl ⟨⟨xs, rl2.gh.seq q1⟩, hq _ G2 H1 (s1.trans s2) rl2 (walk_list q1 q2)⟩⟩
      · next ds e3 =>
        obtain ⟨a, xs, rfl, q1, q2⟩ := dp_tup ((h1.same s2).dat rl2 e3)
        exact ⟨a, rfl, .inr ⟨⟨xs, sqT_same rl2.gh q1⟩, hq _ G2 H1 (s1.trans s2) rl2 (walk_tup q1 q2)⟩⟩
      · exact hq.elim
    · exact hq.elim
theorem sim_rng1 (h : SimA K P W ta ma) : SimI K P W (iRng1 ta) (mRng1 ma) := by
  intro f G H σ ρ Q hp rl hq
  refine h f G H σ ρ _ hp rl ?_
  unfold mRng1 at hq
  cases e : ma ρ with
  | no => rw [e] at hq; exact hq
  | exc c ρ1 => rw [e] at hq; exact hq
  | ok rs ρ1 =>
    rw [e] at hq
    intro vs G1 H1 s1 rl1 h1
    simp only [Res.bind] at hq
    split at hq
    · next j =>
      split at hq
      · next hj =>
        cases h1 with
        | cons a1 a2 =>
          cases a2
          have ev := dp_int a1
          subst ev
          refine ⟨j, rfl, by have := hj.1; unfold big62 at this; omega, by have := hj.2; unfold big62 at this; omega, hq _ G1 H1 s1 rl1 ?_⟩
          have := walk_rng (K := K) (F := f.F) (G := G1) (lo := 0) (n := j.toNat)
          simp only [Int.zero_add] at this
          exact this
      · exact hq.elim
    · exact hq.elim
theorem sim_rng2 (h : SimA K P W ta ma) : SimI K P W (iRng2 ta) (mRng2 ma) := by
  intro f G H σ ρ Q hp rl hq
  refine h f G H σ ρ _ hp rl ?_
  unfold mRng2 at hq
  cases e : ma ρ with
  | no => rw [e] at hq; exact hq
  | exc c ρ1 => rw [e] at hq; exact hq
  | ok rs ρ1 =>
    rw [e] at hq
    intro vs G1 H1 s1 rl1 h1
    simp only [Res.bind] at hq
    split at hq
    · next i j =>
      split at hq
      · next hj =>
        cases h1 with
        | cons a1 a2 =>
          cases a2 with
          | cons a2 a3 =>
            cases a3
            have ev := dp_int a1
            have ew := dp_int a2
            subst ev
            subst ew
            unfold big62 at hj
            exact ⟨i, j, rfl, ⟨by omega, by omega, by omega, by omega⟩, hq _ G1 H1 s1 rl1 walk_rng⟩
      · exact hq.elim
    · exact hq.elim
end

/-! ### for -/
def forL (b : D → Env → Option Env) (body : Env → Out) : List D → Env → Out
  | [], ρ => .nx ρ
  | d :: ds, ρ => match b d ρ with
    | none => .no
    | some ρ1 => (match body ρ1 with
      | .nx ρ2 => forL b body ds ρ2
      | .ct ρ2 => forL b body ds ρ2
      | .bk ρ2 => .nx ρ2
      | o => o)
def mFor (mi : Env → Res (List D)) (b : D → Env → Option Env) (body : Env → Out) : Env → Out := fun ρ => match mi ρ with
  | .ok ds ρ1 => forL b body ds ρ1
  | .exc c ρ1 => .exc c ρ1
  | .no => .no
theorem sim_for {K : PySem.W.Frag} {P : Nat} {W : Wish} {wi : TI} {mi : Env → Res (List D)} {g : TG} {b : D → Env → Option Env} {ts : List Nat} {tb : TS} {mb : Env → Out} (hi : SimI K P W wi mi) (hg : SimG K P g b ts) (hb : SimS K P W tb mb) :
    SimS K P W (tFor wi g tb) (mFor mi b mb) := by
  intro f G H σ ρ D hp rl hq
  refine hi f G H σ ρ _ hp rl ?_
  unfold mFor at hq
  cases e : mi ρ with
  | no => rw [e] at hq; exact hq
  | exc c ρ1 => rw [e] at hq; exact fun G1 H1 s1 rl1 => hq G1 H1 σ s1 rl1
  | ok ds ρ1 =>
    rw [e] at hq
    intro J G1 H1 s1 rl1 wk
    have hq1 : CS K W f G1 D (forL b mb ds ρ1) := CS.same s1 hq
    refine ⟨fun i m σ' H' => ∃ G' ρ', Same G1 G' ∧ Rel K f G' H' σ' ρ' ∧ i + m = ds.length ∧ CS K W f G' D (forL b mb (ds.drop i) ρ'), ⟨ds.length, G1, ρ1, .refl _, rl1, by omega, hq1⟩, fun i m σ' H' hW => ?_⟩
    obtain ⟨G2, ρ2, s2, rl2, em, hc⟩ := hW
    obtain ⟨wk1, wk2⟩ := wk G2 H' s2 rl2.gh rl2.fh
    by_cases hlt : i < ds.length
    · have ed : ds.drop i = ds[i] :: ds.drop (i + 1) := List.drop_eq_getElem_cons hlt
      obtain ⟨go, yl⟩ := wk1 i ds[i] (List.getElem?_eq_getElem hlt)
      refine .inr ⟨go, fun σ3 H3 => ∃ G' ρ', Same G1 G' ∧ Rel K f G' H3 σ3 ρ' ∧ CS K W f G' D (forL b mb (ds.drop (i + 1)) ρ'), fun σ3 H3 hN => ?_, fun x H3 hy => ?_⟩
      · obtain ⟨G', ρ', a1, a2, a3⟩ := hN
        exact ⟨m - 1, by omega, G', ρ', a1, a2, by omega, a3⟩
      · obtain ⟨G3, gr, hd⟩ := yl x H3 hy
        have rl3 := rl2.grow gr
        have hc3 := CS.same gr.1 hc
        rw [ed] at hc3
        simp only [forL] at hc3
        split at hc3
        · exact hc3.elim
        · next ρ3 e3 =>
          refine hg f G3 H3 σ' ρ2 ρ3 x ds[i] _ hp rl3 hd e3 fun σ4 rl4 _ _ => ?_
          refine hb f G3 H3 σ4 ρ3 _ hp rl4 ?_
          have s3 := s2.trans gr.1
          cases e4 : mb ρ3 with
          | no => rw [e4] at hc3; exact hc3.elim
          | nx ρ4 => rw [e4] at hc3; exact fun G5 H5 σ5 s5 rl5 => ⟨G5, ρ4, s3.trans s5, rl5, CS.same s5 hc3⟩
          | ct ρ4 => rw [e4] at hc3; exact fun G5 H5 σ5 s5 rl5 => ⟨G5, ρ4, s3.trans s5, rl5, CS.same s5 hc3⟩
          | bk ρ4 => rw [e4] at hc3; exact hc3
          | rt s ρ4 => rw [e4] at hc3; exact hc3
          | exc c ρ4 => rw [e4] at hc3; exact hc3
    · have ed : ds.drop i = [] := List.drop_of_length_le (by omega)
      rw [ed] at hc
      exact .inl ⟨wk2 i (by omega), hc G2 H' σ' (.refl _) rl2⟩
/-! ### while, with fuel -/
def whileN (mc : Env → Res Bool) (body : Env → Out) : Nat → Env → Out
  | 0, _ => .no
  | n + 1, ρ => match mc ρ with
    | .ok true ρ1 => (match body ρ1 with
      | .nx ρ2 => whileN mc body n ρ2
      | .ct ρ2 => whileN mc body n ρ2
      | .bk ρ2 => .nx ρ2
      | o => o)
    | .ok false ρ1 => .nx ρ1
    | .exc c ρ1 => .exc c ρ1
    | .no => .no
theorem sim_while {K : PySem.W.Frag} {P : Nat} {W : Wish} {tc : TT} {mc : Env → Res Bool} {tb : TS} {mb : Env → Out} (n : Nat) (hc : SimT K P W tc mc) (hb : SimS K P W tb mb) : SimS K P W (tWhile tc tb) (whileN mc mb n) := by
  intro f G H σ ρ D hp rl hq
  refine ⟨fun m σ' H' => ∃ G' ρ', Same G G' ∧ Rel K f G' H' σ' ρ' ∧ CS K W f G' D (whileN mc mb m ρ'), ⟨n, G, ρ, .refl _, rl, hq⟩, fun m σ' H' hW => ?_⟩
  obtain ⟨G2, ρ2, s2, rl2, hc2⟩ := hW
  refine hc f G2 H' σ' ρ2 _ hp rl2 ?_
  cases m with
  | zero => exact hc2.elim
  | succ m =>
    simp only [whileN] at hc2
    cases e : mc ρ2 with
    | no => rw [e] at hc2; exact hc2
    | exc c ρ3 => rw [e] at hc2; exact fun G1 H1 s1 rl1 => hc2 G1 H1 σ' s1 rl1
    | ok k ρ3 =>
      rw [e] at hc2
      intro G3 H3 s3 rl3
      cases k with
      | false =>
        rw [if_neg Bool.false_ne_true]
        exact hc2 G3 H3 σ' s3 rl3
      | true =>
        rw [if_pos rfl]
        simp only at hc2
        refine ⟨fun σ4 H4 => ∃ G' ρ', Same G G' ∧ Rel K f G' H4 σ4 ρ' ∧ CS K W f G' D (whileN mc mb m ρ'), fun σ4 H4 hN => ⟨m, Nat.lt_succ_self m, hN⟩, ?_⟩
        refine hb f G3 H3 σ' ρ3 _ hp rl3 ?_
        cases e4 : mb ρ3 with
        | no => rw [e4] at hc2; exact hc2.elim
        | nx ρ4 => rw [e4] at hc2; exact fun G5 H5 σ5 s5 rl5 => ⟨G5, ρ4, (s2.trans s3).trans s5, rl5, CS.same (s3.trans s5) hc2⟩
        | ct ρ4 => rw [e4] at hc2; exact fun G5 H5 σ5 s5 rl5 => ⟨G5, ρ4, (s2.trans s3).trans s5, rl5, CS.same (s3.trans s5) hc2⟩
        | bk ρ4 => rw [e4] at hc2; exact CS.same (o := .nx ρ4) s3 hc2
        | rt s ρ4 => rw [e4] at hc2; exact CS.same (o := .rt s ρ4) s3 hc2
        | exc c ρ4 => rw [e4] at hc2; exact CS.same (o := .exc c ρ4) s3 hc2
end Z
namespace Z
open PySem L2

/-! ### comprehensions -/
def wipeE (ρ : Env) : List Nat → Env
  | [] => ρ
  | v :: vs => (wipeE ρ vs).set v none
def back (ρ1 : Env) : List Nat → Env → Env
  | [], ρw => ρw
  | v :: vs, ρw => (back ρ1 vs ρw).set v (match ρ1[v]? with
    | some (some (S.d x)) => some (S.d x)
    | _ => none)
section
variable {K : PySem.W.Frag} {P : Nat} {W : Wish} {f : Fx} {G H G' H' : Hp} {σ σ' : L2.St} {ρ ρ' : Env}
theorem Rel.drop1 (rl : Rel K f G H σ ρ) (hp : f.pins.length = P) {i : Nat} (hi : P ≤ i) : Rel K f G H (σ.set i none) (ρ.set i none) := by
  have out : ∀ (j : Nat) (s : S), (ρ.set i none)[j]? = some (some s) → i ≠ j ∧ ρ[j]? = some (some s) := by
    intro j s q
    by_cases hj : i = j
    · subst hj
      by_cases hil : i < ρ.length
      · rw [List.getElem?_set_self hil] at q
        cases q
      · rw [List.getElem?_eq_none (by rw [List.length_set]; omega)] at q
        cases q
    · rw [List.getElem?_set_ne hj] at q
      exact ⟨hj, q⟩
  refine ⟨by rw [List.length_set, List.length_set]; exact rl.len, rl.gh, rl.fh, rl.g0, rl.gf, fun j b q => ?_, fun j d q => ?_, fun j xs q hs => ?_, fun j k p xs ys q1 q2 hs1 hs2 q3 q4 => ?_⟩
  · have hj : j < P := by
      have := (List.getElem?_eq_some_iff.mp q).1
      omega
    obtain ⟨q1, ys, q2⟩ := rl.pin j b q
    exact ⟨by rw [List.getElem?_set_ne (by omega)]; exact q1, ys, by rw [List.getElem?_set_ne (by omega)]; exact q2⟩
  · obtain ⟨hj, q⟩ := out _ _ q
    rw [List.getElem?_set_ne hj]
    exact rl.dat j d q
  · obtain ⟨hj, q⟩ := out _ _ q
    rw [List.getElem?_set_ne hj]
    exact rl.ow j xs q hs
  · obtain ⟨h1, q1⟩ := out _ _ q1
    obtain ⟨h2, q2⟩ := out _ _ q2
    rw [List.getElem?_set_ne h1] at q3
    rw [List.getElem?_set_ne h2] at q4
    exact rl.injS j k p xs ys q1 q2 hs1 hs2 q3 q4
theorem Rel.wiped (rl : Rel K f G H σ ρ) (hp : f.pins.length = P) : ∀ {vs : List Nat}, (∀ i ∈ vs, P ≤ i) → Rel K f G H (wipe σ vs) (wipeE ρ vs)
  | [], _ => rl
  | v :: vs, h => (Rel.wiped rl hp fun i hi => h i (List.mem_cons_of_mem _ hi)).drop1 hp (h v List.mem_cons_self)
theorem wipe_out' : ∀ {vs : List Nat} {j : Nat}, j ∉ vs → (wipe σ vs)[j]? = σ[j]?
  | [], _, _ => rfl
  | v :: vs, j, h => by
    rw [List.mem_cons, not_or] at h
    show ((wipe σ vs).set v none)[j]? = σ[j]?
    rw [List.getElem?_set_ne (fun e => h.1 e.symm), wipe_out' h.2]
theorem wipe_same {vs ts : List Nat} (hl : σ'.length = (wipe σ vs).length) (hk : ∀ j, j ∉ ts → σ'[j]? = (wipe σ vs)[j]?) (hs : ∀ i ∈ ts, i ∈ vs) : wipe σ' vs = wipe σ vs := by
  have key : ∀ (us : List Nat) (τ : L2.St) (j : Nat), j ∈ us → (wipe τ us)[j]? = if j < τ.length then some none else none := by
    intro us
    induction us with
    | nil => intro τ j h; cases h
    | cons u us ih =>
      intro τ j h
      show ((wipe τ us).set u none)[j]? = _
      by_cases hj : u = j
      · subst hj
        by_cases hl : u < τ.length
        · rw [List.getElem?_set_self (by rw [wipe_length]; exact hl), if_pos hl]
        · rw [List.getElem?_eq_none (by rw [List.length_set, wipe_length]; omega), if_neg hl]
      · rw [List.getElem?_set_ne hj]
        rcases List.mem_cons.mp h with e | h
        · exact absurd e.symm hj
        · exact ih τ j h
  refine List.ext_getElem? fun j => ?_
  by_cases hj : j ∈ vs
  · rw [key vs σ' j hj, key vs σ j hj, hl, wipe_length]
  · rw [wipe_out' hj, wipe_out' hj, hk j fun z => hj (hs j z), wipe_out' hj]
theorem back_len (ρ1 : Env) : ∀ (vs : List Nat) (ρw : Env), (back ρ1 vs ρw).length = ρw.length
  | [], _ => rfl
  | v :: vs, ρw => by
    show ((back ρ1 vs ρw).set v _).length = _
    rw [List.length_set, back_len ρ1 vs ρw]
theorem back_out (ρ1 : Env) : ∀ {vs : List Nat} {ρw : Env} {j : Nat}, j ∉ vs → (back ρ1 vs ρw)[j]? = ρw[j]?
  | [], _, _, _ => rfl
  | v :: vs, ρw, j, h => by
    rw [List.mem_cons, not_or] at h
    show ((back ρ1 vs ρw).set v _)[j]? = _
    rw [List.getElem?_set_ne (fun e => h.1 e.symm), back_out ρ1 h.2]
theorem back_in (ρ1 : Env) : ∀ {vs : List Nat} {ρw : Env} {j : Nat} {s : S}, j ∈ vs → (back ρ1 vs ρw)[j]? = some (some s) → ∃ x, s = .d x ∧ ρ1[j]? = some (some (S.d x))
  | [], _, _, _, h, _ => by cases h
  | v :: vs, ρw, j, s, h, e => by
    have e : ((back ρ1 vs ρw).set v (match ρ1[v]? with
      | some (some (S.d x)) => some (S.d x)
      | _ => none))[j]? = some (some s) := e
    by_cases hj : v = j
    · subst hj
      by_cases hl : v < (back ρ1 vs ρw).length
      · rw [List.getElem?_set_self hl] at e
        split at e
        · next x ex =>
          cases e
          exact ⟨x, rfl, ex⟩
        · cases e
      · rw [List.getElem?_eq_none (by rw [List.length_set]; omega)] at e
        cases e
    · rw [List.getElem?_set_ne hj] at e
      rcases List.mem_cons.mp h with z | h
      · exact absurd z.symm hj
      · exact back_in ρ1 h e
/-- one more object that is to stay -/
def Fx.add (f : Fx) (a : Addr) (o : HO) : Fx := ⟨upd f.F a o, f.G0, f.pins⟩
theorem Rel.addF (rl : Rel K f G H σ ρ) {a : Addr} {o : HO} (h : H a = none) : Rel K (f.add a o) G (upd H a o) σ ρ := by
  have gr : Grow G H G (upd H a o) := Grow.fresh rl.gh h
  have r := rl.grow gr
  refine ⟨r.len, r.gh, fun b x q => ?_, r.g0, fun b q1 q2 => ?_, r.pin, r.dat, fun i xs q hs => ?_, r.injS⟩
  · by_cases hb : b = a
    · subst hb
      have q : upd f.F b o b = some x := q
      rw [upd_same] at q ⊢
      exact q
    · have q : upd f.F a o b = some x := q
      rw [upd_ne hb] at q
      exact r.fh _ _ q
  · by_cases hb : b = a
    · subst hb
      exact absurd (rl.gh.free h) q2
    · refine r.gf b (fun z => q1 ?_) q2
      show upd f.F a o b = none
      rw [upd_ne hb]
      exact z
  · obtain ⟨p, vs, q1, q2, q3, q4, q5⟩ := rl.ow i xs q hs
    have hpa : p ≠ a := ne_of_none q2 h
    refine ⟨p, vs, q1, ?_, q3, q4, ?_⟩
    · rw [upd_ne hpa]
      exact q2
    · show upd f.F a o p = none
      rw [upd_ne hpa]
      exact q5
theorem Rel.noG {a : Addr} {o : HO} (rl : Rel K (f.add a o) G H σ ρ) (h : f.G0 a = none) : G a = none := by
  cases e : G a with
  | none => rfl
  | some x =>
    refine absurd h (rl.gf a ?_ (ne_none_of e))
    show upd f.F a o a ≠ none
    rw [upd_same]
    exact fun z => nomatch z
theorem Rel.atF {a : Addr} {o : HO} (rl : Rel K (f.add a o) G H σ ρ) : H a = some o := rl.fh a o upd_same
theorem Rel.swapF {a : Addr} {o o' : HO} (rl : Rel K (f.add a o) G H σ ρ) (h : f.G0 a = none) : Rel K (f.add a o') G (upd H a o') σ ρ := by
  have hG := rl.noG h
  refine ⟨rl.len, fun b x q => ?_, fun b x q => ?_, rl.g0, fun b q1 q2 => ?_, rl.pin, rl.dat, fun i xs q hs => ?_, rl.injS⟩
  · rw [upd_ne (fun z => by subst z; rw [hG] at q; cases q)]
    exact rl.gh _ _ q
  · have q : upd f.F a o' b = some x := q
    by_cases hb : b = a
    · subst hb
      rw [upd_same] at q ⊢
      exact q
    · rw [upd_ne hb] at q ⊢
      refine rl.fh b x ?_
      show upd f.F a o b = some x
      rw [upd_ne hb]
      exact q
  · by_cases hb : b = a
    · subst hb
      exact absurd hG q2
    · refine rl.gf b (fun z => q1 ?_) q2
      have z : upd f.F a o b = none := z
      show upd f.F a o' b = none
      rw [upd_ne hb] at z ⊢
      exact z
  · obtain ⟨p, vs, q1, q2, q3, q4, q5⟩ := rl.ow i xs q hs
    have q5 : upd f.F a o p = none := q5
    have hpa : p ≠ a := fun z => by
      subst z
      rw [upd_same] at q5
      cases q5
    refine ⟨p, vs, q1, ?_, q3, q4, ?_⟩
    · rw [upd_ne hpa]
      exact q2
    · show upd f.F a o' p = none
      rw [upd_ne hpa] at q5 ⊢
      exact q5
/-- behind a comprehension: the frame's own slots -/
theorem Rel.restore {a : Addr} {o : HO} {G1 H1 : Hp} {ρ1 ρw : Env} {vs : List Nat} (rl1 : Rel K f G1 H1 σ ρ1) (hp : f.pins.length = P) (hv : ∀ i ∈ vs, P ≤ i) (s : Same G1 G) (rl : Rel K (f.add a o) G H (wipe σ vs) ρw) (hF : f.F a = none) : Rel K f G H σ (back ρ1 vs ρw) := by
  have sub : ∀ b, f.F b ≠ none → (f.add a o).F b = f.F b := fun b hb => upd_ne (fun z => by subst z; exact hb hF)
  have osl : ∀ (j : Nat) (s : S), (back ρ1 vs ρw)[j]? = some (some s) → s.own = true → j ∉ vs ∧ ρw[j]? = some (some s) := by
    intro j xs q hs
    by_cases hj : j ∈ vs
    · obtain ⟨x, e, _⟩ := back_in ρ1 hj q
      subst e
      cases hs
    · rw [back_out ρ1 hj] at q
      exact ⟨hj, q⟩
  refine ⟨?_, rl.gh, fun b x q => ?_, rl.g0, fun b q1 q2 => ?_, fun i b q => ?_, fun j d q => ?_, fun j xs q hs => ?_, fun j k p xs ys q1 q2 hs1 hs2 q3 q4 => ?_⟩
  · rw [back_len, ← rl.len, wipe_length]
  · refine rl.fh b x ?_
    rw [sub b (ne_none_of q)]
    exact q
  · exact rl.gf b (by rw [sub b q1]; exact q1) q2
  · have hi : i < P := by
      have := (List.getElem?_eq_some_iff.mp q).1
      omega
    have hj : i ∉ vs := fun z => by
      have := hv i z
      omega
    obtain ⟨q1, xs, q2⟩ := rl.pin i b q
    exact ⟨by rw [← wipe_out' (σ := σ) hj]; exact q1, xs, by rw [back_out ρ1 hj]; exact q2⟩
  · by_cases hj : j ∈ vs
    · obtain ⟨x, e, q2⟩ := back_in ρ1 hj q
      cases e
      obtain ⟨v, w1, w2⟩ := rl1.dat j _ q2
      exact ⟨v, w1, dp_same s _ _ w2⟩
    · rw [back_out ρ1 hj] at q
      obtain ⟨v, w1, w2⟩ := rl.dat j _ q
      exact ⟨v, by rw [← wipe_out' (σ := σ) hj]; exact w1, w2⟩
  · obtain ⟨hj, q⟩ := osl j xs q hs
    obtain ⟨p, us, q1, q2, q3, q4, q5⟩ := rl.ow j xs q hs
    refine ⟨p, us, by rw [← wipe_out' (σ := σ) hj]; exact q1, q2, q3, q4, ?_⟩
    have q5 : upd f.F a o p = none := q5
    by_cases hpa : p = a
    · subst hpa
      exact hF
    · rw [upd_ne hpa] at q5
      exact q5
  · obtain ⟨h1, q1⟩ := osl j xs q1 hs1
    obtain ⟨h2, q2⟩ := osl k ys q2 hs2
    exact rl.injS j k p xs ys q1 q2 hs1 hs2 (by rw [wipe_out' h1]; exact q3) (by rw [wipe_out' h2]; exact q4)
end
def lcL (P : Nat) (b : D → Env → Option Env) (mt : Env → Res Bool) (me : Env → Res R) (vs : List Nat) : List D → List D → Env → Res (List D)
  | [], acc, ρ => .ok acc ρ
  | d :: ds, acc, ρ => match b d ρ with
    | none => .no
    | some ρ1 => (match mt ρ1 with
      | .ok true ρ2 => (match me ρ2 with
        | .ok r ρ3 => (match frz1 P ρ3 r with
          | some ρ4 => (match dopd ρ4 r with
            | some y => if acc.length < 1000000 then lcL P b mt me vs ds (acc ++ [y]) (wipeE ρ4 vs) else .no
            | none => .no)
          | none => .no)
        | _ => .no)
      | .ok false ρ2 => lcL P b mt me vs ds acc (wipeE ρ2 vs)
      | _ => .no)
def mLc (P : Nat) (mi : Env → Res (List D)) (b : D → Env → Option Env) (mt : Env → Res Bool) (me : Env → Res R) (vs : List Nat) : Env → Res R := fun ρ => (mi ρ).bind fun ds ρ1 => match lcL P b mt me vs ds [] (wipeE ρ1 vs) with
  | .ok acc ρw => .ok (.o acc) (back ρ1 vs ρw)
  | _ => .no
theorem lc_go {K : PySem.W.Frag} {P : Nat} {W : Wish} {g : TG} {b : D → Env → Option Env} {ts vs : List Nat} {tt : TT} {mt : Env → Res Bool} {te : TE} {me : Env → Res R}
    (hg : SimG K P g b ts) (ht : SimT K P W tt mt) (he : SimE K P W te me) (hts : ∀ i ∈ ts, i ∈ vs) (hvs : ∀ i ∈ vs, P ≤ i)
    {f : Fx} {G1 H1 : Hp} {σ : L2.St} {ρ1 : Env} {J : It} {ds : List D} {Q : VK} {accF : List D} {ρF : Env} (hp : f.pins.length = P) (rl1 : Rel K f G1 H1 σ ρ1) (wk : Walk K f.F G1 J ds)
    (hres : lcL P b mt me vs ds [] (wipeE ρ1 vs) = .ok accF ρF)
    (hq : ∀ v G' H', Same G1 G' → Rel K f G' H' σ (back ρ1 vs ρF) → VRep K f G' H' σ (back ρ1 vs ρF) v (.o accF) → Q v H') :
    ∀ A, H1 A = none → ∃ Wv : Nat → Nat → Hp → Prop, (∃ m, Wv 0 m (upd H1 A (.lst []))) ∧ ∀ i m H, Wv i m H →
  (J.stop i H ∧ Q (.ref A) H) ∨ (J.go i H ∧ ∃ Nx : Hp → Prop, (∀ H', Nx H' → ∃ m', m' < m ∧ Wv (i + 1) m' H') ∧ ∀ x H', J.yld i H x H' → g x (wipe σ vs) H' fun σ2 H2 => wipe σ2 vs = wipe σ vs ∧ tt σ2 H2 fun b H3 =>
    if b = true then te σ2 H3 fun y H4 => ∃ acc, H4 A = some (.lst acc) ∧ acc.length < sizeLine ∧ Nx (upd H4 A (.lst (acc ++ [y]))) else Nx H3) := by
  intro A nA
  have gA : G1 A = none := rl1.gh.free nA
  have fA : f.F A = none := rl1.fh.free nA
  have g0A : f.G0 A = none := rl1.g0.free gA
  refine ⟨fun i m H' => ∃ G' ρ' acc avs, Same G1 G' ∧ Rel K (f.add A (.lst avs)) G' H' (wipe σ vs) ρ' ∧ DpAll K G' avs acc ∧ i + m = ds.length ∧ lcL P b mt me vs (ds.drop i) acc ρ' = .ok accF ρF,
    ⟨ds.length, G1, wipeE ρ1 vs, [], [], .refl _, (rl1.wiped hp hvs).addF nA, .nil, by omega, hres⟩, fun i m H' hW => ?_⟩
  obtain ⟨G2, ρ2, acc, avs, s2, rl2, hacc, em, hc⟩ := hW
  have sF : Same f.F H' := fun b o q => rl2.fh b o (by
    show upd f.F A _ b = some o
    rw [upd_ne (fun z => by subst z; rw [fA] at q; cases q)]
    exact q)
  obtain ⟨wk1, wk2⟩ := wk G2 H' s2 rl2.gh sF
  by_cases hlt : i < ds.length
  · have ed : ds.drop i = ds[i] :: ds.drop (i + 1) := List.drop_eq_getElem_cons hlt
    obtain ⟨go, yl⟩ := wk1 i ds[i] (List.getElem?_eq_getElem hlt)
    refine .inr ⟨go, fun H3 => ∃ G' ρ' acc avs, Same G1 G' ∧ Rel K (f.add A (.lst avs)) G' H3 (wipe σ vs) ρ' ∧ DpAll K G' avs acc ∧ lcL P b mt me vs (ds.drop (i + 1)) acc ρ' = .ok accF ρF,
      fun H3 hN => ?_, fun x H3 hy => ?_⟩
    · obtain ⟨G', ρ', acc', avs', a1, a2, a3, a4⟩ := hN
      exact ⟨m - 1, by omega, G', ρ', acc', avs', a1, a2, a3, by omega, a4⟩
    · obtain ⟨G3, gr, hd⟩ := yl x H3 hy
      have rl3 := rl2.grow gr
      have s3 := s2.trans gr.1
      rw [ed] at hc
      simp only [lcL] at hc
      split at hc
      · cases hc
      · next ρ3 e3 =>
        refine hg (f.add A (.lst avs)) G3 H3 (wipe σ vs) ρ2 ρ3 x ds[i] _ hp rl3 hd e3 fun σ4 rl4 l4 k4 => ?_
        have ew := wipe_same l4 k4 hts
        refine ⟨ew, ht (f.add A (.lst avs)) G3 H3 σ4 ρ3 _ hp rl4 ?_⟩
        cases e4 : mt ρ3 with
        | no => rw [e4] at hc; cases hc
        | exc c ρ4 => rw [e4] at hc; cases hc
        | ok k ρ4 =>
          rw [e4] at hc
          intro G5 H5 s5 rl5
          cases k with
          | false =>
            rw [if_neg Bool.false_ne_true]
            have r6 := rl5.wiped hp hvs
            rw [ew] at r6
            exact ⟨G5, _, acc, avs, s3.trans s5, r6, dpAll_same (gr.1.trans s5) _ _ hacc, hc⟩
          | true =>
            rw [if_pos rfl]
            simp only at hc
            refine SimE.op (f := f.add A (.lst avs)) he hp rl5 ?_
            cases e5 : me ρ4 with
            | no => rw [e5] at hc; cases hc
            | exc c ρ5 => rw [e5] at hc; cases hc
            | ok r ρ5 =>
              rw [e5] at hc
              intro v G6 H6 s6 rl6 h6
              simp only at hc
              split at hc
              · next ρ6 e6 =>
                obtain ⟨G7, s7, rl7⟩ := rl6.frz1 hp e6
                split at hc
                · next y e7 =>
                  split at hc
                  · next hlen =>
                    have s27 := ((gr.1.trans s5).trans s6).trans s7
                    have hv : Dp K G7 v y := (h6.same s7).dat rl7 e7
                    have hacc' : DpAll K G7 avs acc := dpAll_same s27 _ _ hacc
                    refine ⟨avs, rl7.atF, ?_, ?_⟩
                    · rw [dpAll_len hacc]
                      exact Nat.lt_of_lt_of_le hlen (by decide)
                    · have r8 := (rl7.swapF (o' := .lst (avs ++ [v])) g0A).wiped hp hvs
                      rw [ew] at r8
                      exact ⟨G7, _, acc ++ [y], avs ++ [v], s2.trans s27, r8, dpAll_append hacc' (.cons hv .nil), hc⟩
                  · cases hc
                · cases hc
              · cases hc
  · have ed : ds.drop i = [] := List.drop_of_length_le (by omega)
    rw [ed] at hc
    simp only [lcL] at hc
    cases hc
    refine .inl ⟨wk2 i (by omega), ?_⟩
    have rl' := rl1.restore hp hvs s2 rl2 fA
    refine hq (.ref A) G2 H' s2 rl' ⟨A, avs, rfl, rl2.atF, hacc, rl2.noG g0A, fA, fun i ys q hs z => ?_⟩
    by_cases hj : i ∈ vs
    · obtain ⟨x, e, _⟩ := back_in ρ1 hj q
      subst e
      cases hs
    · rw [back_out ρ1 hj] at q
      obtain ⟨p, us, q1, q2, q3, q4, q5⟩ := rl2.ow i ys q hs
      rw [wipe_out' hj, z] at q1
      cases q1
      have q5 : upd f.F A (HO.lst avs) A = none := q5
      rw [upd_same] at q5
      cases q5
theorem sim_lc {K : PySem.W.Frag} {P : Nat} {W : Wish} {wi : TI} {mi : Env → Res (List D)} {g : TG} {b : D → Env → Option Env} {ts vs : List Nat} {tt : TT} {mt : Env → Res Bool} {te : TE} {me : Env → Res R}
    (hi : SimI K P W wi mi) (hg : SimG K P g b ts) (ht : SimT K P W tt mt) (he : SimE K P W te me) (hts : ∀ i ∈ ts, i ∈ vs) (hvs : ∀ i ∈ vs, P ≤ i) : SimE K P W (tLc wi g tt te vs) (mLc P mi b mt me vs) := by
  intro f G H σ ρ Q hp rl hq
  refine hi f G H σ ρ _ hp rl ?_
  unfold mLc at hq
  cases e : mi ρ with
  | no => rw [e] at hq; exact hq
  | exc c ρ1 => rw [e] at hq; exact hq
  | ok ds ρ1 =>
    rw [e] at hq
    simp only [Res.bind] at hq
    intro J G1 H1 s1 rl1 wk
    split at hq
    · next acc ρw hr => exact lc_go hg ht he hts hvs hp rl1 wk hr fun v G' H' s => hq v G' H' (s1.trans s)
    · exact hq.elim
/-- the same over a slot's own list, which the comprehension's parts do not name -/
def mLcH (P j : Nat) (b : D → Env → Option Env) (mt : Env → Res Bool) (me : Env → Res R) (vs : List Nat) : Env → Res R := fun ρ => match ρ[j]? with
  | some (some (S.d (.list ds))) => (match lcL P b mt me vs ds [] (wipeE ρ vs) with
    | .ok acc ρw => .ok (.o acc) (back ρ vs ρw)
    | _ => .no)
  | some (some (S.d (.tuple ds))) => (match lcL P b mt me vs ds [] (wipeE ρ vs) with
    | .ok acc ρw => .ok (.o acc) (back ρ vs ρw)
    | _ => .no)
  | some (some (S.o ds)) => (match lcL P b mt me vs ds [] (wipeE (ρ.set j none) vs) with
    | .ok acc ρw => .ok (.o acc) ((back (ρ.set j none) vs ρw).set j (some (S.o ds)))
    | _ => .no)
  | _ => .no
section
variable {K : PySem.W.Frag} {P : Nat} {W : Wish} {f : Fx} {G H G' H' : Hp} {σ : L2.St} {ρ : Env}
theorem Rel.hide {j : Nat} {p : Addr} {us : List V} {xs : List D} (rl : Rel K f G H σ ρ) (hp : f.pins.length = P) (hj : P ≤ j) (e : ρ[j]? = some (some (S.o xs))) (e2 : σ[j]? = some (some (V.ref p))) (hH : H p = some (.lst us)) (hG : G p = none) :
    Rel K (f.add p (.lst us)) G H σ (ρ.set j none) := by
  have r := rl.forget hp hj
  have out : ∀ (i : Nat) (ys : S), (ρ.set j none)[i]? = some (some ys) → j ≠ i ∧ ρ[i]? = some (some ys) := by
    intro i ys q
    by_cases h : j = i
    · subst h
      rw [List.getElem?_set_self (List.getElem?_eq_some_iff.mp e).1] at q
      cases q
    · rw [List.getElem?_set_ne h] at q
      exact ⟨h, q⟩
  refine ⟨r.len, r.gh, fun b o q => ?_, r.g0, fun b q1 q2 => ?_, r.pin, r.dat, fun i ys q hs => ?_, r.injS⟩
  · have q : upd f.F p (.lst us) b = some o := q
    by_cases hb : b = p
    · subst hb
      rw [upd_same] at q
      cases q
      exact hH
    · rw [upd_ne hb] at q
      exact rl.fh b o q
  · have q1 : upd f.F p (.lst us) b ≠ none := q1
    by_cases hb : b = p
    · subst hb
      exact absurd hG q2
    · rw [upd_ne hb] at q1
      exact rl.gf b q1 q2
  · obtain ⟨hne, q⟩ := out i ys q
    obtain ⟨p', vs', w1, w2, w3, w4, w5⟩ := rl.ow i ys q hs
    refine ⟨p', vs', w1, w2, w3, w4, ?_⟩
    show upd f.F p (.lst us) p' = none
    rw [upd_ne]
    · exact w5
    · intro z
      subst z
      exact hne (rl.injS j i p' (.o xs) ys e q rfl hs e2 w1)
theorem Rel.unhide {j : Nat} {p : Addr} {us : List V} {xs : List D} (rl : Rel K (f.add p (.lst us)) G H σ ρ) (hF : f.F p = none) (h0 : f.G0 p = none) (e2 : σ[j]? = some (some (V.ref p))) (hx : DpAll K G us xs) :
    Rel K f G H σ (ρ.set j (some (S.o xs))) ∧ True := by
  have hG := rl.noG h0
  have hH := rl.atF
  have sub : ∀ b, b ≠ p → (f.add p (.lst us)).F b = f.F b := fun b hb => upd_ne hb
  by_cases hjl : j < ρ.length
  · have out : ∀ (k : Nat) (zs : S), (ρ.set j (some (S.o xs)))[k]? = some (some zs) → (j = k ∧ S.o xs = zs) ∨ (j ≠ k ∧ ρ[k]? = some (some zs)) := by
      intro k s q
      by_cases hj : j = k
      · subst hj
        rw [List.getElem?_set_self hjl] at q
        cases q
        exact .inl ⟨rfl, rfl⟩
      · rw [List.getElem?_set_ne hj] at q
        exact .inr ⟨hj, q⟩
    have far : ∀ (k : Nat) (zs : S), ρ[k]? = some (some zs) → zs.own = true → σ[k]? ≠ some (some (V.ref p)) := by
      intro k zs q hs z
      obtain ⟨p', vs', w1, w2, w3, w4, w5⟩ := rl.ow k zs q hs
      rw [z] at w1
      cases w1
      have w5 : upd f.F p (HO.lst us) p = none := w5
      rw [upd_same] at w5
      cases w5
    refine ⟨⟨by rw [List.length_set]; exact rl.len, rl.gh, fun b o q => ?_, rl.g0, fun b q1 q2 => ?_, fun i b q => ?_, fun i d q => ?_, fun i ys q hs => ?_, fun i k p' ys zs q1 q2 hs1 hs2 q3 q4 => ?_⟩, trivial⟩
    · have hb : b ≠ p := fun z => by
        subst z
        rw [hF] at q
        cases q
      exact rl.fh b o (by rw [sub b hb]; exact q)
    · have hb : b ≠ p := fun z => by
        subst z
        exact q1 hF
      exact rl.gf b (by rw [sub b hb]; exact q1) q2
    · obtain ⟨w1, ys, w2, w3⟩ := rl.pin i b q
      refine ⟨w1, ?_⟩
      by_cases hj : j = i
      · subst hj
        exact ⟨.o xs, List.getElem?_set_self hjl, rfl⟩
      · exact ⟨ys, by rw [List.getElem?_set_ne hj]; exact w2, w3⟩
    · by_cases hj : j = i
      · subst hj
        rw [List.getElem?_set_self hjl] at q
        cases q
      · rw [List.getElem?_set_ne hj] at q
        exact rl.dat i d q
    · rcases out i ys q with ⟨h1, h2⟩ | ⟨h1, q⟩
      · subst h1
        subst h2
        exact ⟨p, _, e2, hH, .o hx, hG, hF⟩
      · obtain ⟨p', vs', w1, w2, w3, w4, w5⟩ := rl.ow i ys q hs
        have hpp : p' ≠ p := fun z => by
          subst z
          exact far i ys q hs w1
        exact ⟨p', vs', w1, w2, w3, w4, by rw [← sub p' hpp]; exact w5⟩
    · rcases out i ys q1 with ⟨h1, _⟩ | ⟨h1, q1⟩
      · subst h1
        rw [e2] at q3
        cases q3
        rcases out k zs q2 with ⟨h2, _⟩ | ⟨h2, q2⟩
        · exact h2
        · exact absurd q4 (far k zs q2 hs2)
      · rcases out k zs q2 with ⟨h2, _⟩ | ⟨h2, q2⟩
        · subst h2
          rw [e2] at q4
          cases q4
          exact absurd q3 (far i ys q1 hs1)
        · exact rl.injS i k p' ys zs q1 q2 hs1 hs2 q3 q4
  · rw [← rl.len] at hjl
    rw [List.getElem?_eq_none (by omega)] at e2
    cases e2
theorem sim_lcH {j : Nat} {g : TG} {b : D → Env → Option Env} {ts vs : List Nat} {tt : TT} {mt : Env → Res Bool} {te : TE} {me : Env → Res R}
    (hg : SimG K P g b ts) (ht : SimT K P W tt mt) (he : SimE K P W te me) (hts : ∀ i ∈ ts, i ∈ vs) (hvs : ∀ i ∈ vs, P ≤ i) (hj : P ≤ j) : SimE K P W (tLc (iSeq K (tVar j)) g tt te vs) (mLcH P j b mt me vs) := by
  intro f G H σ ρ Q hp rl hq
  unfold mLcH at hq
  split at hq
  · next ds e =>
    split at hq
    · next acc ρw hr =>
      obtain ⟨v, w1, w2⟩ := rl.dat j _ e
      obtain ⟨a, xs, rfl, w3, w4⟩ := dp_lst w2
      exact ⟨_, w1, a, rfl, .inl ⟨⟨xs, rl.gh.seq w3⟩, lc_go hg ht he hts hvs hp rl (walk_list w3 w4) hr fun v G' H' s => hq v G' H' s⟩⟩
    · exact hq.elim
  · next ds e =>
    split at hq
    · next acc ρw hr =>
      obtain ⟨v, w1, w2⟩ := rl.dat j _ e
      obtain ⟨a, xs, rfl, w3, w4⟩ := dp_tup w2
      exact ⟨_, w1, a, rfl, .inr ⟨⟨xs, sqT_same rl.gh w3⟩, lc_go hg ht he hts hvs hp rl (walk_tup w3 w4) hr fun v G' H' s => hq v G' H' s⟩⟩
    · exact hq.elim
  · next ds e =>
    split at hq
    · next acc ρw hr =>
      obtain ⟨p, us, w1, w2, w3, w4, w5⟩ := rl.own j ds e
      refine ⟨_, w1, p, rfl, .inl ⟨⟨us, .inl (.inl w2)⟩, ?_⟩⟩
      have rh := rl.hide hp hj e w1 w2 w4
      have wk : Walk K (f.add p (.lst us)).F G (Itl K p) ds := by
        intro G1 H1 s1 s2 s3
        have hs : H1 p = some (.lst us) := s3 p _ upd_same
        have hq : SqL K H1 p us := .inl (.inl hs)
        refine ⟨fun i d e => ?_, fun i hi => ⟨us, hq, by rw [dpAll_len w3]; exact hi⟩⟩
        obtain ⟨v, q1, q2⟩ := dpAll_get w3 e
        refine ⟨⟨us, v, hq, q1⟩, fun x H2 hy => ?_⟩
        obtain ⟨rfl, fv⟩ := hy
        have ex : x = v := Option.some.inj ((fv _ hq).symm.trans q1)
        subst ex
        exact ⟨G1, .refl s2, dp_same s1 _ _ q2⟩
      refine lc_go (f := f.add p (.lst us)) hg ht he hts hvs hp rh wk hr fun v G' H' s rl' hv => ?_
      have g0p : f.G0 p = none := rl.g0.free w4
      have rl2 := (rl'.unhide w5 g0p w1 (dpAll_same s _ _ w3)).1
      obtain ⟨A, avs, rfl, q1, q2, q3, q4, q5⟩ := hv
      have hpA : A ≠ p := fun z => by
        subst z
        have q4 : upd f.F A (HO.lst us) A = none := q4
        rw [upd_same] at q4
        cases q4
      refine hq _ G' H' s rl2 ⟨A, avs, rfl, q1, q2, q3, ?_, fun i ys q hs z => ?_⟩
      · have q4 : upd f.F p (HO.lst us) A = none := q4
        rw [upd_ne hpA] at q4
        exact q4
      · by_cases hi : j = i
        · subst hi
          rw [w1] at z
          cases z
          exact hpA rfl
        · rw [List.getElem?_set_ne hi] at q
          exact q5 i ys q hs z
    · exact hq.elim
  · exact hq.elim
end
end Z
namespace Z
open PySem L2

/-! ### a def's promise: what its mirror says -/
def cut (H : Hp) (pins : List (Option Addr)) : Hp := fun a => if some a ∈ pins then none else H a
def env0 (n : Nat) (ss : List S) : Env := ss.map some ++ List.replicate (n - ss.length) none
def spM (K : PySem.W.Frag) (P k n : Nat) (WC : XK → Wish) (mb : Env → Out) : Sp := fun vs H Q E => vs.length = k ∧ ∃ (pins : List (Option Addr)) (G : Hp) (ss : List S), pins.length = P ∧ ss.length = k ∧
  Rel K ⟨cut H pins, G, pins⟩ G H (vs.map some ++ List.replicate (n - vs.length) none) (env0 n ss) ∧ CS K (WC E) ⟨cut H pins, G, pins⟩ G { nx := fun _ H' => Q .non H', rt := Q } (mb (env0 n ss))
def W0 : XK → Wish := fun _ _ _ _ => False
theorem env0_get {n : Nat} {ss : List S} {i : Nat} {s : S} (h : (env0 n ss)[i]? = some (some s)) : ss[i]? = some s := by
  unfold env0 at h
  by_cases hi : i < ss.length
  · rw [List.getElem?_append_left (by rw [List.length_map]; exact hi), List.getElem?_map] at h
    cases e : ss[i]? with
    | none => rw [e] at h; cases h
    | some x => rw [e] at h; cases h; rfl
  · rw [List.getElem?_append_right (by rw [List.length_map]; omega)] at h
    rw [List.getElem?_replicate] at h
    split at h <;> cases h
theorem start_get {n : Nat} {vs : List V} {i : Nat} {v : V} (h : vs[i]? = some v) : (vs.map some ++ List.replicate (n - vs.length) none)[i]? = some (some v) := by
  have hi : i < vs.length := (List.getElem?_eq_some_iff.mp h).1
  rw [List.getElem?_append_left (by rw [List.length_map]; exact hi), List.getElem?_map, h]
  rfl
section
variable {P : Program} {w : World} {K : PySem.W.Frag} {mg : Str → Option Value} {base : Heap}
theorem ok0 {x qual : Str} {st : Stmt} {f : Addr} {fd : FuncData} {N ps : List Str} {k np kk n : Nat} {mb : Env → Out} (F : Fun K x qual st f fd) (S : FnScope N ps (defScope st)) (hk : ps.length = kk) (hn : N.length = n)
    (body : ∀ (cdv : Value) (A : Around) (outer : List PySem.Env) (s : Shared) (H : Hp) (E : XK), Room k (A.deeper (PyProof.Rows.envOfC qual (defScope st) s.heap.objs.size f cdv)) →
      ∃ t, PSs (cxOf CX0 P w K mg base N qual (defScope st) f cdv A outer s H E).nox (defBody st) t ∧ SimS K np (W0 E) t mb) : FnOk P w K mg base CX0 (k + 1) f fd ps (spM K np kk n W0 mb) := by
  refine F.ok S (fun vs H Q E h => by rw [hk]; exact h.1) fun cdv A outer s H vs Q E hr h => ?_
  obtain ⟨t, h1, h2⟩ := body cdv A outer s H E hr
  refine ⟨t, h1, ?_⟩
  obtain ⟨hl, pins, G, ss, q1, q2, q3, q4⟩ := h
  subst hn
  exact h2 _ G H _ _ _ q1 q3 q4
end

/-! ### calls -/
def flatD : D → Bool
  | .none => true
  | .bool _ => true
  | .int _ => true
  | .str _ => true
  | _ => false
theorem flat_dp {K : PySem.W.Frag} {G G' : Hp} {v : V} {d : D} (h : Dp K G v d) (e : flatD d = true) : Dp K G' v d := by
  cases h with
  | non => exact .non
  | bl b => exact .bl b
  | int i => exact .int i
  | str x => exact .str x
  | lst _ _ => cases e
  | tup _ _ => cases e
def mCall0 (ex : Bool) (P k n : Nat) (mb : Env → Out) (ms : Env → Res (List R)) : Env → Res R := fun ρ => (ms ρ).bind fun rs ρ1 => match frzA P rs ρ1 with
  | none => .no
  | some ρ2 => (match dopds ρ2 rs with
    | none => .no
    | some ds => if ds.length = k then (match mb (env0 n (ds.map S.d)) with
        | .nx _ => .ok (.d .none) ρ1
        | .exc c _ => if ex = true then .exc c ρ1 else .no
        | .rt (.d x) _ => if flatD x = true then .ok (.d x) ρ1 else .ok (.d x) ρ2
        | .rt (.o xs) _ => .ok (.o xs) ρ2
        | _ => .no) else .no)
/-- what is lent to a callee: for each of its first places whether one's own object is lent there -/
def frzM (P : Nat) : List Bool → List R → Env → Option Env
  | _, [], ρ => some ρ
  | true :: ms, _ :: rs, ρ => frzM P ms rs ρ
  | false :: ms, r :: rs, ρ => (match Z.frz1 P ρ r with
    | some ρ1 => frzM P ms rs ρ1
    | none => none)
  | [], r :: rs, ρ => (match Z.frz1 P ρ r with
    | some ρ1 => frzM P [] rs ρ1
    | none => none)
def lendS (ρ : Env) : List Bool → List R → Option (List S × List (Option Nat))
  | _, [] => some ([], [])
  | true :: ms, .b j :: rs => (match ρ[j]? with
    | some (some (S.d x)) => (match lendS ρ ms rs with
      | some (ss, js) => some (.d x :: ss, none :: js)
      | none => none)
    | some (some s) => (match lendS ρ ms rs with
      | some (ss, js) => some (s :: ss, some j :: js)
      | none => none)
    | _ => none)
  | true :: ms, .d x :: rs => (match lendS ρ ms rs with
      | some (ss, js) => some (.d x :: ss, none :: js)
      | none => none)
  | true :: _, .o _ :: _ => none
  | false :: ms, r :: rs => (match Z.dopd ρ r, lendS ρ ms rs with
    | some x, some (ss, js) => some (.d x :: ss, none :: js)
    | _, _ => none)
  | [], r :: rs => (match Z.dopd ρ r, lendS ρ [] rs with
    | some x, some (ss, js) => some (.d x :: ss, none :: js)
    | _, _ => none)
/-- what was lent comes back -/
def takeB (ρ' : Env) : Nat → List (Option Nat) → Env → Option Env
  | _, [], ρ => some ρ
  | i, none :: js, ρ => takeB ρ' (i + 1) js ρ
  | i, some j :: js, ρ => (match ρ'[i]? with
    | some (some s) => if s.own = true then takeB ρ' (i + 1) js (ρ.set j (some s)) else none
    | _ => none)
def hasJ (j : Nat) : List (Option Nat) → Bool
  | [] => false
  | none :: js => hasJ j js
  | some k :: js => if k = j then true else hasJ j js
def ndJ : List (Option Nat) → Bool
  | [] => true
  | none :: js => ndJ js
  | some j :: js => if hasJ j js = true then false else ndJ js
theorem hasJ_no {j : Nat} : ∀ {js : List (Option Nat)}, hasJ j js = false → j ∉ js.filterMap id
  | [], _ => by simp
  | none :: js, h => by simpa using hasJ_no (js := js) h
  | some k :: js, h => by
    simp only [hasJ] at h
    split at h
    · cases h
    · next hk =>
      have := hasJ_no (js := js) h
      simp only [List.filterMap_cons, id, List.mem_cons, not_or]
      exact ⟨fun z => hk z.symm, by simpa using this⟩
theorem ndJ_ok : ∀ {js : List (Option Nat)}, ndJ js = true → (js.filterMap id).Nodup
  | [], _ => by simp
  | none :: js, h => by simpa using ndJ_ok (js := js) h
  | some j :: js, h => by
    simp only [ndJ] at h
    split at h
    · cases h
    · next hj =>
      have h1 := hasJ_no (eq_false_of_ne_true hj)
      have h2 := ndJ_ok (js := js) h
      simp only [List.filterMap_cons, id]
      exact List.nodup_cons.mpr ⟨by simpa using h1, by simpa using h2⟩
def mCallM (P : Nat) (mask : List Bool) (k n : Nat) (mb : Env → Out) (ms : Env → Res (List R)) : Env → Res R := fun ρ => (ms ρ).bind fun rs ρ1 => match frzM P mask rs ρ1 with
  | none => .no
  | some ρ2 => (match lendS ρ2 mask rs with
    | none => .no
    | some (ss, js) => if ss.length = k ∧ mask.length ≤ k ∧ ndJ js = true then (match mb (env0 n ss) with
        | .nx ρ' => (match takeB ρ' 0 js ρ2 with
          | some ρ3 => .ok (.d .none) ρ3
          | none => .no)
        | .rt (.d x) ρ' => (match takeB ρ' 0 js ρ2 with
          | some ρ3 => .ok (.d x) ρ3
          | none => .no)
        | .rt (.o zs) ρ' => (match takeB ρ' 0 js ρ2 with
          | some ρ3 => .ok (.o zs) ρ3
          | none => .no)
        | _ => .no) else .no)
def mCall1 (ex : Bool) (P k n : Nat) (mb : Env → Out) (ms : Env → Res (List R)) : Env → Res R := fun ρ => (ms ρ).bind fun rs ρ1 => match rs with
  | .b j :: rest => (match frzA P rest ρ1 with
    | none => .no
    | some ρ2 => (match dopds ρ2 rest, ρ2[j]? with
      | some ds, some (some (S.o xs)) => if ds.length + 1 = k then (match mb (env0 n (.o xs :: ds.map S.d)) with
          | .nx ρ' => (match ρ'[0]? with
            | some (some (S.o ys)) => .ok (.d .none) (ρ2.set j (some (S.o ys)))
            | _ => .no)
          | .rt (.d x) ρ' => (match ρ'[0]? with
            | some (some (S.o ys)) => .ok (.d x) (ρ2.set j (some (S.o ys)))
            | _ => .no)
          | .rt (.o zs) ρ' => (match ρ'[0]? with
            | some (some (S.o ys)) => .ok (.o zs) (ρ2.set j (some (S.o ys)))
            | _ => .no)
          | _ => .no) else .no
      | _, _ => .no))
  | _ => .no
section
variable {K : PySem.W.Frag} {P : Nat} {W : Wish} {f : Fx} {G H G' H' : Hp} {σ σ' : L2.St} {ρ ρ' : Env}
theorem cut_nil (H : Hp) : cut H [] = H := by
  funext a
  unfold cut
  rw [if_neg (by simp)]
theorem rel_args {n : Nat} {vs : List V} {ds : List D} (gh : Same G H) (h : DpAll K G vs ds) : Rel K ⟨cut H [], G, []⟩ G H (vs.map some ++ List.replicate (n - vs.length) none) (env0 n (ds.map S.d)) := by
  have hl := dpAll_len h
  have nown : ∀ (i : Nat) (s : S), s.own = true → (env0 n (ds.map S.d))[i]? ≠ some (some s) := by
    intro i xs hs q
    have q2 := env0_get q
    rw [List.getElem?_map] at q2
    cases e : ds[i]? with
    | none => rw [e] at q2; cases q2
    | some x => rw [e] at q2; cases q2; cases hs
  refine ⟨?_, gh, ?_, .refl _, fun _ _ z => z, fun i b q => ?_, fun i d q => ?_, fun i xs q hs => absurd q (nown i xs hs), fun i j p xs ys q _ hs => absurd q (nown i xs hs)⟩
  · unfold env0
    simp [hl]
  · rw [cut_nil]
    exact .refl _
  · simp at q
  · have q2 := env0_get q
    rw [List.getElem?_map] at q2
    cases e : ds[i]? with
    | none => rw [e] at q2; cases q2
    | some x =>
      rw [e] at q2
      cases q2
      obtain ⟨v, w1, w2⟩ := dpAll_get h e
      exact ⟨v, start_get w1, w2⟩
theorem grow_of_args {G3 H3 : Hp} (rl : Rel K ⟨cut H [], G, []⟩ G3 H3 σ' ρ') : Grow G H G3 H3 := by
  refine ⟨rl.g0, ?_, rl.gh, fun a h => ?_⟩
  · have := rl.fh
    rw [cut_nil] at this
    exact this
  · by_cases hH : H a = none
    · exact .inr hH
    · refine .inl (rl.gf a ?_ h)
      rw [cut_nil]
      exact hH
theorem sim_call0 {ex : Bool} {k n : Nat} {mb : Env → Out} {WC : XK → Wish} {E : XK} {ta : TA} {ms : Env → Res (List R)} (h : SimA K P W ta ms) (hx : ex = true → ∀ σ σ' c H, W σ c H → WC E σ' c H) :
    SimE K P W (tCall (spM K 0 k n WC mb) [] E ta) (mCall0 ex P k n mb ms) := by
  intro f G H σ ρ Q hp rl hq
  refine h f G H σ ρ _ hp rl ?_
  unfold mCall0 at hq
  cases e : ms ρ with
  | no => rw [e] at hq; exact hq
  | exc c ρ1 => rw [e] at hq; exact hq
  | ok rs ρ1 =>
    rw [e] at hq
    intro vs G1 H1 s1 rl1 h1
    simp only [Res.bind] at hq
    split at hq
    · exact hq.elim
    · next ρ2 e2 =>
      obtain ⟨G2, s2, rl2⟩ := rl1.frzA hp e2
      split at hq
      · exact hq.elim
      · next ds e3 =>
        split at hq
        · next hk =>
          have hd : DpAll K G2 vs ds := (h1.same s2).dat rl2 e3
          rw [List.append_nil]
          refine ⟨by rw [dpAll_len hd]; exact hk, [], G2, ds.map S.d, rfl, by rw [List.length_map]; exact hk, rel_args rl2.gh hd, ?_⟩
          have same1 : ∀ {G3 H3 : Hp} {σ' : L2.St} {ρ' : Env}, Rel K ⟨cut H1 [], G2, []⟩ G3 H3 σ' ρ' → Grow G1 H1 G1 H3 := fun rl3 => by
            have gr := grow_of_args rl3
            exact ⟨.refl _, gr.2.1, (s2.trans gr.1).trans gr.2.2.1, fun a z => .inl z⟩
          cases e4 : mb (env0 n (ds.map S.d)) with
          | no => rw [e4] at hq; exact hq.elim
          | bk _ => rw [e4] at hq; exact hq.elim
          | ct _ => rw [e4] at hq; exact hq.elim
          | nx ρ3 =>
            rw [e4] at hq
            intro G3 H3 σ3 s3 rl3
            exact hq .non G1 H3 s1 (rl1.grow (same1 rl3)) .non
          | exc c ρ3 =>
            rw [e4] at hq
            intro G3 H3 σ3 s3 rl3
            simp only at hq
            split at hq
            · next hex => exact hx hex σ σ3 c H3 (hq G1 H3 s1 (rl1.grow (same1 rl3)))
            · exact hq.elim
          | rt s ρ3 =>
            rw [e4] at hq
            intro v G3 H3 σ3 s3 rl3 hv
            have gr := grow_of_args rl3
            cases s with
            | d x =>
              simp only at hq
              split at hq
              · next hf => exact hq v G1 H3 s1 (rl1.grow (same1 rl3)) (flat_dp hv hf)
              · exact hq v G3 H3 ((s1.trans s2).trans gr.1) (rl2.grow gr) hv
            | m kvs => exact hq.elim
            | o xs =>
              obtain ⟨p, us, rfl, w1, w2, w3, w4, _⟩ := hv
              have w4 : cut H1 [] p = none := w4
              rw [cut_nil] at w4
              have nv : NewV K H1 G3 H3 (.ref p) (.o xs) := ⟨p, us, rfl, w4, w1, w2, w3⟩
              exact hq _ G3 H3 ((s1.trans s2).trans gr.1) (rl2.grow gr) (nv.vrep rl2 gr)
        · exact hq.elim

/-! lending -/
inductive Lent (K : PySem.W.Frag) (G : Hp) (σ : L2.St) (ρ : Env) : List V → List S → List (Option Nat) → Prop
  | nil : Lent K G σ ρ [] [] []
  | dat {v : V} {vs : List V} {d : D} {ss : List S} {js : List (Option Nat)} : Dp K G v d → Lent K G σ ρ vs ss js → Lent K G σ ρ (v :: vs) (.d d :: ss) (none :: js)
  | own {j : Nat} {v : V} {vs : List V} {s : S} {ss : List S} {js : List (Option Nat)} : σ[j]? = some (some v) → ρ[j]? = some (some s) → s.own = true → Lent K G σ ρ vs ss js → Lent K G σ ρ (v :: vs) (s :: ss) (some j :: js)
theorem Lent.len {vs : List V} {ss : List S} {js : List (Option Nat)} (h : Lent K G σ ρ vs ss js) : vs.length = ss.length ∧ js.length = ss.length := by
  induction h with
  | nil => exact ⟨rfl, rfl⟩
  | dat _ _ ih => exact ⟨by simp [ih.1], by simp [ih.2]⟩
  | own _ _ _ _ ih => exact ⟨by simp [ih.1], by simp [ih.2]⟩
theorem Lent.get {vs : List V} {ss : List S} {js : List (Option Nat)} (h : Lent K G σ ρ vs ss js) : ∀ {i : Nat} {s : S}, ss[i]? = some s →
    (∃ v d, s = .d d ∧ vs[i]? = some v ∧ Dp K G v d ∧ js[i]? = some none) ∨ (∃ v j, s.own = true ∧ vs[i]? = some v ∧ js[i]? = some (some j) ∧ σ[j]? = some (some v) ∧ ρ[j]? = some (some s)) := by
  induction h with
  | nil => intro i s e; simp at e
  | dat h1 _ ih =>
    intro i s e
    cases i with
    | zero => simp at e; subst e; exact .inl ⟨_, _, rfl, rfl, h1, rfl⟩
    | succ i => simpa using ih (i := i) (s := s) (by simpa using e)
  | own h1 h2 h3 _ ih =>
    intro i s e
    cases i with
    | zero => simp at e; subst e; exact .inr ⟨_, _, h3, rfl, rfl, h1, h2⟩
    | succ i => simpa using ih (i := i) (s := s) (by simpa using e)
theorem Lent.at {vs : List V} {ss : List S} {js : List (Option Nat)} (h : Lent K G σ ρ vs ss js) {i j : Nat} (e : js[i]? = some (some j)) : ∃ s v, ss[i]? = some s ∧ s.own = true ∧ vs[i]? = some v ∧ σ[j]? = some (some v) ∧ ρ[j]? = some (some s) := by
  have hl := h.len
  have hi : i < ss.length := by
    have := (List.getElem?_eq_some_iff.mp e).1
    omega
  rcases h.get (List.getElem?_eq_getElem hi) with ⟨v, d, _, _, _, q⟩ | ⟨v, j', h1, h2, h3, h4, h5⟩
  · rw [q] at e; cases e
  · rw [h3] at e
    cases e
    exact ⟨_, v, List.getElem?_eq_getElem hi, h1, h2, h4, h5⟩
/-- the addresses of what is lent, at the first places -/
def pinsOf : List (Option Nat) → List V → List (Option Addr)
  | some _ :: js, .ref b :: vs => some b :: pinsOf js vs
  | _ :: js, _ :: vs => none :: pinsOf js vs
  | _, _ => []
theorem pinsOf_len : ∀ {js : List (Option Nat)} {vs : List V}, js.length = vs.length → (pinsOf js vs).length = vs.length
  | [], [], _ => rfl
  | [], _ :: _, h => by simp at h
  | _ :: _, [], h => by simp at h
  | j :: js, v :: vs, h => by
    have ih := pinsOf_len (js := js) (vs := vs) (by simpa using h)
    cases j with
    | none => simp [pinsOf, ih]
    | some j => cases v <;> simp [pinsOf, ih]
theorem pinsOf_get : ∀ {js : List (Option Nat)} {vs : List V} {i : Nat} {b : Addr}, (pinsOf js vs)[i]? = some (some b) → ∃ j, js[i]? = some (some j) ∧ vs[i]? = some (V.ref b)
  | [], _, i, b, h => by simp [pinsOf] at h
  | j :: js, [], i, b, h => by cases j <;> simp [pinsOf] at h
  | j :: js, v :: vs, 0, b, h => by
    cases j with
    | none => simp [pinsOf] at h
    | some j =>
      cases v with
      | ref a => simp [pinsOf] at h; subst h; exact ⟨j, rfl, rfl⟩
      | _ => simp [pinsOf] at h
  | j :: js, v :: vs, i + 1, b, h => by
    have h' : (pinsOf js vs)[i]? = some (some b) := by
      cases j with
      | none => simpa [pinsOf] using h
      | some j => cases v <;> simpa [pinsOf] using h
    simpa using pinsOf_get h'
theorem pinsOf_at : ∀ {js : List (Option Nat)} {vs : List V} {i j : Nat} {b : Addr}, js[i]? = some (some j) → vs[i]? = some (V.ref b) → (pinsOf js vs)[i]? = some (some b)
  | [], _, i, j, b, h, _ => by simp at h
  | _ :: js, [], i, j, b, _, h => by simp at h
  | j0 :: js, v :: vs, 0, j, b, h1, h2 => by
    simp at h1 h2
    subst h1 h2
    rfl
  | j0 :: js, v :: vs, i + 1, j, b, h1, h2 => by
    have ih := pinsOf_at (js := js) (vs := vs) (i := i) (j := j) (b := b) (by simpa using h1) (by simpa using h2)
    cases j0 with
    | none => simpa [pinsOf] using ih
    | some j => cases v <;> simpa [pinsOf] using ih
theorem nodup_at {js : List (Option Nat)} (h : (js.filterMap id).Nodup) : ∀ {i l j : Nat}, js[i]? = some (some j) → js[l]? = some (some j) → i = l := by
  induction js with
  | nil => intro i l j e; simp at e
  | cons x js ih =>
    intro i l j e1 e2
    have mem : ∀ {i : Nat}, js[i]? = some (some j) → j ∈ js.filterMap id := fun {i} e => List.mem_filterMap.mpr ⟨some j, List.mem_of_getElem? e, rfl⟩
    cases x with
    | none =>
      have h' : (js.filterMap id).Nodup := by simpa using h
      cases i with
      | zero => simp at e1
      | succ i =>
        cases l with
        | zero => simp at e2
        | succ l => exact congrArg (· + 1) (ih h' (i := i) (l := l) (j := j) (by simpa using e1) (by simpa using e2))
    | some x =>
      have h' : x ∉ js.filterMap id ∧ (js.filterMap id).Nodup := by simpa using h
      cases i with
      | zero =>
        simp at e1
        subst e1
        cases l with
        | zero => rfl
        | succ l => exact absurd (mem (by simpa using e2)) h'.1
      | succ i =>
        cases l with
        | zero =>
          simp at e2
          subst e2
          exact absurd (mem (by simpa using e1)) h'.1
        | succ l => exact congrArg (· + 1) (ih h'.2 (i := i) (l := l) (j := j) (by simpa using e1) (by simpa using e2))
theorem takeB_len {ρ' : Env} : ∀ {js : List (Option Nat)} {i : Nat} {ρ ρ3 : Env}, takeB ρ' i js ρ = some ρ3 → ρ3.length = ρ.length
  | [], _, _, _, e => by cases e; rfl
  | none :: js, i, ρ, ρ3, e => takeB_len (js := js) e
  | some j :: js, i, ρ, ρ3, e => by
    simp only [takeB] at e
    split at e
    · split at e
      · rw [takeB_len e, List.length_set]
      · cases e
    · cases e
theorem takeB_out {ρ' : Env} : ∀ {js : List (Option Nat)} {i : Nat} {ρ ρ3 : Env} {k : Nat}, takeB ρ' i js ρ = some ρ3 → k ∉ js.filterMap id → ρ3[k]? = ρ[k]?
  | [], _, _, _, _, e, _ => by cases e; rfl
  | none :: js, i, ρ, ρ3, k, e, h => takeB_out (js := js) e (by simpa using h)
  | some j :: js, i, ρ, ρ3, k, e, h => by
    have h' : ¬ k = j ∧ k ∉ js.filterMap id := by simpa using h
    simp only [takeB] at e
    split at e
    · split at e
      · rw [takeB_out e h'.2, List.getElem?_set_ne (fun z => h'.1 z.symm)]
      · cases e
    · cases e
theorem takeB_in {ρ' : Env} : ∀ {js : List (Option Nat)} {i l : Nat} {ρ ρ3 : Env} {j : Nat}, takeB ρ' i js ρ = some ρ3 → (js.filterMap id).Nodup → js[l]? = some (some j) → j < ρ.length → ∃ s, ρ'[i + l]? = some (some s) ∧ s.own = true ∧ ρ3[j]? = some (some s)
  | [], _, _, _, _, _, _, _, e, _ => by simp at e
  | none :: js, i, l, ρ, ρ3, j, e, nd, h, hj => by
    cases l with
    | zero => simp at h
    | succ l =>
      have := takeB_in (js := js) (i := i + 1) (l := l) e (by simpa using nd) (by simpa using h) hj
      rw [show i + 1 + l = i + (l + 1) by omega] at this
      exact this
  | some j0 :: js, i, l, ρ, ρ3, j, e, nd, h, hj => by
    have nd' : j0 ∉ js.filterMap id ∧ (js.filterMap id).Nodup := by simpa using nd
    simp only [takeB] at e
    split at e
    · next s es =>
      split at e
      · next ho =>
        cases l with
        | zero =>
          simp at h
          subst h
          refine ⟨s, by simpa using es, ho, ?_⟩
          rw [takeB_out e nd'.1, List.getElem?_set_self hj]
        | succ l =>
          have := takeB_in (js := js) (i := i + 1) (l := l) e nd'.2 (by simpa using h) (by rw [List.length_set]; exact hj)
          rw [show i + 1 + l = i + (l + 1) by omega] at this
          exact this
      · cases e
    · cases e
theorem frzM_ok (hp : f.pins.length = P) : ∀ {rs : List R} {ms : List Bool} {G : Hp} {ρ ρ' : Env}, Rel K f G H σ ρ → frzM P ms rs ρ = some ρ' → ∃ G', Same G G' ∧ Rel K f G' H σ ρ'
  | [], _, G, ρ, ρ', rl, e => by
    have : ρ = ρ' := by cases ‹List Bool› with
      | nil => simpa [frzM] using e
      | cons m ms => simpa [frzM] using e
    subst this
    exact ⟨G, .refl _, rl⟩
  | r :: rs, [], G, ρ, ρ', rl, e => by
    simp only [frzM] at e
    split at e
    · next ρ1 q =>
      obtain ⟨G1, s1, rl1⟩ := rl.frz1 hp q
      obtain ⟨G2, s2, rl2⟩ := frzM_ok hp rl1 e
      exact ⟨G2, s1.trans s2, rl2⟩
    · cases e
  | r :: rs, true :: ms, G, ρ, ρ', rl, e => frzM_ok hp (rs := rs) (ms := ms) rl e
  | r :: rs, false :: ms, G, ρ, ρ', rl, e => by
    simp only [frzM] at e
    split at e
    · next ρ1 q =>
      obtain ⟨G1, s1, rl1⟩ := rl.frz1 hp q
      obtain ⟨G2, s2, rl2⟩ := frzM_ok hp rl1 e
      exact ⟨G2, s1.trans s2, rl2⟩
    · cases e
theorem lend_ok (rl : Rel K f G H σ ρ) : ∀ {rs : List R} {ms : List Bool} {vs : List V} {ss : List S} {js : List (Option Nat)}, HoldAll K G σ vs rs → lendS ρ ms rs = some (ss, js) → Lent K G σ ρ vs ss js ∧ ∀ i j, js[i]? = some (some j) → i < ms.length
  | [], ms, vs, ss, js, h, e => by
    cases h
    have : ss = [] ∧ js = [] := by cases ms <;> (simp only [lendS] at e; cases e; exact ⟨rfl, rfl⟩)
    obtain ⟨rfl, rfl⟩ := this
    exact ⟨.nil, fun i j e => by simp at e⟩
  | r :: rs, [], vs, ss, js, h, e => by
    cases h with
    | cons h1 h2 =>
      simp only [lendS] at e
      split at e
      · next x ss' js' e1 e2 =>
        cases e
        obtain ⟨l, m⟩ := lend_ok rl h2 e2
        refine ⟨.dat (h1.dat rl e1) l, fun i j q => ?_⟩
        cases i with
        | zero => simp at q
        | succ i => exact absurd (m i j (by simpa using q)) (by simp)
      · cases e
  | r :: rs, false :: ms, vs, ss, js, h, e => by
    cases h with
    | cons h1 h2 =>
      simp only [lendS] at e
      split at e
      · next x ss' js' e1 e2 =>
        cases e
        obtain ⟨l, m⟩ := lend_ok rl h2 e2
        refine ⟨.dat (h1.dat rl e1) l, fun i j q => ?_⟩
        cases i with
        | zero => simp at q
        | succ i => have := m i j (by simpa using q); simp; omega
      · cases e
  | .o xs :: rs, true :: ms, vs, ss, js, h, e => by simp [lendS] at e
  | .d x :: rs, true :: ms, vs, ss, js, h, e => by
    cases h with
    | cons h1 h2 =>
      simp only [lendS] at e
      split at e
      · next ss' js' e2 =>
        cases e
        obtain ⟨l, m⟩ := lend_ok rl h2 e2
        refine ⟨.dat h1 l, fun i j q => ?_⟩
        cases i with
        | zero => simp at q
        | succ i => have := m i j (by simpa using q); simp; omega
      · cases e
  | .b j0 :: rs, true :: ms, vs, ss, js, h, e => by
    cases h with
    | cons h1 h2 =>
      rename_i v vs
      have h1 : σ[j0]? = some (some v) := h1
      simp only [lendS] at e
      split at e
      · next x ex =>
        split at e
        · next ss' js' e2 =>
          cases e
          obtain ⟨l, m⟩ := lend_ok rl h2 e2
          obtain ⟨u, w1, w2⟩ := rl.dat j0 x ex
          rw [h1] at w1
          cases w1
          refine ⟨.dat w2 l, fun i j q => ?_⟩
          cases i with
          | zero => simp at q
          | succ i => have := m i j (by simpa using q); simp; omega
        · cases e
      · next s hn es =>
        split at e
        · next ss' js' e2 =>
          cases e
          obtain ⟨l, m⟩ := lend_ok rl h2 e2
          have ho : s.own = true := by
            cases s with
            | d x => exact absurd rfl (hn x)
            | o _ => rfl
            | m _ => rfl
          refine ⟨.own h1 es ho l, fun i j q => ?_⟩
          cases i with
          | zero => simp
          | succ i => have := m i j (by simpa using q); simp; omega
        · cases e
      · cases e
theorem start_at {n : Nat} {vs : List V} {i : Nat} {v : V} (h : vs[i]? = some v) : (vs.map some ++ List.replicate (n - vs.length) none)[i]? = some (some v) := start_get h
/-- at the callee's start -/
theorem rel_argsM {n np : Nat} {vs : List V} {ss : List S} {js : List (Option Nat)} (rl : Rel K f G H σ ρ) (L : Lent K G σ ρ vs ss js) (nd : (js.filterMap id).Nodup) (hm : ∀ i j, js[i]? = some (some j) → i < np) :
    Rel K ⟨cut H ((pinsOf js vs).take np), G, (pinsOf js vs).take np⟩ G H (vs.map some ++ List.replicate (n - vs.length) none) (env0 n ss) := by
  have hl := L.len
  have cutS : ∀ a o, cut H ((pinsOf js vs).take np) a = some o → H a = some o := fun a o q => by
    unfold cut at q
    split at q
    · cases q
    · exact q
  have atP : ∀ {i j : Nat} {b : Addr}, js[i]? = some (some j) → vs[i]? = some (V.ref b) → some b ∈ (pinsOf js vs).take np := fun {i j b} e1 e2 => by
    have := pinsOf_at e1 e2
    refine List.mem_of_getElem? (i := i) ?_
    rw [List.getElem?_take_of_lt (hm i j e1)]
    exact this
  refine ⟨?_, rl.gh, cutS, .refl _, fun _ _ z => z, fun i b q => ?_, fun i d q => ?_, fun i s q hs => ?_, fun i j p s t q1 q2 hs1 hs2 q3 q4 => ?_⟩
  · unfold env0
    simp [hl.1]
  · have q : (pinsOf js vs)[i]? = some (some b) := by
      by_cases hi : i < np
      · rw [← List.getElem?_take_of_lt hi]; exact q
      · rw [List.getElem?_eq_none (by rw [List.length_take]; omega)] at q
        cases q
    obtain ⟨j, e1, e2⟩ := pinsOf_get q
    obtain ⟨s, v, w1, w2, w3, _⟩ := L.at e1
    refine ⟨start_at e2, s, ?_, w2⟩
    unfold env0
    rw [List.getElem?_append_left (by rw [List.length_map]; exact (List.getElem?_eq_some_iff.mp w1).1), List.getElem?_map, w1]
    rfl
  · have q2 := env0_get q
    rcases L.get q2 with ⟨v, d', h1, h2, h3, _⟩ | ⟨v, j, h1, _⟩
    · cases h1
      exact ⟨v, start_at h2, h3⟩
    · cases h1
  · have q2 := env0_get q
    rcases L.get q2 with ⟨v, d', h1, h2, h3, _⟩ | ⟨v, j, h1, h2, h3, h4, h5⟩
    · subst h1
      cases hs
    · obtain ⟨p, o, w1, w2, w3, w4, w5⟩ := rl.ow j s h5 h1
      rw [h4] at w1
      cases w1
      refine ⟨p, o, start_at h2, w2, w3, w4, ?_⟩
      show cut H _ p = none
      unfold cut
      rw [if_pos (atP h3 h2)]
  · have q1 := env0_get q1
    have q2 := env0_get q2
    rcases L.get q1 with ⟨v, d', h1, _⟩ | ⟨v, i', h1, h2, h3, h4, h5⟩
    · subst h1; cases hs1
    rcases L.get q2 with ⟨v', d', h1', _⟩ | ⟨v', j', h1', h2', h3', h4', h5'⟩
    · subst h1'; cases hs2
    rw [start_at h2] at q3
    rw [start_at h2'] at q4
    cases q3
    cases q4
    have : i' = j' := rl.injS i' j' p s t h5 h5' h1 h1' h4 h4'
    subst this
    exact nodup_at nd h3 h3'
/-- behind the callee -/
theorem rel_backM {np : Nat} {vs : List V} {ss : List S} {js : List (Option Nat)} {G2 H1 G3 H3 : Hp} {ρ2 ρ3 : Env} (rl2 : Rel K f G2 H1 σ ρ2) (L : Lent K G2 σ ρ2 vs ss js) (nd : (js.filterMap id).Nodup) (hm : ∀ i j, js[i]? = some (some j) → i < np)
    (rl3 : Rel K ⟨cut H1 ((pinsOf js vs).take np), G2, (pinsOf js vs).take np⟩ G3 H3 σ' ρ') (tb : takeB ρ' 0 js ρ2 = some ρ3) :
    Rel K f G3 H3 σ ρ3 ∧ Same G2 G3 ∧ ∀ (i : Nat) (s : S), ρ3[i]? = some (some s) → s.own = true → ∃ s', ρ2[i]? = some (some s') ∧ s'.own = true := by
  have hlen : ρ3.length = ρ2.length := takeB_len tb
  -- the lent addresses
  have lent : ∀ {i j : Nat}, js[i]? = some (some j) → ∃ b s, vs[i]? = some (V.ref b) ∧ σ[j]? = some (some (V.ref b)) ∧ ρ2[j]? = some (some s) ∧ s.own = true := fun {i j} e => by
    obtain ⟨s, v, w1, w2, w3, w4, w5⟩ := L.at e
    obtain ⟨p, o, z1, z2, z3, z4, z5⟩ := rl2.ow j s w5 w2
    rw [w4] at z1
    cases z1
    exact ⟨p, s, w3, w4, w5, w2⟩
  have inP : ∀ {b : Addr}, some b ∈ (pinsOf js vs).take np → ∃ (i j : Nat), js[i]? = some (some j) ∧ vs[i]? = some (V.ref b) := fun {b} h => by
    obtain ⟨i, hi⟩ := List.getElem?_of_mem (List.mem_of_mem_take h)
    obtain ⟨j, e1, e2⟩ := pinsOf_get hi
    exact ⟨i, j, e1, e2⟩
  have isJ : ∀ {k : Nat}, k ∈ js.filterMap id → ∃ i, js[i]? = some (some k) := fun {k} h => by
    obtain ⟨o, h1, h2⟩ := List.mem_filterMap.mp h
    obtain ⟨i, hi⟩ := List.getElem?_of_mem h1
    have h2 : o = some k := h2
    subst h2
    exact ⟨i, hi⟩
  have cutK : ∀ a, some a ∉ (pinsOf js vs).take np → cut H1 ((pinsOf js vs).take np) a = H1 a := fun a h => by
    unfold cut
    rw [if_neg h]
  -- what a slot is, behind
  have was : ∀ (k : Nat) (s : S), ρ3[k]? = some (some s) → (∃ (i : Nat) (b : Addr), js[i]? = some (some k) ∧ vs[i]? = some (V.ref b) ∧ σ[k]? = some (some (V.ref b)) ∧ ρ'[i]? = some (some s) ∧ s.own = true) ∨ (k ∉ js.filterMap id ∧ ρ2[k]? = some (some s)) := by
    intro k s e
    by_cases hk : k ∈ js.filterMap id
    · obtain ⟨i, hi⟩ := isJ hk
      obtain ⟨b, s0, w1, w2, w3, w4⟩ := lent hi
      obtain ⟨t, z1, z2, z3⟩ := takeB_in tb nd hi (List.getElem?_eq_some_iff.mp w3).1
      rw [z3] at e
      cases e
      rw [Nat.zero_add] at z1
      exact .inl ⟨i, b, hi, w1, w2, z1, z2⟩
    · rw [takeB_out tb hk] at e
      exact .inr ⟨hk, e⟩
  have own2 : ∀ (i : Nat) (s : S), ρ3[i]? = some (some s) → s.own = true → ∃ s', ρ2[i]? = some (some s') ∧ s'.own = true := by
    intro i s e hs
    rcases was i s e with ⟨l, b, h1, h2, h3, h4, h5⟩ | ⟨h1, h2⟩
    · obtain ⟨b', s', w1, w2, w3, w4⟩ := lent h1
      exact ⟨s', w3, w4⟩
    · exact ⟨s, h2, hs⟩
  have fnb : ∀ a o, f.F a = some o → some a ∉ (pinsOf js vs).take np := fun a o q h => by
    obtain ⟨i, j, e1, e2⟩ := inP h
    obtain ⟨b, s, w1, w2, w3, w4⟩ := lent e1
    rw [e2] at w1
    cases w1
    obtain ⟨p, o', z1, z2, z3, z4, z5⟩ := rl2.ow j s w3 w4
    rw [w2] at z1
    cases z1
    rw [z5] at q
    cases q
  refine ⟨⟨hlen ▸ rl2.len, rl3.gh, fun a o q => ?_, rl2.g0.trans rl3.g0, fun a q1 q2 => ?_, fun i b q => ?_, fun i d q => ?_, fun k s q hs => ?_, fun k l p s t q1 q2 hs1 hs2 q3 q4 => ?_⟩, rl3.g0, own2⟩
  · refine rl3.fh a o ?_
    show cut H1 _ a = some o
    rw [cutK a (fnb a o q)]
    exact rl2.fh a o q
  · cases e : f.F a with
    | none => exact absurd e q1
    | some o =>
      refine rl2.gf a q1 (rl3.gf a ?_ q2)
      show cut H1 _ a ≠ none
      rw [cutK a (fnb a o e), rl2.fh a o e]
      exact fun z => nomatch z
  · obtain ⟨w1, s, w2, w3⟩ := rl2.pin i b q
    refine ⟨w1, ?_⟩
    by_cases hk : i ∈ js.filterMap id
    · obtain ⟨l, hl⟩ := isJ hk
      obtain ⟨t, z1, z2, z3⟩ := takeB_in tb nd hl (List.getElem?_eq_some_iff.mp w2).1
      exact ⟨t, z3, z2⟩
    · exact ⟨s, by rw [takeB_out tb hk]; exact w2, w3⟩
  · rcases was i _ q with ⟨l, b, h1, h2, h3, h4, h5⟩ | ⟨h1, h2⟩
    · cases h5
    · obtain ⟨v, y1, y2⟩ := rl2.dat i d h2
      exact ⟨v, y1, dp_same rl3.g0 _ _ y2⟩
  · rcases was k s q with ⟨i, b, h1, h2, h3, h4, h5⟩ | ⟨h1, h2⟩
    · have hp : ((pinsOf js vs).take np)[i]? = some (some b) := by
        rw [List.getElem?_take_of_lt (hm i k h1)]
        exact pinsOf_at h1 h2
      obtain ⟨p1, s1, p2, p3⟩ := rl3.pin i b hp
      obtain ⟨p, o, x1, x2, x3, x4, x5⟩ := rl3.ow i s h4 h5
      rw [p1] at x1
      cases x1
      obtain ⟨b', s', w1, w2, w3, w4⟩ := lent h1
      rw [h3] at w2
      cases w2
      obtain ⟨p', o', z1, z2, z3, z4, z5⟩ := rl2.ow k s' w3 w4
      rw [h3] at z1
      cases z1
      exact ⟨b, o, h3, x2, x3, x4, z5⟩
    · obtain ⟨p', o', y1, y2, y3, y4, y5⟩ := rl2.ow k s h2 hs
      have hpb : some p' ∉ (pinsOf js vs).take np := fun h => by
        obtain ⟨i, j, e1, e2⟩ := inP h
        obtain ⟨b, s0, w1, w2, w3, w4⟩ := lent e1
        rw [e2] at w1
        cases w1
        have : k = j := rl2.injS k j p' s s0 h2 w3 hs w4 y1 w2
        subst this
        exact h1 (List.mem_filterMap.mpr ⟨some k, List.mem_of_getElem? e1, rfl⟩)
      refine ⟨p', o', y1, rl3.fh p' o' ?_, y3.same rl3.g0, ?_, y5⟩
      · show cut H1 _ p' = some o'
        rw [cutK p' hpb]
        exact y2
      · cases e : G3 p' with
        | none => rfl
        | some x =>
          refine absurd y4 (rl3.gf p' ?_ (ne_none_of e))
          show cut H1 _ p' ≠ none
          rw [cutK p' hpb, y2]
          exact fun z => nomatch z
  · obtain ⟨s1, w1, w3⟩ := own2 k s q1 hs1
    obtain ⟨s2, w2, w4⟩ := own2 l t q2 hs2
    exact rl2.injS k l p s1 s2 w1 w2 w3 w4 q3 q4
theorem sim_callM {mask : List Bool} {k n : Nat} {mb : Env → Out} {WC : XK → Wish} {E : XK} {ta : TA} {ms : Env → Res (List R)} (h : SimA K P W ta ms) :
    SimE K P W (tCall (spM K mask.length k n WC mb) [] E ta) (mCallM P mask k n mb ms) := by
  intro f G H σ ρ Q hp rl hq
  refine h f G H σ ρ _ hp rl ?_
  unfold mCallM at hq
  cases e : ms ρ with
  | no => rw [e] at hq; exact hq
  | exc c ρ1 => rw [e] at hq; exact hq
  | ok rs ρ1 =>
    rw [e] at hq
    intro vs G1 H1 s1 rl1 h1
    simp only [Res.bind] at hq
    split at hq
    · exact hq.elim
    · next ρ2 e2 =>
      obtain ⟨G2, s2, rl2⟩ := frzM_ok hp rl1 e2
      split at hq
      · exact hq.elim
      · next ss js e3 =>
        have h2 : HoldAll K G2 σ vs rs := by
          clear e3 e2 e hq
          induction h1 with
          | nil => exact .nil
          | cons a _ ih => exact .cons (a.same s2) ih
        obtain ⟨L, hm⟩ := lend_ok rl2 h2 e3
        have hl := L.len
        split at hq
        · next hk =>
          obtain ⟨hk1, hk2, nd0⟩ := hk
          have nd := ndJ_ok nd0
          have pl : ((pinsOf js vs).take mask.length).length = mask.length := by
            rw [List.length_take, pinsOf_len (by rw [hl.1, hl.2]), hl.1, hk1]
            omega
          rw [List.append_nil]
          refine ⟨by rw [hl.1]; exact hk1, _, G2, ss, pl, hk1, rel_argsM rl2 L nd hm, ?_⟩
          cases e5 : mb (env0 n ss) with
          | no => rw [e5] at hq; exact hq.elim
          | bk _ => rw [e5] at hq; exact hq.elim
          | ct _ => rw [e5] at hq; exact hq.elim
          | exc c ρ3 => rw [e5] at hq; exact hq.elim
          | nx ρ' =>
            rw [e5] at hq
            intro G3 H3 σ3 s3 rl3
            simp only at hq
            split at hq
            · next ρ3 e6 =>
              obtain ⟨r3, s23, _⟩ := rel_backM rl2 L nd hm rl3 e6
              exact hq .non G3 H3 ((s1.trans s2).trans s23) r3 .non
            · exact hq.elim
          | rt s ρ' =>
            rw [e5] at hq
            intro v G3 H3 σ3 s3 rl3 hv
            cases s with
            | m kvs => exact hq.elim
            | d x =>
              simp only at hq
              split at hq
              · next ρ3 e6 =>
                obtain ⟨r3, s23, _⟩ := rel_backM rl2 L nd hm rl3 e6
                exact hq v G3 H3 ((s1.trans s2).trans s23) r3 hv
              · exact hq.elim
            | o zs =>
              simp only at hq
              split at hq
              · next ρ3 e6 =>
                obtain ⟨r3, s23, own2⟩ := rel_backM rl2 L nd hm rl3 e6
                obtain ⟨p, ts, rfl, y1, y2, y3, y4, y5⟩ := hv
                have hpb : some p ∉ (pinsOf js vs).take mask.length := fun h => by
                  obtain ⟨i, hi⟩ := List.getElem?_of_mem h
                  exact y5 i p hi rfl
                have hp1 : H1 p = none := by
                  have y4 : cut H1 ((pinsOf js vs).take mask.length) p = none := y4
                  unfold cut at y4
                  rw [if_neg hpb] at y4
                  exact y4
                refine hq _ G3 H3 ((s1.trans s2).trans s23) r3 ⟨p, ts, rfl, y1, y2, y3, rl2.fh.free hp1, fun i as q hs z => ?_⟩
                obtain ⟨s', q', hs'⟩ := own2 i as q hs
                obtain ⟨p', o', g1, g2, _⟩ := rl2.ow i s' q' hs'
                rw [z] at g1
                cases g1
                rw [hp1] at g2
                cases g2
              · exact hq.elim
        · exact hq.elim
end
end Z
namespace Z
open PySem L2

/-! ### operators by data -/
def gI (C : Int → Int → Bool) (g : Int → Int → D) : D → D → Option R
  | .int i, .int j => if C i j = true then some (.d (g i j)) else none
  | _, _ => none
def cAny : Int → Int → Bool := fun _ _ => true
def gAdd : D → D → Option R := gI cAny fun i j => .int (i + j)
def gSub : D → D → Option R := gI cAny fun i j => .int (i - j)
def cMul (i j : Int) : Bool := decide ((-(2 ^ 64) < i ∧ i < 2 ^ 64) ∨ (-(2 ^ 64) < j ∧ j < 2 ^ 64))
def gMul : D → D → Option R := gI cMul fun i j => .int (i * j)
def cDiv (_ j : Int) : Bool := decide (0 < j ∧ j < 1073741824)
def gDiv : D → D → Option R := gI cDiv fun i j => .int (i / j)
def cMod (_ j : Int) : Bool := decide (0 < j)
def gMod : D → D → Option R := gI cMod fun i j => .int (i % j)
def cPow (i j : Int) : Bool := decide (0 ≤ j ∧ j ≤ 1000000 ∧ i.natAbs < 2 ^ 64)
def gPow : D → D → Option R := gI cPow fun i j => .int (i ^ j.toNat)
def gShl : D → D → Option R := gI cPow fun i j => .int (i * 2 ^ j.toNat)
def cShr (_ j : Int) : Bool := decide (0 ≤ j)
def gShr : D → D → Option R := gI cShr fun i j => .int (i / 2 ^ j.toNat)
def gAnd : D → D → Option R := gI cAny fun i j => .int (Builtin.bitAnd i j)
def gOr : D → D → Option R := gI cAny fun i j => .int (Builtin.bitOr i j)
def gLt : D → D → Option R := gI cAny fun i j => .bool (decide (i < j))
def gLe : D → D → Option R := gI cAny fun i j => .bool (decide (i ≤ j))
def gGt : D → D → Option R := gI cAny fun i j => .bool (decide (j < i))
def gGe : D → D → Option R := gI cAny fun i j => .bool (decide (j ≤ i))
def gNeg : D → Option R
  | .int i => some (.d (.int (-i)))
  | _ => none
def gEq (d e : D) : Option R := if (SeqAt.shaped d && SeqAt.shaped e) = true then some (.d (.bool (PyData.eqv d e))) else none
def gNe (d e : D) : Option R := if (SeqAt.shaped d && SeqAt.shaped e) = true then some (.d (.bool (!PyData.eqv d e))) else none
def gIn (d : D) : D → Option R
  | .list es => if (SeqAt.shaped d && SeqAt.shaped (.list es)) = true then some (.d (.bool (es.any fun z => PyData.eqv z d))) else none
  | _ => none
def gNotIn (d : D) : D → Option R
  | .list es => if (SeqAt.shaped d && SeqAt.shaped (.list es)) = true then some (.d (.bool (!es.any fun z => PyData.eqv z d))) else none
  | _ => none
def gIx : D → D → Option R
  | .list xs, .int i => (match atI xs i with
    | some x => some (.d x)
    | none => none)
  | .tuple xs, .int i => (match atI xs i with
    | some x => some (.d x)
    | none => none)
  | _, _ => none
section
variable {K : PySem.W.Frag}
/-- what needs no heap -/
theorem ops_sc {r : R2} {g : D → D → Option R} (h : ∀ (G H : Hp) (x y : V) (d e : D) (z : R), Same G H → Got K G H x d → Got K G H y e → g d e = some z → ∃ v u, z = .d u ∧ CV v u ∧ ∀ Q : VK, Q v H → r x y H Q) : OpS K r g := by
  intro G H x y d e z Q s h1 h2 eg hq
  obtain ⟨v, u, rfl, hc, k⟩ := h G H x y d e z s h1 h2 eg
  exact k Q (hq v G H (.refl s) hc.dp)
theorem ops_I {C : Int → Int → Prop} {c : Int → Int → Bool} {f : Int → Int → V} {g : Int → Int → D} (hc : ∀ i j, c i j = true → C i j) (hf : ∀ i j, CV (f i j) (g i j)) : OpS K (rI C f) (gI c g) := by
  refine ops_sc fun G H x y d e z s h1 h2 eg => ?_
  unfold gI at eg
  split at eg
  · next i j =>
    split at eg
    · next hij =>
      cases eg
      exact ⟨f i j, g i j, rfl, hf i j, fun Q q => ⟨i, j, h1.int, h2.int, hc i j hij, q⟩⟩
    · cases eg
  · cases eg
theorem ops_I0 {f : Int → Int → V} {g : Int → Int → D} (hf : ∀ i j, CV (f i j) (g i j)) : OpS K (rI0 f) (gI cAny g) := by
  refine ops_sc fun G H x y d e z s h1 h2 eg => ?_
  unfold gI at eg
  split at eg
  · next i j =>
    split at eg
    · cases eg
      exact ⟨f i j, g i j, rfl, hf i j, fun Q q => ⟨i, j, h1.int, h2.int, q⟩⟩
    · cases eg
  · cases eg
theorem s_add : OpS K (rI0 fun i j => .int (i + j)) gAdd := ops_I0 fun i j => .int _
theorem s_sub : OpS K (rI0 fun i j => .int (i - j)) gSub := ops_I0 fun i j => .int _
theorem s_mul : OpS K (rI CMul fun i j => .int (i * j)) gMul := ops_I (fun i j h => of_decide_eq_true (p := (-(2 ^ 64) < i ∧ i < 2 ^ 64) ∨ (-(2 ^ 64) < j ∧ j < 2 ^ 64)) h) fun i j => .int _
theorem s_div : OpS K (rI CDiv fun i j => .int (i / j)) gDiv := ops_I (fun i j h => of_decide_eq_true (p := 0 < j ∧ j < 1073741824) h) fun i j => .int _
theorem s_mod : OpS K (rI (fun _ j => 0 < j) fun i j => .int (i % j)) gMod := ops_I (fun i j h => of_decide_eq_true (p := 0 < j) h) fun i j => .int _
theorem s_pow : OpS K (rI CPow fun i j => .int (i ^ j.toNat)) gPow := ops_I (fun i j h => of_decide_eq_true (p := 0 ≤ j ∧ j ≤ 1000000 ∧ i.natAbs < 2 ^ 64) h) fun i j => .int _
theorem s_shl : OpS K (rI CPow fun i j => .int (i * 2 ^ j.toNat)) gShl := ops_I (fun i j h => of_decide_eq_true (p := 0 ≤ j ∧ j ≤ 1000000 ∧ i.natAbs < 2 ^ 64) h) fun i j => .int _
theorem s_shr : OpS K (rI (fun _ j => 0 ≤ j) fun i j => .int (i / 2 ^ j.toNat)) gShr := ops_I (fun i j h => of_decide_eq_true (p := 0 ≤ j) h) fun i j => .int _
theorem s_and : OpS K (rI0 fun i j => .int (Builtin.bitAnd i j)) gAnd := ops_I0 fun i j => .int _
theorem s_or : OpS K (rI0 fun i j => .int (Builtin.bitOr i j)) gOr := ops_I0 fun i j => .int _
theorem s_lt : OpS K (rI0 fun i j => .bl (decide (i < j))) gLt := ops_I0 fun i j => .bl _
theorem s_le : OpS K (rI0 fun i j => .bl (decide (i ≤ j))) gLe := ops_I0 fun i j => .bl _
theorem s_gt : OpS K (rI0 fun i j => .bl (decide (j < i))) gGt := ops_I0 fun i j => .bl _
theorem s_ge : OpS K (rI0 fun i j => .bl (decide (j ≤ i))) gGe := ops_I0 fun i j => .bl _
theorem s_neg : UnS K (rU fun i => .int (-i)) gNeg := by
  intro G H x d z Q s h1 eg hq
  unfold gNeg at eg
  split at eg
  · next i =>
    cases eg
    exact ⟨i, h1.int, hq _ G H (.refl s) (.int _)⟩
  · cases eg
theorem s_eq : OpS K (rEqD K) gEq := by
  refine ops_sc fun G H x y d e z s h1 h2 eg => ?_
  unfold gEq at eg
  split at eg
  · next h =>
    cases eg
    rw [Bool.and_eq_true] at h
    exact ⟨_, _, rfl, .bl _, fun Q q => ⟨d, e, h1.dp s, h2.dp s, h.1, h.2, q⟩⟩
  · cases eg
theorem s_ne : OpS K (rNeD K) gNe := by
  refine ops_sc fun G H x y d e z s h1 h2 eg => ?_
  unfold gNe at eg
  split at eg
  · next h =>
    cases eg
    rw [Bool.and_eq_true] at h
    exact ⟨_, _, rfl, .bl _, fun Q q => ⟨d, e, h1.dp s, h2.dp s, h.1, h.2, q⟩⟩
  · cases eg
theorem s_in : OpS K (rInD K) gIn := by
  refine ops_sc fun G H x y d e z s h1 h2 eg => ?_
  unfold gIn at eg
  split at eg
  · next es =>
    split at eg
    · next h =>
      cases eg
      rw [Bool.and_eq_true] at h
      exact ⟨_, _, rfl, .bl _, fun Q q => ⟨d, es, h1.dp s, h2.dp s, h.1, h.2, q⟩⟩
    · cases eg
  · cases eg
theorem s_notIn : OpS K (rNotInD K) gNotIn := by
  refine ops_sc fun G H x y d e z s h1 h2 eg => ?_
  unfold gNotIn at eg
  split at eg
  · next es =>
    split at eg
    · next h =>
      cases eg
      rw [Bool.and_eq_true] at h
      exact ⟨_, _, rfl, .bl _, fun Q q => ⟨d, es, h1.dp s, h2.dp s, h.1, h.2, q⟩⟩
    · cases eg
  · cases eg
theorem atI_dp {G : Hp} {vs : List V} {ds : List D} {i : Int} {x : D} (h : DpAll K G vs ds) (e : atI ds i = some x) : ∃ v, atI vs i = some v ∧ Dp K G v x := by
  unfold atI at e ⊢
  rw [dpAll_len h]
  cases q : ixN ds.length i with
  | none => rw [q] at e; cases e
  | some j =>
    rw [q] at e
    exact dpAll_get h e
theorem s_ix : OpS K (rIx K) gIx := by
  intro G H x y d e z Q s h1 h2 eg hq
  unfold gIx at eg
  split at eg
  · next xs i =>
    split at eg
    · next u eu =>
      cases eg
      obtain ⟨a, vs, rfl, w1, w2⟩ := h1.lst s
      obtain ⟨v, w3, w4⟩ := atI_dp w2 eu
      exact .inl ⟨a, vs, i, v, rfl, h2.int, w1, w3, hq v G H (.refl s) w4⟩
    · cases eg
  · next xs i =>
    split at eg
    · next u eu =>
      cases eg
      obtain ⟨a, vs, rfl, w1, w2⟩ := h1.tup s
      obtain ⟨v, w3, w4⟩ := atI_dp w2 eu
      exact .inr (.inl ⟨a, vs, i, v, rfl, h2.int, w1, w3, hq v G H (.refl s) w4⟩)
    · cases eg
  · cases eg
end

/-! ### what is built in -/
section
variable {K : PySem.W.Frag}
def cLen : List D → Option R
  | [.list xs] => some (.d (.int xs.length))
  | [.tuple xs] => some (.d (.int xs.length))
  | _ => none
theorem s_len : CallS K (fun xs H Q => ∃ p ys, xs = [.ref p] ∧ (SqL K H p ys ∨ SqT K H p ys) ∧ Q (.int ys.length) H) cLen := by
  intro G H xs ds z Q s h eg hq
  unfold cLen at eg
  split at eg
  · next es =>
    cases eg
    cases h with
    | cons h1 h2 =>
      cases h2
      obtain ⟨a, vs, rfl, w1, w2⟩ := h1.lst s
      refine ⟨a, vs, rfl, .inl w1, ?_⟩
      rw [dpAll_len w2]
      exact hq _ G H (.refl s) (.int _)
  · next es =>
    cases eg
    cases h with
    | cons h1 h2 =>
      cases h2
      obtain ⟨a, vs, rfl, w1, w2⟩ := h1.tup s
      refine ⟨a, vs, rfl, .inr w1, ?_⟩
      rw [dpAll_len w2]
      exact hq _ G H (.refl s) (.int _)
  · cases eg
def cAbs : List D → Option R
  | [.int i] => some (.d (.int (if i < 0 then -i else i)))
  | _ => none
theorem s_abs : CallS K (fun xs H Q => ∃ i, xs = [.int i] ∧ Q (.int (if i < 0 then -i else i)) H) cAbs := by
  intro G H xs ds z Q s h eg hq
  unfold cAbs at eg
  split at eg
  · next i =>
    cases eg
    cases h with
    | cons h1 h2 =>
      cases h2
      exact ⟨i, by rw [h1.int], hq _ G H (.refl s) (.int _)⟩
  · cases eg
def cInt : List D → Option R
  | [.int i] => some (.d (.int i))
  | _ => none
theorem s_int : CallS K (fun xs H Q => (∃ i, xs = [.int i] ∧ Q (.int i) H) ∨ ∃ k, xs = [.bl k] ∧ Q (.int (if k then 1 else 0)) H) cInt := by
  intro G H xs ds z Q s h eg hq
  unfold cInt at eg
  split at eg
  · next i =>
    cases eg
    cases h with
    | cons h1 h2 =>
      cases h2
      exact .inl ⟨i, by rw [h1.int], hq _ G H (.refl s) (.int _)⟩
  · cases eg
def cMax2 : List D → Option R
  | [.int i, .int j] => some (.d (.int (if j > i then j else i)))
  | _ => none
def cMin2 : List D → Option R
  | [.int i, .int j] => some (.d (.int (if j < i then j else i)))
  | _ => none
theorem s_max2 : CallS K (fun xs H Q => ∃ i j, xs = [.int i, .int j] ∧ Q (.int (if j > i then j else i)) H) cMax2 := by
  intro G H xs ds z Q s h eg hq
  unfold cMax2 at eg
  split at eg
  · next i j =>
    cases eg
    cases h with
    | cons h1 h2 =>
      cases h2 with
      | cons h2 h3 =>
        cases h3
        exact ⟨i, j, by rw [h1.int, h2.int], hq _ G H (.refl s) (.int _)⟩
  · cases eg
theorem s_min2 : CallS K (fun xs H Q => ∃ i j, xs = [.int i, .int j] ∧ Q (.int (if j < i then j else i)) H) cMin2 := by
  intro G H xs ds z Q s h eg hq
  unfold cMin2 at eg
  split at eg
  · next i j =>
    cases eg
    cases h with
    | cons h1 h2 =>
      cases h2 with
      | cons h2 h3 =>
        cases h3
        exact ⟨i, j, by rw [h1.int, h2.int], hq _ G H (.refl s) (.int _)⟩
  · cases eg
def cList : List D → Option R
  | [.list xs] => some (.o xs)
  | [.tuple xs] => some (.o xs)
  | _ => none
theorem s_list : CallS K (fun xs H Q => ∃ p ys, xs = [.ref p] ∧ (SqL K H p ys ∨ SqT K H p ys) ∧ ∀ l, H l = none → Q (.ref l) (upd H l (.lst ys))) cList := by
  intro G H xs ds z Q s h eg hq
  unfold cList at eg
  split at eg
  · next es =>
    cases eg
    cases h with
    | cons h1 h2 =>
      cases h2
      obtain ⟨a, vs, rfl, w1, w2⟩ := h1.lst s
      exact ⟨a, vs, rfl, .inl w1, fun l nl => hq _ G _ (Grow.fresh s nl) ⟨l, vs, rfl, nl, upd_same, w2, s.free nl⟩⟩
  · next es =>
    cases eg
    cases h with
    | cons h1 h2 =>
      cases h2
      obtain ⟨a, vs, rfl, w1, w2⟩ := h1.tup s
      exact ⟨a, vs, rfl, .inr w1, fun l nl => hq _ G _ (Grow.fresh s nl) ⟨l, vs, rfl, nl, upd_same, w2, s.free nl⟩⟩
  · cases eg
/-! isinstance(x, T), T a built-in class -/
def tyN : D → String
  | .none => "NoneType"
  | .bool _ => "bool"
  | .int _ => "int"
  | .str _ => "str"
  | .list _ => "list"
  | .tuple _ => "tuple"
  | .dict _ => "dict"
theorem dp_ty {H : Hp} {v : V} {d : D} (h : Dp K H v d) : TyX K H v (.type (tyN d)) := by
  cases h with
  | non => exact .base .non
  | bl b => exact .base (.bl b)
  | int i => exact .base (.int i)
  | str x => exact .base (.str x)
  | lst h1 h2 =>
    rcases h1 with (h1 | ⟨o, h1⟩) | ⟨o, its, n, h1, h2, _⟩
    · exact .base (.lst h1)
    · exact .base (.frz h1)
    · exact .kList h1 h2
  | tup h1 h2 =>
    rcases h1 with (h1 | ⟨o, h1⟩) | ⟨o, its, n, h1, h2, _⟩
    · exact .base (.tup h1)
    · exact .fTuple h1
    · exact .kTuple h1 h2
end
def mIsi (T : String) (me : Env → Res R) : Env → Res R := fun ρ => (me ρ).bind fun r ρ1 => match opd ρ1 r with
  | some d => (match kitB (tyN d) T with
    | some b => .ok (.d (.bool b)) ρ1
    | none => .no)
  | none => .no
theorem sim_isi {K : PySem.W.Frag} {P : Nat} {W : Wish} {T : String} {te : TE} {me : Env → Res R} (h : SimE K P W te me) : SimE K P W (tCB (rIsi K) (tCons te (tCons (tC (.ty T)) tNil))) (mIsi T me) := by
  intro f G H σ ρ Q hp rl hq
  refine h.op hp rl ?_
  unfold mIsi at hq
  cases e1 : me ρ with
  | no => rw [e1] at hq; exact hq
  | exc c ρ1 => rw [e1] at hq; exact hq
  | ok r1 ρ1 =>
    rw [e1] at hq
    intro v G1 H1 s1 rl1 h1
    simp only [Res.bind] at hq
    split at hq
    · next d ed =>
      split at hq
      · next b eb =>
        have hd := (h1.got rl1 ed).dp rl1.gh
        exact ⟨v, .ty T, .type (tyN d), .type T, b, rfl, .ty T, dp_ty hd, kit_ty eb, hq _ G1 H1 s1 rl1 (.bl _)⟩
      · exact hq.elim
    · exact hq.elim
end Z
namespace Z
open PySem L2

/-! ### op= -/
theorem zip_or {X : Cx} : PIp X .BitOr (ipI fun i j => Builtin.bitOr i j) := by
  intro pins s σ H x y v u Q I r1 r2 h
  obtain ⟨i, j, rfl, rfl, q⟩ := h
  obtain ⟨ti, rfl⟩ := r1
  obtain ⟨tj, rfl⟩ := r2
  exact PyProof.Rows.ior_int ⟨V.int _, H, I.tok _, ⟨_, rfl⟩, q⟩
section
variable {K : PySem.W.Frag}
theorem s_ipI {f : Int → Int → Int} : OpS K (ipI f) (gI cAny fun i j => .int (f i j)) := by
  refine ops_sc fun G H x y d e z s h1 h2 eg => ?_
  unfold gI at eg
  split at eg
  · next i j =>
    split at eg
    · cases eg
      exact ⟨_, _, rfl, .int _, fun Q q => ⟨i, j, h1.int, h2.int, q⟩⟩
    · cases eg
  · cases eg
/-! ### methods that change a list -/
def uAppend : List D → List D → Option (List D) := fun xs ds => match ds with
  | [d] => if xs.length < 1000000 then some (xs ++ [d]) else none
  | _ => none
theorem s_append : MutS K rAppend uAppend := by
  intro G H p vs args xs ds ys s hp hx ha eg
  unfold uAppend at eg
  split at eg
  · next d =>
    split at eg
    · next hl =>
      cases eg
      cases ha with
      | cons h1 h2 =>
        cases h2
        refine ⟨_, dpAll_append hx (.cons h1 .nil), fun Q q => ⟨p, vs, _, rfl, rfl, hp, ?_, q⟩⟩
        rw [dpAll_len hx]
        exact Nat.lt_of_lt_of_le hl (by decide)
    · cases eg
  · cases eg
end

/-! ### sorted(set(xs)), ints -/
def insI (k : Int) : List Int → List Int
  | [] => [k]
  | x :: xs => if k < x then k :: x :: xs else if k = x then x :: xs else x :: insI k xs
def sset (ns : List Int) : List Int := ns.foldr insI []
theorem insI_mem (k j : Int) : ∀ xs : List Int, j ∈ insI k xs ↔ j = k ∨ j ∈ xs
  | [] => by simp [insI]
  | x :: xs => by
    unfold insI
    split
    · simp
    · split
      · next h => subst h; simp
      · rw [List.mem_cons, insI_mem k j xs, List.mem_cons]
        constructor <;> (intro h; rcases h with h | h | h <;> simp [h])
theorem insI_up (k : Int) : ∀ xs : List Int, xs.Pairwise (· < ·) → (insI k xs).Pairwise (· < ·)
  | [], _ => by simp [insI]
  | x :: xs, h => by
    unfold insI
    rw [List.pairwise_cons] at h
    split
    · next hk =>
      rw [List.pairwise_cons, List.pairwise_cons]
      refine ⟨fun y hy => ?_, h⟩
      rcases List.mem_cons.mp hy with e | hy
      · omega
      · have := h.1 y hy
        omega
    · split
      · rw [List.pairwise_cons]
        exact h
      · next h1 h2 =>
        rw [List.pairwise_cons]
        refine ⟨fun y hy => ?_, insI_up k xs h.2⟩
        rcases (insI_mem k y xs).mp hy with e | hy
        · omega
        · exact h.1 y hy
theorem sset_mem (j : Int) : ∀ ns : List Int, j ∈ sset ns ↔ j ∈ ns
  | [] => by simp [sset]
  | n :: ns => by
    show j ∈ insI n (sset ns) ↔ _
    rw [insI_mem, sset_mem j ns, List.mem_cons]
theorem sset_up : ∀ ns : List Int, (sset ns).Pairwise (· < ·)
  | [] => by simp [sset]
  | n :: ns => insI_up n _ (sset_up ns)
/-- two rising lists of the same members are one -/
theorem up_one : ∀ (xs ys : List Int), xs.Pairwise (· < ·) → ys.Pairwise (· < ·) → (∀ k : Int, k ∈ xs ↔ k ∈ ys) → xs = ys
  | [], [], _, _, _ => rfl
  | [], y :: ys, _, _, h => absurd ((h y).mpr List.mem_cons_self) (by simp)
  | x :: xs, [], _, _, h => absurd ((h x).mp List.mem_cons_self) (by simp)
  | x :: xs, y :: ys, h1, h2, h => by
    rw [List.pairwise_cons] at h1 h2
    have exy : x = y := by
      rcases List.mem_cons.mp ((h x).mp List.mem_cons_self) with e | hx
      · exact e
      · rcases List.mem_cons.mp ((h y).mpr List.mem_cons_self) with e | hy
        · exact e.symm
        · have := h1.1 y hy
          have := h2.1 x hx
          omega
    subst exy
    have nx : x ∉ xs := fun z => by have := h1.1 x z; omega
    have ny : x ∉ ys := fun z => by have := h2.1 x z; omega
    rw [up_one xs ys h1.2 h2.2 fun k => ?_]
    have hk := h k
    rw [List.mem_cons, List.mem_cons] at hk
    constructor
    · intro z
      rcases hk.mp (.inr z) with e | e
      · subst e; exact absurd z nx
      · exact e
    · intro z
      rcases hk.mpr (.inr z) with e | e
      · subst e; exact absurd z ny
      · exact e

section
open PySem.Spec PyProof.Rows
abbrev noSet (w : World) : Obj := { cls := .type "set", dict := none, data := .set #[] 0 (.fresh 0 0 (!w.params.followText "set-order")) }
variable {P : Program} {w : World} {A : Around} {E : Value → Shared → Prop} {s : Shared}
set_option maxHeartbeats 3200000 in
/-- set(xs) of a list of ints, with what sorted wants to know of it -/
theorem set_of_ints {l : Addr} {its : Array Value} (ns : List Int) {Q : Value → Shared → Prop} (calm : A.handled = none) (hl : s.heap.IsList l its) (hi : IntsAre its.toList ns) (few : ns.length + 1 < scanBound)
    (fin : ∀ (g : Heap) (tk c : Nat), SetR w g s.heap.objs.size (fun j => decide (j ∈ ns)) c → c ≤ ns.length → (∀ b o, s.heap.get? b = some o → g.get? b = some o) → Q (.ref s.heap.objs.size) { s with heap := g, toks := tk }) :
    wpAny (model P w) A (call (.type "set") [.ref l]) Q E s := by
  have size : its.size = ns.length := by rw [← hi.length, Array.length_toList]
  obtain ⟨_, _, hm⟩ := F.called_set.mro
  have f1 := F.called_set.made
  have f2 := F.called_set.sub
  have f3 := F.called_set.notType
  have f4 := F.called_set.canCreate
  have f5 := F.typeCall_set_1 (.ref l)
  apply wpAny_call
  apply codeAny_of_tree
  show wpAny _ _ (callAny (.type "set") _) _ _ _
  apply wpAny_pure
  refine ⟨Code.quiet_builtin _ (by decide +kernel), codeAny_builtin F.entry_type_call ?_⟩
  rw [Around.under_plain (weight_type_call_type "set" [.ref l] []) rfl]
  repeat (any_goals (first | assumption | wp_step))
  apply codeAny_mono (code_set_led1 (.ref l) (E := E) (Q₁ := fun v t => v = .ref s.heap.objs.size ∧ t = { s with heap := s.heap.push (noSet w) }) ⟨rfl, rfl⟩)
  intro r t hr
  match r, hr with
  | .error e, hr => exact hr
  | .ok .next, hr => exact hr.elim
  | .ok .brk, hr => exact hr.elim
  | .ok .cont, hr => exact hr.elim
  | .ok (.ret v), hr =>
    obtain ⟨rfl, rfl⟩ := hr
    have born : (s.heap.push (noSet w)).get? s.heap.objs.size = some (noSet w) := Heap.get?_push_size _ rfl
    have typ : Shared.TypeIs { s with heap := s.heap.push (noSet w) } (.ref s.heap.objs.size) "set" := ⟨_, born, rfl⟩
    have g1 := F.called_set.init.lookup
    have g2 := F.called_set.init.bind (.ref s.heap.objs.size)
    repeat (any_goals (first | assumption | wp_step))
    have was : ∀ (b : Addr) (o : Obj), s.heap.get? b = some o → (s.heap.push (noSet w)).get? b = some o := fun b o e => Heap.get?_push_of_some _ e
    refine codeAny_mono (codeAny_call_builtin (R := wants (fun v t => v = .none ∧ ∃ g tk c, t = { s with heap := g, toks := tk } ∧ SetR w g s.heap.objs.size (fun j => decide (j ∈ ns)) c ∧ c ≤ ns.length ∧ ∀ b o, s.heap.get? b = some o → g.get? b = some o) E)
      F.called_set.init.plain F.entry_set_init (check_set_init_1 typ ?inside)) fun r t hr => ?after
    case inside =>
      have hl1 : (s.heap.push (noSet w)).IsList l its := hl.push _
      have hlt : l < s.heap.objs.size := Heap.lt_size hl.choose_spec.1
      obtain ⟨⟨oc, od, oa, os⟩, ho, hc, nl, hd⟩ := hl
      simp only at hc hd
      subst hc hd
      have ho1 := was _ _ ho
      have b1 := F.sub_list_set
      have b2 := F.sub_list_frozenset
      have b3 : (Value.type "list" == Value.type "dict") = false := by decide
      unfold Builtin.«set.__init__» noKeywords Builtin.Frozenset.updateFrom
      generalize hPI : pyIter = PI
      wp_walk
      subst hPI
      apply wpAny_pyIter_list hl1
      apply wpAny_bind
      apply wpAny_runValue
      have calm3 : A.in1.in1.in1.handled = none := by simp [calm]
      have n1 : l ≠ (s.heap.push (noSet w)).objs.size := by rw [Heap.size_push]; exact Nat.ne_of_lt (Nat.lt_succ_of_lt hlt)
      have at_ : ∀ (i : Nat) (v : Value), its[i]? = some v → ∃ k t, ns[i]? = some k ∧ v = .int k t := by
        intro i v hv
        have hi' : i < ns.length := by rw [← size]; exact (Array.getElem?_eq_some_iff.mp hv).1
        obtain ⟨t, e⟩ := IntsAre.int_at hi i v (by rw [Array.getElem?_toList]; exact hv)
        refine ⟨ns[i], t, List.getElem?_eq_getElem hi', ?_⟩
        rw [e, List.getD_eq_getElem?_getD, List.getElem?_eq_getElem hi']
        rfl
      have n2 : s.heap.objs.size ∉ [(s.heap.push (noSet w)).objs.size, l] := by
        rw [Heap.size_push]
        intro z
        rcases List.mem_cons.mp z with z | z
        · exact Nat.ne_of_lt (Nat.lt_succ_self _) z
        · rw [List.mem_singleton] at z
          exact Nat.ne_of_gt hlt z
      refine set_update_ints ((Walks.list calm3 _ l n1 its).toS) _ n2 ns size few at_ its.size 0 _ rfl (Nat.zero_le _) ⟨⟨_, Heap.get?_push_size _ rfl, rfl, rfl⟩, hl1.push _⟩ ⟨0, Nat.le_refl 0, setR_new_at (Heap.get?_push_of_some _ born)⟩ fun t c mv hc hS => ?_
      obtain ⟨g, tg, td, tk, tos⟩ := t
      obtain rfl : tg = s.gens := mv.gens
      obtain rfl : td = s.drawn := mv.drawn
      obtain rfl : tos = s.os := mv.os
      show wpAny _ _ _ _ _ _
      apply wpAny_pure
      show wpAny _ _ (ret Value.none) _ _ _
      rw [size] at hc
      refine wpAny_pure ⟨rfl, g, tk, c, rfl, hS, hc, fun b o e => ?_⟩
      have hb := Heap.lt_size e
      refine mv.heap b o (fun z => ?_) (Heap.get?_push_of_some _ (was b o e))
      rcases List.mem_cons.mp z with z | z
      · exact Nat.ne_of_lt hb z
      · rw [List.mem_singleton, Heap.size_push] at z
        exact Nat.ne_of_lt (Nat.lt_succ_of_lt hb) z
    case after =>
     match r, hr with
     | .error e, hr => exact hr
     | .ok .next, hr => exact hr.elim
     | .ok .brk, hr => exact hr.elim
     | .ok .cont, hr => exact hr.elim
     | .ok (.ret v), hr =>
      obtain ⟨rfl, g, tk, c, rfl, z1, z2, z3⟩ := hr
      repeat (any_goals (first | assumption | wp_step))
      exact fin g tk c z1 z2 z3
end
end Z
namespace Z
open PySem L2

def rSetI (K : PySem.W.Frag) (w : World) : List V → Hp → VK → Prop := fun xs H Q => ∃ (l : Addr) (ns : List Int), xs = [V.ref l] ∧ SqL K H l (ns.map V.int) ∧ ns.length < 64 ∧
  ∀ a c, H a = none → c ≤ ns.length → Q (.ref a) (upd H a (SetO w a (fun j => decide (j ∈ ns)) c))
theorem zcr_setI {X : Cx} (hc : X.calm = true) : CallR X (.type "set") (rSetI X.K X.w) := by
  intro pins s σ H xs us Q I r h
  obtain ⟨l, ns, rfl, hl, few, q⟩ := h
  rw [Vals.ref1 r]
  obtain ⟨its, rv, pl, hz⟩ := I.list hl
  refine set_of_ints (P := X.prog) (w := X.w) ns (I.ok.hd hc) pl.isList (by simpa using rv.ints) (by have : (scanBound : Nat) = scanBound := rfl; unfold scanBound; omega) fun g tk c R hc' keep => ?_
  exact ⟨.ref _, _, I.laid (t' := tk) keep (Nat.le_refl _) (setO_new R), rfl, q _ c (I.hok.fresh (Nat.le_refl _)) hc'⟩
def intsOf : List D → Option (List Int)
  | [] => some []
  | .int i :: ds => (match intsOf ds with
    | some ns => some (i :: ns)
    | none => none)
  | _ => none
theorem intsOf_map : ∀ ns : List Int, intsOf (ns.map PyData.int) = some ns
  | [] => rfl
  | n :: ns => by
    show (match intsOf (ns.map PyData.int) with
      | some ns => some (n :: ns)
      | none => none) = _
    rw [intsOf_map ns]
theorem intsOf_eq : ∀ {ds : List D} {ns : List Int}, intsOf ds = some ns → ds = ns.map PyData.int
  | [], _, h => by cases h; rfl
  | .int i :: ds, ns, h => by
    have h : (match intsOf ds with
      | some ns => some (i :: ns)
      | none => none) = some ns := h
    cases e : intsOf ds with
    | none => rw [e] at h; cases h
    | some ms =>
      rw [e] at h
      cases h
      rw [intsOf_eq e]
      rfl
  | .none :: _, _, h => by cases h
  | .bool _ :: _, _, h => by cases h
  | .str _ :: _, _, h => by cases h
  | .list _ :: _, _, h => by cases h
  | .tuple _ :: _, _, h => by cases h
  | .dict _ :: _, _, h => by cases h
/-- sorted(set(xs)) -/
def mSortSet (ma : Env → Res R) : Env → Res R := fun ρ => (ma ρ).bind fun r ρ1 => match opd ρ1 r with
  | some (.list ds) => (match intsOf ds with
    | some ns => if ns.length < 64 then .ok (.o ((sset ns).map .int)) ρ1 else .no
    | none => .no)
  | _ => .no
theorem sim_sortSet {K : PySem.W.Frag} {w : World} {P : Nat} {W : Wish} {te : TE} {me : Env → Res R} (h : SimE K P W te me) : SimE K P W (tCB (rSortedSet w) (tCons (tCB (rSetI K w) (tCons te tNil)) tNil)) (mSortSet me) := by
  intro f G H σ ρ Q hp rl hq
  refine h.op hp rl ?_
  unfold mSortSet at hq
  cases e1 : me ρ with
  | no => rw [e1] at hq; exact hq
  | exc c ρ1 => rw [e1] at hq; exact hq
  | ok r1 ρ1 =>
    rw [e1] at hq
    intro v G1 H1 s1 rl1 h1
    simp only [Res.bind] at hq
    split at hq
    · next ds ed =>
      split at hq
      · next ns en =>
        split at hq
        · next few =>
          obtain ⟨l, vs, rfl, w1, w2⟩ := (h1.got rl1 ed).lst rl1.gh
          rw [intsOf_eq en] at w2
          rw [dpAll_ints w2] at w1
          refine ⟨l, ns, rfl, w1, few, fun a c na hc => ?_⟩
          refine ⟨a, _, c, rfl, upd_same, by omega, fun ms p up mem len np => ?_⟩
          have npa : p ≠ a := fun z => by
            subst z
            rw [upd_same] at np
            cases np
          have np1 : H1 p = none := by
            rw [upd_ne npa] at np
            exact np
          have em : ms = sset ns := up_one _ _ up (sset_up ns) fun k => by
            rw [mem k, sset_mem]
            exact decide_eq_true_iff
          subst em
          have g1 : Grow G1 H1 G1 (upd H1 a (SetO w a (fun j => decide (j ∈ ns)) c)) := Grow.fresh rl1.gh na
          have g2 := Grow.fresh (o := .lst ((sset ns).map V.int)) g1.2.2.1 np
          have gr := g1.trans g2
          refine hq _ G1 _ s1 (rl1.grow gr) (NewV.vrep rl1 gr ⟨p, _, rfl, np1, upd_same, dpAll_ofInts _, rl1.gh.free np1⟩)
        · exact hq.elim
      · exact hq.elim
    · exact hq.elim

/-! ### the law's end -/
theorem law_sp {K : PySem.W.Frag} {n : Nat} {mb : Env → Out} (h : ∀ ns : List Int, ns.length ≤ 63 → ∃ ρ', mb (env0 n [.d (.list (ns.map .int))]) = .rt (.d (.bool true)) ρ') (H : Hp) (a : Addr) (ns : List Int) (hl : ns.length ≤ 63) (hS : SqL K H a (ns.map V.int)) :
    spM K 0 1 n W0 mb [.ref a] H (fun v _ => v = .bl true) fun _ _ _ => False := by
  obtain ⟨ρ', e⟩ := h ns hl
  have hd : DpAll K H [V.ref a] [PyData.list (ns.map .int)] := .cons (.lst hS (dpAll_ofInts ns)) .nil
  refine ⟨rfl, [], H, [.d (.list (ns.map .int))], rfl, rfl, rel_args (.refl H) hd, ?_⟩
  rw [e]
  intro v G' H' σ' _ _ hv
  exact dp_bool hv
end Z
namespace Z
open PySem L2
section
variable {X : Cx} (K : PySem.W.Frag)
theorem zix (hK : X.K = K := by rfl) : IxR X (rIx K) := by subst hK; exact ix_seq
theorem zeq (hu : X.A.units + 64 < cLine) (hK : X.K = K := by rfl) : OpR X (compareOp .Eq) (rEqD K) := by subst hK; exact op_eqD hu
theorem zne (hu : X.A.units + 64 < cLine) (hK : X.K = K := by rfl) : OpR X (compareOp .NotEq) (rNeD K) := by subst hK; exact op_neD hu
theorem zin (hu : X.A.units + 65 < cLine) (hK : X.K = K := by rfl) : OpR X (compareOp .In) (rInD K) := by subst hK; exact op_inD hu
theorem znotIn (hu : X.A.units + 65 < cLine) (hK : X.K = K := by rfl) : OpR X (compareOp .NotIn) (rNotInD K) := by subst hK; exact op_notInD hu
theorem zlen (hK : X.K = K := by rfl) : CallR X (.builtin "len") (fun xs H Q => ∃ p ys, xs = [.ref p] ∧ (SqL K H p ys ∨ SqT K H p ys) ∧ Q (.int ys.length) H) := by subst hK; exact call_len_seq
theorem zlist (hK : X.K = K := by rfl) : CallR X (.type "list") (fun xs H Q => ∃ p ys, xs = [.ref p] ∧ (SqL K H p ys ∨ SqT K H p ys) ∧ ∀ l, H l = none → Q (.ref l) (upd H l (.lst ys))) := by subst hK; exact call_list_of
theorem zisi (hK : X.K = K := by rfl) : CallR X (.builtin "isinstance") (rIsi K) := by subst hK; exact call_isi
theorem zseq {tg l : Expr} {tl : TE} (hl : PE X l tl) (hK : X.K = K := by rfl) : PI X tg l (iSeq K tl) := by subst hK; exact zpi_seq hl
variable (w : World)
theorem zsortSet (hc : X.calm = true) (hw : X.w = w := by rfl) : CallR X (.builtin "sorted") (rSortedSet w) := by subst hw; exact cr_sortedSet hc
theorem zsetI (hc : X.calm = true) (hK : X.K = K := by rfl) (hw : X.w = w := by rfl) : CallR X (.type "set") (rSetI K w) := by subst hK; subst hw; exact zcr_setI hc
end
theorem hu64 {A : Around} {k : Nat} (hr : Room k A) : A.units + 64 < cLine := hr.units
theorem hu65 {A : Around} {k : Nat} (hr : Room k A) : A.units + 65 < cLine := by have := hr.un; omega
end Z
namespace Z
open PySem L2
/-! ### the mirrors' evaluation, as rows for simp -/
theorem sh_none : SeqAt.shaped .none = true := by rfl
theorem sh_int (i : Int) : SeqAt.shaped (.int i) = true := by rfl
theorem sh_bool (b : Bool) : SeqAt.shaped (.bool b) = true := by rfl
theorem eqv_int (i j : Int) : PyData.eqv (.int i) (.int j) = decide (i = j) := by
  by_cases h : i = j <;> simp [PyData.eqv, h]
theorem eqv_bool_int (b : Bool) (j : Int) : PyData.eqv (.bool b) (.int j) = decide ((if b then 1 else 0) = j) := by
  cases b <;> simp [PyData.eqv, Bool.beq_eq_decide_eq]
theorem eqv_int_bool (b : Bool) (j : Int) : PyData.eqv (.int j) (.bool b) = decide (j = (if b then 1 else 0)) := by
  cases b <;> simp [PyData.eqv, Bool.beq_eq_decide_eq]
/-! shapes: no dict in it, not too deep -/
def Sh (k : Nat) (d : D) : Prop := PyData.canLay0 d = true ∧ PyData.depth d ≤ k
theorem Sh.shaped {k : Nat} {d : D} (h : Sh k d) (hk : k ≤ 64) : SeqAt.shaped d = true := by
  unfold SeqAt.shaped
  rw [h.1, Bool.true_and]
  exact decide_eq_true (Nat.le_trans h.2 hk)
theorem Sh.mono {k l : Nat} {d : D} (h : Sh k d) (hk : k ≤ l) : Sh l d := ⟨h.1, Nat.le_trans h.2 hk⟩
theorem shs_all {k : Nat} : ∀ {xs : List D}, (∀ x ∈ xs, Sh k x) → PyData.canLayAll0 xs = true ∧ PyData.depthAll xs ≤ k
  | [], _ => ⟨rfl, Nat.zero_le _⟩
  | x :: xs, h => by
    have h1 := h x List.mem_cons_self
    have h2 := shs_all fun y hy => h y (List.mem_cons_of_mem _ hy)
    exact ⟨by simp [PyData.canLayAll0, h1.1, h2.1], by simp only [PyData.depthAll]; exact Nat.max_le.mpr ⟨h1.2, h2.2⟩⟩
theorem Sh.list {k : Nat} {xs : List D} (h : ∀ x ∈ xs, Sh k x) : Sh (k + 1) (.list xs) := by
  have := shs_all h
  exact ⟨by simp only [PyData.canLay0]; exact this.1, by simp only [PyData.depth]; omega⟩
theorem Sh.tuple {k : Nat} {xs : List D} (h : ∀ x ∈ xs, Sh k x) : Sh (k + 1) (.tuple xs) := by
  have := shs_all h
  exact ⟨by simp only [PyData.canLay0]; exact this.1, by simp only [PyData.depth]; omega⟩
theorem Sh.int (i : Int) : Sh 0 (.int i) := ⟨rfl, Nat.le_refl 0⟩
theorem Sh.bool (i : Bool) : Sh 0 (.bool i) := ⟨rfl, Nat.le_refl 0⟩
theorem Sh.none : Sh 0 .none := ⟨rfl, Nat.le_refl 0⟩
theorem Sh.ints (xs : List Int) : Sh 1 (.list (xs.map .int)) := Sh.list fun x hx => by
  obtain ⟨i, _, rfl⟩ := List.mem_map.mp hx
  exact .int i
theorem sh_ints (xs : List Int) : SeqAt.shaped (.list (xs.map .int)) = true := (Sh.ints xs).shaped (by decide)
theorem eqvAll_ints : ∀ xs ys : List Int, PyData.eqvAll (xs.map .int) (ys.map .int) = decide (xs = ys)
  | [], [] => by simp [PyData.eqvAll]
  | [], _ :: _ => by simp [PyData.eqvAll]
  | _ :: _, [] => by simp [PyData.eqvAll]
  | x :: xs, y :: ys => by
    simp only [List.map_cons, PyData.eqvAll, eqvAll_ints xs ys, eqv_int, List.cons.injEq]
    by_cases h : x = y <;> simp [h]
theorem eqv_ints (xs ys : List Int) : PyData.eqv (.list (xs.map .int)) (.list (ys.map .int)) = decide (xs = ys) := by
  simp only [PyData.eqv, eqvAll_ints]
theorem gEq_ints (xs ys : List Int) : gEq (.list (xs.map .int)) (.list (ys.map .int)) = some (.d (.bool (decide (xs = ys)))) := by simp [gEq, sh_ints, eqv_ints]
theorem gNe_ints (xs ys : List Int) : gNe (.list (xs.map .int)) (.list (ys.map .int)) = some (.d (.bool (!decide (xs = ys)))) := by simp [gNe, sh_ints, eqv_ints]
theorem gIn_ints (i : Int) (xs : List Int) : gIn (.int i) (.list (xs.map .int)) = some (.d (.bool (decide (i ∈ xs)))) := by
  have : (xs.map PyData.int).any (fun z => PyData.eqv z (.int i)) = decide (i ∈ xs) := by
    rw [List.any_map]
    induction xs with
    | nil => simp
    | cons x xs ih =>
      rw [List.any_cons, ih]
      simp only [Function.comp, eqv_int, List.mem_cons]
      by_cases h : x = i
      · simp [h]
      · have h' : ¬ i = x := fun e => h e.symm
        simp [h, h']
  unfold gIn
  simp only [sh_int, sh_ints, Bool.and_self, if_true]
  rw [this]
theorem kit_ll : kitB "list" "list" = some true := by decide +kernel
theorem kit_ii : kitB "int" "int" = some true := by decide +kernel
theorem kit_ib : kitB "int" "bool" = some false := by decide +kernel
theorem atI_nn {α : Type} (xs : List α) (i : Int) (h : 0 ≤ i) : atI xs i = xs[i.toNat]? := by
  unfold atI ixN
  rw [if_pos h]
  by_cases h2 : i < xs.length
  · rw [if_pos h2]; rfl
  · rw [if_neg h2]
    show none = _
    rw [List.getElem?_eq_none]
    omega
theorem atI_lit {α : Type} (xs : List α) (n : Nat) : atI xs (no_index (OfNat.ofNat n)) = xs[n]? := by
  rw [atI_nn _ _ (by exact Int.natCast_nonneg n)]
  rfl
theorem ixN_nn (n : Nat) (i : Int) (h : 0 ≤ i) (h2 : i < n) : ixN n i = some i.toNat := by
  unfold ixN
  rw [if_pos h, if_pos h2]
theorem ixN_lit (n k : Nat) : ixN n (no_index (OfNat.ofNat k)) = if k < n then some k else none := by
  show ixN n ((k : Nat) : Int) = _
  unfold ixN
  rw [if_pos (by omega)]
  by_cases h : k < n
  · rw [if_pos h, if_pos (by omega)]; rfl
  · rw [if_neg h, if_neg (by omega)]
theorem atI_map {α β : Type} (f : α → β) (xs : List α) (i : Int) (h : 0 ≤ i) : atI (xs.map f) i = (xs[i.toNat]?).map f := by
  rw [atI_nn _ _ h, List.getElem?_map]
theorem gEq_int (i j : Int) : gEq (.int i) (.int j) = some (.d (.bool (decide (i = j)))) := by simp [gEq, sh_int, eqv_int]
theorem gNe_int (i j : Int) : gNe (.int i) (.int j) = some (.d (.bool (!decide (i = j)))) := by simp [gNe, sh_int, eqv_int]
theorem gAdd_int (i j : Int) : gAdd (.int i) (.int j) = some (.d (.int (i + j))) := rfl
theorem gSub_int (i j : Int) : gSub (.int i) (.int j) = some (.d (.int (i - j))) := rfl
theorem gLt_int (i j : Int) : gLt (.int i) (.int j) = some (.d (.bool (decide (i < j)))) := rfl
theorem gLe_int (i j : Int) : gLe (.int i) (.int j) = some (.d (.bool (decide (i ≤ j)))) := rfl
theorem gGt_int (i j : Int) : gGt (.int i) (.int j) = some (.d (.bool (decide (j < i)))) := rfl
theorem gGe_int (i j : Int) : gGe (.int i) (.int j) = some (.d (.bool (decide (j ≤ i)))) := rfl
theorem gNeg_int (i : Int) : gNeg (.int i) = some (.d (.int (-i))) := rfl
theorem gMod_int (i j : Int) (h : 0 < j) : gMod (.int i) (.int j) = some (.d (.int (i % j))) := by simp [gMod, gI, cMod, h]
theorem gDiv_int (i j : Int) (h : 0 < j) (h2 : j < 1073741824) : gDiv (.int i) (.int j) = some (.d (.int (i / j))) := by simp [gDiv, gI, cDiv, h, h2]
theorem gMul_r (i j : Int) (h : -(18446744073709551616) < j) (h2 : j < 18446744073709551616) : gMul (.int i) (.int j) = some (.d (.int (i * j))) := by
  have : cMul i j = true := by
    unfold cMul
    exact decide_eq_true (.inr ⟨by omega, by omega⟩)
  simp [gMul, gI, this]
theorem gMul_l (i j : Int) (h : -(18446744073709551616) < i) (h2 : i < 18446744073709551616) : gMul (.int i) (.int j) = some (.d (.int (i * j))) := by
  have : cMul i j = true := by
    unfold cMul
    exact decide_eq_true (.inl ⟨by omega, by omega⟩)
  simp [gMul, gI, this]
theorem seq_nx {ms mt : Env → Out} {ρ ρ1 : Env} (h : ms ρ = .nx ρ1) : mSeq ms mt ρ = mt ρ1 := by unfold mSeq; rw [h]
theorem seq_rt {ms mt : Env → Out} {ρ ρ1 : Env} {x : S} (h : ms ρ = .rt x ρ1) : mSeq ms mt ρ = .rt x ρ1 := by unfold mSeq; rw [h]
section
variable {P : Nat} {ma : Env → Res (List R)} {mi : Env → Res (List D)} {b : D → Env → Option Env} {mt : Env → Res Bool} {me : Env → Res R} {vs : List Nat} {ρ ρ1 ρw : Env} {ds acc xs : List D} {m1 m2 body : Env → Out} {i : Nat} {x : D}
theorem mLc_ok (h1 : mi ρ = .ok ds ρ1) (h2 : lcL P b mt me vs ds [] (wipeE ρ1 vs) = .ok acc ρw) : mLc P mi b mt me vs ρ = .ok (.o acc) (back ρ1 vs ρw) := by
  unfold mLc; rw [h1]; simp only [Res.bind, h2]
theorem mLcH_o {j : Nat} (h1 : ρ[j]? = some (some (S.o ds))) (h2 : lcL P b mt me vs ds [] (wipeE (ρ.set j none) vs) = .ok acc ρw) : mLcH P j b mt me vs ρ = .ok (.o acc) ((back (ρ.set j none) vs ρw).set j (some (S.o ds))) := by
  unfold mLcH; rw [h1]; simp only [h2]
theorem mLcH_l {j : Nat} (h1 : ρ[j]? = some (some (S.d (.list ds)))) (h2 : lcL P b mt me vs ds [] (wipeE ρ vs) = .ok acc ρw) : mLcH P j b mt me vs ρ = .ok (.o acc) (back ρ vs ρw) := by
  unfold mLcH; rw [h1]; simp only [h2]
theorem mLcH_t {j : Nat} (h1 : ρ[j]? = some (some (S.d (.tuple ds)))) (h2 : lcL P b mt me vs ds [] (wipeE ρ vs) = .ok acc ρw) : mLcH P j b mt me vs ρ = .ok (.o acc) (back ρ vs ρw) := by
  unfold mLcH; rw [h1]; simp only [h2]
theorem big_nat (N : Nat) (h : N < 1000000) : -big62 ≤ (N : Int) ∧ (N : Int) < big62 := by
  have e : big62 = 4611686018427387904 := rfl
  rw [e]
  constructor <;> omega
theorem mRng1_eq {j : Int} (h : ma ρ = .ok [.d (.int j)] ρ1) : mRng1 ma ρ = if -big62 ≤ j ∧ j < big62 then .ok ((List.range j.toNat).map fun (k : Nat) => .int (k : Int)) ρ1 else .no := by
  unfold mRng1
  rw [h]
  rfl
theorem mRng1_ok (N : Nat) (h : ma ρ = .ok [.d (.int (N : Int))] ρ1) (hN : N < 1000000) : mRng1 ma ρ = .ok ((List.range N).map fun (k : Nat) => .int (k : Int)) ρ1 := by
  rw [mRng1_eq h, if_pos (big_nat N hN), Int.toNat_natCast]
theorem mAsg_d (h : me ρ = .ok (.d x) ρ1) : mAsg P i me ρ = .nx (ρ1.set i (some (.d x))) := by unfold mAsg; rw [h]
theorem mAsg_o (h : me ρ = .ok (.o xs) ρ1) : mAsg P i me ρ = .nx (ρ1.set i (some (.o xs))) := by unfold mAsg; rw [h]
theorem mFor_ok (h : mi ρ = .ok ds ρ1) : mFor mi b body ρ = forL b body ds ρ1 := by unfold mFor; rw [h]
theorem mCall0_o {ex : Bool} {k n : Nat} {mb : Env → Out} {rs : List R} {ρ2 r : Env} (h1 : ma ρ = .ok rs ρ1) (h2 : frzA P rs ρ1 = some ρ2) (h3 : dopds ρ2 rs = some ds) (h4 : ds.length = k) (h5 : mb (env0 n (ds.map S.d)) = .rt (.o xs) r) :
    mCall0 ex P k n mb ma ρ = .ok (.o xs) ρ2 := by
  unfold mCall0
  rw [h1]
  show (match frzA P rs ρ1 with
    | none => _
    | some ρ2 => _) = _
  rw [h2]
  show (match dopds ρ2 rs with
    | none => _
    | some ds => _) = _
  rw [h3]
  show (if ds.length = k then _ else _) = _
  rw [if_pos h4, h5]
theorem mCall0_d {ex : Bool} {k n : Nat} {mb : Env → Out} {rs : List R} {ρ2 r : Env} (h1 : ma ρ = .ok rs ρ1) (h2 : frzA P rs ρ1 = some ρ2) (h3 : dopds ρ2 rs = some ds) (h4 : ds.length = k) (h5 : mb (env0 n (ds.map S.d)) = .rt (.d x) r) :
    mCall0 ex P k n mb ma ρ = if flatD x = true then .ok (.d x) ρ1 else .ok (.d x) ρ2 := by
  unfold mCall0
  rw [h1]
  show (match frzA P rs ρ1 with
    | none => _
    | some ρ2 => _) = _
  rw [h2]
  show (match dopds ρ2 rs with
    | none => _
    | some ds => _) = _
  rw [h3]
  show (if ds.length = k then _ else _) = _
  rw [if_pos h4, h5]
theorem mCall0_f {ex : Bool} {k n : Nat} {mb : Env → Out} {rs : List R} {ρ2 r : Env} (h1 : ma ρ = .ok rs ρ1) (h2 : frzA P rs ρ1 = some ρ2) (h3 : dopds ρ2 rs = some ds) (h4 : ds.length = k) (h5 : mb (env0 n (ds.map S.d)) = .rt (.d x) r) (hf : flatD x = true) :
    mCall0 ex P k n mb ma ρ = .ok (.d x) ρ1 := by rw [mCall0_d h1 h2 h3 h4 h5, if_pos hf]
theorem mBin_ok {ma mb : Env → Res R} {g : D → D → Option R} {r1 r2 z : R} {ρ2 : Env} {y : D} (h1 : ma ρ = .ok r1 ρ1) (h2 : mb ρ1 = .ok r2 ρ2) (h3 : opd ρ2 r1 = some x) (h4 : opd ρ2 r2 = some y) (h5 : g x y = some z) : mBin g ma mb ρ = .ok z ρ2 := by
  unfold mBin
  rw [h1]
  show (mb ρ1).bind _ = _
  rw [h2]
  show (match opd ρ2 r1, opd ρ2 r2 with
    | some x, some y => _
    | _, _ => _) = _
  rw [h3, h4]
  show (match g x y with
    | some z => _
    | none => _) = _
  rw [h5]
theorem mTest_ok {k : Bool} (h : me ρ = .ok (.d (.bool k)) ρ1) : mTest me ρ = .ok k ρ1 := by unfold mTest; rw [h]; rfl
theorem mTru_ok {r : R} {k : Bool} (h : me ρ = .ok r ρ1) (h2 : opd ρ1 r = some x) (h3 : tru x = some k) : mTru me ρ = .ok k ρ1 := by
  unfold mTru
  rw [h]
  show (match opd ρ1 r with
    | some x => _
    | none => _) = _
  rw [h2]
  show (match tru x with
    | some b => _
    | none => _) = _
  rw [h3]
theorem mNot_ok {k : Bool} (h : mt ρ = .ok k ρ1) : mNot mt ρ = .ok (!k) ρ1 := by unfold mNot; rw [h]; rfl
theorem mCons_ok {ma' : Env → Res R} {ms : Env → Res (List R)} {r : R} {rs : List R} {ρ2 : Env} (h : ma' ρ = .ok r ρ1) (h2 : ms ρ1 = .ok rs ρ2) : mCons ma' ms ρ = .ok (r :: rs) ρ2 := by
  unfold mCons
  rw [h]
  show (ms ρ1).bind _ = _
  rw [h2]
  rfl
theorem mAndV_t {ma mb : Env → Res R} {r : R} {ρ2 : Env} (h : ma ρ = .ok (.d (.bool true)) ρ1) (h2 : mb ρ1 = .ok r ρ2) : mAndV ma mb ρ = .ok r ρ2 := by unfold mAndV; rw [h]; exact h2
theorem mRet_d (h : me ρ = .ok (.d x) ρ1) : mRet P me ρ = .rt (.d x) ρ1 := by unfold mRet; rw [h]
theorem mRet_o (h : me ρ = .ok (.o xs) ρ1) : mRet P me ρ = .rt (.o xs) ρ1 := by unfold mRet; rw [h]
theorem mSortSet_ok {r : R} {ns : List Int} (h : me ρ = .ok r ρ1) (h2 : opd ρ1 r = some (.list (ns.map .int))) (h3 : ns.length < 64) : mSortSet me ρ = .ok (.o ((sset ns).map .int)) ρ1 := by
  unfold mSortSet
  rw [h]
  show (match opd ρ1 r with
    | some (.list ds) => _
    | _ => _) = _
  rw [h2]
  show (match intsOf (ns.map PyData.int) with
    | some ns => _
    | none => _) = _
  rw [intsOf_map]
  show (if ns.length < 64 then _ else _) = _
  rw [if_pos h3]
theorem mOr_ff {mt mu : Env → Res Bool} {b : Bool} {ρ2 : Env} (h : mt ρ = .ok false ρ1) (h2 : mu ρ1 = .ok b ρ2) : mOr mt mu ρ = .ok b ρ2 := by unfold mOr; rw [h]; exact h2
theorem mOr_t {mt mu : Env → Res Bool} (h : mt ρ = .ok true ρ1) : mOr mt mu ρ = .ok true ρ1 := by unfold mOr; rw [h]; rfl
theorem mAnd_tt {mt mu : Env → Res Bool} {b : Bool} {ρ2 : Env} (h : mt ρ = .ok true ρ1) (h2 : mu ρ1 = .ok b ρ2) : mAnd mt mu ρ = .ok b ρ2 := by unfold mAnd; rw [h]; exact h2
theorem mAnd_f {mt mu : Env → Res Bool} (h : mt ρ = .ok false ρ1) : mAnd mt mu ρ = .ok false ρ1 := by unfold mAnd; rw [h]; rfl
theorem mIfS_t (h : mt ρ = .ok true ρ1) : mIfS mt m1 m2 ρ = m1 ρ1 := by unfold mIfS; rw [h]; rfl
theorem mIfS_f (h : mt ρ = .ok false ρ1) : mIfS mt m1 m2 ρ = m2 ρ1 := by unfold mIfS; rw [h]; rfl
end
theorem gI_any (g : Int → Int → D) (i j : Int) : gI cAny g (.int i) (.int j) = some (.d (g i j)) := rfl
theorem gPow_18 : gPow (.int 10) (.int 18) = some (.d (.int 1000000000000000000)) := by rfl
theorem gIx_l (xs : List D) (i : Int) : gIx (.list xs) (.int i) = (match atI xs i with
    | some x => some (.d x)
    | none => none) := rfl
theorem gIx_t (xs : List D) (i : Int) : gIx (.tuple xs) (.int i) = (match atI xs i with
    | some x => some (.d x)
    | none => none) := rfl

/-! ### comprehensions -/
theorem lcL_pure {P : Nat} {b : D → Env → Option Env} {mt : Env → Res Bool} {me : Env → Res R} {vs : List Nat} {ρ : Env} (p : D → Bool) (g : D → D) : ∀ (ds acc : List D),
    (∀ d ∈ ds, ∃ ρ1, b d ρ = some ρ1 ∧ mt ρ1 = .ok (p d) ρ1 ∧ (p d = true → me ρ1 = .ok (.d (g d)) ρ1) ∧ wipeE ρ1 vs = ρ) → acc.length + ds.length ≤ 1000000 → lcL P b mt me vs ds acc ρ = .ok (acc ++ (ds.filter p).map g) ρ
  | [], acc, _, _ => by simp [lcL]
  | d :: ds, acc, h, hl => by
    obtain ⟨ρ1, h1, h2, h3, h4⟩ := h d List.mem_cons_self
    have hl' : acc.length + ds.length + 1 ≤ 1000000 := hl
    simp only [lcL, h1, h2]
    cases e : p d with
    | false =>
      simp only [h4, List.filter_cons, e, Bool.false_eq_true, if_false]
      exact lcL_pure p g ds acc (fun x hx => h x (List.mem_cons_of_mem _ hx)) (by omega)
    | true =>
      simp only [h3 e, frz1, dopd, List.filter_cons, e, if_true, List.map_cons]
      rw [if_pos (by omega), h4, lcL_pure p g ds _ (fun x hx => h x (List.mem_cons_of_mem _ hx)) (by rw [List.length_append, List.length_singleton]; omega), List.append_assoc]
      rfl
theorem lcL_over {P : Nat} {b : D → Env → Option Env} {mt : Env → Res Bool} {me : Env → Res R} {vs : List Nat} {ρ : Env} {α : Type} (enc : α → D) (p : α → Bool) (g : α → D) : ∀ (xs : List α) (acc : List D),
    (∀ x ∈ xs, ∃ ρ1, b (enc x) ρ = some ρ1 ∧ mt ρ1 = .ok (p x) ρ1 ∧ (p x = true → me ρ1 = .ok (.d (g x)) ρ1) ∧ wipeE ρ1 vs = ρ) → acc.length + xs.length ≤ 1000000 → lcL P b mt me vs (xs.map enc) acc ρ = .ok (acc ++ (xs.filter p).map g) ρ
  | [], acc, _, _ => by simp [lcL]
  | x :: xs, acc, h, hl => by
    obtain ⟨ρ1, h1, h2, h3, h4⟩ := h x List.mem_cons_self
    have hl' : acc.length + xs.length + 1 ≤ 1000000 := hl
    simp only [List.map_cons, lcL, h1, h2]
    cases e : p x with
    | false =>
      simp only [h4, List.filter_cons, e, Bool.false_eq_true, if_false]
      exact lcL_over enc p g xs acc (fun x hx => h x (List.mem_cons_of_mem _ hx)) (by omega)
    | true =>
      simp only [h3 e, frz1, dopd, List.filter_cons, e, if_true, List.map_cons]
      rw [if_pos (by omega), h4, lcL_over enc p g xs _ (fun x hx => h x (List.mem_cons_of_mem _ hx)) (by rw [List.length_append, List.length_singleton]; omega), List.append_assoc]
      rfl
theorem filter_yes {α : Type} (xs : List α) : (xs.filter fun _ => true) = xs := List.filter_eq_self.mpr fun _ _ => rfl
theorem lcL_inv {P : Nat} {b : D → Env → Option Env} {mt : Env → Res Bool} {me : Env → Res R} {vs : List Nat} (Inv : Env → Prop) (Y : D → Prop) : ∀ (ds acc : List D) (ρ : Env), Inv ρ →
    (∀ d ∈ ds, ∀ ρ, Inv ρ → ∃ ρ1 ρ2 y, b d ρ = some ρ1 ∧ mt ρ1 = .ok true ρ1 ∧ me ρ1 = .ok (.d y) ρ2 ∧ Y y ∧ Inv (wipeE ρ2 vs)) → acc.length + ds.length ≤ 1000000 →
    ∃ ys ρ', lcL P b mt me vs ds acc ρ = .ok (acc ++ ys) ρ' ∧ ys.length = ds.length ∧ (∀ y ∈ ys, Y y) ∧ Inv ρ'
  | [], acc, ρ, hi, _, _ => ⟨[], ρ, by simp [lcL], rfl, (fun _ hy => nomatch hy), hi⟩
  | d :: ds, acc, ρ, hi, h, hl => by
    obtain ⟨ρ1, ρ2, y, h1, h2, h3, h4, h5⟩ := h d List.mem_cons_self ρ hi
    have hl' : acc.length + ds.length + 1 ≤ 1000000 := hl
    obtain ⟨ys, ρ', q1, q2, q3, q4⟩ := lcL_inv Inv Y ds (acc ++ [y]) (wipeE ρ2 vs) h5 (fun x hx => h x (List.mem_cons_of_mem _ hx)) (by rw [List.length_append, List.length_singleton]; omega)
    refine ⟨y :: ys, ρ', ?_, by rw [List.length_cons, q2]; rfl, fun z hz => ?_, q4⟩
    · simp only [lcL, h1, h2, h3, frz1, dopd]
      rw [if_pos (by omega), q1, List.append_assoc]
      rfl
    · rcases List.mem_cons.mp hz with e | hz
      · subst e; exact h4
      · exact q3 z hz
end Z
namespace Z
open PySem L2

/-! ### errors: made, raised -/
section
variable {X : Cx} {C : Addr} {bmB : List Value} {B newId initId : String}
theorem zpmk0 {x : Str} {p pos : Pos} (F : ExcBaseFacts B newId initId bmB) (q : PySem.W.excIn X.K C bmB newId = true) (gC : X.mg x = some (.ref C)) (kC : PySem.W.keepIn X.K (.ref C) = true) (r : Raises X (.ref C)) (hg : Gl X x)
    (hdb : (x == ("__debug__" : Str)) = false := by decide) : L2N.PMk X (.Call (.Name x p) [] [] pos) (fun _ H Q => Q (.ref C) none H) := by
  intro pins s σ H Q I h
  apply wpAny_Call_Name_kw
  apply ld_glob I hg gC _ hdb
  apply PySem.W.callWith_K0 I.kIn kC
  show wpAny _ _ (call (.ref C) []) _ _ _
  obtain ⟨_, _, _, _, _, _, _, _, _, _, _, _, _, _, _, _, _, hC, hN, hni, T⟩ := exc_obj I.kIn q
  exact wpAny_call_exc_subT F T hC hN hni (fun h' e hm => L2N.mk_of I hm r h (I.hok.gone hm.new)) (Nat.zero_le _)
end
abbrev WXc (cl : Nat → Addr) : XK → Wish := fun E _ c H => E (.ref (cl c)) none H
section
variable {P : Program} {w : World} {K : PySem.W.Frag} {mg : Str → Option Value} {base : Heap}
theorem okX {x qual : Str} {st : Stmt} {f : Addr} {fd : FuncData} {N ps : List Str} {k np kk n : Nat} {mb : Env → Out} (cl : Nat → Addr) (F : Fun K x qual st f fd) (S : FnScope N ps (defScope st)) (hk : ps.length = kk) (hn : N.length = n)
    (body : ∀ (cdv : Value) (A : Around) (outer : List PySem.Env) (s : Shared) (H : Hp) (E : XK), Room k (A.deeper (PyProof.Rows.envOfC qual (defScope st) s.heap.objs.size f cdv)) →
      ∃ t, PSs (cxOf (L2N.CX P w) P w K mg base N qual (defScope st) f cdv A outer s H E) (defBody st) t ∧ SimS K np (WXc cl E) t mb) : FnOk P w K mg base (L2N.CX P w) (k + 1) f fd ps (spM K np kk n (WXc cl) mb) := by
  obtain ⟨_, _, _, _, _, _, cdv, _, _, rfl, lk, hcd⟩ := F.ex
  refine fn_of lk hcd S (fun vs H Q E h => by rw [hk]; exact h.1) fun A outer s H vs Q E hr h => ?_
  obtain ⟨t, h1, h2⟩ := body cdv A outer s H E hr
  refine ⟨t, h1, ?_⟩
  obtain ⟨hl, pins, G, ss, q1, q2, q3, q4⟩ := h
  subst hn
  exact h2 _ G H _ _ _ q1 q3 q4
end
theorem passLN {X : Cx} : Passes (L2N.CX X.prog X.w) X E0 := fun _ _ _ _ _ _ _ h => by
  obtain ⟨_, _, _, _, _, _, _, _, _, _, _, _, z⟩ := h
  exact z.elim
def mRaise (c : Nat) : Env → Out := fun ρ => .exc c ρ
theorem sim_raise {K : PySem.W.Frag} {P : Nat} {W : Wish} {Wx : WX} {C : Addr} {c : Nat} (h : ∀ σ H, W σ c H → Wx (.ref C) none σ H) : SimS K P W (fun _ σ H => (fun (_ : L2.St) H (Q : XK) => Q (.ref C) none H) σ H fun cls d H' => Wx cls d σ H') (mRaise c) :=
  fun f G H σ ρ D hp rl hq => h σ H (hq G H σ (.refl _) rl)
def mNever : Env → Out := fun _ => .no
theorem sim_never {K : PySem.W.Frag} {P : Nat} {W : Wish} : SimS K P W tNever mNever := fun f G H σ ρ D hp rl hq => hq
/-- a call that may raise -/
theorem sim_callS {K : PySem.W.Frag} {P : Nat} {W : Wish} {ex : Bool} {k n : Nat} {mb : Env → Out} {WC : XK → Wish} {E : L2.St → XK} {ta : TA} {ms : Env → Res (List R)} (h : SimA K P W ta ms) (hx : ex = true → ∀ σ σ' c H, W σ c H → WC (E σ) σ' c H) :
    SimE K P W (tCallS (spM K 0 k n WC mb) E ta) (mCall0 ex P k n mb ms) := by
  intro f G H σ ρ Q hp rl hq
  refine h f G H σ ρ _ hp rl ?_
  unfold mCall0 at hq
  cases e : ms ρ with
  | no => rw [e] at hq; exact hq
  | exc c ρ1 => rw [e] at hq; exact hq
  | ok rs ρ1 =>
    rw [e] at hq
    intro vs G1 H1 s1 rl1 h1
    simp only [Res.bind] at hq
    split at hq
    · exact hq.elim
    · next ρ2 e2 =>
      obtain ⟨G2, s2, rl2⟩ := rl1.frzA hp e2
      split at hq
      · exact hq.elim
      · next ds e3 =>
        split at hq
        · next hk =>
          have hd : DpAll K G2 vs ds := (h1.same s2).dat rl2 e3
          refine ⟨by rw [dpAll_len hd]; exact hk, [], G2, ds.map S.d, rfl, by rw [List.length_map]; exact hk, rel_args rl2.gh hd, ?_⟩
          have same1 : ∀ {G3 H3 : Hp} {σ' : L2.St} {ρ' : Env}, Rel K ⟨cut H1 [], G2, []⟩ G3 H3 σ' ρ' → Grow G1 H1 G1 H3 := fun rl3 => by
            have gr := grow_of_args rl3
            exact ⟨.refl _, gr.2.1, (s2.trans gr.1).trans gr.2.2.1, fun a z => .inl z⟩
          cases e4 : mb (env0 n (ds.map S.d)) with
          | no => rw [e4] at hq; exact hq.elim
          | bk _ => rw [e4] at hq; exact hq.elim
          | ct _ => rw [e4] at hq; exact hq.elim
          | nx ρ3 =>
            rw [e4] at hq
            intro G3 H3 σ3 s3 rl3
            exact hq .non G1 H3 s1 (rl1.grow (same1 rl3)) .non
          | exc c ρ3 =>
            rw [e4] at hq
            intro G3 H3 σ3 s3 rl3
            simp only at hq
            split at hq
            · next hex => exact hx hex σ σ3 c H3 (hq G1 H3 s1 (rl1.grow (same1 rl3)))
            · exact hq.elim
          | rt s ρ3 =>
            rw [e4] at hq
            intro v G3 H3 σ3 s3 rl3 hv
            have gr := grow_of_args rl3
            cases s with
            | m kvs => exact hq.elim
            | d x =>
              simp only at hq
              split at hq
              · next hf => exact hq v G1 H3 s1 (rl1.grow (same1 rl3)) (flat_dp hv hf)
              · exact hq v G3 H3 ((s1.trans s2).trans gr.1) (rl2.grow gr) hv
            | o xs =>
              obtain ⟨p, us, rfl, w1, w2, w3, w4, _⟩ := hv
              have w4 : cut H1 [] p = none := w4
              rw [cut_nil] at w4
              have nv : NewV K H1 G3 H3 (.ref p) (.o xs) := ⟨p, us, rfl, w4, w1, w2, w3⟩
              exact hq _ G3 H3 ((s1.trans s2).trans gr.1) (rl2.grow gr) (nv.vrep rl2 gr)
        · exact hq.elim
/-! ### try .. except Super as e: return what the class tells -/
def mTry (i : Nat) (mb : Env → Out) (hd : Nat → Option D) : Env → Out := fun ρ => match mb ρ with
  | .exc c ρ1 => (match hd c with
    | some x => if i < ρ1.length then .rt (.d x) ρ1 else .no
    | none => .no)
  | o => o
/-- the suite's reading: it returns, by the class, a plain value -/
def tCls (cl : Nat → Addr) (hd : Nat → Option D) (i : Nat) (a : Addr) (cls : Value) : TS := fun D σ H => σ[i]? = some (some (.ref a)) ∧ ∃ c x, cls = .ref (cl c) ∧ hd c = some x ∧ flatD x = true ∧ ∀ v H', Same H H' → CV v x → D.rt v H'
theorem flat_cv {x : D} (h : flatD x = true) {K : PySem.W.Frag} {G : Hp} {v : V} (hv : Dp K G v x) : CV v x := by
  cases hv with
  | non => exact .non
  | bl b => exact .bl b
  | int i => exact .int i
  | str s => exact .str s
  | lst _ _ => cases h
  | tup _ _ => cases h
theorem sim_try {K : PySem.W.Frag} {P : Nat} {W : Wish} {cl : Nat → Addr} {hd : Nat → Option D} {cS : Value} {i : Nat} {tb : WX → TS} {mb : Env → Out} {Wout : WX} (hb : ∀ Wx : WX, SimS K P (fun σ c H => Wx (.ref (cl c)) none σ H) (tb Wx) mb)
    (hcl : ∀ c x, hd c = some x → flatD x = true ∧ PySem.W.exmOne K (.ref (cl c)) cS = some true) :
    SimS K P W (fun D σ H => tb (L2.wAs K cS i (fun a cls _ => tCls cl hd i a cls) Wout D) D σ H) (mTry i mb hd) := by
  intro f G H σ ρ D hp rl hq
  refine hb (L2.wAs K cS i (fun a cls _ => tCls cl hd i a cls) Wout D) f G H σ ρ D hp rl ?_
  unfold mTry at hq
  cases e : mb ρ with
  | no => rw [e] at hq; exact hq
  | nx _ => rw [e] at hq; exact hq
  | rt _ _ => rw [e] at hq; exact hq
  | bk _ => rw [e] at hq; exact hq
  | ct _ => rw [e] at hq; exact hq
  | exc c ρ1 =>
    rw [e] at hq
    simp only at hq
    split at hq
    · next x ex =>
      split at hq
      · next hil =>
        obtain ⟨h1, h2⟩ := hcl c x ex
        intro G1 H1 σ1 s1 rl1
        refine ⟨true, h2, fun _ a na => ⟨?_, c, x, rfl, ex, h1, fun v H2 sm hv => ?_⟩, fun z => nomatch z⟩
        · exact List.getElem?_set_self (by rw [rl1.len]; exact hil)
        · exact hq v G1 H2 σ1 s1 (rl1.grow ⟨.refl _, sm, rl1.gh.trans sm, fun b z => .inl z⟩) hv.dp
      · exact hq.elim
    · exact hq.elim
end Z
namespace Z
open PySem PySem.Spec PyProof.Rows L2 L2H

/-! ### a def of one parameter that is called with the error in hand -/
/-- its promise: for the handled error's object p, of the class c in the table, it hands back the plain value that hd tells -/
structure FnErr (P : Program) (w : World) (K : PySem.W.Frag) (mg : Str → Option Value) (base : Heap) (cl : Nat → Addr) (hd : Nat → Option D) (k : Nat) (f : Addr) (fd : FuncData) (x : Str) : Prop where
  run : ∀ (A : Around) (outer : List PySem.Env) (s : Shared) (H : Hp) (args : Args) (p : Addr × Obj) (c : Nat) (y : D) (Q : VK), RoomH k A → Hot1 A p → PinOk outer H s p → Env0 P w K mg base A outer s H → BindsTo s fd args [(x, .ref p.1)] →
    L2N.Zn (.ref (cl c)) none p.2 → hd c = some y → (∀ v H', Same H H' → CV v y → Q v H') → codeAny (model P w) A (.call (.ref f) args) (CR CX0 outer P w H s Q E0) s
theorem fnErr_of {P : Program} {w : World} {K : PySem.W.Frag} {mg : Str → Option Value} {base : Heap} {cl : Nat → Addr} {hd : Nat → Option D} {k : Nat} {x qual xn : Str} {st : Stmt} {f : Addr} {fd : FuncData} {N : List Str} (F : Fun K x qual st f fd) (S : FnScope N [xn] (defScope st))
    (body : ∀ (cdv : Value) (A : Around) (outer : List PySem.Env) (s : Shared) (H : Hp) (p : Addr × Obj) (c : Nat) (y : D) (Q : VK), RoomH k (A.deeper (envOfC qual (defScope st) s.heap.objs.size f cdv)) → Hot1 A p → L2N.Zn (.ref (cl c)) none p.2 → hd c = some y → (∀ v H', Same H H' → CV v y → Q v H') →
      ∃ t, PSs (cxH CX0 P w K mg base N qual (defScope st) f cdv A outer s H E0 p) (defBody st) t ∧ t { nx := fun _ H' => Q .non H', rt := Q } (start N [.ref p.1]) H) : FnErr P w K mg base cl hd (k + 1) f fd xn := by
  obtain ⟨oc, od, kV, doc, pm, an, cdv, ct, osl, rfl, lk, hcd⟩ := F.ex
  constructor
  intro A outer s H args p c y Q room hot pin e0 bnd zn hy hq
  have kin : K.In s.heap := e0.mod.kin.keeps fun b o e => (e0.bs b o e).1
  have vals : Vals [V.ref p.1] [Value.ref p.1] := .cons rfl .nil
  refine codeAny_call_function room.depth (kin _ _ lk) rfl S.co S.gen rfl (PySem.W.codeRec_of kin hcd) (bnd _ _ _ _ ?_)
  refine wpAny_newFunctionEnv_cells S.kind (fun y hy => ?_) fun env he s1 made => ?_
  · have := List.mem_singleton.mp hy
    subst this
    rcases S.par xn List.mem_cons_self with q | q
    · exact .inl q
    · exact .inr ⟨q, PySem.W.cellsFrom_some _ _ _ (.inl q)⟩
  · subst he
    have lim : s.heap.NoLimit := e0.mod.nolimit.keeps fun b o e => (e0.bs b o e).1
    obtain ⟨t, ht, hp⟩ := body cdv A outer s H p c y Q (room.deeper _) hot zn hy hq
    have I : Inv (cxH CX0 P w K mg base N qual (defScope st) f cdv A outer s H E0 p) [] (start N [.ref p.1]) H s1 := inv_startH (ps := [xn]) S pin e0 rfl vals made
    refine ⟨lim.keeps made.toInCall.keep, codeAny_func (wpAny_mono (ht.run [] s1 _ H _ I hp) (fun fl s' hs => ?_) fun e s' hs => hs)⟩
    match fl, hs with
    | .ret u, ⟨v, σ', H', J, rv, q⟩ => exact ⟨v, H', J.os, J.bare, J.base, J.hok, rv, q⟩
    | .next, ⟨σ', H', J, q⟩ => exact ⟨V.non, H', J.os, J.bare, J.base, J.hok, rfl, q⟩
    | .brk, ⟨_, _, _, q⟩ => exact q.elim
    | .cont, ⟨_, _, _, q⟩ => exact q.elim
/-- the call in the suite -/
theorem zsuite {X : Cx} {cl : Nat → Addr} {hd : Nat → Option D} {k i : Nat} {f : Addr} {fd : FuncData} {x xn n : Str} {p q pos : Pos} {a : Addr} {oe : Obj} {cls : Value} {pn : List (Addr × Obj)} (F : FnErr X.prog X.w X.K X.mg X.base cl hd k f fd xn) (room : RoomH k X.A) (hg : Gl X x) (hm : X.mg x = some (.ref f)) (hk : PySem.W.keepIn X.K (.ref f) = true)
    (hb : Binds X.K fd [xn] []) (zn : L2N.Zn cls none oe) (hf : ∃ vs, oe.data = .fields vs) (hi : X.N[i]? = some n) (hv : Vis X.env.scope n) (hflat : ∀ c y, hd c = some y → flatD y = true) (hdb : (x == ("__debug__" : Str)) = false := by decide) (hdn : (n == ("__debug__" : Str)) = false := by decide) (hdc : (n == ("__classdict__" : Str)) = false := by decide) :
    PE (X.suite a ((a, oe) :: pn)) (.Call (.Name x p) [.Name n q] [] pos) (fun σ H Q => σ[i]? = some (some (.ref a)) ∧ ∃ c y, cls = .ref (cl c) ∧ hd c = some y ∧ flatD y = true ∧ ∀ v H', Same H H' → CV v y → Q v H') := by
  constructor
  intro pins s σ H Q I h
  obtain ⟨hσ, c, y, rfl, hy, hfl, hq⟩ := h
  apply wpAny_Call_Name_kw
  refine ld_glob I hg hm ?_ hdb
  have arg : PA (X.suite a ((a, oe) :: pn)) [.Name n q] (tCons (tVar i) tNil) := pa_cons (pe_var hi hv hdn hdc) pa_nil
  refine PySem.W.callWith_K (h₀ := X.base) I.ok.mod.kin hk (thn (arg.run pos pins s σ H (fun vs H1 => vs = [V.ref a] ∧ H1 = H) I ⟨_, hσ, rfl, rfl⟩) fun us s1 hh => ?_)
  obtain ⟨vs, H1, I1, r1, rfl, rfl⟩ := hh
  refine ⟨I1.kIn, ?_⟩
  have eu := Vals.ref1 r1
  subst eu
  obtain ⟨fs, hfs⟩ := hf
  have pin := I1.pin (a, oe) (List.mem_append_left _ List.mem_cons_self)
  have pok : PinOk X.stack H1 s1 (a, oe) := ⟨pin.1, pin.2.1, fun z => (List.mem_cons.mp (I1.stkSub a z)).elim pin.2.2.1 pin.2.2.2.1, pin.2.2.2.2⟩
  have bnd := hb s1 [.ref a] I1.kIn rfl
  refine wpAny_call (codeAny_mono (F.run _ X.stack s1 H1 ⟨[.ref a], []⟩ (a, oe) c y Q ⟨room.dp, room.un⟩ ⟨rfl, fs, hfs, zn.2.2 fs hfs⟩ pok I1.env0 bnd zn hy hq) fun r s' hr => ?_)
  match r, hr with
  | .error _, hr => exact hr.elim
  | .ok (.ret u), hr => exact I1.after hr
  | .ok .next, hr => exact hr.elim
  | .ok .brk, hr => exact hr.elim
  | .ok .cont, hr => exact hr.elim
/-- isinstance(e, C) of the pinned error -/
theorem zisE {X : Cx} {a Ce : Addr} {oe : Obj} (hp : (a, oe) ∈ X.pn) (C : ExcC X.K Ce) (hz : Zc (.ref Ce) none oe) (hf : ∃ vs, oe.data = .fields vs) : CallR X (.builtin "isinstance") (rIsE X.K Ce a) := by
  intro pins s σ H xs us Q I r h
  obtain ⟨c, cv, b, rfl, hcv, e, q⟩ := h
  obtain ⟨u1, u2, rfl, r1, r2⟩ := vals2 r
  cases (show u1 = Value.ref a from r1)
  have ec := hcv _ r2
  subst ec
  have here := (I.pin (a, oe) (List.mem_append_left _ hp)).1
  obtain ⟨fs, hfs⟩ := hf
  have inst : PySem.W.InstAt s.heap a oe Ce none := by
    obtain ⟨oc, od, oda, osl⟩ := oe
    obtain ⟨h1, h2⟩ := hz
    dsimp only at h1 h2 hfs
    subst h1 h2 hfs
    exact ⟨here, rfl, rfl, trivial⟩
  exact PySem.W.kia_one (PySem.W.handS_kitx_exc C.hg C.hk C.hs C.hd C.ha C.hn C.ht C.hm) I.kIn inst e (fun z => nomatch z) fun tk => ⟨.bl b, H, I.kept (t' := tk) fun _ _ z => z, rfl, q⟩
end Z
namespace Z
open PySem PySem.Spec PyProof.Rows L2

/-! ### one sign, several kinds of operands -/
abbrev rAlt (r r' : R2) : R2 := fun x y H Q => r x y H Q ∨ r' x y H Q
theorem zalt {X : Cx} {f : Value → Value → Sem Value} {r r' : R2} (h : OpR X f r) (h' : OpR X f r') : OpR X f (rAlt r r') := by
  intro pins s σ H x y v u Q I rx ry q
  rcases q with q | q
  · exact h pins s σ H x y v u Q I rx ry q
  · exact h' pins s σ H x y v u Q I rx ry q
def gAlt (g g' : D → D → Option R) : D → D → Option R := fun d e => match g d e with
  | some z => some z
  | none => g' d e
theorem gAlt_l {g g' : D → D → Option R} {d e : D} {z : R} (h : g d e = some z) : gAlt g g' d e = some z := by unfold gAlt; rw [h]
theorem gAlt_r {g g' : D → D → Option R} {d e : D} (h : g d e = none) : gAlt g g' d e = g' d e := by unfold gAlt; rw [h]
theorem s_alt {K : PySem.W.Frag} {r r' : R2} {g g' : D → D → Option R} (h : OpS K r g) (h' : OpS K r' g') : OpS K (rAlt r r') (gAlt g g') := by
  intro G H x y d e z Q s h1 h2 eg hq
  unfold gAlt at eg
  cases q : g d e with
  | some w =>
    rw [q] at eg
    cases eg
    exact .inl (h G H x y d e _ Q s h1 h2 q hq)
  | none =>
    rw [q] at eg
    exact .inr (h' G H x y d e z Q s h1 h2 eg hq)

section
variable {K : PySem.W.Frag}
/-! ### x in t, t a tuple -/
def rInT (K : PySem.W.Frag) : R2 := fun x y H Q => ∃ d ds, Dp K H x d ∧ Dp K H y (.tuple ds) ∧ SeqAt.shaped d = true ∧ SeqAt.shaped (.tuple ds) = true ∧ Q (.bl (ds.any fun z => PyData.eqv z d)) H
def rNotInT (K : PySem.W.Frag) : R2 := fun x y H Q => ∃ d ds, Dp K H x d ∧ Dp K H y (.tuple ds) ∧ SeqAt.shaped d = true ∧ SeqAt.shaped (.tuple ds) = true ∧ Q (.bl (!ds.any fun z => PyData.eqv z d)) H
theorem zinT {X : Cx} (hu : X.A.units + 65 < cLine) (hK : X.K = K := by rfl) : OpR X (compareOp .In) (rInT K) := by
  subst hK
  intro pins s σ H x y v u Q I rx ry h
  obtain ⟨d, ds, hd, he, sd, se, q⟩ := h
  obtain ⟨as, r1⟩ := Dp.reads I d x v hd rx
  obtain ⟨bs, r2⟩ := Dp.reads I (.tuple ds) y u he ry
  exact SeqAt.in_tuple_reads r2 r1 (SeqAt.canLay_of_shaped se) (SeqAt.canLay_of_shaped sd) (room_in_shaped sd hu) ⟨.bl _, H, I, rfl, q⟩
theorem znotInT {X : Cx} (hu : X.A.units + 65 < cLine) (hK : X.K = K := by rfl) : OpR X (compareOp .NotIn) (rNotInT K) := by
  subst hK
  intro pins s σ H x y v u Q I rx ry h
  obtain ⟨d, ds, hd, he, sd, se, q⟩ := h
  obtain ⟨as, r1⟩ := Dp.reads I d x v hd rx
  obtain ⟨bs, r2⟩ := Dp.reads I (.tuple ds) y u he ry
  exact SeqAt.notIn_tuple_reads r2 r1 (SeqAt.canLay_of_shaped se) (SeqAt.canLay_of_shaped sd) (room_in_shaped sd hu) ⟨.bl _, H, I, rfl, q⟩
def gInT (d : D) : D → Option R
  | .tuple es => if (SeqAt.shaped d && SeqAt.shaped (.tuple es)) = true then some (.d (.bool (es.any fun z => PyData.eqv z d))) else none
  | _ => none
def gNotInT (d : D) : D → Option R
  | .tuple es => if (SeqAt.shaped d && SeqAt.shaped (.tuple es)) = true then some (.d (.bool (!es.any fun z => PyData.eqv z d))) else none
  | _ => none
theorem s_inT : OpS K (rInT K) gInT := by
  refine ops_sc fun G H x y d e z s h1 h2 eg => ?_
  unfold gInT at eg
  split at eg
  · next es =>
    split at eg
    · next h =>
      cases eg
      rw [Bool.and_eq_true] at h
      exact ⟨_, _, rfl, .bl _, fun Q q => ⟨d, es, h1.dp s, h2.dp s, h.1, h.2, q⟩⟩
    · cases eg
  · cases eg
theorem s_notInT : OpS K (rNotInT K) gNotInT := by
  refine ops_sc fun G H x y d e z s h1 h2 eg => ?_
  unfold gNotInT at eg
  split at eg
  · next es =>
    split at eg
    · next h =>
      cases eg
      rw [Bool.and_eq_true] at h
      exact ⟨_, _, rfl, .bl _, fun Q q => ⟨d, es, h1.dp s, h2.dp s, h.1, h.2, q⟩⟩
    · cases eg
  · cases eg

/-! ### t < u, tuples of ints -/
theorem zltT {X : Cx} (hu : X.A.units + 64 < cLine) (hK : X.K = K := by rfl) : OpR X (compareOp .Lt) (rLtT K) := by subst hK; exact op_ltT (by omega)
def gLtT : D → D → Option R
  | .tuple xs, .tuple ys => (match intsOf xs, intsOf ys with
    | some ns, some ms => some (.d (.bool (HT.lexLt ns ms)))
    | _, _ => none)
  | _, _ => none
theorem s_ltT : OpS K (rLtT K) gLtT := by
  refine ops_sc fun G H x y d e z s h1 h2 eg => ?_
  unfold gLtT at eg
  split at eg
  · next xs ys =>
    split at eg
    · next ns ms e1 e2 =>
      cases eg
      obtain ⟨a, vs, rfl, w1, w2⟩ := h1.tup s
      obtain ⟨b, us, rfl, w3, w4⟩ := h2.tup s
      rw [intsOf_eq e1] at w2
      rw [intsOf_eq e2] at w4
      rw [dpAll_ints w2] at w1
      rw [dpAll_ints w4] at w3
      exact ⟨_, _, rfl, .bl _, fun Q q => ⟨a, b, ns, ms, rfl, rfl, w1, w3, q⟩⟩
    · cases eg
  · cases eg

/-! ### new tuples -/
theorem dp_newT {G H : Hp} {p : Addr} {vs : List V} {ds : List D} (s : Same G H) (np : H p = none) (h : DpAll K G vs ds) : Dp K (upd G p (.tup vs)) (.ref p) (.tuple ds) :=
  .tup (.inl (.inl upd_same)) (dpAll_same (Grow.data s np).1 _ _ h)
theorem line_le {n : Nat} (h : n ≤ 1000000) : n ≤ sizeLine := Nat.le_trans h (by decide)
theorem zcatA {X : Cx} (hK : X.K = K := by rfl) : OpR X (binaryOp .Add) (rCatA K) := by subst hK; exact op_catA
def gCatT : D → D → Option R
  | .tuple xs, .tuple ys => if xs.length + ys.length ≤ 1000000 then some (.d (.tuple (xs ++ ys))) else none
  | _, _ => none
theorem s_catT : OpS K (rCatA K) gCatT := by
  intro G H x y d e z Q s h1 h2 eg hq
  unfold gCatT at eg
  split at eg
  · next xs ys =>
    split at eg
    · next hl =>
      cases eg
      obtain ⟨a, vs, rfl, w1, w2⟩ := h1.tup s
      obtain ⟨b, us, rfl, w3, w4⟩ := h2.tup s
      refine ⟨a, b, vs, us, rfl, rfl, w1, w3, by rw [dpAll_len w2, dpAll_len w4]; exact line_le hl, fun e => ?_, fun _ e => ?_, fun _ _ p np => ?_⟩
      · subst e
        cases w2
        rcases h2 with h2 | ⟨_, _, _, _, q, _⟩
        · exact hq _ G H (.refl s) h2
        · cases q
      · subst e
        cases w4
        rw [List.append_nil] at hq
        rcases h1 with h1 | ⟨_, _, _, _, q, _⟩
        · exact hq _ G H (.refl s) h1
        · cases q
      · exact hq _ _ _ (Grow.data s np) (dp_newT s np (dpAll_append w2 w4))
    · cases eg
  · cases eg
theorem zrepT {X : Cx} (hK : X.K = K := by rfl) : OpR X (binaryOp .Mult) (rRepT K) := by subst hK; exact op_repT
theorem dpAll_rep {G : Hp} {vs : List V} {ds : List D} (h : DpAll K G vs ds) : ∀ n : Nat, DpAll K G (List.replicate n vs).flatten (List.replicate n ds).flatten
  | 0 => .nil
  | n + 1 => by
    rw [List.replicate_succ, List.replicate_succ, List.flatten_cons, List.flatten_cons]
    exact dpAll_append h (dpAll_rep h n)
def gRepT : D → D → Option R
  | .tuple xs, .int k => if xs ≠ [] ∧ 2 ≤ k ∧ k ≤ 1000 ∧ xs.length ≤ 1000 then some (.d (.tuple (List.replicate k.toNat xs).flatten)) else none
  | _, _ => none
theorem s_repT : OpS K (rRepT K) gRepT := by
  intro G H x y d e z Q s h1 h2 eg hq
  unfold gRepT at eg
  split at eg
  · next xs k =>
    split at eg
    · next hl =>
      cases eg
      obtain ⟨a, vs, rfl, w1, w2⟩ := h1.tup s
      have hn := dpAll_len w2
      refine ⟨a, k, vs, rfl, h2.int, w1, fun e => ?_, hl.2.1, hl.2.2.1, by rw [hn]; exact hl.2.2.2, fun p np => ?_⟩
      · subst e
        exact hl.1 (List.eq_nil_of_length_eq_zero hn.symm)
      · exact hq _ _ _ (Grow.data s np) (dp_newT s np (dpAll_rep w2 _))
    · cases eg
  · cases eg
theorem ztuple {X : Cx} (hK : X.K = K := by rfl) : CallR X (.type "tuple") (fun xs H Q => ∃ p ys, xs = [.ref p] ∧ ((SqL K H p ys ∧ ∀ l, H l = none → Q (.ref l) (upd H l (.tup ys))) ∨ (SqT K H p ys ∧ Q (.ref p) H))) := by subst hK; exact call_tuple_of
def cTuple : List D → Option R
  | [.list xs] => some (.d (.tuple xs))
  | [.tuple xs] => some (.d (.tuple xs))
  | _ => none
theorem s_tuple : CallS K (fun xs H Q => ∃ p ys, xs = [.ref p] ∧ ((SqL K H p ys ∧ ∀ l, H l = none → Q (.ref l) (upd H l (.tup ys))) ∨ (SqT K H p ys ∧ Q (.ref p) H))) cTuple := by
  intro G H xs ds z Q s h eg hq
  unfold cTuple at eg
  split at eg
  · next es =>
    cases eg
    cases h with
    | cons h1 h2 =>
      cases h2
      obtain ⟨a, vs, rfl, w1, w2⟩ := h1.lst s
      exact ⟨a, vs, rfl, .inl ⟨w1, fun l nl => hq _ _ _ (Grow.data s nl) (dp_newT s nl w2)⟩⟩
  · next es =>
    cases eg
    cases h with
    | cons h1 h2 =>
      cases h2
      obtain ⟨a, vs, rfl, w1, w2⟩ := h1.tup s
      refine ⟨a, vs, rfl, .inr ⟨w1, ?_⟩⟩
      rcases h1 with h1 | ⟨_, _, _, _, q, _⟩
      · exact hq _ G H (.refl s) h1
      · cases q
  · cases eg

/-! ### all(bools), sum(ints) -/
def boolsOf : List D → Option (List Bool)
  | [] => some []
  | .bool i :: ds => (match boolsOf ds with
    | some ns => some (i :: ns)
    | none => none)
  | _ => none
theorem boolsOf_map : ∀ ns : List Bool, boolsOf (ns.map PyData.bool) = some ns
  | [] => rfl
  | n :: ns => by
    show (match boolsOf (ns.map PyData.bool) with
      | some ns => some (n :: ns)
      | none => none) = _
    rw [boolsOf_map ns]
theorem boolsOf_eq : ∀ {ds : List D} {ns : List Bool}, boolsOf ds = some ns → ds = ns.map PyData.bool
  | [], _, h => by cases h; rfl
  | .bool i :: ds, ns, h => by
    have h : (match boolsOf ds with
      | some ns => some (i :: ns)
      | none => none) = some ns := h
    cases e : boolsOf ds with
    | none => rw [e] at h; cases h
    | some ms =>
      rw [e] at h
      cases h
      rw [boolsOf_eq e]
      rfl
  | .none :: _, _, h => by cases h
  | .int _ :: _, _, h => by cases h
  | .str _ :: _, _, h => by cases h
  | .list _ :: _, _, h => by cases h
  | .tuple _ :: _, _, h => by cases h
  | .dict _ :: _, _, h => by cases h
theorem dpAll_bools {H : Hp} : ∀ {ns : List Bool} {vs : List V}, DpAll K H vs (ns.map PyData.bool) → vs = ns.map V.bl
  | [], _, h => by cases h; rfl
  | n :: ns, _, h => by
    cases h with
    | cons h1 h2 => rw [dp_bool h1, dpAll_bools h2]; rfl
theorem zall {X : Cx} (hc : X.calm = true) (hK : X.K = K := by rfl) : CallR X (.builtin "all") (rAll K) := by subst hK; exact cr_all hc
theorem zsum {X : Cx} (hc : X.calm = true) (hK : X.K = K := by rfl) : CallR X (.builtin "sum") (rSum K) := by subst hK; exact cr_sum hc
def cAll : List D → Option R
  | [.list xs] => (match boolsOf xs with
    | some bs => some (.d (.bool (bs.all id)))
    | none => none)
  | _ => none
def cSum : List D → Option R
  | [.list xs] => (match intsOf xs with
    | some ns => some (.d (.int ns.sum))
    | none => none)
  | _ => none
theorem s_all : CallS K (rAll K) cAll := by
  intro G H xs ds z Q s h eg hq
  unfold cAll at eg
  split at eg
  · next es =>
    split at eg
    · next bs eb =>
      cases eg
      cases h with
      | cons h1 h2 =>
        cases h2
        obtain ⟨a, vs, rfl, w1, w2⟩ := h1.lst s
        rw [boolsOf_eq eb] at w2
        rw [dpAll_bools w2] at w1
        exact ⟨a, bs, rfl, w1, hq _ G H (.refl s) (.bl _)⟩
    · cases eg
  · cases eg
theorem s_sum : CallS K (rSum K) cSum := by
  intro G H xs ds z Q s h eg hq
  unfold cSum at eg
  split at eg
  · next es =>
    split at eg
    · next bs eb =>
      cases eg
      cases h with
      | cons h1 h2 =>
        cases h2
        obtain ⟨a, vs, rfl, w1, w2⟩ := h1.lst s
        rw [intsOf_eq eb] at w2
        rw [dpAll_ints w2] at w1
        exact ⟨a, bs, rfl, w1, hq _ G H (.refl s) (.int _)⟩
    · cases eg
  · cases eg
end
end Z
namespace Z
open PySem PySem.Spec PyProof.Rows L2

/-! ### {elt for .. in .. for .. in ..} of ints: the two loops -/
abbrev sc2 (elt t0 i0 t1 i1 : Expr) (ifs0 ifs1 : List Expr) (scope : Scope) (pos : Pos) : Expr := .SetComp elt [⟨t0, i0, ifs0, 0⟩, ⟨t1, i1, ifs1, 0⟩] scope pos
abbrev testsG (ifs : List Expr) (env : PySem.Env) : Sem Bool := forIn ifs true fun c r => if r = true then do let ok ← isTrue c env (eval c env); pure (ForInStep.yield ok) else pure (ForInStep.yield r)
abbrev noE : Value → Shared → Prop := fun _ _ => False
section
variable {prog : Program} {w : World} {A : Around} {R : Result → Shared → Prop} {s : Shared} {elt t0 i0 t1 i1 : Expr} {ifs0 ifs1 : List Expr} {scope : Scope} {pos : Pos} {it acc : Value} {env : PySem.Env}
theorem sTurn0 : compTurn (sc2 elt t0 i0 t1 i1 ifs0 ifs1 scope pos) 0 it acc env = (do
      standAt i0.pos
      match ← pyNext it with
      | none => pure (.done .next)
      | some v =>
        letOwnedTupleGo t0 it v
        assign t0 env v
        let mut ok := true
        for c in ifs0 do
          if ok then ok ← isTrue c env (eval c env)
        if ok then
          let x ← eval i1 env
          standAt i1.pos
          let x ← foldedSetIterable i1 env x
          let _ ← runOwn (.compStart (sc2 elt t0 i0 t1 i1 ifs0 ifs1 scope pos) 1 (← holding [x] (pyIter x)) acc env) env
        again (.compLoop (sc2 elt t0 i0 t1 i1 ifs0 ifs1 scope pos) 0 it acc env)) := by rfl
theorem sTurn1 : compTurn (sc2 elt t0 i0 t1 i1 ifs0 ifs1 scope pos) 1 it acc env = (do
      standAt i1.pos
      match ← pyNext it with
      | none => pure (.done .next)
      | some v =>
        letOwnedTupleGo t1 it v
        assign t1 env v
        let mut ok := true
        for c in ifs1 do
          if ok then ok ← isTrue c env (eval c env)
        if ok then
          (do let v ← eval elt env; standAt elt.pos; let _ ← call (.builtin "set.add") [acc, v])
        again (.compLoop (sc2 elt t0 i0 t1 i1 ifs0 ifs1 scope pos) 1 it acc env)) := by rfl
theorem toN {α : Type} {t : Sem α} {Q Q' : α → Shared → Prop} {E : Value → Shared → Prop} (h : wpAny (model prog w) A t Q noE s) (k : ∀ a s', Q a s' → Q' a s') : wpAny (model prog w) A t Q' E s := wpAny_mono h k fun _ _ z => z.elim
theorem sLoop0 (hs : ∀ x, foldedSetIterable i1 env x = pure x) (I : Nat → Shared → Prop)
    (turn : ∀ n s, I n s → wpAny (model prog w) A (pyNext it) (fun r s₁ => match r with
      | none => R (.ok .next) s₁
      | some v => wpAny (model prog w) A (letOwnedTupleGo t0 it v) (fun _ s₁' => wpAny (model prog w) A (assign t0 env v) (fun _ s₂ => wpAny (model prog w) A (testsG ifs0 env) (fun ok s₃ =>
            if ok = true then wpAny (model prog w) A (eval i1 env) (fun x s₄ => wpAny (model prog w) A (pyIter x) (fun it1 s₅ =>
              codeAny (model prog w) A (.compStart (sc2 elt t0 i0 t1 i1 ifs0 ifs1 scope pos) 1 it1 acc env) (fun r s' => match r with
                | .ok _ => ∃ m, m < n ∧ I m s'
                | .error _ => False) s₅) noE s₄) noE s₃
            else ∃ m, m < n ∧ I m s₃) noE s₂) noE s₁') noE s₁) noE s)
    (n : Nat) (h : I n s) : codeAny (model prog w) A (.compLoop (sc2 elt t0 i0 t1 i1 ifs0 ifs1 scope pos) 0 it acc env) R s := by
  refine codeAny_loop rfl I (fun n s hI => ?_) n h
  show wpAny _ A ((compTurn (sc2 elt t0 i0 t1 i1 ifs0 ifs1 scope pos) 0 it acc env).onRaise (fun x => do noteFrame x env; theTreesLotGoes x)) _ _ s
  refine wpAny_noted ?_
  rw [sTurn0]
  refine wpAny_bind (wpAny_standAt (wpAny_bind (toN (turn n s hI) fun r s₁ h₁ => ?_)))
  cases r with
  | none => exact wpAny_pure h₁
  | some v =>
    refine wpAny_bind (toN h₁ fun _ s₁' h₁' => wpAny_bind (toN h₁' fun _ s₂ h₂ => wpAny_bind (toN h₂ fun ok s₃ h₃ => ?_)))
    cases ok with
    | false => exact wpAny_pure ⟨rfl, h₃⟩
    | true =>
      refine wpAny_bind (toN h₃ fun x s₄ h₄ => ?_)
      refine wpAny_bind (wpAny_standAt (wpAny_bind (wpAny_of_eq (hs x) (wpAny_bind (wpAny_holding (toN h₄ fun it1 s₅ h₅ => ?_))))))
      refine wpAny_bind (wpAny_runOwn ?_)
      rw [Around.mark_none]
      refine codeAny_mono h₅ fun r s' hr => ?_
      cases r with
      | ok f => first | exact wpAny_pure ⟨rfl, hr⟩ | exact wpAny_bind (wpAny_pure (wpAny_pure ⟨rfl, hr⟩))
      | error e => exact hr.elim
theorem sLoop1 (I : Nat → Shared → Prop)
    (turn : ∀ n s, I n s → wpAny (model prog w) A (pyNext it) (fun r s₁ => match r with
      | none => R (.ok .next) s₁
      | some v => wpAny (model prog w) A (letOwnedTupleGo t1 it v) (fun _ s₁' => wpAny (model prog w) A (assign t1 env v) (fun _ s₂ => wpAny (model prog w) A (testsG ifs1 env) (fun ok s₃ =>
            if ok = true then wpAny (model prog w) A (eval elt env) (fun x s₄ => wpAny (model prog w) A (call (.builtin "set.add") [acc, x]) (fun _ s₅ => ∃ m, m < n ∧ I m s₅) noE s₄) noE s₃
            else ∃ m, m < n ∧ I m s₃) noE s₂) noE s₁') noE s₁) noE s)
    (n : Nat) (h : I n s) : codeAny (model prog w) A (.compLoop (sc2 elt t0 i0 t1 i1 ifs0 ifs1 scope pos) 1 it acc env) R s := by
  refine codeAny_loop rfl I (fun n s hI => ?_) n h
  show wpAny _ A ((compTurn (sc2 elt t0 i0 t1 i1 ifs0 ifs1 scope pos) 1 it acc env).onRaise (fun x => do noteFrame x env; theTreesLotGoes x)) _ _ s
  refine wpAny_noted ?_
  rw [sTurn1]
  refine wpAny_bind (wpAny_standAt (wpAny_bind (toN (turn n s hI) fun r s₁ h₁ => ?_)))
  cases r with
  | none => exact wpAny_pure h₁
  | some v =>
    refine wpAny_bind (toN h₁ fun _ s₁' h₁' => wpAny_bind (toN h₁' fun _ s₂ h₂ => wpAny_bind (toN h₂ fun ok s₃ h₃ => ?_)))
    cases ok with
    | false => exact wpAny_pure ⟨rfl, h₃⟩
    | true => exact wpAny_bind (wpAny_bind (toN h₃ fun x s₄ h₄ => wpAny_bind (wpAny_standAt (wpAny_bind (toN h₄ fun _ s₅ h₅ => wpAny_pure (wpAny_pure ⟨rfl, h₅⟩))))))
theorem sStart1 (h0 : codeAny (model prog w) A (.compLoop (sc2 elt t0 i0 t1 i1 ifs0 ifs1 scope pos) 1 it acc env) R s)
    (h : wpAny (model prog w) A (pyIter it) (fun it' s' => codeAny (model prog w) A (.compLoop (sc2 elt t0 i0 t1 i1 ifs0 ifs1 scope pos) 1 it' acc env) R s') (notedBy (model prog w) A env fun x s' => R (.error x) s') s) :
    codeAny (model prog w) A (.compStart (sc2 elt t0 i0 t1 i1 ifs0 ifs1 scope pos) 1 it acc env) R s := by
  refine codeAny_of_tree ?_
  show wpAny _ _ ((compStart (sc2 elt t0 i0 t1 i1 ifs0 ifs1 scope pos) 1 it acc env).onRaise (fun x => do noteFrame x env; standAt theWindowsPlace)) _ _ s
  refine wpAny_notedAt ?_
  unfold compStart
  show wpAny _ _ (ask >>= _) _ _ s
  refine wpAny_bind (wpAny_askSetting (wpAny_ite ?_))
  split
  · first
      | exact wpAny_bind (wpAny_pure (wpAny_pure (And.intro rfl h0)))
      | exact wpAny_pure (And.intro rfl h0)
  · first
      | exact wpAny_bind (wpAny_rule (wpAny_bind (wpAny_standAt (wpAny_bind (wpAny_mono h (fun it' s' h' => wpAny_pure (And.intro rfl h')) fun _ _ x => x)))))
      | (refine wpAny_bind (wpAny_rule ?_); show wpAny _ _ (standAt i1.pos >>= _) _ _ s; exact wpAny_bind (wpAny_standAt (wpAny_bind (wpAny_mono h (fun it' s' h' => wpAny_pure (And.intro rfl h')) fun _ _ x => x))))
end
section
variable {X : Cx}
/-- what is asked of the two loops: D the new set; vs the block's names, vs1 those of the second target -/
def tSc2 (w : World) (wi : TI) (g : TG) (tt : TT) (wi1 : TI) (g1 : TG) (tt1 : TT) (te : TE) (vs vs1 : List Nat) : TE := fun σ H Q => wi σ H fun J H1 => ∀ D, H1 D = none → ∃ W : Nat → Nat → Hp → Prop, (∃ m, W 0 m (upd H1 D (SetO w D (fun _ => false) 0))) ∧ ∀ i m H, W i m H →
  (J.stop i H ∧ Q (.ref D) H) ∨ (J.go i H ∧ ∃ Nx : Hp → Prop, (∀ H', Nx H' → ∃ m', m' < m ∧ W (i + 1) m' H') ∧ ∀ x H', J.yld i H x H' → g x (wipe σ vs) H' fun σ2 H2 => wipe σ2 vs = wipe σ vs ∧ tt σ2 H2 fun b H3 =>
    if b = true then wi1 σ2 H3 fun J1 H4 => ∃ W1 : Nat → Nat → Hp → Prop, (∃ m, W1 0 m H4) ∧ ∀ j k H, W1 j k H →
      (J1.stop j H ∧ Nx H) ∨ (J1.go j H ∧ ∃ Nx1 : Hp → Prop, (∀ H', Nx1 H' → ∃ k', k' < k ∧ W1 (j + 1) k' H') ∧ ∀ x H', J1.yld j H x H' → g1 x (wipe σ2 vs1) H' fun σ3 H5 => wipe σ3 vs1 = wipe σ2 vs1 ∧ tt1 σ3 H5 fun b H6 =>
        if b = true then te σ3 H6 fun y H7 => ∃ (c : Int) (S : Int → Bool) (n : Nat), y = .int c ∧ H7 D = some (SetO w D S n) ∧ n + 1 < scanBound ∧ Nx1 (upd H7 D (SetO w D (fun j => S j || decide (j = c)) (if S c = true then n else n + 1))) else Nx1 H6)
    else Nx H3)
theorem wipe_kept {σ τ : L2.St} {vs : List Nat} (h : wipe τ vs = wipe σ vs) : (wipe σ vs).length = τ.length ∧ ∀ (j : Nat) v, (wipe σ vs)[j]? = some (some v) → τ[j]? = some (some v) := by
  refine ⟨by rw [← h, wipe_length], fun j v e => ?_⟩
  rw [← h] at e
  exact (wipe_some e).1
set_option maxHeartbeats 1000000 in
theorem pe_sc2 {elt tg iter tg1 iter1 : Expr} {ifs ifs1 : List Expr} {scope : Scope} {own : List (PySem.Str × Nat)} {vs1 : List Nat} {pos : Pos} {wi wi1 : TI} {g g1 : TG} {tt tt1 : TT} {te : TE} (hc : X.calm = true) (hN : X.N.Nodup) (hi : PI X tg iter wi) (ok : BlkOk X.N X.env.scope scope own) (hv : ∀ i ∈ vs1, i ∈ own.map (·.2))
    (hg : ∀ (s : Shared) (H : Hp) (C : Addr) (cl : List (PySem.Str × Addr)) (fp : List Addr), PG (X.blk s H scope (compEnvC scope cl C X.env) fp) tg g) (ht : ∀ (s : Shared) (H : Hp) (C : Addr) (cl : List (PySem.Str × Addr)) (fp : List Addr), PTs (X.blk s H scope (compEnvC scope cl C X.env) fp) ifs tt)
    (hi1 : ∀ (s : Shared) (H : Hp) (C : Addr) (cl : List (PySem.Str × Addr)) (fp : List Addr), PI (X.blk s H scope (compEnvC scope cl C X.env) fp) tg1 iter1 wi1)
    (hg1 : ∀ (s : Shared) (H : Hp) (C : Addr) (cl : List (PySem.Str × Addr)) (fp : List Addr), PG (X.blk s H scope (compEnvC scope cl C X.env) fp) tg1 g1) (ht1 : ∀ (s : Shared) (H : Hp) (C : Addr) (cl : List (PySem.Str × Addr)) (fp : List Addr), PTs (X.blk s H scope (compEnvC scope cl C X.env) fp) ifs1 tt1)
    (he : ∀ (s : Shared) (H : Hp) (C : Addr) (cl : List (PySem.Str × Addr)) (fp : List Addr), PE (X.blk s H scope (compEnvC scope cl C X.env) fp) elt te) (hs : ∀ x, foldedSetIterable iter X.env x = pure x := by intro _; rfl) (hs1 : ∀ env x, foldedSetIterable iter1 env x = pure x := by intro _ _; rfl) :
    PE X (sc2 elt tg iter tg1 iter1 ifs ifs1 scope pos) (tSc2 X.w wi g tt wi1 g1 tt1 te (own.map (·.2)) vs1) := by
  refine ⟨fun pins s σ H Q I h => ?_⟩
  rw [PpSet.eval_SetComp]
  have hfree : ∀ y ∈ scope.names, y.2 = .free → ∃ c, X.env.cells.lookup y.1 = some c := fun y hy e => by
    rcases ok.free y hy e with k | k
    · exact I.ok.has _ (.inl k)
    · exact I.ok.has _ (.inr k)
  refine wpAny_comprehension_free (use := none) rfl hs (closure_ok hfree) ok.kind (fun y hy e => by rw [ok.uniq y hy, e]) (thn (hi.run pins s σ H _ I h) fun xv s1 hx => thn hx fun itv s2 h2 => ?_)
  obtain ⟨it, fp, tn, J, H2, e, I2, T, st2, f2, q⟩ := h2
  subst e
  refine PpSet.newSet_ok (newEnv_comp ?_)
  generalize hD : s2.heap.objs.size = D
  obtain ⟨W, ⟨m0, w0⟩, turn⟩ := q D (I2.hok.fresh (Nat.le_of_eq hD))
  generalize hs3 : ({ s2 with heap := s2.heap.push { cls := .type "set", dict := none, data := .set #[] 0 (.fresh 0 0 (!X.w.params.followText "set-order")) } } : Shared) = s3
  have h3 : s3.heap = s2.heap.push { cls := .type "set", dict := none, data := .set #[] 0 (.fresh 0 0 (!X.w.params.followText "set-order")) } := by rw [← hs3]
  have I3 : Inv X pins σ (upd H2 D (SetO X.w D (fun _ => false) 0)) s3 := by
    rw [← hs3]
    refine I2.laid (t' := s2.toks) (fun b o e => Heap.get?_push_of_some _ e) (Nat.le_of_eq hD) ?_
    rw [← hD]
    exact setO_new (setR_fresh X.w)
  have f3 : ∀ b ∈ fp, FpOk X pins (upd H2 D (SetO X.w D (fun _ => false) 0)) b ∧ b < s3.heap.objs.size := fun b hb => by
    obtain ⟨o, e, _⟩ := T.obj _ _ st2 b hb
    have hlt := Heap.lt_size e
    refine ⟨⟨?_, (f2 b hb).2⟩, by rw [h3, Heap.size_push]; exact Nat.lt_succ_of_lt hlt⟩
    rw [upd_ne (by rw [← hD]; exact Nat.ne_of_lt hlt)]
    exact (f2 b hb).1
  have I4 := block_start I3 ok hN f3
  have pg := hg s3 (upd H2 D (SetO X.w D (fun _ => false) 0)) s3.heap.objs.size (cellsFrom (s3.heap.objs.size + 1) scope.names (cloFrom X.env.cells scope.names [])) fp
  have pt := ht s3 (upd H2 D (SetO X.w D (fun _ => false) 0)) s3.heap.objs.size (cellsFrom (s3.heap.objs.size + 1) scope.names (cloFrom X.env.cells scope.names [])) fp
  have pe := he s3 (upd H2 D (SetO X.w D (fun _ => false) 0)) s3.heap.objs.size (cellsFrom (s3.heap.objs.size + 1) scope.names (cloFrom X.env.cells scope.names [])) fp
  have pi1 := hi1 s3 (upd H2 D (SetO X.w D (fun _ => false) 0)) s3.heap.objs.size (cellsFrom (s3.heap.objs.size + 1) scope.names (cloFrom X.env.cells scope.names [])) fp
  have pg1 := hg1 s3 (upd H2 D (SetO X.w D (fun _ => false) 0)) s3.heap.objs.size (cellsFrom (s3.heap.objs.size + 1) scope.names (cloFrom X.env.cells scope.names [])) fp
  have pt1 := ht1 s3 (upd H2 D (SetO X.w D (fun _ => false) 0)) s3.heap.objs.size (cellsFrom (s3.heap.objs.size + 1) scope.names (cloFrom X.env.cells scope.names [])) fp
  have nfp : ∀ b ∈ fp, (upd H2 D (SetO X.w D (fun _ => false) 0)) b = none := fun b hb => (f3 b hb).1.1
  have st4 : tn 0 (pushCells (s3.heap.push { cls := .type "dict", data := .dict #[] }) scope.names) := T.keep _ _ _ st2 fun b _ o e => pushCells_keeps _ _ _ _ (Heap.get?_push_of_some _ (by rw [h3]; exact Heap.get?_push_of_some _ e))
  show codeAny _ _ (.compStart (sc2 elt tg iter tg1 iter1 ifs ifs1 scope pos) 0 (.ref it) (.ref D) (compEnvC scope (cellsFrom (s3.heap.objs.size + 1) scope.names (cloFrom X.env.cells scope.names [])) s3.heap.objs.size X.env)) (compPost (model X.prog X.w) X.A X.xe none (EP X pins σ Q) (.ref D) s3.heap.objs.size) { s3 with heap := pushCells (s3.heap.push { cls := .type "dict", data := .dict #[] }) scope.names }
  generalize hce : compEnvC scope (cellsFrom (s3.heap.objs.size + 1) scope.names (cloFrom X.env.cells scope.names [])) s3.heap.objs.size X.env = ce at I4 pg pt pe pi1 pg1 pt1 ⊢
  have cL : ce.locals = s3.heap.objs.size := by subst hce; rfl
  generalize hH3 : upd H2 D (SetO X.w D (fun _ => false) 0) = H3 at I3 I4 pg pt pe pi1 pg1 pt1 w0 nfp f3
  generalize hs4 : ({ s3 with heap := pushCells (s3.heap.push { cls := .type "dict", data := .dict #[] }) scope.names } : Shared) = s4 at I4 ⊢
  have st4 : tn 0 s4.heap := by rw [← hs4]; exact st4
  generalize hY : X.blk s3 H3 scope ce fp = Y at I4 pg pt pe pi1 pg1 pt1
  have yc : Y.calm = true := by rw [← hY]; exact hc
  have stat : ∀ {σ' : L2.St} {H' : Hp} {s' : Shared}, Inv Y [] σ' H' s' → (∀ b ∈ fp, H' b = none) → ∀ b ∈ fp, FpOk Y [] H' b := fun {σ' H' s'} I' hn b hb => by
    subst hY
    exact ⟨hn b hb, (I'.ok.exf b hb).1, I'.ok.exfs b hb, .inl hb, fun x c e => (I'.ok.exf b hb).2 x c e, fun p hp => absurd (show p ∈ ([] : List (Addr × Obj)) ++ [] from hp) (by simp)⟩
  -- the frame of the first clause: what it knows at each turn's start
  let F0 : Nat → Nat → Shared → Prop := fun n i s' => ∃ H', Inv Y [] (wipe σ (own.map (·.2))) H' s' ∧ tn i s'.heap ∧ (∀ b ∈ fp, H' b = none) ∧ W i n H'
  have loop : codeAny (model X.prog X.w) X.A (.compLoop (sc2 elt tg iter tg1 iter1 ifs ifs1 scope pos) 0 (.ref it) (.ref D) ce) (compPost (model X.prog X.w) X.A X.xe none (EP X pins σ Q) (.ref D) s3.heap.objs.size) s4 := by
    refine sLoop0 (hs1 ce) (fun n s' => ∃ i, F0 n i s') ?_ m0 ⟨0, H3, I4, st4, nfp, w0⟩
    rintro n s5 ⟨i, H5, I5, st5, n5, w5⟩
    rcases turn i n H5 w5 with ⟨stop, qq⟩ | ⟨go, Nx, hNx, step⟩
    · have td := T.done Y (by rw [← hY]) (by rw [← hY]) (by rw [← hY]) yc i [] s5 _ H5 (fun _ _ => False) I5 (stat I5 n5) st5 stop
      rw [← hY] at td
      refine thn td fun r s6 ⟨hr, I6⟩ => ?_
      subst hr
      have I7 : Inv X pins σ H5 s6 := I3.call' (ch := fp) I6.os I6.base I6.hok I6.bare fun b hb => ⟨(f3 b hb).1.2.2.2.1, (f3 b hb).1.2.1, (f3 b hb).1.2.2.2.2.1, (f3 b hb).1.2.2.2.2.2⟩
      have nC : H5 s3.heap.objs.size = none := by
        have z : H5 ce.locals = none := I6.free
        rw [cL] at z
        exact z
      obtain ⟨m, hn, _⟩ := I6.loc
      have hn : s6.heap.Ns ce.locals m := hn
      rw [cL] at hn
      obtain ⟨f0, f1, f2, f3', f4, f5⟩ := I3.fpOk (Nat.le_refl _) nC
      exact ⟨m, hn, fun h'' sb => ⟨.ref D, H5, I7.turned (t' := s6.toks) (fun b o hb e => (sb.2 b hb).trans e) f0 f1 f3' f4 f5, rfl, qq⟩⟩
    · have ti := T.item Y (by rw [← hY]) (by rw [← hY]) (by rw [← hY]) yc i [] s5 _ H5 (fun _ _ => False) I5 (stat I5 n5) st5 go
      rw [← hY] at ti
      refine toN ti fun r s6 ⟨u, hr, h6⟩ => ?_
      subst hr
      refine thn h6 fun _ s7 ⟨x, H7, I7, r7, y7, st7, n7⟩ => ?_
      rw [hY] at I7
      have I7' := I7.pinned (stat I7 n7) (T.obj _ _ st7)
      have a1 := pg.run _ s7 _ H7 x u _ I7' r7 (step x H7 y7)
      rw [← hY] at a1
      refine thn a1 fun _ s8 ⟨σ8, H8, I8, hw8, q8⟩ => ?_
      rw [hY] at I8
      have a2 := pt.run _ s8 σ8 H8 _ I8 q8
      rw [← hY] at a2
      refine thn a2 fun b s9 ⟨H9, I9, q9⟩ => ?_
      rw [hY] at I9
      obtain ⟨hl8, hk8⟩ := wipe_kept hw8
      -- a turn's end
      have fin : ∀ {σ9 : L2.St} {s' : Shared} {H' : Hp}, Inv Y ([] ++ pinsAt fp s7.heap) σ9 H' s' → (wipe σ (own.map (·.2))).length = σ9.length → (∀ (j : Nat) v, (wipe σ (own.map (·.2)))[j]? = some (some v) → σ9[j]? = some (some v)) → Nx H' → ∃ m, m < n ∧ ∃ i, F0 m i s' := fun {σ9 s' H'} I' hl hk nx => by
        obtain ⟨m', hm, w'⟩ := hNx H' nx
        have pin' : ∀ b ∈ fp, ∀ o, s7.heap.get? b = some o → s'.heap.get? b = some o ∧ H' b = none := fun b hb o e =>
          let z := I'.pin (b, o) (List.mem_append_right _ (List.mem_append_right _ (mem_pinsAt hb e)))
          ⟨z.1, z.2.1⟩
        refine ⟨m', hm, i + 1, H', (I'.unpinned (pins := [])).weak hl hk, T.keep _ _ _ st7 fun b hb o e => (pin' b hb o e).1, fun b hb => ?_, w'⟩
        obtain ⟨o, e, _⟩ := T.obj _ _ st7 b hb
        exact (pin' b hb o e).2
      have hk9 : ∀ (j : Nat) v, (wipe σ (own.map (·.2)))[j]? = some (some v) → (wipe σ8 vs1)[j]? = some (some v) := fun j v e => by
        rw [← hw8] at e
        obtain ⟨e1, e2⟩ := wipe_some e
        rw [wipe_out fun z => e2 (hv j z)]
        exact e1
      cases b with
      | false =>
        simp only [Bool.false_eq_true, if_false] at q9 ⊢
        exact fin I9 hl8 hk8 q9
      | true =>
        simp only [if_true] at q9 ⊢
        have a3 := pi1.run _ s9 σ8 H9 _ I9 q9
        rw [← hY] at a3
        refine thn a3 fun xv s10 hx => thn hx fun itv s11 h11 => ?_
        obtain ⟨it1, fp1, tn1, J1, H11, e1, I11, T1, st11, f11, W1, ⟨m1, w1⟩, turn1⟩ := h11
        subst e1
        rw [hY] at I11
        have stat1 : ∀ {H' : Hp}, (∀ b ∈ fp1, H' b = none) → ∀ b ∈ fp1, FpOk Y ([] ++ pinsAt fp s7.heap) H' b := fun hn b hb => by
          rw [← hY]
          exact ⟨hn b hb, (f11 b hb).2⟩
        have loop1 : codeAny (model X.prog X.w) X.A (.compLoop (sc2 elt tg iter tg1 iter1 ifs ifs1 scope pos) 1 (.ref it1) (.ref D) ce)
            (fun r s' => match r with
              | .ok _ => ∃ m, m < n ∧ ∃ i, F0 m i s'
              | .error _ => False) s11 := by
          refine sLoop1 (fun k s' => ∃ j H', Inv Y ([] ++ pinsAt fp s7.heap) (wipe σ8 vs1) H' s' ∧ tn1 j s'.heap ∧ (∀ b ∈ fp1, H' b = none) ∧ W1 j k H') ?_ m1 ⟨0, H11, I11.weak (wipe_length _ _) (fun j v e => (wipe_some e).1), st11, fun b hb => (f11 b hb).1, w1⟩
          rintro k s12 ⟨j, H12, I12, st12, n12, w12⟩
          rcases turn1 j k H12 w12 with ⟨stop1, nx1⟩ | ⟨go1, Nx1, hNx1, step1⟩
          · have td := T1.done Y (by rw [← hY]) (by rw [← hY]) (by rw [← hY]) yc j _ s12 (wipe σ8 vs1) H12 (fun _ _ => False) I12 (stat1 n12) st12 stop1
            rw [← hY] at td
            refine thn td fun r s13 ⟨hr, I13⟩ => ?_
            subst hr
            rw [hY] at I13
            exact fin I13 (hl8.trans (wipe_length σ8 vs1).symm) hk9 nx1
          · have ti1 := T1.item Y (by rw [← hY]) (by rw [← hY]) (by rw [← hY]) yc j _ s12 (wipe σ8 vs1) H12 (fun _ _ => False) I12 (stat1 n12) st12 go1
            rw [← hY] at ti1
            refine toN ti1 fun r s13 ⟨u1, hr, h13⟩ => ?_
            subst hr
            refine thn h13 fun _ s14 ⟨x1, H14, I14, r14, y14, st14, n14⟩ => ?_
            rw [hY] at I14
            have I14' := I14.pinned (stat1 n14) (T1.obj _ _ st14)
            have b1 := pg1.run _ s14 (wipe σ8 vs1) H14 x1 u1 _ I14' r14 (step1 x1 H14 y14)
            rw [← hY] at b1
            refine thn b1 fun _ s15 ⟨σ15, H15, I15, hw15, q15⟩ => ?_
            rw [hY] at I15
            have b2 := pt1.run _ s15 σ15 H15 _ I15 q15
            rw [← hY] at b2
            refine thn b2 fun c1 s16 ⟨H16, I16, q16⟩ => ?_
            rw [hY] at I16
            have fin1 : ∀ {s' : Shared} {H' : Hp}, Inv Y (([] ++ pinsAt fp s7.heap) ++ pinsAt fp1 s14.heap) σ15 H' s' → Nx1 H' → ∃ m, m < k ∧ ∃ j H', Inv Y ([] ++ pinsAt fp s7.heap) (wipe σ8 vs1) H' s' ∧ tn1 j s'.heap ∧ (∀ b ∈ fp1, H' b = none) ∧ W1 j m H' := fun {s' H'} I' nx => by
              obtain ⟨m', hm, w'⟩ := hNx1 H' nx
              have pin' : ∀ b ∈ fp1, ∀ o, s14.heap.get? b = some o → s'.heap.get? b = some o ∧ H' b = none := fun b hb o e =>
                let z := I'.pin (b, o) (List.mem_append_right _ (List.mem_append_right _ (mem_pinsAt hb e)))
                ⟨z.1, z.2.1⟩
              obtain ⟨z1, z2⟩ := wipe_kept hw15
              refine ⟨m', hm, j + 1, H', I'.unpinned.weak z1 z2, T1.keep _ _ _ st14 fun b hb o e => (pin' b hb o e).1, fun b hb => ?_, w'⟩
              obtain ⟨o, e, _⟩ := T1.obj _ _ st14 b hb
              exact (pin' b hb o e).2
            cases c1 with
            | false =>
              simp only [Bool.false_eq_true, if_false] at q16 ⊢
              exact fin1 I16 q16
            | true =>
              simp only [if_true] at q16 ⊢
              have b3 := pe.run _ s16 σ15 H16 _ I16 q16
              rw [← hY] at b3
              refine thn b3 fun z s17 ⟨yv, H17, I17, r17, cb, S0, n0, ey, hD17, hz17, nx⟩ => ?_
              subst ey
              have hD17' : H17 D = some (SetO (X.blk s3 H3 scope ce fp).w D S0 n0) := hD17
              have ad := mt_sadd _ s17 σ15 H17 (.ref D) [.int cb] (.ref D) [z] (fun v H' => v = .non ∧ Nx1 H') I17 rfl (.cons r17 .nil) ⟨D, cb, S0, n0, rfl, rfl, hD17', hz17, rfl, nx⟩
              refine thn ad fun _ s18 ⟨v18, H18, I18, _, _, nx18⟩ => ?_
              rw [hY] at I18
              exact fin1 I18 nx18
        exact sStart1 loop1 (T1.self X.A 0 _ _ _ st11 loop1)
  exact PpSet.codeAny_compStart_set loop (T.self X.A 0 _ _ _ (by rw [← hs4] at st4 ⊢; exact st4) loop)
end
end Z
namespace Z
open PySem PySem.Spec PyProof.Rows L2

/-! ### sorted({elt for .. in .. for .. in ..}) by data -/
def lcS1 (b1 : D → Env → Option Env) (mt1 : Env → Res Bool) (me : Env → Res R) (vs1 : List Nat) : List D → List Int → Env → Res (List Int)
  | [], acc, ρ => .ok acc ρ
  | d :: ds, acc, ρ => match b1 d ρ with
    | none => .no
    | some ρ1 => (match mt1 ρ1 with
      | .ok true ρ2 => (match me ρ2 with
        | .ok r ρ3 => (match opd ρ3 r with
          | some (.int k) => if acc.length < 63 then lcS1 b1 mt1 me vs1 ds (acc ++ [k]) (wipeE ρ3 vs1) else .no
          | _ => .no)
        | _ => .no)
      | .ok false ρ2 => lcS1 b1 mt1 me vs1 ds acc (wipeE ρ2 vs1)
      | _ => .no)
def lcS2 (P : Nat) (b : D → Env → Option Env) (mt : Env → Res Bool) (ml : Env → Res R) (b1 : D → Env → Option Env) (mt1 : Env → Res Bool) (me : Env → Res R) (vs vs1 : List Nat) : List D → List Int → Env → Res (List Int)
  | [], acc, ρ => .ok acc ρ
  | d :: ds, acc, ρ => match b d ρ with
    | none => .no
    | some ρ1 => (match mt ρ1 with
      | .ok true ρ2 => (match mIter P ml ρ2 with
        | .ok es ρ3 => (match lcS1 b1 mt1 me vs1 es acc (wipeE ρ3 vs1) with
          | .ok acc' ρ4 => lcS2 P b mt ml b1 mt1 me vs vs1 ds acc' (wipeE ρ4 vs)
          | _ => .no)
        | _ => .no)
      | .ok false ρ2 => lcS2 P b mt ml b1 mt1 me vs vs1 ds acc (wipeE ρ2 vs)
      | _ => .no)
def mSortSc2 (P : Nat) (mi : Env → Res (List D)) (b : D → Env → Option Env) (mt : Env → Res Bool) (ml : Env → Res R) (b1 : D → Env → Option Env) (mt1 : Env → Res Bool) (me : Env → Res R) (vs vs1 : List Nat) : Env → Res R := fun ρ => (mi ρ).bind fun ds ρ1 =>
  match lcS2 P b mt ml b1 mt1 me vs vs1 ds [] (wipeE ρ1 vs) with
  | .ok acc ρw => .ok (.o ((sset acc).map .int)) (back ρ1 vs ρw)
  | _ => .no
def OkS (S : Int → Bool) (n : Nat) (acc : List Int) : Prop := (∀ j, S j = decide (j ∈ acc)) ∧ n ≤ acc.length ∧ acc.length ≤ 63
section
variable {K : PySem.W.Frag} {P : Nat} {W : Wish} {w : World} {g g1 : TG} {b b1 : D → Env → Option Env} {ts ts1 vs vs1 : List Nat} {tt tt1 : TT} {mt mt1 : Env → Res Bool} {te tl : TE} {me ml : Env → Res R}
theorem lcS1_go (hg : SimG K P g1 b1 ts1) (ht : SimT K P W tt1 mt1) (he : SimE K P W te me) (hts : ∀ i ∈ ts1, i ∈ vs1) (hvs : ∀ i ∈ vs1, P ≤ i)
    {f : Fx} {A : Addr} {G1 H1 : Hp} {σ : L2.St} {ρ1 : Env} {J : It} {es : List D} {acc0 accE : List Int} {S0 : Int → Bool} {n0 : Nat} {ρE : Env} (hp : f.pins.length = P) (fA : f.F A = none) (g0A : f.G0 A = none)
    (rl1 : Rel K (f.add A (SetO w A S0 n0)) G1 H1 σ ρ1) (wk : ∀ F, Walk K F G1 J es) (ok0 : OkS S0 n0 acc0) (hres : lcS1 b1 mt1 me vs1 es acc0 (wipeE ρ1 vs1) = .ok accE ρE) (Nx : Hp → Prop)
    (hq : ∀ G' H' S n, Same G1 G' → Rel K (f.add A (SetO w A S n)) G' H' (wipe σ vs1) ρE → OkS S n accE → Nx H') :
    ∃ W1 : Nat → Nat → Hp → Prop, (∃ m, W1 0 m H1) ∧ ∀ j k H, W1 j k H →
      (J.stop j H ∧ Nx H) ∨ (J.go j H ∧ ∃ Nx1 : Hp → Prop, (∀ H', Nx1 H' → ∃ k', k' < k ∧ W1 (j + 1) k' H') ∧ ∀ x H', J.yld j H x H' → g1 x (wipe σ vs1) H' fun σ3 H5 => wipe σ3 vs1 = wipe σ vs1 ∧ tt1 σ3 H5 fun b H6 =>
        if b = true then te σ3 H6 fun y H7 => ∃ (c : Int) (S : Int → Bool) (n : Nat), y = .int c ∧ H7 A = some (SetO w A S n) ∧ n + 1 < scanBound ∧ Nx1 (upd H7 A (SetO w A (fun j => S j || decide (j = c)) (if S c = true then n else n + 1))) else Nx1 H6) := by
  refine ⟨fun i m H' => ∃ G' ρ' acc S n, Same G1 G' ∧ Rel K (f.add A (SetO w A S n)) G' H' (wipe σ vs1) ρ' ∧ OkS S n acc ∧ i + m = es.length ∧ lcS1 b1 mt1 me vs1 (es.drop i) acc ρ' = .ok accE ρE,
    ⟨es.length, G1, wipeE ρ1 vs1, acc0, S0, n0, .refl _, rl1.wiped hp hvs, ok0, by omega, hres⟩, fun i m H' hW => ?_⟩
  obtain ⟨G2, ρ2, acc, S, n, s2, rl2, hok, em, hc⟩ := hW
  obtain ⟨wk1, wk2⟩ := wk _ G2 H' s2 rl2.gh rl2.fh
  by_cases hlt : i < es.length
  · have ed : es.drop i = es[i] :: es.drop (i + 1) := List.drop_eq_getElem_cons hlt
    obtain ⟨go, yl⟩ := wk1 i es[i] (List.getElem?_eq_getElem hlt)
    refine .inr ⟨go, fun H3 => ∃ G' ρ' acc S n, Same G1 G' ∧ Rel K (f.add A (SetO w A S n)) G' H3 (wipe σ vs1) ρ' ∧ OkS S n acc ∧ lcS1 b1 mt1 me vs1 (es.drop (i + 1)) acc ρ' = .ok accE ρE,
      fun H3 hN => ?_, fun x H3 hy => ?_⟩
    · obtain ⟨G', ρ', acc', S', n', a1, a2, a3, a4⟩ := hN
      exact ⟨m - 1, by omega, G', ρ', acc', S', n', a1, a2, a3, by omega, a4⟩
    · obtain ⟨G3, gr, hd⟩ := yl x H3 hy
      have rl3 := rl2.grow gr
      have s3 := s2.trans gr.1
      rw [ed] at hc
      simp only [lcS1] at hc
      split at hc
      · cases hc
      · next ρ3 e3 =>
        refine hg (f.add A (SetO w A S n)) G3 H3 (wipe σ vs1) ρ2 ρ3 x es[i] _ hp rl3 hd e3 fun σ4 rl4 l4 k4 => ?_
        have ew := wipe_same l4 k4 hts
        refine ⟨ew, ht (f.add A (SetO w A S n)) G3 H3 σ4 ρ3 _ hp rl4 ?_⟩
        cases e4 : mt1 ρ3 with
        | no => rw [e4] at hc; cases hc
        | exc c ρ4 => rw [e4] at hc; cases hc
        | ok k ρ4 =>
          rw [e4] at hc
          intro G5 H5 s5 rl5
          cases k with
          | false =>
            rw [if_neg Bool.false_ne_true]
            have r6 := rl5.wiped hp hvs
            rw [ew] at r6
            exact ⟨G5, _, acc, S, n, s3.trans s5, r6, hok, hc⟩
          | true =>
            rw [if_pos rfl]
            simp only at hc
            refine SimE.op (f := f.add A (SetO w A S n)) he hp rl5 ?_
            cases e5 : me ρ4 with
            | no => rw [e5] at hc; cases hc
            | exc c ρ5 => rw [e5] at hc; cases hc
            | ok r ρ5 =>
              rw [e5] at hc
              intro v G6 H6 s6 rl6 h6
              simp only at hc
              split at hc
              · next c ec =>
                split at hc
                · next hlen =>
                  have ev : v = .int c := (h6.got rl6 ec).int
                  refine ⟨c, S, n, ev, rl6.atF, ?_, ?_⟩
                  · have : (scanBound : Nat) = scanBound := rfl
                    have := hok.2.1
                    unfold scanBound
                    omega
                  · have r8 := (rl6.swapF (o' := SetO w A (fun j => S j || decide (j = c)) (if S c = true then n else n + 1)) g0A).wiped hp hvs
                    rw [ew] at r8
                    refine ⟨G6, _, acc ++ [c], _, _, (s3.trans s5).trans s6, r8, ⟨fun j => ?_, ?_, ?_⟩, hc⟩
                    · show (S j || decide (j = c)) = decide (j ∈ acc ++ [c])
                      rw [hok.1 j, Bool.eq_iff_iff]
                      simp only [Bool.or_eq_true, decide_eq_true_eq, List.mem_append, List.mem_singleton]
                    · rw [List.length_append]
                      have := hok.2.1
                      show (if S c = true then n else n + 1) ≤ acc.length + 1
                      split <;> omega
                    · rw [List.length_append]
                      show acc.length + 1 ≤ 63
                      omega
                · cases hc
              · cases hc
  · have ed : es.drop i = [] := List.drop_of_length_le (by omega)
    rw [ed] at hc
    simp only [lcS1] at hc
    cases hc
    exact .inl ⟨wk2 i (by omega), hq G2 H' S n s2 rl2 hok⟩
theorem wipe_wipe {σ : L2.St} {vs vs1 : List Nat} (h : ∀ i ∈ vs1, i ∈ vs) : wipe (wipe σ vs1) vs = wipe σ vs := by
  have key : ∀ (us : List Nat) (τ : L2.St) (j : Nat), j ∈ us → (wipe τ us)[j]? = if j < τ.length then some none else none := by
    intro us
    induction us with
    | nil => intro τ j h; cases h
    | cons u us ih =>
      intro τ j h
      show ((wipe τ us).set u none)[j]? = _
      by_cases hj : u = j
      · subst hj
        by_cases hl : u < τ.length
        · rw [List.getElem?_set_self (by rw [wipe_length]; exact hl), if_pos hl]
        · rw [List.getElem?_eq_none (by rw [List.length_set, wipe_length]; omega), if_neg hl]
      · rw [List.getElem?_set_ne hj]
        rcases List.mem_cons.mp h with e | h
        · exact absurd e.symm hj
        · exact ih τ j h
  refine List.ext_getElem? fun j => ?_
  by_cases hj : j ∈ vs
  · rw [key vs _ j hj, key vs _ j hj, wipe_length]
  · rw [wipe_out' hj, wipe_out' hj, wipe_out' fun z => hj (h j z)]
theorem lcS2_go (hg : SimG K P g b ts) (ht : SimT K P W tt mt) (hl : SimE K P W tl ml) (hg1 : SimG K P g1 b1 ts1) (ht1 : SimT K P W tt1 mt1) (he : SimE K P W te me) (hts : ∀ i ∈ ts, i ∈ vs) (hvs : ∀ i ∈ vs, P ≤ i) (hts1 : ∀ i ∈ ts1, i ∈ vs1) (hvs1 : ∀ i ∈ vs1, i ∈ vs)
    {f : Fx} {G1 H1 : Hp} {σ : L2.St} {ρ1 : Env} {J : It} {ds : List D} {Q : VK} {accF : List Int} {ρF : Env} (hp : f.pins.length = P) (rl1 : Rel K f G1 H1 σ ρ1) (wk : Walk K f.F G1 J ds)
    (hres : lcS2 P b mt ml b1 mt1 me vs vs1 ds [] (wipeE ρ1 vs) = .ok accF ρF)
    (hq : ∀ A G' H' S n, Same G1 G' → Rel K f G' H' σ (back ρ1 vs ρF) → H' A = some (SetO w A S n) → OkS S n accF → Q (.ref A) H') :
    ∀ A, H1 A = none → ∃ Wv : Nat → Nat → Hp → Prop, (∃ m, Wv 0 m (upd H1 A (SetO w A (fun _ => false) 0))) ∧ ∀ i m H, Wv i m H →
  (J.stop i H ∧ Q (.ref A) H) ∨ (J.go i H ∧ ∃ Nx : Hp → Prop, (∀ H', Nx H' → ∃ m', m' < m ∧ Wv (i + 1) m' H') ∧ ∀ x H', J.yld i H x H' → g x (wipe σ vs) H' fun σ2 H2 => wipe σ2 vs = wipe σ vs ∧ tt σ2 H2 fun b H3 =>
    if b = true then iSeq K tl σ2 H3 fun J1 H4 => ∃ W1 : Nat → Nat → Hp → Prop, (∃ m, W1 0 m H4) ∧ ∀ j k H, W1 j k H →
      (J1.stop j H ∧ Nx H) ∨ (J1.go j H ∧ ∃ Nx1 : Hp → Prop, (∀ H', Nx1 H' → ∃ k', k' < k ∧ W1 (j + 1) k' H') ∧ ∀ x H', J1.yld j H x H' → g1 x (wipe σ2 vs1) H' fun σ3 H5 => wipe σ3 vs1 = wipe σ2 vs1 ∧ tt1 σ3 H5 fun b H6 =>
        if b = true then te σ3 H6 fun y H7 => ∃ (c : Int) (S : Int → Bool) (n : Nat), y = .int c ∧ H7 A = some (SetO w A S n) ∧ n + 1 < scanBound ∧ Nx1 (upd H7 A (SetO w A (fun j => S j || decide (j = c)) (if S c = true then n else n + 1))) else Nx1 H6)
    else Nx H3) := by
  intro A nA
  have hvs1P : ∀ i ∈ vs1, P ≤ i := fun i hi => hvs i (hvs1 i hi)
  have gA : G1 A = none := rl1.gh.free nA
  have fA : f.F A = none := rl1.fh.free nA
  have g0A : f.G0 A = none := rl1.g0.free gA
  refine ⟨fun i m H' => ∃ G' ρ' acc S n, Same G1 G' ∧ Rel K (f.add A (SetO w A S n)) G' H' (wipe σ vs) ρ' ∧ OkS S n acc ∧ i + m = ds.length ∧ lcS2 P b mt ml b1 mt1 me vs vs1 (ds.drop i) acc ρ' = .ok accF ρF,
    ⟨ds.length, G1, wipeE ρ1 vs, [], _, 0, .refl _, (rl1.wiped hp hvs).addF nA, ⟨fun j => by simp, Nat.le_refl 0, by decide⟩, by omega, hres⟩, fun i m H' hW => ?_⟩
  obtain ⟨G2, ρ2, acc, S, n, s2, rl2, hok, em, hc⟩ := hW
  have sF : Same f.F H' := fun b o q => rl2.fh b o (by
    show upd f.F A _ b = some o
    rw [upd_ne (fun z => by subst z; rw [fA] at q; cases q)]
    exact q)
  obtain ⟨wk1, wk2⟩ := wk G2 H' s2 rl2.gh sF
  by_cases hlt : i < ds.length
  · have ed : ds.drop i = ds[i] :: ds.drop (i + 1) := List.drop_eq_getElem_cons hlt
    obtain ⟨go, yl⟩ := wk1 i ds[i] (List.getElem?_eq_getElem hlt)
    refine .inr ⟨go, fun H3 => ∃ G' ρ' acc S n, Same G1 G' ∧ Rel K (f.add A (SetO w A S n)) G' H3 (wipe σ vs) ρ' ∧ OkS S n acc ∧ lcS2 P b mt ml b1 mt1 me vs vs1 (ds.drop (i + 1)) acc ρ' = .ok accF ρF,
      fun H3 hN => ?_, fun x H3 hy => ?_⟩
    · obtain ⟨G', ρ', acc', S', n', a1, a2, a3, a4⟩ := hN
      exact ⟨m - 1, by omega, G', ρ', acc', S', n', a1, a2, a3, by omega, a4⟩
    · obtain ⟨G3, gr, hd⟩ := yl x H3 hy
      have rl3 := rl2.grow gr
      have s3 := s2.trans gr.1
      rw [ed] at hc
      simp only [lcS2] at hc
      split at hc
      · cases hc
      · next ρ3 e3 =>
        refine hg (f.add A (SetO w A S n)) G3 H3 (wipe σ vs) ρ2 ρ3 x ds[i] _ hp rl3 hd e3 fun σ4 rl4 l4 k4 => ?_
        have ew := wipe_same l4 k4 hts
        refine ⟨ew, ht (f.add A (SetO w A S n)) G3 H3 σ4 ρ3 _ hp rl4 ?_⟩
        cases e4 : mt ρ3 with
        | no => rw [e4] at hc; cases hc
        | exc c ρ4 => rw [e4] at hc; cases hc
        | ok k ρ4 =>
          rw [e4] at hc
          intro G5 H5 s5 rl5
          cases k with
          | false =>
            rw [if_neg Bool.false_ne_true]
            have r6 := rl5.wiped hp hvs
            rw [ew] at r6
            exact ⟨G5, _, acc, S, n, s3.trans s5, r6, hok, hc⟩
          | true =>
            rw [if_pos rfl]
            simp only at hc
            refine SimE.op (f := f.add A (SetO w A S n)) hl hp rl5 ?_
            unfold mIter at hc
            cases e5 : ml ρ4 with
            | no => rw [e5] at hc; cases hc
            | exc c ρ5 => rw [e5] at hc; cases hc
            | ok r ρ5 =>
              rw [e5] at hc
              intro v G6 H6 s6 rl6 h6
              simp only [Res.bind] at hc
              split at hc
              · next es ρ7 e7 =>
                split at e7
                · next ρ6 e6 =>
                  obtain ⟨G7, s7, rl7⟩ := rl6.frz1 hp e6
                  have h7 := h6.same s7
                  have fin : ∀ J1 : It, (∀ F, Walk K F G7 J1 es) → ρ6 = ρ7 → ∃ W1 : Nat → Nat → Hp → Prop, (∃ m, W1 0 m H6) ∧ ∀ j k H, W1 j k H →
      (J1.stop j H ∧ (∃ G' ρ' acc S n, Same G1 G' ∧ Rel K (f.add A (SetO w A S n)) G' H (wipe σ vs) ρ' ∧ OkS S n acc ∧ lcS2 P b mt ml b1 mt1 me vs vs1 (ds.drop (i + 1)) acc ρ' = .ok accF ρF)) ∨ (J1.go j H ∧ ∃ Nx1 : Hp → Prop, (∀ H', Nx1 H' → ∃ k', k' < k ∧ W1 (j + 1) k' H') ∧ ∀ x H', J1.yld j H x H' → g1 x (wipe σ4 vs1) H' fun σ3 H5 => wipe σ3 vs1 = wipe σ4 vs1 ∧ tt1 σ3 H5 fun b H6 =>
        if b = true then te σ3 H6 fun y H7 => ∃ (c : Int) (S : Int → Bool) (n : Nat), y = .int c ∧ H7 A = some (SetO w A S n) ∧ n + 1 < scanBound ∧ Nx1 (upd H7 A (SetO w A (fun j => S j || decide (j = c)) (if S c = true then n else n + 1))) else Nx1 H6) := by
                    intro J1 hw e67
                    subst e67
                    split at hc
                    · next acc' ρ8 e8 =>
                      exact lcS1_go hg1 ht1 he hts1 hvs1P hp fA g0A rl7 hw hok e8 (fun H3 => ∃ G' ρ' acc S n, Same G1 G' ∧ Rel K (f.add A (SetO w A S n)) G' H3 (wipe σ vs) ρ' ∧ OkS S n acc ∧ lcS2 P b mt ml b1 mt1 me vs vs1 (ds.drop (i + 1)) acc ρ' = .ok accF ρF) fun G' H' S' n' z1 z2 z3 => by
                        have r9 := z2.wiped hp hvs
                        rw [wipe_wipe hvs1, ew] at r9
                        exact ⟨G', _, acc', S', n', (((s3.trans s5).trans s6).trans s7).trans z1, r9, z3, hc⟩
                    · cases hc
                  split at e7
                  · next es' ed' =>
                    cases e7
                    have hv := h7.dat rl7 ed'
                    obtain ⟨a, xs, rfl, q1, q2⟩ := dp_lst hv
                    exact ⟨a, rfl, .inl ⟨⟨xs, rl7.gh.seq q1⟩, fin _ (fun F => walk_list q1 q2) rfl⟩⟩
                  · next es' ed' =>
                    cases e7
                    have hv := h7.dat rl7 ed'
                    obtain ⟨a, xs, rfl, q1, q2⟩ := dp_tup hv
                    exact ⟨a, rfl, .inr ⟨⟨xs, sqT_same rl7.gh q1⟩, fin _ (fun F => walk_tup q1 q2) rfl⟩⟩
                  · cases e7
                · cases e7
              · cases hc
  · have ed : ds.drop i = [] := List.drop_of_length_le (by omega)
    rw [ed] at hc
    simp only [lcS2] at hc
    cases hc
    exact .inl ⟨wk2 i (by omega), hq A G2 H' S n s2 (rl1.restore hp hvs s2 rl2 fA) rl2.atF hok⟩
theorem sim_sortSc2 {wi : TI} {mi : Env → Res (List D)} (hi : SimI K P W wi mi) (hg : SimG K P g b ts) (ht : SimT K P W tt mt) (hl : SimE K P W tl ml) (hg1 : SimG K P g1 b1 ts1) (ht1 : SimT K P W tt1 mt1) (he : SimE K P W te me) (hts : ∀ i ∈ ts, i ∈ vs) (hvs : ∀ i ∈ vs, P ≤ i) (hts1 : ∀ i ∈ ts1, i ∈ vs1) (hvs1 : ∀ i ∈ vs1, i ∈ vs) :
    SimE K P W (tCB (rSortedSet w) (tCons (tSc2 w wi g tt (iSeq K tl) g1 tt1 te vs vs1) tNil)) (mSortSc2 P mi b mt ml b1 mt1 me vs vs1) := by
  intro f G H σ ρ Q hp rl hq
  refine hi f G H σ ρ _ hp rl ?_
  unfold mSortSc2 at hq
  cases e : mi ρ with
  | no => rw [e] at hq; exact hq
  | exc c ρ1 => rw [e] at hq; exact hq
  | ok ds ρ1 =>
    rw [e] at hq
    simp only [Res.bind] at hq
    intro J G1 H1 s1 rl1 wk
    split at hq
    · next acc ρw hr =>
      refine lcS2_go (w := w) (Q := fun v H1 => rSortedSet w [v] H1 Q) hg ht hl hg1 ht1 he hts hvs hts1 hvs1 hp rl1 wk hr fun A G' H' S n z1 z2 z3 z4 => ?_
      refine ⟨A, S, n, rfl, z3, by have := z4.2.1; have := z4.2.2; omega, fun ms p up mem len np => ?_⟩
      have em : ms = sset acc := up_one _ _ up (sset_up acc) fun k => by
        rw [mem k, sset_mem, z4.1 k]
        exact decide_eq_true_iff
      subst em
      have gr := Grow.fresh (o := .lst ((sset acc).map V.int)) z2.gh np
      exact hq _ G' _ (s1.trans z1) (z2.grow gr) (NewV.vrep z2 gr ⟨p, _, rfl, np, upd_same, dpAll_ofInts _, z2.gh.free np⟩)
    · exact hq.elim
end
end Z
namespace Z
open PySem PySem.Spec PyProof.Rows L2

/-! ### a slice -/
def SimO (K : PySem.W.Frag) (P : Nat) (W : Wish) (t : TO) (m : Env → Res (Option Int)) : Prop := ∀ (f : Fx) (G H : Hp) (σ : L2.St) (ρ : Env) (Q : Option Int → Hp → Prop), f.pins.length = P → Rel K f G H σ ρ → (match m ρ with
  | .no => False
  | .ok o ρ' => ∀ G' H', Same G G' → Rel K f G' H' σ ρ' → Q o H'
  | .exc c ρ' => ∀ G' H', Same G G' → Rel K f G' H' σ ρ' → W σ c H') → t σ H Q
def mNoPart : Env → Res (Option Int) := fun ρ => .ok none ρ
def mPart (me : Env → Res R) : Env → Res (Option Int) := fun ρ => (me ρ).bind fun r ρ1 => match opd ρ1 r with
  | some (.int i) => .ok (some i) ρ1
  | _ => .no
def cutD (xs : List D) (lo hi : Option Int) : List D := (xs.drop (HT.sIx xs.length 0 lo)).take (HT.sIx xs.length xs.length hi - HT.sIx xs.length 0 lo)
def mSl (me : Env → Res R) (ml mh : Env → Res (Option Int)) : Env → Res R := fun ρ => (me ρ).bind fun r ρ1 => (ml ρ1).bind fun lo ρ2 => (mh ρ2).bind fun hi ρ3 => match opd ρ3 r with
  | some (.list xs) => .ok (.o (cutD xs lo hi)) ρ3
  | some (.tuple xs) => .ok (.d (.tuple (cutD xs lo hi))) ρ3
  | _ => .no
abbrev rSl (K : PySem.W.Frag) : V → Option Int → Option Int → Hp → VK → Prop := fun x lo hi H Q => rSlL K x lo hi H Q ∨ rSlA K x lo hi H Q
theorem zsl {K : PySem.W.Frag} {X : Cx} (hK : X.K = K := by rfl) : SlR X (rSl K) := by subst hK; exact sl_list.or sl_tupA
section
variable {K : PySem.W.Frag} {P : Nat} {W : Wish} {te : TE} {me : Env → Res R} {tl th : TO} {ml mh : Env → Res (Option Int)}
theorem sim_noPart : SimO K P W tNoPart mNoPart := fun f G H σ ρ Q hp rl hq => hq G H (.refl _) rl
theorem sim_part (h : SimE K P W te me) : SimO K P W (tPart te) (mPart me) := by
  intro f G H σ ρ Q hp rl hq
  refine h.op hp rl ?_
  unfold mPart at hq
  cases e : me ρ with
  | no => rw [e] at hq; exact hq
  | exc c ρ1 => rw [e] at hq; exact hq
  | ok r ρ1 =>
    rw [e] at hq
    simp only [Res.bind] at hq
    intro v G1 H1 s1 rl1 h1
    split at hq
    · exact hq.elim
    · next o ρ' q =>
      split at q
      · next i ei =>
        cases q
        exact ⟨_, (h1.got rl1 ei).int, hq G1 H1 s1 rl1⟩
      · cases q
    · next c ρ' q => split at q <;> cases q
theorem cut_len {xs : List D} {vs : List V} {G : Hp} (h : DpAll K G vs xs) (lo hi : Option Int) : DpAll K G (cutV vs lo hi) (cutD xs lo hi) := by
  unfold cutV cutD
  rw [dpAll_len h]
  exact dpAll_take _ (dpAll_drop _ h)
theorem cut_whole (xs : List D) (lo hi : Option Int) (h : HT.sIx xs.length 0 lo = 0 ∧ HT.sIx xs.length xs.length hi = xs.length) : cutD xs lo hi = xs := by
  unfold cutD
  rw [h.1, h.2]
  simp
theorem sim_sl (h : SimE K P W te me) (h1 : SimO K P W tl ml) (h2 : SimO K P W th mh) : SimE K P W (tSl (rSl K) te tl th) (mSl me ml mh) := by
  intro f G H σ ρ Q hp rl hq
  refine h.op hp rl ?_
  unfold mSl at hq
  cases e : me ρ with
  | no => rw [e] at hq; exact hq
  | exc c ρ1 => rw [e] at hq; exact hq
  | ok r ρ1 =>
    rw [e] at hq
    simp only [Res.bind] at hq
    intro v G1 H1 s1 rl1 w1
    refine h1 f G1 H1 σ ρ1 _ hp rl1 ?_
    cases e1 : ml ρ1 with
    | no => rw [e1] at hq; exact hq
    | exc c ρ2 => rw [e1] at hq; exact fun G2 H2 s2 rl2 => hq G2 H2 (s1.trans s2) rl2
    | ok lo ρ2 =>
      rw [e1] at hq
      intro G2 H2 s2 rl2
      refine h2 f G2 H2 σ ρ2 _ hp rl2 ?_
      simp only at hq
      cases e2 : mh ρ2 with
      | no => rw [e2] at hq; exact hq
      | exc c ρ3 => rw [e2] at hq; exact fun G3 H3 s3 rl3 => hq G3 H3 ((s1.trans s2).trans s3) rl3
      | ok hi ρ3 =>
        rw [e2] at hq
        simp only at hq
        intro G3 H3 s3 rl3
        have w3 := (w1.same s2).same s3
        have s13 := (s1.trans s2).trans s3
        split at hq
        · next xs ex =>
          obtain ⟨a, vs, rfl, q1, q2⟩ := (w3.got rl3 ex).lst rl3.gh
          refine .inl ⟨a, vs, rfl, q1, fun p np => ?_⟩
          have gr := Grow.fresh (o := .lst (cutV vs lo hi)) rl3.gh np
          exact hq _ G3 _ s13 (rl3.grow gr) (NewV.vrep rl3 gr ⟨p, _, rfl, np, upd_same, cut_len q2 lo hi, rl3.gh.free np⟩)
        · next xs ex =>
          have w4 := w3.got rl3 ex
          obtain ⟨a, vs, rfl, q1, q2⟩ := w4.tup rl3.gh
          have hn := dpAll_len q2
          refine .inr ⟨a, vs, rfl, q1, fun hw => ?_, fun _ p np => ?_⟩
          · rw [hn] at hw
            rw [cut_whole xs lo hi hw] at hq
            rcases w4 with w4 | ⟨_, _, _, _, q, _⟩
            · exact hq _ G3 H3 s13 rl3 w4
            · cases q
          · have gr := Grow.data (o := .tup (cutV vs lo hi)) rl3.gh np
            exact hq _ _ _ (s13.trans gr.1) (rl3.grow gr) (dp_newT rl3.gh np (cut_len q2 lo hi))
        · exact hq.elim
end

/-! ### sorted(pairs of ints) -/
abbrev lexL (p q : Int × Int) : Prop := p.1 < q.1 ∨ (p.1 = q.1 ∧ p.2 ≤ q.2)
def rSortP (K : PySem.W.Frag) : List V → Hp → VK → Prop := fun vs H Q => ∃ (a : Addr) (L : List (V × Int × Int)), vs = [V.ref a] ∧ SqL K H a (L.map (·.1)) ∧ (∀ q ∈ L, ∃ t, q.1 = V.ref t ∧ SqT K H t [.int q.2.1, .int q.2.2]) ∧
  ∀ (M : List (V × Int × Int)) (p : Addr), M.Perm L → (M.map (·.2)).Pairwise lexL → H p = none → Q (.ref p) (upd H p (.lst (M.map (·.1))))
theorem isPair_one {h : Heap} {v : Value} {x y x' y' : Int} (p : Srt.IsPair h v x y) (q : Srt.IsPair h v x' y') : x = x' ∧ y = y' := by
  obtain ⟨a, o, t, u, n, rfl, h1, _, h3⟩ := p
  obtain ⟨a', o', t', u', n', e, h1', _, h3'⟩ := q
  cases e
  rw [h1] at h1'
  cases h1'
  rw [h3] at h3'
  injection h3' with e1 e2
  have := congrArg Array.toList e1
  simp only [List.cons.injEq, Value.int.injEq] at this
  exact ⟨this.1.1, this.2.1.1⟩
open Classical in
noncomputable def pairAt (h : Heap) (v : Value) : Int × Int := if q : ∃ p : Int × Int, Srt.IsPair h v p.1 p.2 then choose q else (0, 0)
theorem pairAt_eq {h : Heap} {v : Value} {p : Int × Int} (q : Srt.IsPair h v p.1 p.2) : pairAt h v = p := by
  have ex : ∃ p : Int × Int, Srt.IsPair h v p.1 p.2 := ⟨p, q⟩
  unfold pairAt
  rw [dif_pos ex]
  obtain ⟨h1, h2⟩ := isPair_one (Classical.choose_spec ex) q
  exact Prod.ext h1 h2
def valR : V → Value
  | .ref t => .ref t
  | _ => .none
theorem vals_valR : ∀ {L : List (V × Int × Int)} {its : List Value}, Vals (L.map (·.1)) its → (∀ q ∈ L, ∃ t, q.1 = V.ref t) → its = L.map fun q => valR q.1
  | [], _, .nil, _ => rfl
  | q :: L, u :: us, .cons r t, h => by
    obtain ⟨a, e⟩ := h q List.mem_cons_self
    have r : RelV q.1 u := r
    rw [e] at r
    have r : u = Value.ref a := r
    rw [List.map_cons, ← vals_valR t fun z hz => h z (List.mem_cons_of_mem _ hz), e, r]
    rfl
theorem zcr_sortP {X : Cx} : CallR X (.builtin "sorted") (rSortP X.K) := by
  intro pins s σ H vs us Q I r h
  obtain ⟨a, L, rfl, hs, hx, q⟩ := h
  obtain ⟨its, rv, hl, hz⟩ := I.list hs
  rw [Vals.ref1 r]
  have hr : ∀ q ∈ L, ∃ t, q.1 = V.ref t := fun q hq => by
    obtain ⟨t, e, _⟩ := hx q hq
    exact ⟨t, e⟩
  have ei := vals_valR rv hr
  have pr : ∀ q ∈ L, Srt.IsPair s.heap (valR q.1) q.2.1 q.2.2 := fun q hq => by
    obtain ⟨t, e, ht⟩ := hx q hq
    rw [e]
    obtain ⟨its2, r2, ⟨o, ho, hc, n, hd⟩, _⟩ := I.tuple ht
    obtain ⟨u1, u2, rfl, ri, rj⟩ := vals2 r2
    obtain ⟨t1, rfl⟩ := ri
    obtain ⟨t2, rfl⟩ := rj
    exact ⟨t, o, t1, t2, n, rfl, ho, hc, hd⟩
  have eL : its.map (fun u => (backV u, pairAt s.heap u)) = L := by
    rw [ei, List.map_map]
    refine (List.map_congr_left fun q hq => ?_).trans (List.map_id L)
    obtain ⟨t, e⟩ := hr q hq
    have e2 : pairAt s.heap (valR q.1) = q.2 := pairAt_eq (pr q hq)
    show (backV (valR q.1), pairAt s.heap (valR q.1)) = q
    rw [e2, e]
    show (V.ref t, q.2) = q
    rw [← e]
  refine SrtO.sorted_pairsO (k := pairAt s.heap) hl.isList (by rw [← rv.length]; exact hz) (fun v hv => ?_) fun h' d out h1 h2 kp hd hn => ?_
  · rw [ei] at hv
    obtain ⟨q, hq, rfl⟩ := List.mem_map.mp hv
    have p := pr q hq
    rw [pairAt_eq (p := q.2) p]
    exact p
  · obtain ⟨n, hn⟩ := hn
    have h3 : ∀ u ∈ out, ∃ a, u = Value.ref a := fun u hu => by
      have hm := h2.perm.mem_iff.mp hu
      rw [ei] at hm
      obtain ⟨q, hq, rfl⟩ := List.mem_map.mp hm
      obtain ⟨t, e⟩ := hr q hq
      exact ⟨t, by rw [e]; rfl⟩
    have pm : (out.map fun u => (backV u, pairAt s.heap u)).Perm L := by
      have := h2.perm.map fun u => (backV u, pairAt s.heap u)
      rw [eL] at this
      exact this
    have m1 : (out.map fun u => (backV u, pairAt s.heap u)).map (·.1) = out.map backV := by rw [List.map_map]; rfl
    have m2 : (out.map fun u => (backV u, pairAt s.heap u)).map (·.2) = out.map (pairAt s.heap) := by rw [List.map_map]; rfl
    have fin := q (out.map fun u => (backV u, pairAt s.heap u)) d pm (by
      rw [m2]
      refine List.pairwise_map.mpr (h1.imp fun {x y} z => ?_)
      have z := SrtO.lexB_no.mp z
      show (pairAt s.heap x).1 < (pairAt s.heap y).1 ∨ ((pairAt s.heap x).1 = (pairAt s.heap y).1 ∧ (pairAt s.heap x).2 ≤ (pairAt s.heap y).2)
      omega) (I.hok.fresh hd)
    rw [m1] at fin
    refine ⟨.ref d, upd H d (.lst (out.map backV)), I.laid (t' := s.toks) kp hd ⟨?_, out, n, vals_back h3, hn⟩, rfl, fin⟩
    have := pm.length_eq
    rw [List.length_map] at this
    rw [List.length_map, this]
    rw [List.length_map] at hz
    exact hz
theorem zsortP {K : PySem.W.Frag} {X : Cx} (hK : X.K = K := by rfl) : CallR X (.builtin "sorted") (rSortP K) := by subst hK; exact zcr_sortP
/-! by data -/
def pairD (p : Int × Int) : D := .tuple [.int p.1, .int p.2]
def pairsOf : List D → Option (List (Int × Int))
  | [] => some []
  | .tuple [.int i, .int j] :: ds => (match pairsOf ds with
    | some ps => some ((i, j) :: ps)
    | none => none)
  | _ => none
theorem pairsOf_map : ∀ ps : List (Int × Int), pairsOf (ps.map pairD) = some ps
  | [] => rfl
  | p :: ps => by
    show (match pairsOf (ps.map pairD) with
      | some ps => some ((p.1, p.2) :: ps)
      | none => none) = _
    rw [pairsOf_map ps]
theorem pairsOf_eq : ∀ {ds : List D} {ps : List (Int × Int)}, pairsOf ds = some ps → ds = ps.map pairD := by
  intro ds
  induction ds with
  | nil => intro ps h; cases h; rfl
  | cons d ds ih =>
    intro ps h
    unfold pairsOf at h
    split at h
    · next e => cases e
    · next i j ds' e =>
      cases e
      split at h
      · next qs eq =>
        cases h
        rw [ih eq]
        rfl
      · cases h
    · cases h
def insP (p : Int × Int) : List (Int × Int) → List (Int × Int)
  | [] => [p]
  | q :: qs => if p.1 < q.1 ∨ (p.1 = q.1 ∧ p.2 ≤ q.2) then p :: q :: qs else q :: insP p qs
def psort (ps : List (Int × Int)) : List (Int × Int) := ps.foldr insP []
theorem insP_perm (p : Int × Int) : ∀ qs : List (Int × Int), (insP p qs).Perm (p :: qs)
  | [] => .refl _
  | q :: qs => by
    unfold insP
    split
    · exact .refl _
    · exact ((insP_perm p qs).cons q).trans (.swap p q qs)
theorem psort_perm : ∀ ps : List (Int × Int), (psort ps).Perm ps
  | [] => .refl _
  | p :: ps => (insP_perm p (psort ps)).trans ((psort_perm ps).cons p)
theorem insP_up (p : Int × Int) : ∀ qs : List (Int × Int), qs.Pairwise lexL → (insP p qs).Pairwise lexL
  | [], _ => by simp [insP]
  | q :: qs, h => by
    unfold insP
    rw [List.pairwise_cons] at h
    split
    · next hk =>
      rw [List.pairwise_cons, List.pairwise_cons]
      refine ⟨fun y hy => ?_, h⟩
      rcases List.mem_cons.mp hy with e | hy
      · subst e; exact hk
      · have := h.1 y hy
        show p.1 < y.1 ∨ (p.1 = y.1 ∧ p.2 ≤ y.2)
        have this : q.1 < y.1 ∨ (q.1 = y.1 ∧ q.2 ≤ y.2) := this
        omega
    · next hk =>
      rw [List.pairwise_cons]
      refine ⟨fun y hy => ?_, insP_up p qs h.2⟩
      rcases List.mem_cons.mp ((insP_perm p qs).mem_iff.mp hy) with e | hy
      · subst e
        show q.1 < y.1 ∨ (q.1 = y.1 ∧ q.2 ≤ y.2)
        omega
      · exact h.1 y hy
theorem psort_up : ∀ ps : List (Int × Int), (psort ps).Pairwise lexL
  | [] => by simp [psort]
  | p :: ps => insP_up p _ (psort_up ps)
theorem lexL_one : ∀ {xs ys : List (Int × Int)}, xs.Pairwise lexL → ys.Pairwise lexL → xs.Perm ys → xs = ys := fun h1 h2 p => p.eq_of_pairwise (fun a b _ _ q1 q2 => by
  have q1 : a.1 < b.1 ∨ (a.1 = b.1 ∧ a.2 ≤ b.2) := q1
  have q2 : b.1 < a.1 ∨ (b.1 = a.1 ∧ b.2 ≤ a.2) := q2
  exact Prod.ext (by omega) (by omega)) h1 h2
theorem dp_pairs {K : PySem.W.Frag} {G : Hp} : ∀ {ps : List (Int × Int)} {vs : List V}, DpAll K G vs (ps.map pairD) → ∃ L : List (V × Int × Int), L.map (·.1) = vs ∧ L.map (·.2) = ps ∧ ∀ q ∈ L, Dp K G q.1 (pairD q.2)
  | [], _, h => by cases h; exact ⟨[], rfl, rfl, fun q hq => nomatch hq⟩
  | p :: ps, _, h => by
    cases h with
    | cons h1 h2 =>
      obtain ⟨L, e1, e2, e3⟩ := dp_pairs h2
      refine ⟨(_, p) :: L, by rw [List.map_cons, e1], by rw [List.map_cons, e2], fun q hq => ?_⟩
      rcases List.mem_cons.mp hq with e | hq
      · subst e; exact h1
      · exact e3 q hq
theorem dp_pairs' {K : PySem.W.Frag} {G : Hp} : ∀ (M : List (V × Int × Int)), (∀ q ∈ M, Dp K G q.1 (pairD q.2)) → DpAll K G (M.map (·.1)) ((M.map (·.2)).map pairD)
  | [], _ => .nil
  | q :: M, h => .cons (h q List.mem_cons_self) (dp_pairs' M fun z hz => h z (List.mem_cons_of_mem _ hz))
def cSortP : List D → Option R
  | [.list xs] => (match pairsOf xs with
    | some ps => some (.o ((psort ps).map pairD))
    | none => none)
  | _ => none
theorem s_sortP {K : PySem.W.Frag} : CallS K (rSortP K) cSortP := by
  intro G H xs ds z Q s h eg hq
  unfold cSortP at eg
  split at eg
  · next es =>
    split at eg
    · next ps ep =>
      cases eg
      cases h with
      | cons h1 h2 =>
        cases h2
        obtain ⟨a, vs, rfl, w1, w2⟩ := h1.lst s
        rw [pairsOf_eq ep] at w2
        obtain ⟨L, e1, e2, e3⟩ := dp_pairs w2
        rw [← e1] at w1
        refine ⟨a, L, rfl, w1, fun q hq => ?_, fun M p pm up np => ?_⟩
        · obtain ⟨t, us, et, w3, w4⟩ := dp_tup (e3 q hq)
          cases w4 with
          | cons w5 w6 =>
            cases w6 with
            | cons w7 w8 =>
              cases w8
              rw [dp_int w5, dp_int w7] at w3
              exact ⟨t, et, sqT_same s w3⟩
        · have em : M.map (·.2) = psort ps := lexL_one up (psort_up ps) (((pm.map (·.2)).trans (by rw [e2])).trans (psort_perm ps).symm)
          refine hq _ G _ (Grow.fresh s np) ⟨p, _, rfl, np, upd_same, ?_, s.free np⟩
          rw [← em]
          exact dp_pairs' M fun q hq => e3 q (pm.mem_iff.mp hq)
    · cases eg
  · cases eg
end Z
namespace Z
open PySem PySem.Spec PyProof.Rows L2

theorem huH {A : Around} {k : Nat} (hr : L2H.RoomH k A) : A.units + 64 < cLine := by have := hr.un; omega
theorem takes0 {X : Cx} : L2N.Takes X (fun _ _ _ _ => False) := fun _ _ ⟨_, _, _, _, _, _, _, _, _, _, _, _, _, _, _, _, w⟩ => w.elim
theorem pss_when {X : Cx} {sts : List Stmt} {t : TS} {p : Prop} (h : p → PSs X sts t) : PSs X sts (fun D σ H => p ∧ t D σ H) :=
  ⟨fun pins s σ H D I q => (h q.1).run pins s σ H D I q.2⟩
def tClsN (cl : Nat → Addr) (hd : Nat → Option D) (i : Nat) (a : Addr) (cls : Value) (d : Option Addr) : TS := fun D σ H => d = none ∧ tCls cl hd i a cls D σ H
theorem sim_tryN {K : PySem.W.Frag} {P : Nat} {W : Wish} {cl : Nat → Addr} {hd : Nat → Option D} {cS : Value} {i : Nat} {tb : WX → TS} {mb : Env → Out} {Wout : WX} (hb : ∀ Wx : WX, SimS K P (fun σ c H => Wx (.ref (cl c)) none σ H) (tb Wx) mb)
    (hcl : ∀ c x, hd c = some x → flatD x = true ∧ PySem.W.exmOne K (.ref (cl c)) cS = some true) :
    SimS K P W (fun D σ H => tb (L2.wAs K cS i (tClsN cl hd i) Wout D) D σ H) (mTry i mb hd) := by
  intro f G H σ ρ D hp rl hq
  refine hb (L2.wAs K cS i (tClsN cl hd i) Wout D) f G H σ ρ D hp rl ?_
  unfold mTry at hq
  cases e : mb ρ with
  | no => rw [e] at hq; exact hq
  | nx _ => rw [e] at hq; exact hq
  | rt _ _ => rw [e] at hq; exact hq
  | bk _ => rw [e] at hq; exact hq
  | ct _ => rw [e] at hq; exact hq
  | exc c ρ1 =>
    rw [e] at hq
    simp only at hq
    split at hq
    · next x ex =>
      split at hq
      · next hil =>
        obtain ⟨h1, h2⟩ := hcl c x ex
        intro G1 H1 σ1 s1 rl1
        refine ⟨true, h2, fun _ a na => ⟨rfl, ?_, c, x, rfl, ex, h1, fun v H2 sm hv => ?_⟩, fun z => nomatch z⟩
        · exact List.getElem?_set_self (by rw [rl1.len]; exact hil)
        · exact hq v G1 H2 σ1 s1 (rl1.grow ⟨.refl _, sm, rl1.gh.trans sm, fun b z => .inl z⟩) hv.dp
      · exact hq.elim
    · exact hq.elim

/-! ### own error classes -/
structure ClsF (K : PySem.W.Frag) (C : Addr) : Prop where
  x : ExcC K C
  ty : PySem.W.typeIn K (.ref C) = some (.type "type")
  me : PySem.W.subIn K (.ref C) (.ref C) = some true
theorem kit_ref {K : PySem.W.Frag} {A C : Addr} {v : Bool} (hA : ClsF K A) (hC : ClsF K C) (h : PySem.W.subIn K (.ref A) (.ref C) = some v) : PySem.W.kitOne K (.ref A) (.ref C) = some v := by
  unfold PySem.W.kitOne
  by_cases e : A = C
  · subst e
    rw [hA.me] at h
    cases h
    simp
  · have ne : ((Value.ref A) == (Value.ref C)) = false := by
      refine beq_eq_false_iff_ne.mpr fun z => e ?_
      cases z
      rfl
    rw [ne]
    unfold PySem.W.kitCls
    have h1 : (PySem.W.clsIn K C).isSome = true := by
      have := hC.x.hd
      unfold PySem.W.hasDictIn at this
      cases q : PySem.W.clsIn K C with
      | none => rw [q] at this; cases this
      | some _ => rfl
    simp [h1, hC.ty, h]
theorem kit_val {K : PySem.W.Frag} {A : Addr} {v : Bool} (h : PySem.W.subIn K (.ref A) (.type "ValueError") = some v) : PySem.W.kitOne K (.ref A) (.type "ValueError") = some v := by
  unfold PySem.W.kitOne
  have ne : ((Value.ref A) == (Value.type "ValueError")) = false := rfl
  rw [ne]
  have hm : PySem.W.kitMeta "ValueError" = true := by decide +kernel
  unfold PySem.W.kitCls
  simp [hm, h]
theorem exm_ref {K : PySem.W.Frag} {A C : Addr} {v : Bool} (hC : ClsF K C) (h : PySem.W.subIn K (.ref A) (.ref C) = some v) : PySem.W.exmOne K (.ref A) (.ref C) = some v := by
  unfold PySem.W.exmOne
  rw [hC.x.hs]
  have h1 : (PySem.W.clsIn K C).isSome = true := by
    have := hC.x.hd
    unfold PySem.W.hasDictIn at this
    cases q : PySem.W.clsIn K C with
    | none => rw [q] at this; cases this
    | some _ => rfl
  unfold PySem.W.kitCls
  simp [h1, hC.ty, h]

/-! ### list.count of flat things -/
theorem countP_eqU {y : V} : ∀ {xs : List V} {us : List Value}, Vals xs us → xs.all flatV = true → us.countP (eqU y) = xs.countP fun x => eqV x y
  | _, _, .nil, _ => rfl
  | x :: xs, u :: us, .cons r t, f => by
    rw [List.all_cons, Bool.and_eq_true] at f
    rw [List.countP_cons, List.countP_cons, countP_eqU t f.2, eqU_of r f.1]
def rCntF (K : PySem.W.Frag) : V → List V → Hp → VK → Prop := fun x xs H Q => ∃ (p : Addr) (ys : List V) (y : V), x = .ref p ∧ xs = [y] ∧ SqL K H p ys ∧ flatV y = true ∧ ys.all flatV = true ∧ Q (.int ((ys.countP fun x => eqV x y : Nat) : Int)) H
theorem mt_countF {X : Cx} : MtR X "list.count" (rCntF X.K) := by
  intro pins s σ H x xs v us Q I rx rxs h
  obtain ⟨p, ys, y, rfl, rfl, hs, fy, fys, q⟩ := h
  cases rx
  cases rxs with
  | cons ry rt =>
    rename_i uy ut
    cases rt
    obtain ⟨its, rv, ⟨⟨cls, dd, data, sl⟩, n, ho, hc, hdn, hd⟩, hlen⟩ := I.list hs
    simp only at hc hd
    subst hc hd
    refine call_meets PySem.F.slot_list_count ⟨_, ho, rfl⟩ PySem.F.entry_list_count (PySem.F.args_list_count_2 _ _)
      (SeqAt.list_countAt p its.toArray n dd sl uy (eqU y)) ⟨ho, fun u' hu' => mem_eqAt ry fy rv fys u' (by simpa using hu'), ?_⟩
    refine ⟨.int ((ys.countP fun x => eqV x y : Nat) : Int), H, I.tok _, ⟨s.toks, ?_⟩, q⟩
    show Value.int ((its.toArray.toList.countP (eqU y) : Nat) : Int) s.toks = _
    rw [← countP_eqU rv fys]
/-! ### the row of isinstance's -/
def tK (K : PySem.W.Frag) (Ce a : Addr) : List Addr → TA
  | [] => tNil
  | C :: Cs => tCons (tCB (rIsE K Ce a) (tCons (tVar 0) (tCons (tC (.ref C)) tNil))) (tK K Ce a Cs)
theorem tK_run {K : PySem.W.Frag} {Ce a : Addr} {σ : L2.St} {H : Hp} (hσ : σ[0]? = some (some (V.ref a))) : ∀ {Cs : List Addr} {bs : List Bool}, Cs.length = bs.length → (∀ p ∈ Cs.zip bs, PySem.W.kitOne K (.ref Ce) (.ref p.1) = some p.2) → ∀ {Q : List V → Hp → Prop}, Q (bs.map V.bl) H → tK K Ce a Cs σ H Q
  | [], [], _, _, Q, q => q
  | C :: Cs, b :: bs, hl, h, Q, q => by
    refine ⟨V.ref a, hσ, ?_⟩
    refine ⟨V.ref C, .ref C, b, rfl, fun u hu => hu, h (C, b) (by simp), ?_⟩
    exact tK_run hσ (Cs := Cs) (bs := bs) (by simpa using hl) (fun p hp => h p (by rw [List.zip_cons_cons]; exact List.mem_cons_of_mem _ hp)) q
end Z
namespace Z
open PySem PySem.Spec PyProof.Rows L2 L2H
theorem iteF {α β : Prop} (h : β) : if false = true then α else β := by rw [if_neg Bool.false_ne_true]; exact h
def tStrs : List Str → TA
  | [] => tNil
  | x :: xs => tCons (tC (.str x)) (tStrs xs)
theorem tStrs_run {σ : L2.St} {H : Hp} : ∀ {xs : List Str} {Q : List V → Hp → Prop}, Q (xs.map V.str) H → tStrs xs σ H Q
  | [], _, q => q
  | x :: xs, Q, q => tStrs_run (xs := xs) (Q := fun vs H1 => Q (V.str x :: vs) H1) q
def clsT (K : PySem.W.Frag) (Ce a : Addr) (Cs : List Addr) (names : List Str) (other : Str) : TS :=
  tSeq (tAsg (tLst (tK K Ce a Cs)) (gName 1)) (tSeq (tIfS (tOr (tTest (tOp (rNeD K) (tBM K "list" (rCntF K) (tVar 1) (tCons (tC (.bl true)) tNil)) (tC (.int 1)))) (tNot (zTru K (tCB (rIsE K Ce a) (tCons (tVar 0) (tCons (tC (.ty "ValueError")) tNil)))))) (tRet (tC (.str other))) tNext)
    (tRet (tOp (rIx K) (tLst (tStrs names)) (tBM K "list" (rIndex K) (tVar 1) (tCons (tC (.bl true)) tNil)))))
theorem all_flat : ∀ bs : List Bool, (bs.map V.bl).all flatV = true
  | [] => rfl
  | b :: bs => by rw [List.map_cons, List.all_cons, all_flat bs]; rfl
theorem clsTail {K : PySem.W.Frag} {Ce a : Addr} {Cs : List Addr} {names : List Str} {other x : Str} {bs : List Bool} {j : Nat} {σ : L2.St} {H : Hp} {Q : VK} (hσ : σ[0]? = some (some (V.ref a))) (h1 : 1 < σ.length)
    (hl : Cs.length = bs.length) (hk : ∀ p ∈ Cs.zip bs, PySem.W.kitOne K (.ref Ce) (.ref p.1) = some p.2) (hv : PySem.W.kitOne K (.ref Ce) (.type "ValueError") = some true)
    (hb : bs.length ≤ 100) (hn : names.length ≤ 100) (hc : ((bs.map V.bl).countP fun x => eqV x (.bl true)) = 1) (hj : bs[j]? = some true) (hm : ∀ (m : Nat) (b : Bool), m < j → bs[m]? = some b → b = false) (hx : names[j]? = some x)
    (hq : ∀ v H', Same H H' → CV v (.str x) → Q v H') : clsT K Ce a Cs names other { nx := fun _ H' => Q .non H', rt := Q } σ H := by
  refine tK_run hσ hl hk ⟨line1000 (by rw [List.length_map]; omega), fun p np => ?_⟩
  have hs0 : (σ.set 1 (some (V.ref p)))[0]? = some (some (V.ref a)) := by rw [List.getElem?_set_ne (by decide)]; exact hσ
  have hs1 : (σ.set 1 (some (V.ref p)))[1]? = some (some (V.ref p)) := List.getElem?_set_self h1
  have hp : SqL K (upd H p (.lst (bs.map V.bl))) p (bs.map V.bl) := .inl (.inl upd_same)
  refine ⟨_, hs1, .inl ⟨rfl, _, hp⟩, ?_⟩
  refine ⟨p, _, .bl true, rfl, rfl, hp, rfl, all_flat bs, ?_⟩
  rw [hc]
  refine ⟨.int 1, .int 1, .int _, .int _, rfl, rfl, false, rfl, ?_⟩
  refine iteF ?_
  refine ⟨_, hs0, ?_⟩
  refine ⟨.ty "ValueError", .type "ValueError", true, rfl, fun u h => h, hv, true, rfl, ?_⟩
  refine iteF ?_
  refine tStrs_run (xs := names) ⟨line1000 (by rw [List.length_map]; omega), fun p2 np2 => ?_⟩
  have ne : p ≠ p2 := fun e => by
    subst e
    rw [upd_same] at np2
    cases np2
  have hp2 : SqL K (upd (upd H p (.lst (bs.map V.bl))) p2 (.lst (names.map V.str))) p (bs.map V.bl) := .inl (.inl (by rw [upd_ne ne]; exact upd_same))
  refine ⟨_, hs1, .inl ⟨rfl, _, hp2⟩, ?_⟩
  refine ⟨p, _, .bl true, j, .bl true, rfl, rfl, hp2, rfl, all_flat bs, by rw [List.getElem?_map, hj]; rfl, rfl, fun m z hmj hz => ?_, ?_⟩
  · rw [List.getElem?_map] at hz
    cases e : bs[m]? with
    | none => rw [e] at hz; cases hz
    | some b =>
      rw [e] at hz
      cases hz
      rw [hm m b hmj e]
      rfl
  · refine .inl ⟨p2, names.map V.str, j, .str x, rfl, rfl, .inl (.inl upd_same), ?_, ?_⟩
    · rw [atI_nn _ _ (by omega), List.getElem?_map]
      rw [show ((j : Nat) : Int).toNat = j by omega, hx]
      rfl
    · exact hq _ _ ((same_new np).trans (same_new np2)) (.str x)
theorem hm_of {bs : List Bool} {j : Nat} (h : (bs.take j).all (fun b => !b) = true) (m : Nat) (b : Bool) (hm : m < j) (e : bs[m]? = some b) : b = false := by
  have q : (bs.take j)[m]? = some b := by rw [List.getElem?_take, if_pos hm]; exact e
  have := List.all_eq_true.mp h b (List.mem_of_getElem? q)
  simpa using this
theorem zc0 {K : PySem.W.Frag} {Ce : Addr} : ∀ p ∈ ([] : List Addr).zip ([] : List Bool), PySem.W.kitOne K (.ref Ce) (.ref p.1) = some p.2 := fun p h => nomatch h
theorem zc1 {K : PySem.W.Frag} {Ce C : Addr} {b : Bool} {Cs : List Addr} {bs : List Bool} (h : PySem.W.kitOne K (.ref Ce) (.ref C) = some b) (t : ∀ p ∈ Cs.zip bs, PySem.W.kitOne K (.ref Ce) (.ref p.1) = some p.2) : ∀ p ∈ (C :: Cs).zip (b :: bs), PySem.W.kitOne K (.ref Ce) (.ref p.1) = some p.2 := fun p hp => by
  rw [List.zip_cons_cons] at hp
  rcases List.mem_cons.mp hp with e | hp
  · subst e; exact h
  · exact t p hp
def zsuT (cl : Nat → Addr) (hd : Nat → Option D) (i : Nat) (a : Addr) (cls : Value) : TE := fun σ H Q => σ[i]? = some (some (.ref a)) ∧ ∃ c y, cls = .ref (cl c) ∧ hd c = some y ∧ flatD y = true ∧ ∀ v H', Same H H' → CV v y → Q v H'
end Z
set_option maxHeartbeats 4000000
namespace Z
open PySem L2 PySem.Spec PyProof.Rows
/-! ### tuple * 1, tuple * 0 -/
theorem tuple_mul1 (l : Addr) (items : Array Value) (n : Nat) (dd : Option Addr) (sl : Array (Option Value)) (u : Tok) :
    Meets (Builtin.«tuple.__mul__» ⟨[.ref l, .int 1 u], []⟩) (fun _ R s => s.heap.get? l = some { cls := .type "tuple", dict := dd, data := .seq items n, slots := sl } ∧ R (.ok (.ret (Value.ref l))) s) :=
  .of_wp fun prog w A R s h => by
    obtain ⟨hp, g, d, tk, os⟩ := s
    obtain ⟨hl, h⟩ := h
    have f1 := AutoSeq1.idx_int
    have c1 : (items.isEmpty || (1 : Int) == 1) = true := by rw [Bool.or_eq_true]; exact .inr rfl
    wp_walk using wpAny_loadPart' hl
    exact ⟨_, rfl, h⟩
theorem tuple_mul0 (l : Addr) (items : Array Value) (n : Nat) (dd : Option Addr) (sl : Array (Option Value)) (u : Tok) (c1 : (items.isEmpty || (0 : Int) == 1) = false) :
    Meets (Builtin.«tuple.__mul__» ⟨[.ref l, .int 0 u], []⟩) (fun _ R s => s.heap.get? l = some { cls := .type "tuple", dict := dd, data := .seq items n, slots := sl } ∧
      R (.ok (.ret (Value.ref s.heap.objs.size))) { s with heap := s.heap.push { cls := Value.type "tuple", data := Data.seq #[] }, toks := s.toks }) :=
  .of_wp fun prog w A R s h => by
    obtain ⟨hp, g, d, tk, os⟩ := s
    obtain ⟨hl, h⟩ := h
    have f1 := AutoSeq1.idx_int
    wp_walk using wpAny_loadPart' hl
    repeat (first
      | (refine wpAny_ite_false (decide_eq_false (by rw [c1]; exact Bool.false_ne_true)) ?_; wp_walk using wpAny_loadPart' hl))
    exact ⟨_, rfl, h⟩
def rRepT1 (K : PySem.W.Frag) : R2 := fun x y H Q => ∃ l xs, x = .ref l ∧ y = .int 1 ∧ SqT K H l xs ∧ Q (.ref l) H
def rRepT0 (K : PySem.W.Frag) : R2 := fun x y H Q => ∃ l xs, x = .ref l ∧ y = .int 0 ∧ SqT K H l xs ∧ xs ≠ [] ∧ ∀ p, H p = none → Q (.ref p) (upd H p (.tup []))
section
variable {X : Cx}
theorem op_repT1 : OpR X (binaryOp .Mult) (rRepT1 X.K) := by
  intro pins s σ H x y v u Q I rx ry h
  obtain ⟨l, xs, rfl, rfl, hT, q⟩ := h
  cases rx
  obtain ⟨t, rfl⟩ := ry
  obtain ⟨its, r, ⟨⟨cls, dd, data, sl⟩, ho, hc, n, hd⟩, hs⟩ := I.tuple hT
  simp only at hc hd
  subst hc hd
  refine wpAny_binaryOp_repeat_ref (T := "tuple") (U := "int") (by decide) ⟨_, ho, rfl⟩ (fun s' => typeIs_int s' 1 t) noFill_tuple_mul F.fills_int_mul F.slot_int_rmul repeat_tuple F.slot_int_index.lookup
    (call_meets F.slot_int_rmul (typeIs_int s 1 t) F.entry_int_rmul (F.args_int_rmul_2 _ _) (int_rmul_tuple 1 t l its.toArray n dd sl)
      ⟨ho, rfl, ⟨_, ho, rfl⟩, call_meets F.slot_tuple_mul ⟨_, ho, rfl⟩ F.entry_tuple_mul (F.args_tuple_mul_2 _ _) (tuple_mul1 l its.toArray n dd sl t) ⟨ho, ?_⟩⟩)
  exact ⟨.ref l, H, I, rfl, q⟩
theorem op_repT0 : OpR X (binaryOp .Mult) (rRepT0 X.K) := by
  intro pins s σ H x y v u Q I rx ry h
  obtain ⟨l, xs, rfl, rfl, hT, hne, q⟩ := h
  cases rx
  obtain ⟨t, rfl⟩ := ry
  obtain ⟨its, r, ⟨⟨cls, dd, data, sl⟩, ho, hc, n, hd⟩, hs⟩ := I.tuple hT
  simp only at hc hd
  subst hc hd
  have hle : its.length = xs.length := r.length.symm
  have hn : its ≠ [] := fun e => hne (by
    rw [e] at hle
    exact List.eq_nil_of_length_eq_zero hle.symm)
  have c1 : (its.toArray.isEmpty || (0 : Int) == 1) = false := by
    cases its with
    | nil => exact absurd rfl hn
    | cons a b => rfl
  refine wpAny_binaryOp_repeat_ref (T := "tuple") (U := "int") (by decide) ⟨_, ho, rfl⟩ (fun s' => typeIs_int s' 0 t) noFill_tuple_mul F.fills_int_mul F.slot_int_rmul repeat_tuple F.slot_int_index.lookup
    (call_meets F.slot_int_rmul (typeIs_int s 0 t) F.entry_int_rmul (F.args_int_rmul_2 _ _) (int_rmul_tuple 0 t l its.toArray n dd sl)
      ⟨ho, rfl, ⟨_, ho, rfl⟩, call_meets F.slot_tuple_mul ⟨_, ho, rfl⟩ F.entry_tuple_mul (F.args_tuple_mul_2 _ _) (tuple_mul0 l its.toArray n dd sl t c1) ⟨ho, ?_⟩⟩)
  refine ⟨.ref s.heap.objs.size, _, I.laid (t' := s.toks) (o := .tup []) (fun b ob q => Heap.get?_push_of_some _ q) (Nat.le_refl _) ?_, rfl, q _ (I.hok.fresh (Nat.le_refl _))⟩
  exact ⟨Nat.zero_le _, [], .nil, IsTup.new _ _⟩
end
section
variable {K : PySem.W.Frag}
theorem zrepT1 {X : Cx} (hK : X.K = K := by rfl) : OpR X (binaryOp .Mult) (rRepT1 K) := by subst hK; exact op_repT1
theorem zrepT0 {X : Cx} (hK : X.K = K := by rfl) : OpR X (binaryOp .Mult) (rRepT0 K) := by subst hK; exact op_repT0
theorem zrepA {X : Cx} (hK : X.K = K := by rfl) : OpR X (binaryOp .Mult) (rAlt (rRepT K) (rAlt (rRepT1 K) (rRepT0 K))) := zalt (zrepT hK) (zalt (zrepT1 hK) (zrepT0 hK))
def gRepT1 : D → D → Option R
  | .tuple xs, .int k => if k = 1 then some (.d (.tuple xs)) else none
  | _, _ => none
def gRepT0 : D → D → Option R
  | .tuple xs, .int k => if k = 0 ∧ xs ≠ [] then some (.d (.tuple [])) else none
  | _, _ => none
theorem s_repT1 : OpS K (rRepT1 K) gRepT1 := by
  intro G H x y d e z Q s h1 h2 eg hq
  unfold gRepT1 at eg
  split at eg
  · next xs k =>
    split at eg
    · next hl =>
      cases eg
      subst hl
      obtain ⟨a, vs, rfl, w1, w2⟩ := h1.tup s
      refine ⟨a, vs, rfl, h2.int, w1, hq _ G H (.refl s) ?_⟩
      rcases h1 with h1 | ⟨_, _, _, _, q, _⟩
      · exact h1
      · cases q
    · cases eg
  · cases eg
theorem s_repT0 : OpS K (rRepT0 K) gRepT0 := by
  intro G H x y d e z Q s h1 h2 eg hq
  unfold gRepT0 at eg
  split at eg
  · next xs k =>
    split at eg
    · next hl =>
      cases eg
      obtain ⟨rfl, hl⟩ := hl
      obtain ⟨a, vs, rfl, w1, w2⟩ := h1.tup s
      have hn := dpAll_len w2
      refine ⟨a, vs, rfl, h2.int, w1, fun e => ?_, fun p np => hq _ _ _ (Grow.data s np) (dp_newT s np .nil)⟩
      subst e
      exact hl (List.eq_nil_of_length_eq_zero hn.symm)
    · cases eg
  · cases eg
def gRepA : D → D → Option R := gAlt gRepT (gAlt gRepT1 gRepT0)
theorem s_repA : OpS K (rAlt (rRepT K) (rAlt (rRepT1 K) (rRepT0 K))) gRepA := s_alt s_repT (s_alt s_repT1 s_repT0)
theorem gRepA_1 (x : D) (n : Nat) (h : n ≤ 1000) : gRepA (.tuple [x]) (.int n) = some (.d (.tuple (List.replicate n x))) := by
  have fl : ∀ m : Nat, (List.replicate m [x]).flatten = List.replicate m x := fun m => by
    induction m with
    | zero => rfl
    | succ m ih => rw [List.replicate_succ, List.flatten_cons, ih]; rfl
  unfold gRepA
  by_cases h2 : 2 ≤ n
  · refine gAlt_l ?_
    unfold gRepT
    simp only []
    rw [if_pos ⟨by simp, by omega, by omega, by simp⟩, show ((n : Nat) : Int).toNat = n by omega, fl]
  · have e0 : gRepT (.tuple [x]) (.int n) = none := by
      unfold gRepT
      simp only []
      rw [if_neg (by omega)]
    rw [gAlt_r e0]
    have : n = 0 ∨ n = 1 := by omega
    rcases this with rfl | rfl
    · rw [gAlt_r (by rfl)]; rfl
    · exact gAlt_l (by rfl)
end
/-! ### list(range(..)), tuple(range(..)) -/
def rgD (a b : Int) : List D := (List.range (b - a).toNat).map fun i => PyData.int (a + (i : Nat))
theorem dpAll_rg {K : PySem.W.Frag} {H : Hp} (a b : Int) : DpAll K H (rgV a b) (rgD a b) := by
  have e1 : rgV a b = ((List.range (b - a).toNat).map fun i => (a + (i : Nat) : Int)).map V.int := by unfold rgV; rw [List.map_map]; rfl
  have e2 : rgD a b = ((List.range (b - a).toNat).map fun i => (a + (i : Nat) : Int)).map PyData.int := by unfold rgD; rw [List.map_map]; rfl
  rw [e1, e2]
  exact dpAll_ofInts _
def mRgE (tup : Bool) (ma : Env → Res (List R)) : Env → Res R := fun ρ => (ma ρ).bind fun rs ρ1 => match rs with
  | [.d (.int j)] => if -1000000 ≤ j ∧ j ≤ 1000000 then .ok (if tup = true then .d (.tuple (rgD 0 j)) else .o (rgD 0 j)) ρ1 else .no
  | _ => .no
theorem rgOk {j : Int} (h : -1000000 ≤ j ∧ j ≤ 1000000) : RgOk 0 j := ⟨by omega, by omega, by omega, by omega, by omega⟩
section
variable {K : PySem.W.Frag} {P : Nat} {W : Wish} {te : TE} {me : Env → Res R} {ms : Env → Res (List R)}
theorem sim_lstRg (h : SimE K P W te me) : SimE K P W (tLstRg (tRg1 te)) (mRgE false (mCons me mNil)) := by
  intro f G H σ ρ Q hp rl hq
  refine h.op hp rl ?_
  unfold mRgE mCons mNil at hq
  cases e : me ρ with
  | no => rw [e] at hq; exact hq
  | exc c ρ1 => rw [e] at hq; exact hq
  | ok r ρ1 =>
    rw [e] at hq
    intro v G1 H1 s1 rl1 h1
    simp only [Res.bind] at hq
    split at hq
    · next rs j er =>
      cases er
      split at hq
      · next hj =>
        have ev := dp_int h1
        subst ev
        refine ⟨j, rfl, rgOk hj, fun q nq => ?_⟩
        have gr := Grow.fresh (o := .lst (rgV 0 j)) rl1.gh nq
        refine hq _ G1 _ s1 (rl1.grow gr) (NewV.vrep (r := .o (rgD 0 j)) rl1 gr ⟨q, rgV 0 j, rfl, nq, upd_same, dpAll_rg 0 j, rl1.gh.free nq⟩)
      · exact hq.elim
    · exact hq.elim
theorem sim_tupRg (h : SimE K P W te me) : SimE K P W (tTupRg (tRg1 te)) (mRgE true (mCons me mNil)) := by
  intro f G H σ ρ Q hp rl hq
  refine h.op hp rl ?_
  unfold mRgE mCons mNil at hq
  cases e : me ρ with
  | no => rw [e] at hq; exact hq
  | exc c ρ1 => rw [e] at hq; exact hq
  | ok r ρ1 =>
    rw [e] at hq
    intro v G1 H1 s1 rl1 h1
    simp only [Res.bind] at hq
    split at hq
    · next rs j er =>
      cases er
      split at hq
      · next hj =>
        have ev := dp_int h1
        subst ev
        refine ⟨j, rfl, rgOk hj, fun q nq => ?_⟩
        have gr := Grow.data (o := .tup (rgV 0 j)) rl1.gh nq
        exact hq _ _ _ (s1.trans gr.1) (rl1.grow gr) (dp_newT rl1.gh nq (dpAll_rg 0 j))
      · exact hq.elim
    · exact hq.elim
end
end Z
namespace Z
open PySem PySem.Spec PyProof.Rows L2

/-! ### sources whose walk leans on nothing that may change -/
def CIA (K : PySem.W.Frag) (W : Wish) (f : Fx) (G : Hp) (σ : L2.St) (Q : It → Hp → Prop) : Res (List D) → Prop
  | .no => False
  | .ok ds ρ => ∀ J G' H', Same G G' → Rel K f G' H' σ ρ → (∀ F, Walk K F G' J ds) → Q J H'
  | .exc c ρ => ∀ G' H', Same G G' → Rel K f G' H' σ ρ → W σ c H'
def SimIA (K : PySem.W.Frag) (P : Nat) (W : Wish) (wi : TI) (m : Env → Res (List D)) : Prop := ∀ (f : Fx) (G H : Hp) (σ : L2.St) (ρ : Env) (Q : It → Hp → Prop), f.pins.length = P → Rel K f G H σ ρ → CIA K W f G σ Q (m ρ) → wi σ H Q
section
variable {K : PySem.W.Frag} {P : Nat} {W : Wish} {te : TE} {me : Env → Res R} {ta : TA} {ma : Env → Res (List R)}
theorem simA_iter (h : SimE K P W te me) : SimIA K P W (iSeq K te) (mIter P me) := by
  intro f G H σ ρ Q hp rl hq
  refine h.op hp rl ?_
  unfold mIter at hq
  cases e : me ρ with
  | no => rw [e] at hq; exact hq
  | exc c ρ1 => rw [e] at hq; exact hq
  | ok r ρ1 =>
    rw [e] at hq
    intro v G1 H1 s1 rl1 h1
    simp only [Res.bind] at hq
    split at hq
    · next ρ2 e2 =>
      obtain ⟨G2, s2, rl2⟩ := rl1.frz1 hp e2
      split at hq
      · next ds e3 =>
        obtain ⟨a, xs, rfl, q1, q2⟩ := dp_lst ((h1.same s2).dat rl2 e3)
        exact ⟨a, rfl, .inl ⟨⟨xs, rl2.gh.seq q1⟩, hq _ G2 H1 (s1.trans s2) rl2 fun F => walk_list q1 q2⟩⟩
      · next ds e3 =>
        obtain ⟨a, xs, rfl, q1, q2⟩ := dp_tup ((h1.same s2).dat rl2 e3)
        exact ⟨a, rfl, .inr ⟨⟨xs, sqT_same rl2.gh q1⟩, hq _ G2 H1 (s1.trans s2) rl2 fun F => walk_tup q1 q2⟩⟩
      · exact hq.elim
    · exact hq.elim
theorem simA_rng1 (h : SimA K P W ta ma) : SimIA K P W (iRng1 ta) (mRng1 ma) := by
  intro f G H σ ρ Q hp rl hq
  refine h f G H σ ρ _ hp rl ?_
  unfold mRng1 at hq
  cases e : ma ρ with
  | no => rw [e] at hq; exact hq
  | exc c ρ1 => rw [e] at hq; exact hq
  | ok rs ρ1 =>
    rw [e] at hq
    intro vs G1 H1 s1 rl1 h1
    simp only [Res.bind] at hq
    split at hq
    · next j =>
      split at hq
      · next hj =>
        cases h1 with
        | cons a1 a2 =>
          cases a2
          have ev := dp_int a1
          subst ev
          refine ⟨j, rfl, by have := hj.1; unfold big62 at this; omega, by have := hj.2; unfold big62 at this; omega, hq _ G1 H1 s1 rl1 fun F => ?_⟩
          have := walk_rng (K := K) (F := F) (G := G1) (lo := 0) (n := j.toNat)
          simp only [Int.zero_add] at this
          exact this
      · exact hq.elim
    · exact hq.elim
end

/-! ### [elt for .. in .. for .. in ..] by data -/
def lcL2 (P : Nat) (b : D → Env → Option Env) (mt : Env → Res Bool) (ml : Env → Res (List D)) (b1 : D → Env → Option Env) (mt1 : Env → Res Bool) (me : Env → Res R) (vs vs1 : List Nat) : List D → List D → Env → Res (List D)
  | [], acc, ρ => .ok acc ρ
  | d :: ds, acc, ρ => match b d ρ with
    | none => .no
    | some ρ1 => (match mt ρ1 with
      | .ok true ρ2 => (match ml ρ2 with
        | .ok es ρ3 => (match lcL P b1 mt1 me vs1 es acc (wipeE ρ3 vs1) with
          | .ok acc' ρ4 => lcL2 P b mt ml b1 mt1 me vs vs1 ds acc' (wipeE ρ4 vs)
          | _ => .no)
        | _ => .no)
      | .ok false ρ2 => lcL2 P b mt ml b1 mt1 me vs vs1 ds acc (wipeE ρ2 vs)
      | _ => .no)
def mLc2 (P : Nat) (mi : Env → Res (List D)) (b : D → Env → Option Env) (mt : Env → Res Bool) (ml : Env → Res (List D)) (b1 : D → Env → Option Env) (mt1 : Env → Res Bool) (me : Env → Res R) (vs vs1 : List Nat) : Env → Res R := fun ρ => (mi ρ).bind fun ds ρ1 =>
  match lcL2 P b mt ml b1 mt1 me vs vs1 ds [] (wipeE ρ1 vs) with
  | .ok acc ρw => .ok (.o acc) (back ρ1 vs ρw)
  | _ => .no
section
variable {K : PySem.W.Frag} {P : Nat} {W : Wish} {g g1 : TG} {b b1 : D → Env → Option Env} {ts ts1 vs vs1 : List Nat} {tt tt1 : TT} {mt mt1 : Env → Res Bool} {te : TE} {me : Env → Res R} {wi1 : TI} {ml : Env → Res (List D)}
theorem lcI_go (hg : SimG K P g1 b1 ts1) (ht : SimT K P W tt1 mt1) (he : SimE K P W te me) (hts : ∀ i ∈ ts1, i ∈ vs1) (hvs : ∀ i ∈ vs1, P ≤ i)
    {f : Fx} {A : Addr} {G1 H1 : Hp} {σ : L2.St} {ρ1 : Env} {J : It} {es acc0 accE : List D} {avs0 : List V} {ρE : Env} (hp : f.pins.length = P) (fA : f.F A = none) (g0A : f.G0 A = none)
    (rl1 : Rel K (f.add A (.lst avs0)) G1 H1 σ ρ1) (wk : ∀ F, Walk K F G1 J es) (ok0 : DpAll K G1 avs0 acc0) (hres : lcL P b1 mt1 me vs1 es acc0 (wipeE ρ1 vs1) = .ok accE ρE) (Nx : Hp → Prop)
    (hq : ∀ G' H' avs, Same G1 G' → Rel K (f.add A (.lst avs)) G' H' (wipe σ vs1) ρE → DpAll K G' avs accE → Nx H') :
    ∃ W1 : Nat → Nat → Hp → Prop, (∃ m, W1 0 m H1) ∧ ∀ j k H, W1 j k H →
      (J.stop j H ∧ Nx H) ∨ (J.go j H ∧ ∃ Nx1 : Hp → Prop, (∀ H', Nx1 H' → ∃ k', k' < k ∧ W1 (j + 1) k' H') ∧ ∀ x H', J.yld j H x H' → g1 x (wipe σ vs1) H' fun σ3 H5 => wipe σ3 vs1 = wipe σ vs1 ∧ tt1 σ3 H5 fun b H6 =>
        if b = true then te σ3 H6 fun y H7 => ∃ acc, H7 A = some (.lst acc) ∧ acc.length < sizeLine ∧ Nx1 (upd H7 A (.lst (acc ++ [y]))) else Nx1 H6) := by
  refine ⟨fun i m H' => ∃ G' ρ' acc avs, Same G1 G' ∧ Rel K (f.add A (.lst avs)) G' H' (wipe σ vs1) ρ' ∧ DpAll K G' avs acc ∧ i + m = es.length ∧ lcL P b1 mt1 me vs1 (es.drop i) acc ρ' = .ok accE ρE,
    ⟨es.length, G1, wipeE ρ1 vs1, acc0, avs0, .refl _, rl1.wiped hp hvs, ok0, by omega, hres⟩, fun i m H' hW => ?_⟩
  obtain ⟨G2, ρ2, acc, avs, s2, rl2, hok, em, hc⟩ := hW
  obtain ⟨wk1, wk2⟩ := wk _ G2 H' s2 rl2.gh rl2.fh
  by_cases hlt : i < es.length
  · have ed : es.drop i = es[i] :: es.drop (i + 1) := List.drop_eq_getElem_cons hlt
    obtain ⟨go, yl⟩ := wk1 i es[i] (List.getElem?_eq_getElem hlt)
    refine .inr ⟨go, fun H3 => ∃ G' ρ' acc avs, Same G1 G' ∧ Rel K (f.add A (.lst avs)) G' H3 (wipe σ vs1) ρ' ∧ DpAll K G' avs acc ∧ lcL P b1 mt1 me vs1 (es.drop (i + 1)) acc ρ' = .ok accE ρE,
      fun H3 hN => ?_, fun x H3 hy => ?_⟩
    · obtain ⟨G', ρ', acc', avs', a1, a2, a3, a4⟩ := hN
      exact ⟨m - 1, by omega, G', ρ', acc', avs', a1, a2, a3, by omega, a4⟩
    · obtain ⟨G3, gr, hd⟩ := yl x H3 hy
      have rl3 := rl2.grow gr
      have s3 := s2.trans gr.1
      rw [ed] at hc
      simp only [lcL] at hc
      split at hc
      · cases hc
      · next ρ3 e3 =>
        refine hg (f.add A (.lst avs)) G3 H3 (wipe σ vs1) ρ2 ρ3 x es[i] _ hp rl3 hd e3 fun σ4 rl4 l4 k4 => ?_
        have ew := wipe_same l4 k4 hts
        refine ⟨ew, ht (f.add A (.lst avs)) G3 H3 σ4 ρ3 _ hp rl4 ?_⟩
        cases e4 : mt1 ρ3 with
        | no => rw [e4] at hc; cases hc
        | exc c ρ4 => rw [e4] at hc; cases hc
        | ok k ρ4 =>
          rw [e4] at hc
          intro G5 H5 s5 rl5
          cases k with
          | false =>
            rw [if_neg Bool.false_ne_true]
            have r6 := rl5.wiped hp hvs
            rw [ew] at r6
            exact ⟨G5, _, acc, avs, s3.trans s5, r6, dpAll_same (gr.1.trans s5) _ _ hok, hc⟩
          | true =>
            rw [if_pos rfl]
            simp only at hc
            refine SimE.op (f := f.add A (.lst avs)) he hp rl5 ?_
            cases e5 : me ρ4 with
            | no => rw [e5] at hc; cases hc
            | exc c ρ5 => rw [e5] at hc; cases hc
            | ok r ρ5 =>
              rw [e5] at hc
              intro v G6 H6 s6 rl6 h6
              simp only at hc
              split at hc
              · next ρ6 e6 =>
                obtain ⟨G7, s7, rl7⟩ := rl6.frz1 hp e6
                split at hc
                · next y e7 =>
                  split at hc
                  · next hlen =>
                    have s27 := ((gr.1.trans s5).trans s6).trans s7
                    have hv : Dp K G7 v y := (h6.same s7).dat rl7 e7
                    have hacc' : DpAll K G7 avs acc := dpAll_same s27 _ _ hok
                    refine ⟨avs, rl7.atF, ?_, ?_⟩
                    · rw [dpAll_len hok]
                      exact Nat.lt_of_lt_of_le hlen (by decide)
                    · have r8 := (rl7.swapF (o' := .lst (avs ++ [v])) g0A).wiped hp hvs
                      rw [ew] at r8
                      exact ⟨G7, _, acc ++ [y], avs ++ [v], s2.trans s27, r8, dpAll_append hacc' (.cons hv .nil), hc⟩
                  · cases hc
                · cases hc
              · cases hc
  · have ed : es.drop i = [] := List.drop_of_length_le (by omega)
    rw [ed] at hc
    simp only [lcL] at hc
    cases hc
    exact .inl ⟨wk2 i (by omega), hq G2 H' avs s2 rl2 hok⟩
theorem lcL2_go (hg : SimG K P g b ts) (ht : SimT K P W tt mt) (hl : SimIA K P W wi1 ml) (hg1 : SimG K P g1 b1 ts1) (ht1 : SimT K P W tt1 mt1) (he : SimE K P W te me) (hts : ∀ i ∈ ts, i ∈ vs) (hvs : ∀ i ∈ vs, P ≤ i) (hts1 : ∀ i ∈ ts1, i ∈ vs1) (hvs1 : ∀ i ∈ vs1, i ∈ vs)
    {f : Fx} {G1 H1 : Hp} {σ : L2.St} {ρ1 : Env} {J : It} {ds : List D} {Q : VK} {accF : List D} {ρF : Env} (hp : f.pins.length = P) (rl1 : Rel K f G1 H1 σ ρ1) (wk : Walk K f.F G1 J ds)
    (hres : lcL2 P b mt ml b1 mt1 me vs vs1 ds [] (wipeE ρ1 vs) = .ok accF ρF)
    (hq : ∀ v G' H', Same G1 G' → Rel K f G' H' σ (back ρ1 vs ρF) → VRep K f G' H' σ (back ρ1 vs ρF) v (.o accF) → Q v H') :
    ∀ A, H1 A = none → ∃ Wv : Nat → Nat → Hp → Prop, (∃ m, Wv 0 m (upd H1 A (.lst []))) ∧ ∀ i m H, Wv i m H →
  (J.stop i H ∧ Q (.ref A) H) ∨ (J.go i H ∧ ∃ Nx : Hp → Prop, (∀ H', Nx H' → ∃ m', m' < m ∧ Wv (i + 1) m' H') ∧ ∀ x H', J.yld i H x H' → g x (wipe σ vs) H' fun σ2 H2 => wipe σ2 vs = wipe σ vs ∧ tt σ2 H2 fun b H3 =>
    if b = true then wi1 σ2 H3 fun J1 H4 => ∃ W1 : Nat → Nat → Hp → Prop, (∃ m, W1 0 m H4) ∧ ∀ j k H, W1 j k H →
      (J1.stop j H ∧ Nx H) ∨ (J1.go j H ∧ ∃ Nx1 : Hp → Prop, (∀ H', Nx1 H' → ∃ k', k' < k ∧ W1 (j + 1) k' H') ∧ ∀ x H', J1.yld j H x H' → g1 x (wipe σ2 vs1) H' fun σ3 H5 => wipe σ3 vs1 = wipe σ2 vs1 ∧ tt1 σ3 H5 fun b H6 =>
        if b = true then te σ3 H6 fun y H7 => ∃ acc, H7 A = some (.lst acc) ∧ acc.length < sizeLine ∧ Nx1 (upd H7 A (.lst (acc ++ [y]))) else Nx1 H6)
    else Nx H3) := by
  intro A nA
  have hvs1P : ∀ i ∈ vs1, P ≤ i := fun i hi => hvs i (hvs1 i hi)
  have gA : G1 A = none := rl1.gh.free nA
  have fA : f.F A = none := rl1.fh.free nA
  have g0A : f.G0 A = none := rl1.g0.free gA
  refine ⟨fun i m H' => ∃ G' ρ' acc avs, Same G1 G' ∧ Rel K (f.add A (.lst avs)) G' H' (wipe σ vs) ρ' ∧ DpAll K G' avs acc ∧ i + m = ds.length ∧ lcL2 P b mt ml b1 mt1 me vs vs1 (ds.drop i) acc ρ' = .ok accF ρF,
    ⟨ds.length, G1, wipeE ρ1 vs, [], [], .refl _, (rl1.wiped hp hvs).addF nA, .nil, by omega, hres⟩, fun i m H' hW => ?_⟩
  obtain ⟨G2, ρ2, acc, avs, s2, rl2, hok, em, hc⟩ := hW
  have sF : Same f.F H' := fun b o q => rl2.fh b o (by
    show upd f.F A _ b = some o
    rw [upd_ne (fun z => by subst z; rw [fA] at q; cases q)]
    exact q)
  obtain ⟨wk1, wk2⟩ := wk G2 H' s2 rl2.gh sF
  by_cases hlt : i < ds.length
  · have ed : ds.drop i = ds[i] :: ds.drop (i + 1) := List.drop_eq_getElem_cons hlt
    obtain ⟨go, yl⟩ := wk1 i ds[i] (List.getElem?_eq_getElem hlt)
    refine .inr ⟨go, fun H3 => ∃ G' ρ' acc avs, Same G1 G' ∧ Rel K (f.add A (.lst avs)) G' H3 (wipe σ vs) ρ' ∧ DpAll K G' avs acc ∧ lcL2 P b mt ml b1 mt1 me vs vs1 (ds.drop (i + 1)) acc ρ' = .ok accF ρF,
      fun H3 hN => ?_, fun x H3 hy => ?_⟩
    · obtain ⟨G', ρ', acc', avs', a1, a2, a3, a4⟩ := hN
      exact ⟨m - 1, by omega, G', ρ', acc', avs', a1, a2, a3, by omega, a4⟩
    · obtain ⟨G3, gr, hd⟩ := yl x H3 hy
      have rl3 := rl2.grow gr
      have s3 := s2.trans gr.1
      rw [ed] at hc
      simp only [lcL2] at hc
      split at hc
      · cases hc
      · next ρ3 e3 =>
        refine hg (f.add A (.lst avs)) G3 H3 (wipe σ vs) ρ2 ρ3 x ds[i] _ hp rl3 hd e3 fun σ4 rl4 l4 k4 => ?_
        have ew := wipe_same l4 k4 hts
        refine ⟨ew, ht (f.add A (.lst avs)) G3 H3 σ4 ρ3 _ hp rl4 ?_⟩
        cases e4 : mt ρ3 with
        | no => rw [e4] at hc; cases hc
        | exc c ρ4 => rw [e4] at hc; cases hc
        | ok k ρ4 =>
          rw [e4] at hc
          intro G5 H5 s5 rl5
          cases k with
          | false =>
            rw [if_neg Bool.false_ne_true]
            have r6 := rl5.wiped hp hvs
            rw [ew] at r6
            exact ⟨G5, _, acc, avs, s3.trans s5, r6, dpAll_same (gr.1.trans s5) _ _ hok, hc⟩
          | true =>
            rw [if_pos rfl]
            simp only at hc
            refine hl (f.add A (.lst avs)) G5 H5 σ4 ρ4 _ hp rl5 ?_
            cases e5 : ml ρ4 with
            | no => rw [e5] at hc; cases hc
            | exc c ρ5 => rw [e5] at hc; cases hc
            | ok es ρ5 =>
              rw [e5] at hc
              intro J1 G6 H6 s6 rl6 hw
              simp only at hc
              split at hc
              · next acc' ρ8 e8 =>
                exact lcI_go hg1 ht1 he hts1 hvs1P hp fA g0A rl6 hw (dpAll_same ((gr.1.trans s5).trans s6) _ _ hok) e8 (fun H3 => ∃ G' ρ' acc avs, Same G1 G' ∧ Rel K (f.add A (.lst avs)) G' H3 (wipe σ vs) ρ' ∧ DpAll K G' avs acc ∧ lcL2 P b mt ml b1 mt1 me vs vs1 (ds.drop (i + 1)) acc ρ' = .ok accF ρF) fun G' H' avs' z1 z2 z3 => by
                  have r9 := z2.wiped hp hvs
                  rw [wipe_wipe hvs1, ew] at r9
                  exact ⟨G', _, acc', avs', ((s3.trans s5).trans s6).trans z1, r9, z3, hc⟩
              · cases hc
  · have ed : ds.drop i = [] := List.drop_of_length_le (by omega)
    rw [ed] at hc
    simp only [lcL2] at hc
    cases hc
    refine .inl ⟨wk2 i (by omega), ?_⟩
    have rl' := rl1.restore hp hvs s2 rl2 fA
    refine hq (.ref A) G2 H' s2 rl' ⟨A, avs, rfl, rl2.atF, hok, rl2.noG g0A, fA, fun i ys q hs z => ?_⟩
    by_cases hj : i ∈ vs
    · obtain ⟨x, e, _⟩ := back_in ρ1 hj q
      subst e
      cases hs
    · rw [back_out ρ1 hj] at q
      obtain ⟨p, us, q1, q2, q3, q4, q5⟩ := rl2.ow i ys q hs
      rw [wipe_out' hj, z] at q1
      cases q1
      have q5 : upd f.F A (HO.lst avs) A = none := q5
      rw [upd_same] at q5
      cases q5
theorem sim_lc2 {wi : TI} {mi : Env → Res (List D)} (hi : SimI K P W wi mi) (hg : SimG K P g b ts) (ht : SimT K P W tt mt) (hl : SimIA K P W wi1 ml) (hg1 : SimG K P g1 b1 ts1) (ht1 : SimT K P W tt1 mt1) (he : SimE K P W te me) (hts : ∀ i ∈ ts, i ∈ vs) (hvs : ∀ i ∈ vs, P ≤ i) (hts1 : ∀ i ∈ ts1, i ∈ vs1) (hvs1 : ∀ i ∈ vs1, i ∈ vs) :
    SimE K P W (tLc2 wi g tt wi1 g1 tt1 te vs vs1) (mLc2 P mi b mt ml b1 mt1 me vs vs1) := by
  intro f G H σ ρ Q hp rl hq
  refine hi f G H σ ρ _ hp rl ?_
  unfold mLc2 at hq
  cases e : mi ρ with
  | no => rw [e] at hq; exact hq
  | exc c ρ1 => rw [e] at hq; exact hq
  | ok ds ρ1 =>
    rw [e] at hq
    simp only [Res.bind] at hq
    intro J G1 H1 s1 rl1 wk
    split at hq
    · next acc ρw hr => exact lcL2_go hg ht hl hg1 ht1 he hts hvs hts1 hvs1 hp rl1 wk hr fun v G' H' s => hq v G' H' (s1.trans s)
    · exact hq.elim
end
end Z
namespace Z
open PySem PySem.Spec PyProof.Rows L2
/-! ### is None -/
def isNone : D → Bool
  | .none => true
  | _ => false
def gIsN : D → D → Option R
  | d, .none => some (.d (.bool (isNone d)))
  | _, _ => none
def gNotN : D → D → Option R
  | d, .none => some (.d (.bool (!isNone d)))
  | _, _ => none
theorem got_none {K : PySem.W.Frag} {G H : Hp} {x : V} {d : D} (h : Got K G H x d) : decide (x = .non) = isNone d := by
  rcases h with h | ⟨p, vs, xs, rfl, rfl, _⟩
  · cases h with
    | non => rfl
    | bl b => rfl
    | int i => rfl
    | str s => rfl
    | lst h1 h2 => rfl
    | tup h1 h2 => rfl
  · rfl
theorem s_isN {K : PySem.W.Frag} : OpS K rIsN gIsN := by
  refine ops_sc fun G H x y d e z s h1 h2 eg => ?_
  unfold gIsN at eg
  split at eg
  · cases eg
    refine ⟨_, _, rfl, .bl _, fun Q q => ⟨h2.none, ?_⟩⟩
    rw [got_none h1]
    exact q
  · cases eg
theorem s_notN {K : PySem.W.Frag} : OpS K rNotN gNotN := by
  refine ops_sc fun G H x y d e z s h1 h2 eg => ?_
  unfold gNotN at eg
  split at eg
  · cases eg
    refine ⟨_, _, rfl, .bl _, fun Q q => ⟨h2.none, ?_⟩⟩
    rw [got_none h1]
    exact q
  · cases eg
end Z
namespace Z
open PySem L2
/-! ### calls and walks, as rows for simp -/
/-- a row that simp is to use by a proof, so that no look of the kernel opens the loops -/
theorem nonrfl {α : Sort _} {a b : α} (h : a = b) : a = b := h
theorem bind_ok {α β : Type} (a : α) (ρ : Env) (k : α → Env → Res β) : (Res.ok a ρ).bind k = k a ρ := nonrfl rfl
theorem bind_exc {α β : Type} (c : Nat) (ρ : Env) (k : α → Env → Res β) : (Res.exc c ρ).bind k = .exc c ρ := nonrfl rfl
theorem bind_no {α β : Type} (k : α → Env → Res β) : (Res.no).bind k = .no := nonrfl rfl
def callR (ex : Bool) (ρ1 ρ2 : Env) : Out → Res R
  | .nx _ => .ok (.d .none) ρ1
  | .exc c _ => if ex = true then .exc c ρ1 else .no
  | .rt (.d x) _ => if flatD x = true then .ok (.d x) ρ1 else .ok (.d x) ρ2
  | .rt (.o xs) _ => .ok (.o xs) ρ2
  | _ => .no
def callK (ex : Bool) (P k n : Nat) (mb : Env → Out) (rs : List R) (ρ1 : Env) : Res R := match frzA P rs ρ1 with
  | none => .no
  | some ρ2 => (match dopds ρ2 rs with
    | none => .no
    | some ds => if ds.length = k then callR ex ρ1 ρ2 (mb (env0 n (ds.map S.d))) else .no)
theorem mCall0_k (ex : Bool) (P k n : Nat) (mb : Env → Out) (ms : Env → Res (List R)) (ρ : Env) : mCall0 ex P k n mb ms ρ = (ms ρ).bind fun rs ρ1 => callK ex P k n mb rs ρ1 := by
  unfold mCall0
  congr 1
theorem callK_eq {ex : Bool} {P k n : Nat} {mb : Env → Out} {rs : List R} {ρ1 : Env} : callK ex P k n mb rs ρ1 = (match frzA P rs ρ1 with
  | none => .no
  | some ρ2 => (match dopds ρ2 rs with
    | none => .no
    | some ds => if ds.length = k then callR ex ρ1 ρ2 (mb (env0 n (ds.map S.d))) else .no)) := nonrfl rfl
section
variable {ex : Bool} {ρ1 ρ2 r : Env} {c : Nat} {x : D} {xs : List D}
theorem callR_nx : callR ex ρ1 ρ2 (.nx r) = .ok (.d .none) ρ1 := rfl
theorem callR_exc : callR true ρ1 ρ2 (.exc c r) = .exc c ρ1 := rfl
theorem callR_o : callR ex ρ1 ρ2 (.rt (.o xs) r) = .ok (.o xs) ρ2 := rfl
theorem callR_d : callR ex ρ1 ρ2 (.rt (.d x) r) = if flatD x = true then .ok (.d x) ρ1 else .ok (.d x) ρ2 := rfl
theorem flat_n : flatD .none = true := rfl
theorem flat_b (b : Bool) : flatD (.bool b) = true := rfl
theorem flat_i (i : Int) : flatD (.int i) = true := rfl
theorem flat_s (s : Str) : flatD (.str s) = true := rfl
theorem flat_t (ds : List D) : flatD (.tuple ds) = false := rfl
theorem flat_l (ds : List D) : flatD (.list ds) = false := rfl
end
/-- a call to which something is lent -/
def lentR (js : List (Option Nat)) (ρ2 : Env) : Out → Res R
  | .nx ρ' => (match takeB ρ' 0 js ρ2 with
    | some ρ3 => .ok (.d .none) ρ3
    | none => .no)
  | .rt (.d x) ρ' => (match takeB ρ' 0 js ρ2 with
    | some ρ3 => .ok (.d x) ρ3
    | none => .no)
  | .rt (.o zs) ρ' => (match takeB ρ' 0 js ρ2 with
    | some ρ3 => .ok (.o zs) ρ3
    | none => .no)
  | _ => .no
def lentK (P : Nat) (mask : List Bool) (k n : Nat) (mb : Env → Out) (rs : List R) (ρ1 : Env) : Res R := match frzM P mask rs ρ1 with
  | none => .no
  | some ρ2 => (match lendS ρ2 mask rs with
    | none => .no
    | some (ss, js) => if ss.length = k ∧ mask.length ≤ k ∧ ndJ js = true then lentR js ρ2 (mb (env0 n ss)) else .no)
theorem mCallM_k (P : Nat) (mask : List Bool) (k n : Nat) (mb : Env → Out) (ms : Env → Res (List R)) (ρ : Env) : mCallM P mask k n mb ms ρ = (ms ρ).bind fun rs ρ1 => lentK P mask k n mb rs ρ1 := by
  unfold mCallM
  congr 1
theorem lentK_eq {P : Nat} {mask : List Bool} {k n : Nat} {mb : Env → Out} {rs : List R} {ρ1 : Env} : lentK P mask k n mb rs ρ1 = (match frzM P mask rs ρ1 with
  | none => .no
  | some ρ2 => (match lendS ρ2 mask rs with
    | none => .no
    | some (ss, js) => if ss.length = k ∧ mask.length ≤ k ∧ ndJ js = true then lentR js ρ2 (mb (env0 n ss)) else .no)) := nonrfl rfl
section
variable {js : List (Option Nat)} {ρ2 r : Env} {x : D} {ys zs : List D}
theorem lentR_d : lentR js ρ2 (.rt (.d x) r) = (match takeB r 0 js ρ2 with
    | some ρ3 => .ok (.d x) ρ3
    | none => .no) := nonrfl rfl
theorem lentR_o : lentR js ρ2 (.rt (.o zs) r) = (match takeB r 0 js ρ2 with
    | some ρ3 => .ok (.o zs) ρ3
    | none => .no) := nonrfl rfl
theorem lentR_n : lentR js ρ2 (.nx r) = (match takeB r 0 js ρ2 with
    | some ρ3 => .ok (.d .none) ρ3
    | none => .no) := nonrfl rfl
end
/-! walks -/
def rngK (rs : List R) (ρ1 : Env) : Res (List D) := match rs with
  | [.d (.int j)] => if -big62 ≤ j ∧ j < big62 then .ok ((List.range j.toNat).map fun (k : Nat) => .int (k : Int)) ρ1 else .no
  | _ => .no
theorem mRng1_k (ma : Env → Res (List R)) (ρ : Env) : mRng1 ma ρ = (ma ρ).bind rngK := nonrfl rfl
def natsD (N : Nat) : List D := (List.range N).map fun (k : Nat) => PyData.int (k : Int)
theorem rngK_nat (N : Nat) (ρ1 : Env) (hN : N < 1000000) : rngK [.d (.int (N : Int))] ρ1 = .ok (natsD N) ρ1 := by
  show (if -big62 ≤ (N : Int) ∧ (N : Int) < big62 then Res.ok ((List.range (N : Int).toNat).map fun (k : Nat) => PyData.int (k : Int)) ρ1 else .no) = _
  rw [if_pos (big_nat N hN), Int.toNat_natCast]
  rfl
theorem rngK_lit (N : Nat) (ρ1 : Env) (hN : N < 1000000) : rngK [.d (.int (no_index (OfNat.ofNat N)))] ρ1 = .ok (natsD N) ρ1 := rngK_nat N ρ1 hN
def iterK (P : Nat) (r : R) (ρ1 : Env) : Res (List D) := match frz1 P ρ1 r with
  | some ρ2 => (match dopd ρ2 r with
    | some (.list ds) => .ok ds ρ2
    | some (.tuple ds) => .ok ds ρ2
    | _ => .no)
  | none => .no
theorem mIter_k (P : Nat) (me : Env → Res R) (ρ : Env) : mIter P me ρ = (me ρ).bind (iterK P) := nonrfl rfl
theorem iterK_t (P : Nat) (ds : List D) (ρ : Env) : iterK P (.d (.tuple ds)) ρ = .ok ds ρ := rfl
theorem iterK_l (P : Nat) (ds : List D) (ρ : Env) : iterK P (.d (.list ds)) ρ = .ok ds ρ := rfl
theorem iterK_o (P : Nat) (ds : List D) (ρ : Env) : iterK P (.o ds) ρ = .ok ds ρ := rfl
def forK (b : D → Env → Option Env) (body : Env → Out) : Res (List D) → Out
  | .ok ds ρ1 => forL b body ds ρ1
  | .exc c ρ1 => .exc c ρ1
  | .no => .no
theorem mFor_k (mi : Env → Res (List D)) (b : D → Env → Option Env) (body : Env → Out) (ρ : Env) : mFor mi b body ρ = forK b body (mi ρ) := by
  unfold mFor forK
  cases mi ρ <;> rfl
theorem forK_ok (b : D → Env → Option Env) (body : Env → Out) (ds : List D) (ρ : Env) : forK b body (.ok ds ρ) = forL b body ds ρ := nonrfl rfl
def lcK (P : Nat) (b : D → Env → Option Env) (mt : Env → Res Bool) (me : Env → Res R) (vs : List Nat) (ds : List D) (ρ1 : Env) : Res R := match lcL P b mt me vs ds [] (wipeE ρ1 vs) with
  | .ok acc ρw => .ok (.o acc) (back ρ1 vs ρw)
  | _ => .no
theorem lcK_eq (P : Nat) (b : D → Env → Option Env) (mt : Env → Res Bool) (me : Env → Res R) (vs : List Nat) (ds : List D) (ρ1 : Env) : lcK P b mt me vs ds ρ1 = (match lcL P b mt me vs ds [] (wipeE ρ1 vs) with
  | .ok acc ρw => .ok (.o acc) (back ρ1 vs ρw)
  | _ => .no) := nonrfl rfl
theorem mLcH_eq (P j : Nat) (b : D → Env → Option Env) (mt : Env → Res Bool) (me : Env → Res R) (vs : List Nat) (ρ : Env) : mLcH P j b mt me vs ρ = (match ρ[j]? with
  | some (some (S.d (.list ds))) => (match lcL P b mt me vs ds [] (wipeE ρ vs) with
    | .ok acc ρw => .ok (.o acc) (back ρ vs ρw)
    | _ => .no)
  | some (some (S.d (.tuple ds))) => (match lcL P b mt me vs ds [] (wipeE ρ vs) with
    | .ok acc ρw => .ok (.o acc) (back ρ vs ρw)
    | _ => .no)
  | some (some (S.o ds)) => (match lcL P b mt me vs ds [] (wipeE (ρ.set j none) vs) with
    | .ok acc ρw => .ok (.o acc) ((back (ρ.set j none) vs ρw).set j (some (S.o ds)))
    | _ => .no)
  | _ => .no) := nonrfl rfl
theorem mLc_k (P : Nat) (mi : Env → Res (List D)) (b : D → Env → Option Env) (mt : Env → Res Bool) (me : Env → Res R) (vs : List Nat) (ρ : Env) : mLc P mi b mt me vs ρ = (mi ρ).bind (lcK P b mt me vs) := nonrfl rfl
end Z
namespace Z
open PySem L2
/-! ### statements, as rows for simp -/
def seqK (mt : Env → Out) : Out → Out
  | .nx ρ1 => mt ρ1
  | o => o
section
variable {P i j : Nat} {ρ ρ1 ρ2 ρ3 : Env} {ms mt m1 m2 : Env → Out} {me mi ma mb : Env → Res R} {mu mv : Env → Res Bool} {x : D} {xs ds : List D} {s : S} {c : Nat} {mas : Env → Res (List R)} {rs : List R} {r : R}
theorem mSeq_k : mSeq ms mt ρ = seqK mt (ms ρ) := by
  unfold mSeq seqK
  cases ms ρ <;> rfl
theorem seqK_nx : seqK mt (.nx ρ) = mt ρ := nonrfl rfl
theorem seqK_rt : seqK mt (.rt s ρ) = .rt s ρ := nonrfl rfl
theorem seqK_bk : seqK mt (.bk ρ) = .bk ρ := nonrfl rfl
theorem seqK_ct : seqK mt (.ct ρ) = .ct ρ := nonrfl rfl
theorem seqK_exc : seqK mt (.exc c ρ) = .exc c ρ := nonrfl rfl
def ifK (m1 m2 : Env → Out) : Res Bool → Out
  | .ok b ρ1 => if b = true then m1 ρ1 else m2 ρ1
  | .exc c ρ1 => .exc c ρ1
  | .no => .no
theorem mIfS_k : mIfS mu m1 m2 ρ = ifK m1 m2 (mu ρ) := by
  unfold mIfS ifK
  cases mu ρ <;> rfl
theorem ifK_t : ifK m1 m2 (.ok true ρ) = m1 ρ := nonrfl rfl
theorem ifK_f : ifK m1 m2 (.ok false ρ) = m2 ρ := nonrfl rfl
theorem ifK_exc : ifK m1 m2 (.exc c ρ) = .exc c ρ := nonrfl rfl
def retK (P : Nat) : Res R → Out
  | .ok (.d x) ρ1 => .rt (.d x) ρ1
  | .ok (.o xs) ρ1 => .rt (.o xs) ρ1
  | .ok (.b i) ρ1 => (match ρ1[i]? with
    | some (some (S.d x)) => .rt (.d x) ρ1
    | some (some (S.o xs)) => if P ≤ i then .rt (.o xs) (ρ1.set i none) else .no
    | _ => .no)
  | .exc c ρ1 => .exc c ρ1
  | .no => .no
theorem mRet_k : mRet P me ρ = retK P (me ρ) := by
  unfold mRet retK
  cases me ρ with
  | ok r ρ1 => cases r <;> rfl
  | _ => rfl
theorem retK_d : retK P (.ok (.d x) ρ) = .rt (.d x) ρ := nonrfl rfl
theorem retK_o : retK P (.ok (.o xs) ρ) = .rt (.o xs) ρ := nonrfl rfl
theorem retK_b : retK P (.ok (.b i) ρ) = (match ρ[i]? with
    | some (some (S.d x)) => .rt (.d x) ρ
    | some (some (S.o xs)) => if P ≤ i then .rt (.o xs) (ρ.set i none) else .no
    | _ => .no) := nonrfl rfl
theorem retK_exc : retK P (.exc c ρ) = .exc c ρ := nonrfl rfl
def asgK (P i : Nat) : Res R → Out
  | .ok (.d x) ρ1 => .nx (ρ1.set i (some (.d x)))
  | .ok (.o xs) ρ1 => .nx (ρ1.set i (some (.o xs)))
  | .ok (.b j) ρ1 => (match frz1 P ρ1 (.b j) with
    | some ρ2 => (match dopd ρ2 (.b j) with
      | some x => .nx (ρ2.set i (some (.d x)))
      | none => .no)
    | none => .no)
  | .exc c ρ1 => .exc c ρ1
  | .no => .no
theorem mAsg_k : mAsg P i me ρ = asgK P i (me ρ) := by
  unfold mAsg asgK
  cases me ρ with
  | ok r ρ1 => cases r <;> rfl
  | _ => rfl
theorem asgK_d : asgK P i (.ok (.d x) ρ) = .nx (ρ.set i (some (.d x))) := nonrfl rfl
theorem asgK_o : asgK P i (.ok (.o xs) ρ) = .nx (ρ.set i (some (.o xs))) := nonrfl rfl
theorem asgK_b : asgK P i (.ok (.b j) ρ) = (match frz1 P ρ (.b j) with
    | some ρ2 => (match dopd ρ2 (.b j) with
      | some x => .nx (ρ2.set i (some (.d x)))
      | none => .no)
    | none => .no) := nonrfl rfl
theorem asgK_exc : asgK P i (.exc c ρ) = .exc c ρ := nonrfl rfl
def dropK : Res R → Out
  | .ok _ ρ1 => .nx ρ1
  | .exc c ρ1 => .exc c ρ1
  | .no => .no
theorem mDrop_k : mDrop me ρ = dropK (me ρ) := by
  unfold mDrop dropK
  cases me ρ <;> rfl
theorem dropK_ok : dropK (.ok r ρ) = .nx ρ := nonrfl rfl
theorem dropK_exc : dropK (.exc c ρ) = .exc c ρ := nonrfl rfl
def asgGK (P : Nat) (b : D → Env → Option Env) : Res R → Out
  | .ok r ρ1 => (match frz1 P ρ1 r with
    | some ρ2 => (match dopd ρ2 r with
      | some d => (match b d ρ2 with
        | some ρ3 => .nx ρ3
        | none => .no)
      | none => .no)
    | none => .no)
  | .exc c ρ1 => .exc c ρ1
  | .no => .no
theorem mAsgG_k {b : D → Env → Option Env} : mAsgG P b me ρ = asgGK P b (me ρ) := by
  unfold mAsgG asgGK
  cases me ρ <;> rfl
theorem asgGK_ok {b : D → Env → Option Env} : asgGK P b (.ok r ρ) = (match frz1 P ρ r with
    | some ρ2 => (match dopd ρ2 r with
      | some d => (match b d ρ2 with
        | some ρ3 => .nx ρ3
        | none => .no)
      | none => .no)
    | none => .no) := nonrfl rfl
theorem asgGK_exc {b : D → Env → Option Env} : asgGK P b (.exc c ρ) = .exc c ρ := nonrfl rfl
/-- a change of a slot's list -/
def mutK (P j : Nat) (g : List D → List D → Option (List D)) : Res (List R) → Out
  | .ok rs ρ1 => (match frzA P rs ρ1 with
    | some ρ2 => (match dopds ρ2 rs, ρ2[j]? with
      | some ds, some (some (S.o xs)) => (match g xs ds with
        | some ys => .nx (ρ2.set j (some (S.o ys)))
        | none => .no)
      | _, _ => .no)
    | none => .no)
  | .exc c ρ1 => .exc c ρ1
  | .no => .no
theorem mMut_k {g : List D → List D → Option (List D)} : mMut P j g mas ρ = (match ρ[j]? with
  | some (some (S.o _)) => mutK P j g (mas ρ)
  | _ => .no) := by
  unfold mMut mutK
  cases mas ρ <;> rfl
theorem mutK_ok {g : List D → List D → Option (List D)} : mutK P j g (.ok rs ρ) = (match frzA P rs ρ with
    | some ρ2 => (match dopds ρ2 rs, ρ2[j]? with
      | some ds, some (some (S.o xs)) => (match g xs ds with
        | some ys => .nx (ρ2.set j (some (S.o ys)))
        | none => .no)
      | _, _ => .no)
    | none => .no) := nonrfl rfl
/-! expressions -/
theorem mTest_k : mTest me ρ = (me ρ).bind fun r ρ1 => match r with
  | .d (.bool k) => .ok k ρ1
  | _ => .no := nonrfl rfl
theorem mTru_k : mTru me ρ = (me ρ).bind fun r ρ1 => match opd ρ1 r with
  | some x => (match tru x with
    | some b => .ok b ρ1
    | none => .no)
  | none => .no := nonrfl rfl
theorem mNot_k : mNot mu ρ = (mu ρ).bind fun b ρ1 => .ok (!b) ρ1 := nonrfl rfl
theorem mAnd_k : mAnd mu mv ρ = (mu ρ).bind fun b ρ1 => if b = true then mv ρ1 else .ok false ρ1 := nonrfl rfl
theorem mOr_k : mOr mu mv ρ = (mu ρ).bind fun b ρ1 => if b = true then .ok true ρ1 else mv ρ1 := nonrfl rfl
theorem mNotV_k : mNotV ma ρ = (ma ρ).bind fun r ρ1 => match r with
  | .d (.bool k) => .ok (.d (.bool (!k))) ρ1
  | _ => .no := nonrfl rfl
theorem mAndV_k : mAndV ma mb ρ = (ma ρ).bind fun r ρ1 => match r with
  | .d (.bool k) => if k = true then mb ρ1 else .ok (.d (.bool false)) ρ1
  | _ => .no := nonrfl rfl
theorem mOrV_k : mOrV ma mb ρ = (ma ρ).bind fun r ρ1 => match r with
  | .d (.bool k) => if k = true then .ok (.d (.bool true)) ρ1 else mb ρ1
  | _ => .no := nonrfl rfl
theorem mIf_k : mIf mu ma mb ρ = (mu ρ).bind fun b ρ1 => if b = true then ma ρ1 else mb ρ1 := nonrfl rfl
theorem mNil_k : mNil ρ = .ok [] ρ := nonrfl rfl
theorem mCons_k : mCons ma mas ρ = (ma ρ).bind fun r ρ1 => (mas ρ1).bind fun rs ρ2 => .ok (r :: rs) ρ2 := nonrfl rfl
theorem mTup_k : mTup P mas ρ = (mas ρ).bind fun rs ρ1 => match frzA P rs ρ1 with
  | some ρ2 => (match dopds ρ2 rs with
    | some ds => if ds.length ≤ 1000 then .ok (.d (.tuple ds)) ρ2 else .no
    | none => .no)
  | none => .no := nonrfl rfl
theorem mLst_k : mLst P mas ρ = (mas ρ).bind fun rs ρ1 => match frzA P rs ρ1 with
  | some ρ2 => (match dopds ρ2 rs with
    | some ds => if ds.length ≤ 1000 then .ok (.o ds) ρ2 else .no
    | none => .no)
  | none => .no := nonrfl rfl
theorem mCB_k {g : List D → Option R} : mCB g mas ρ = (mas ρ).bind fun rs ρ1 => match opds ρ1 rs with
  | some ds => (match g ds with
    | some z => .ok z ρ1
    | none => .no)
  | none => .no := nonrfl rfl
theorem mBin_k {g : D → D → Option R} : mBin g ma mb ρ = (ma ρ).bind fun r1 ρ1 => (mb ρ1).bind fun r2 ρ2 => match opd ρ2 r1, opd ρ2 r2 with
  | some x, some y => (match g x y with
    | some z => .ok z ρ2
    | none => .no)
  | _, _ => .no := nonrfl rfl
theorem mUn_k {g : D → Option R} : mUn g ma ρ = (ma ρ).bind fun r1 ρ1 => match opd ρ1 r1 with
  | some x => (match g x with
    | some z => .ok z ρ1
    | none => .no)
  | none => .no := nonrfl rfl
theorem mIsi_k {T : String} : mIsi T me ρ = (me ρ).bind fun r ρ1 => match opd ρ1 r with
  | some d => (match kitB (tyN d) T with
    | some b => .ok (.d (.bool b)) ρ1
    | none => .no)
  | none => .no := nonrfl rfl
theorem mChain_k {g g' : D → D → Option R} {mc : Env → Res R} : mChain g g' ma mb mc ρ = (ma ρ).bind fun r1 ρ1 => (mb ρ1).bind fun r2 ρ2 => match opd ρ2 r1, opd ρ2 r2 with
  | some x, some y => (match g x y with
    | some (.d (.bool k)) => if k = true then (mc ρ2).bind fun r3 ρ3 => (match opd ρ3 r2, opd ρ3 r3 with
        | some y', some z => (match g' y' z with
          | some w => .ok w ρ3
          | none => .no)
        | _, _ => .no) else .ok (.d (.bool false)) ρ2
    | _ => .no)
  | _, _ => .no := nonrfl rfl
def tryK (i : Nat) (hd : Nat → Option D) : Out → Out
  | .exc c ρ1 => (match hd c with
    | some x => if i < ρ1.length then .rt (.d x) ρ1 else .no
    | none => .no)
  | o => o
theorem mTry_k {hd : Nat → Option D} : mTry i ms hd ρ = tryK i hd (ms ρ) := by
  unfold mTry tryK
  cases ms ρ <;> rfl
theorem tryK_exc {hd : Nat → Option D} : tryK i hd (.exc c ρ) = (match hd c with
    | some x => if i < ρ.length then .rt (.d x) ρ else .no
    | none => .no) := nonrfl rfl
theorem tryK_rt {hd : Nat → Option D} : tryK i hd (.rt s ρ) = .rt s ρ := nonrfl rfl
theorem mSl_k {ml mh : Env → Res (Option Int)} : mSl me ml mh ρ = (me ρ).bind fun r ρ1 => (ml ρ1).bind fun lo ρ2 => (mh ρ2).bind fun hi ρ3 => match opd ρ3 r with
  | some (.list xs) => .ok (.o (cutD xs lo hi)) ρ3
  | some (.tuple xs) => .ok (.d (.tuple (cutD xs lo hi))) ρ3
  | _ => .no := nonrfl rfl
theorem mPart_k : mPart me ρ = (me ρ).bind fun r ρ1 => match opd ρ1 r with
  | some (.int i) => .ok (some i) ρ1
  | _ => .no := nonrfl rfl
end
end Z
namespace Z
open PySem L2
theorem set_back {α : Type} (ρ : List (Option α)) (i : Nat) (x : Option α) (h : ρ[i]? = some none) : (ρ.set i x).set i none = ρ := by
  rw [List.set_set]
  refine List.ext_getElem? fun j => ?_
  by_cases hj : i = j
  · subst hj
    have hl := (List.getElem?_eq_some_iff.mp h).1
    rw [List.getElem?_set_self hl, h]
  · rw [List.getElem?_set_ne hj]
/-- a comprehension with one name -/
theorem lcL_nm {P : Nat} (i : Nat) {me : Env → Res R} {ρ : Env} {ds : List D} (g : D → D) (h0 : ρ[i]? = some none)
    (h : ∀ d ∈ ds, me (ρ.set i (some (.d d))) = .ok (.d (g d)) (ρ.set i (some (.d d)))) (hl : ds.length ≤ 1000000) : lcL P (bName i) mYes me [i] ds [] ρ = .ok (ds.map g) ρ := by
  have := lcL_pure (P := P) (b := bName i) (mt := mYes) (me := me) (vs := [i]) (ρ := ρ) (fun _ => true) g ds [] (fun d hd => ⟨ρ.set i (some (.d d)), rfl, rfl, fun _ => h d hd, set_back ρ i _ h0⟩) (by simpa using hl)
  rw [filter_yes, List.nil_append] at this
  exact this
theorem lcL_nmT {P : Nat} (i : Nat) {mt : Env → Res Bool} {me : Env → Res R} {ρ : Env} {ds : List D} (p : D → Bool) (g : D → D) (h0 : ρ[i]? = some none)
    (ht : ∀ d ∈ ds, mt (ρ.set i (some (.d d))) = .ok (p d) (ρ.set i (some (.d d))))
    (h : ∀ d ∈ ds, p d = true → me (ρ.set i (some (.d d))) = .ok (.d (g d)) (ρ.set i (some (.d d)))) (hl : ds.length ≤ 1000000) : lcL P (bName i) mt me [i] ds [] ρ = .ok ((ds.filter p).map g) ρ := by
  have := lcL_pure (P := P) (b := bName i) (mt := mt) (me := me) (vs := [i]) (ρ := ρ) p g ds [] (fun d hd => ⟨ρ.set i (some (.d d)), rfl, ht d hd, h d hd, set_back ρ i _ h0⟩) (by simpa using hl)
  rw [List.nil_append] at this
  exact this
theorem lcL_enc {P : Nat} {α : Type} (i : Nat) (enc : α → D) {mt : Env → Res Bool} {me : Env → Res R} {ρ : Env} (xs : List α) (p : α → Bool) (g : α → D) (h0 : ρ[i]? = some none)
    (ht : ∀ x ∈ xs, mt (ρ.set i (some (.d (enc x)))) = .ok (p x) (ρ.set i (some (.d (enc x)))))
    (h : ∀ x ∈ xs, p x = true → me (ρ.set i (some (.d (enc x)))) = .ok (.d (g x)) (ρ.set i (some (.d (enc x))))) (hl : xs.length ≤ 1000000) : lcL P (bName i) mt me [i] (xs.map enc) [] ρ = .ok ((xs.filter p).map g) ρ := by
  have := lcL_over (P := P) (b := bName i) (mt := mt) (me := me) (vs := [i]) (ρ := ρ) enc p g xs [] (fun d hd => ⟨ρ.set i (some (.d (enc d))), rfl, ht d hd, h d hd, set_back ρ i _ h0⟩) (by simpa using hl)
  rw [List.nil_append] at this
  exact this
theorem lcL_nats {P : Nat} (i : Nat) {mt : Env → Res Bool} {me : Env → Res R} {ρ : Env} (N : Nat) (p : Nat → Bool) (g : Nat → D) (h0 : ρ[i]? = some none)
    (ht : ∀ k, k < N → mt (ρ.set i (some (.d (.int k)))) = .ok (p k) (ρ.set i (some (.d (.int k)))))
    (h : ∀ k, k < N → p k = true → me (ρ.set i (some (.d (.int k)))) = .ok (.d (g k)) (ρ.set i (some (.d (.int k))))) (hl : N ≤ 1000000) : lcL P (bName i) mt me [i] (natsD N) [] ρ = .ok (((List.range N).filter p).map g) ρ :=
  lcL_enc i (fun (k : Nat) => PyData.int (k : Int)) (List.range N) p g h0 (fun x hx => ht x (List.mem_range.mp hx)) (fun x hx => h x (List.mem_range.mp hx)) (by rw [List.length_range]; exact hl)
theorem cAll_b (bs : List Bool) : cAll [.list (bs.map PyData.bool)] = some (.d (.bool (bs.all id))) := by
  show (match boolsOf (bs.map PyData.bool) with
    | some bs => some (R.d (.bool (bs.all id)))
    | none => none) = _
  rw [boolsOf_map]
theorem cAll_g {α : Type} (xs : List α) (p : α → Bool) : cAll [.list (xs.map fun x => PyData.bool (p x))] = some (.d (.bool (xs.all p))) := by
  have := cAll_b (xs.map p)
  rw [List.map_map] at this
  rw [show (xs.map fun x => PyData.bool (p x)) = xs.map (PyData.bool ∘ p) from rfl, this, List.all_map]
  rfl
theorem forL_inv {b : D → Env → Option Env} {body : Env → Out} (Inv : Nat → Env → Prop) : ∀ (ds : List D) (k : Nat) (ρ : Env), Inv k ρ →
    (∀ i d, ds[i]? = some d → ∀ ρ, Inv (k + i) ρ → ∃ ρ1 ρ2, b d ρ = some ρ1 ∧ body ρ1 = .nx ρ2 ∧ Inv (k + i + 1) ρ2) → ∃ ρ', forL b body ds ρ = .nx ρ' ∧ Inv (k + ds.length) ρ'
  | [], k, ρ, h, _ => ⟨ρ, rfl, h⟩
  | d :: ds, k, ρ, h, hs => by
    obtain ⟨ρ1, ρ2, e1, e2, h2⟩ := hs 0 d rfl ρ h
    obtain ⟨ρ', e3, h3⟩ := forL_inv Inv ds (k + 1) ρ2 h2 fun i x hx ρ hρ => by
      have := hs (i + 1) x (by simpa using hx) ρ (by rw [show k + (i + 1) = k + 1 + i by omega]; exact hρ)
      rw [show k + (i + 1) + 1 = k + 1 + i + 1 by omega] at this
      exact this
    refine ⟨ρ', ?_, by rw [List.length_cons, show k + (ds.length + 1) = k + 1 + ds.length by omega]; exact h3⟩
    simp only [forL, e1, e2, e3]
end Z
namespace Z
open PySem L2
def rng2K (rs : List R) (ρ1 : Env) : Res (List D) := match rs with
  | [.d (.int i), .d (.int j)] => if -big62 ≤ i ∧ i < big62 ∧ -big62 ≤ j ∧ j < big62 then .ok ((List.range (j - i).toNat).map fun (k : Nat) => .int (i + (k : Int))) ρ1 else .no
  | _ => .no
theorem mRng2_k (ma : Env → Res (List R)) (ρ : Env) : mRng2 ma ρ = (ma ρ).bind rng2K := nonrfl rfl
def fromOne (L : Nat) : List D := (List.range (L - 1)).map fun (k : Nat) => PyData.int (1 + (k : Int))
theorem rng2K_1 (L : Nat) (ρ1 : Env) (hL : L < 1000000) : rng2K [.d (.int 1), .d (.int (L : Int))] ρ1 = .ok (fromOne L) ρ1 := by
  show (if -big62 ≤ (1 : Int) ∧ (1 : Int) < big62 ∧ -big62 ≤ (L : Int) ∧ (L : Int) < big62 then Res.ok ((List.range ((L : Int) - 1).toNat).map fun (k : Nat) => PyData.int (1 + (k : Int))) ρ1 else .no) = _
  have h := big_nat L hL
  have h1 := big_nat 1 (by omega)
  rw [if_pos ⟨h1.1, h1.2, h.1, h.2⟩, show ((L : Int) - 1).toNat = L - 1 by omega]
  rfl
theorem lcL_from1 {P : Nat} (i : Nat) {me : Env → Res R} {ρ : Env} (L : Nat) (g : Nat → D) (h0 : ρ[i]? = some none)
    (h : ∀ k, k + 1 < L → me (ρ.set i (some (.d (.int (1 + (k : Int)))))) = .ok (.d (g k)) (ρ.set i (some (.d (.int (1 + (k : Int))))))) (hl : L ≤ 1000000) : lcL P (bName i) mYes me [i] (fromOne L) [] ρ = .ok ((List.range (L - 1)).map g) ρ := by
  have := lcL_enc (P := P) i (fun (k : Nat) => PyData.int (1 + (k : Int))) (mt := mYes) (me := me) (ρ := ρ) (List.range (L - 1)) (fun _ => true) g h0 (fun _ _ => rfl) (fun x hx _ => h x (by have := List.mem_range.mp hx; omega)) (by rw [List.length_range]; omega)
  rw [filter_yes] at this
  exact this
theorem gAltLt_int (i j : Int) : gAlt gLt gLtT (.int i) (.int j) = some (.d (.bool (decide (i < j)))) := nonrfl rfl
theorem any_ints (i : Int) (xs : List Int) : (xs.map PyData.int).any (fun z => PyData.eqv z (.int i)) = decide (i ∈ xs) := by
  rw [List.any_map]
  induction xs with
  | nil => simp
  | cons x xs ih =>
    rw [List.any_cons, ih]
    simp only [Function.comp, eqv_int, List.mem_cons]
    by_cases h : x = i
    · simp [h]
    · have h' : ¬ i = x := fun e => h e.symm
      simp [h, h']
theorem sh_intsT (xs : List Int) : SeqAt.shaped (.tuple (xs.map .int)) = true := (Sh.tuple (k := 0) fun x hx => by
  obtain ⟨i, _, rfl⟩ := List.mem_map.mp hx
  exact .int i).shaped (by decide)
theorem gAltIn_l (i : Int) (xs : List Int) : gAlt gIn gInT (.int i) (.list (xs.map .int)) = some (.d (.bool (decide (i ∈ xs)))) := gAlt_l (gIn_ints i xs)
theorem gAltNotIn_l (i : Int) (xs : List Int) : gAlt gNotIn gNotInT (.int i) (.list (xs.map .int)) = some (.d (.bool (!decide (i ∈ xs)))) := gAlt_l (by
  unfold gNotIn
  simp only [sh_int, sh_ints, Bool.and_self, if_true]
  rw [any_ints])
theorem gAltIn_t (i : Int) (xs : List Int) : gAlt gIn gInT (.int i) (.tuple (xs.map .int)) = some (.d (.bool (decide (i ∈ xs)))) := by
  rw [gAlt_r (by rfl)]
  unfold gInT
  simp only [sh_int, sh_intsT, Bool.and_self, if_true]
  rw [any_ints]
theorem gAltNotIn_t (i : Int) (xs : List Int) : gAlt gNotIn gNotInT (.int i) (.tuple (xs.map .int)) = some (.d (.bool (!decide (i ∈ xs)))) := by
  rw [gAlt_r (by rfl)]
  unfold gNotInT
  simp only [sh_int, sh_intsT, Bool.and_self, if_true]
  rw [any_ints]
end Z
namespace Z
open PySem L2
theorem set_none {α : Type} (ρ : List (Option α)) (j : Nat) (h : ρ[j]? = some none) : ρ.set j none = ρ := by
  refine List.ext_getElem? fun k => ?_
  by_cases hj : j = k
  · subst hj
    have hl := (List.getElem?_eq_some_iff.mp h).1
    rw [List.getElem?_set_self hl, h]
  · rw [List.getElem?_set_ne hj]
theorem lcL2_nm {P : Nat} (i j : Nat) (hij : i ≠ j) {ml : Env → Res (List D)} {me : Env → Res R} {ρ : Env} (f : D → List D) (g : D → D → D) (h0 : ρ[i]? = some none) (h1 : ρ[j]? = some none) : ∀ (ds acc : List D),
    (∀ d ∈ ds, ml (ρ.set i (some (.d d))) = .ok (f d) (ρ.set i (some (.d d)))) →
    (∀ d ∈ ds, ∀ e ∈ f d, me ((ρ.set i (some (.d d))).set j (some (.d e))) = .ok (.d (g d e)) ((ρ.set i (some (.d d))).set j (some (.d e)))) →
    acc.length + (ds.flatMap f).length ≤ 1000000 → lcL2 P (bName i) mYes ml (bName j) mYes me [i, j] [j] ds acc ρ = .ok (acc ++ ds.flatMap fun d => (f d).map (g d)) ρ
  | [], acc, _, _, _ => by simp [lcL2]
  | d :: ds, acc, hm, he, hl => by
    rw [List.flatMap_cons, List.length_append] at hl
    have hj : (ρ.set i (some (.d d)))[j]? = some none := by rw [List.getElem?_set_ne hij]; exact h1
    have e1 := hm d List.mem_cons_self
    have e2 : lcL P (bName j) mYes me [j] (f d) acc (ρ.set i (some (.d d))) = .ok (acc ++ (f d).map (g d)) (ρ.set i (some (.d d))) := by
      have := lcL_pure (P := P) (b := bName j) (mt := mYes) (me := me) (vs := [j]) (ρ := ρ.set i (some (.d d))) (fun _ => true) (g d) (f d) acc (fun e hx => ⟨(ρ.set i (some (.d d))).set j (some (.d e)), rfl, rfl, fun _ => he d List.mem_cons_self e hx, set_back _ j _ hj⟩) (by omega)
      rw [filter_yes] at this
      exact this
    have w1 : wipeE (ρ.set i (some (.d d))) [j] = ρ.set i (some (.d d)) := set_none _ j hj
    have w2 : wipeE (ρ.set i (some (.d d))) [i, j] = ρ := by
      show ((ρ.set i (some (.d d))).set j none).set i none = ρ
      rw [set_none _ j hj, set_back _ i _ h0]
    have ih := lcL2_nm (P := P) i j hij f g h0 h1 ds (acc ++ (f d).map (g d)) (fun x hx => hm x (List.mem_cons_of_mem _ hx)) (fun x hx => he x (List.mem_cons_of_mem _ hx)) (by rw [List.length_append, List.length_map]; omega)
    show (match ml (ρ.set i (some (.d d))) with
        | .ok es ρ3 => (match lcL P (bName j) mYes me [j] es acc (wipeE ρ3 [j]) with
          | .ok acc' ρ4 => lcL2 P (bName i) mYes ml (bName j) mYes me [i, j] [j] ds acc' (wipeE ρ4 [i, j])
          | _ => .no)
        | _ => .no) = _
    rw [e1]
    show (match lcL P (bName j) mYes me [j] (f d) acc (wipeE (ρ.set i (some (.d d))) [j]) with
          | .ok acc' ρ4 => lcL2 P (bName i) mYes ml (bName j) mYes me [i, j] [j] ds acc' (wipeE ρ4 [i, j])
          | _ => .no) = _
    rw [w1, e2]
    show lcL2 P (bName i) mYes ml (bName j) mYes me [i, j] [j] ds _ (wipeE (ρ.set i (some (.d d))) [i, j]) = _
    rw [w2, ih, List.flatMap_cons, List.append_assoc]
theorem mLc2_k (P : Nat) (mi : Env → Res (List D)) (b : D → Env → Option Env) (mt : Env → Res Bool) (ml : Env → Res (List D)) (b1 : D → Env → Option Env) (mt1 : Env → Res Bool) (me : Env → Res R) (vs vs1 : List Nat) (ρ : Env) :
    mLc2 P mi b mt ml b1 mt1 me vs vs1 ρ = (mi ρ).bind fun ds ρ1 => (match lcL2 P b mt ml b1 mt1 me vs vs1 ds [] (wipeE ρ1 vs) with
  | .ok acc ρw => .ok (.o acc) (back ρ1 vs ρw)
  | _ => .no) := nonrfl rfl
end Z
namespace Z
theorem cast_lit (n : Nat) : ((no_index (OfNat.ofNat n) : Nat) : Int) = OfNat.ofNat n := rfl
end Z
namespace Z
open PySem PySem.Spec PyProof.Rows L2
/-! ### sorted: ints or pairs -/
def insN (p : Int) : List Int → List Int
  | [] => [p]
  | q :: qs => if p ≤ q then p :: q :: qs else q :: insN p qs
def isort (ps : List Int) : List Int := ps.foldr insN []
theorem insN_perm (p : Int) : ∀ qs : List Int, (insN p qs).Perm (p :: qs)
  | [] => .refl _
  | q :: qs => by
    unfold insN
    split
    · exact .refl _
    · exact ((insN_perm p qs).cons q).trans (List.Perm.swap p q qs)
theorem isort_perm : ∀ ps : List Int, (isort ps).Perm ps
  | [] => .refl _
  | p :: ps => (insN_perm p (isort ps)).trans ((isort_perm ps).cons p)
theorem insN_up (p : Int) : ∀ qs : List Int, qs.Pairwise (· ≤ ·) → (insN p qs).Pairwise (· ≤ ·)
  | [], _ => by simp [insN]
  | q :: qs, h => by
    rw [List.pairwise_cons] at h
    unfold insN
    split
    · next hpq =>
      rw [List.pairwise_cons, List.pairwise_cons]
      exact ⟨fun x hx => by
        rcases List.mem_cons.mp hx with rfl | hx
        · exact hpq
        · have := h.1 x hx
          omega, h⟩
    · next hpq =>
      rw [List.pairwise_cons]
      exact ⟨fun x hx => by
        rcases List.mem_cons.mp ((insN_perm p qs).mem_iff.mp hx) with rfl | hx
        · omega
        · exact h.1 x hx, insN_up p qs h.2⟩
theorem isort_up : ∀ ps : List Int, (isort ps).Pairwise (· ≤ ·)
  | [] => .nil
  | p :: ps => insN_up p _ (isort_up ps)
theorem isort_one {xs ys : List Int} (h1 : xs.Pairwise (· ≤ ·)) (h2 : ys.Pairwise (· ≤ ·)) (p : xs.Perm ys) : xs = ys :=
  p.eq_of_pairwise (fun a b _ _ q1 q2 => by omega) h1 h2
theorem isort_lt {ps : List Int} (h : ps.Nodup) : (isort ps).Pairwise (· < ·) := by
  have nd : (isort ps).Nodup := (isort_perm ps).nodup_iff.mpr h
  exact ((isort_up ps).and nd).imp fun {a b} hab => by
    have := hab.1
    have := hab.2
    omega
theorem isort_mem {ps : List Int} (x : Int) : x ∈ isort ps ↔ x ∈ ps := (isort_perm ps).mem_iff
def rSortA (K : PySem.W.Frag) : List V → Hp → VK → Prop := fun xs H Q => rSortP K xs H Q ∨ rSortedI K xs H Q
theorem zsortA {K : PySem.W.Frag} {X : Cx} (hK : X.K = K := by rfl) : CallR X (.builtin "sorted") (rSortA K) := by subst hK; exact CallR.or zsortP cr_sortedI
def cSortA : List D → Option R
  | [.list es] => (match intsOf es with
    | some ns => some (.o ((isort ns).map .int))
    | none => (match pairsOf es with
      | some ps => some (.o ((psort ps).map pairD))
      | none => none))
  | [.tuple es] => (match intsOf es with
    | some ns => none
    | none => none)
  | _ => none
theorem s_sortA {K : PySem.W.Frag} : CallS K (rSortA K) cSortA := by
  intro G H xs ds z Q s h eg hq
  unfold cSortA at eg
  split at eg
  · next es =>
    split at eg
    · next ns en =>
      cases eg
      right
      cases h with
      | cons h1 h2 =>
        cases h2
        obtain ⟨a, vs, rfl, w1, w2⟩ := h1.lst s
        rw [intsOf_eq en] at w2
        rw [dpAll_ints w2] at w1
        refine ⟨a, ns, rfl, w1, fun ms p pm up np => ?_⟩
        have em : ms = isort ns := isort_one up (isort_up ns) (pm.trans (isort_perm ns).symm)
        subst em
        exact hq _ G _ (Grow.fresh s np) ⟨p, _, rfl, np, upd_same, dpAll_ofInts _, s.free np⟩
    · split at eg
      · next ps ep =>
        left
        exact s_sortP G H xs [.list es] z Q s h (by unfold cSortP; simp only [ep]; exact eg) hq
      · cases eg
  · next es => split at eg <;> cases eg
  · cases eg
theorem cSortA_i (ns : List Int) : cSortA [.list (ns.map .int)] = some (.o ((isort ns).map .int)) := by
  show (match intsOf (ns.map PyData.int) with
    | some ns => some (R.o ((isort ns).map .int))
    | none => _) = _
  rw [intsOf_map]
theorem cSortA_p (ps : List (Int × Int)) : cSortA [.list (ps.map pairD)] = some (.o ((psort ps).map pairD)) := by
  cases ps with
  | nil => rfl
  | cons p ps =>
    have e : intsOf ((p :: ps).map pairD) = none := rfl
    show (match intsOf ((p :: ps).map pairD) with
      | some ns => some (R.o ((isort ns).map .int))
      | none => (match pairsOf ((p :: ps).map pairD) with
        | some ps => some (R.o ((psort ps).map pairD))
        | none => none)) = _
    rw [e, pairsOf_map]
end Z
namespace Z
open PySem L2
theorem forL_enc {α : Type} {b : D → Env → Option Env} {body : Env → Out} (enc : α → D) (Inv : Nat → Env → Prop) (xs : List α) (ρ : Env) (h0 : Inv 0 ρ)
    (hs : ∀ (k : Nat) (hk : k < xs.length), ∀ ρ, Inv k ρ → ∃ ρ1 ρ2, b (enc xs[k]) ρ = some ρ1 ∧ body ρ1 = .nx ρ2 ∧ Inv (k + 1) ρ2) : ∃ ρ', forL b body (xs.map enc) ρ = .nx ρ' ∧ Inv xs.length ρ' := by
  obtain ⟨ρ', e, h⟩ := forL_inv (b := b) (body := body) Inv (xs.map enc) 0 ρ h0 fun i d hd ρ hρ => by
    rw [List.getElem?_map] at hd
    by_cases hi : i < xs.length
    · rw [List.getElem?_eq_getElem hi] at hd
      cases hd
      rw [Nat.zero_add] at hρ ⊢
      exact hs i hi ρ hρ
    · rw [List.getElem?_eq_none (by omega)] at hd
      cases hd
  rw [Nat.zero_add, List.length_map] at h
  exact ⟨ρ', e, h⟩
theorem forL_nats {b : D → Env → Option Env} {body : Env → Out} (Inv : Nat → Env → Prop) (N : Nat) (ρ : Env) (h0 : Inv 0 ρ)
    (hs : ∀ k, k < N → ∀ ρ, Inv k ρ → ∃ ρ1 ρ2, b (.int (k : Int)) ρ = some ρ1 ∧ body ρ1 = .nx ρ2 ∧ Inv (k + 1) ρ2) : ∃ ρ', forL b body (natsD N) ρ = .nx ρ' ∧ Inv N ρ' := by
  obtain ⟨ρ', e, h⟩ := forL_enc (b := b) (body := body) (fun (k : Nat) => PyData.int (k : Int)) Inv (List.range N) ρ h0 fun k hk ρ hρ => by
    rw [List.getElem_range]
    exact hs k (by rw [List.length_range] at hk; exact hk) ρ hρ
  rw [List.length_range] at h
  exact ⟨ρ', e, h⟩
end Z
namespace Z
open PySem L2
theorem gCatT_t (xs ys : List D) : gCatT (.tuple xs) (.tuple ys) = if xs.length + ys.length ≤ 1000000 then some (.d (.tuple (xs ++ ys))) else none := nonrfl rfl
theorem gRepA_lit (x : D) (n : Nat) (h : n ≤ 1000) : gRepA (.tuple [x]) (.int (no_index (OfNat.ofNat n))) = some (.d (.tuple (List.replicate n x))) := gRepA_1 x n h
def rgEK (tup : Bool) (rs : List R) (ρ1 : Env) : Res R := match rs with
  | [.d (.int j)] => if -1000000 ≤ j ∧ j ≤ 1000000 then .ok (if tup = true then .d (.tuple (rgD 0 j)) else .o (rgD 0 j)) ρ1 else .no
  | _ => .no
theorem mRgE_k (tup : Bool) (ma : Env → Res (List R)) (ρ : Env) : mRgE tup ma ρ = (ma ρ).bind (rgEK tup) := nonrfl rfl
theorem rgD_nat (n : Nat) : rgD 0 n = natsD n := by
  unfold rgD natsD
  rw [show ((n : Int) - 0).toNat = n by omega]
  congr 1
  funext i
  simp
theorem rgEK_t (N : Nat) (ρ1 : Env) (h : N ≤ 1000) : rgEK true [.d (.int (N : Int))] ρ1 = .ok (.d (.tuple (natsD N))) ρ1 := by
  show (if -1000000 ≤ (N : Int) ∧ (N : Int) ≤ 1000000 then Res.ok (if true = true then R.d (.tuple (rgD 0 N)) else .o (rgD 0 N)) ρ1 else .no) = _
  rw [if_pos ⟨by omega, by omega⟩, rgD_nat]
  rfl
theorem rgEK_f (N : Nat) (ρ1 : Env) (h : N ≤ 1000) : rgEK false [.d (.int (N : Int))] ρ1 = .ok (.o (natsD N)) ρ1 := by
  show (if -1000000 ≤ (N : Int) ∧ (N : Int) ≤ 1000000 then Res.ok (if false = true then R.d (.tuple (rgD 0 N)) else .o (rgD 0 N)) ρ1 else .no) = _
  rw [if_pos ⟨by omega, by omega⟩, rgD_nat]
  rfl
theorem natsD_ints (N : Nat) : natsD N = ((List.range N).map fun i : Nat => (i : Int)).map PyData.int := by
  unfold natsD
  rw [List.map_map]
  rfl
theorem natsD_len (N : Nat) : (natsD N).length = N := by unfold natsD; rw [List.length_map, List.length_range]
theorem gNe_str (x : Str) (hx : PyData.strOk x = true) : gNe (.str x) (.str x) = some (.d (.bool false)) := by
  have h : SeqAt.shaped (.str x) = true := by simp [SeqAt.shaped, PyData.canLay0, PyData.depth, hx]
  unfold gNe
  rw [h]
  simp [PyData.eqv]
end Z
namespace Z
open PySem L2
theorem cutD_take (xs : List D) (k : Nat) (h : k ≤ xs.length) : cutD xs none (some (k : Int)) = xs.take k := by
  have e : HT.sIx xs.length xs.length (some (k : Int)) = k := by
    rw [HT.sIx_nat]
    omega
  have e0 : HT.sIx xs.length 0 none = 0 := rfl
  unfold cutD
  rw [e, e0, Nat.sub_zero, List.drop_zero]
theorem cutD_drop (xs : List D) (k : Nat) (h : k ≤ xs.length) : cutD xs (some (k : Int)) none = xs.drop k := by
  have e : HT.sIx xs.length 0 (some (k : Int)) = k := by
    rw [HT.sIx_nat]
    omega
  have e0 : HT.sIx xs.length xs.length none = xs.length := rfl
  unfold cutD
  rw [e, e0, List.take_of_length_le (by rw [List.length_drop]; omega)]
end Z
namespace Z
open PySem L2
theorem cSum_i (ns : List Int) : cSum [.list (ns.map .int)] = some (.d (.int ns.sum)) := by
  show (match intsOf (ns.map PyData.int) with
    | some ns => some (R.d (.int ns.sum))
    | none => none) = _
  rw [intsOf_map]
theorem cSum_g {α : Type} (xs : List α) (g : α → Int) : cSum [.list (xs.map fun x => PyData.int (g x))] = some (.d (.int (xs.map g).sum)) := by
  have := cSum_i (xs.map g)
  rw [List.map_map] at this
  exact this
theorem gAltLt_pair (a b c d : Int) : gAlt gLt gLtT (.tuple [.int a, .int b]) (.tuple [.int c, .int d]) = some (.d (.bool (HT.lexLt [a, b] [c, d]))) := nonrfl rfl
end Z
namespace Z
open PySem PySem.Spec PyProof.Rows L2
/-! ### dicts by data -/
def keyOk (tk : Bool) : D → Bool
  | .int _ => !tk
  | .tuple ds => tk && (match toNK (.tuple ds) with
    | some n => decide (n.depth ≤ 8)
    | none => false)
  | _ => false
/-- the value at a key -/
def atM (kvs : List (D × D)) (k : D) : Option D := (kvs.find? fun q => decide (toNK q.1 = toNK k)).map (·.2)
/-- d[k] = v -/
def putM (kvs : List (D × D)) (k v : D) : List (D × D) := if (atM kvs k).isSome = true then kvs.map (fun q => if toNK q.1 = toNK k then (q.1, v) else q) else kvs ++ [(k, v)]
section
variable {X : Cx} {pins : List (Addr × Obj)} {σ : L2.St} {H : Hp} {s : Shared} {K : PySem.W.Frag}
mutual
theorem nested_is (I : Inv X pins σ H s) : ∀ (d : D) (n : NestedKey) (v : V) (u : Value), toNK d = some n → Dp X.K H v d → RelV v u → NestedIs s.heap n u
  | .int i, n, v, u, e, h, r => by
    simp only [toNK] at e
    cases e
    cases h
    obtain ⟨t, rfl⟩ := r
    exact .int i t
  | .tuple ds, n, v, u, e, h, r => by
    simp only [toNK] at e
    cases e2 : toNK.toNKs ds with
    | none => rw [e2] at e; cases e
    | some ks =>
      rw [e2] at e
      cases e
      cases h with
      | tup h1 h2 =>
        cases r
        obtain ⟨its, rv, ⟨o, ho, hc, m, hd⟩, _⟩ := I.tuple h1
        exact .tup ho hc hd (by rw [List.toList_toArray]; exact nested_all I ds ks _ _ e2 h2 rv)
  | .none, n, v, u, e, _, _ => by simp [toNK] at e
  | .bool _, n, v, u, e, _, _ => by simp [toNK] at e
  | .str _, n, v, u, e, _, _ => by simp [toNK] at e
  | .list _, n, v, u, e, _, _ => by simp [toNK] at e
  | .dict _, n, v, u, e, _, _ => by simp [toNK] at e
theorem nested_all (I : Inv X pins σ H s) : ∀ (ds : List D) (ks : List NestedKey) (vs : List V) (us : List Value), toNK.toNKs ds = some ks → DpAll X.K H vs ds → Vals vs us → NestedAll s.heap ks us
  | [], ks, vs, us, e, h, r => by
    simp only [toNK.toNKs] at e
    cases e
    cases h
    cases r
    exact .nil
  | d :: ds, ks, vs, us, e, h, r => by
    simp only [toNK.toNKs] at e
    split at e
    · next k ks' e1 e2 =>
      cases e
      cases h with
      | cons h1 h2 =>
        cases r with
        | cons r1 r2 => exact .cons (nested_is I d k _ _ e1 h1 r1) (nested_all I ds ks' _ _ e2 h2 r2)
    · cases e
end
/-- the entries of a dict with tuples as keys -/
abbrev LX : List (NestedKey × Addr × V) → List (NestedKey × Addr × Value) → Prop := Paired fun p q => p.1 = q.1 ∧ p.2.1 = q.2.1 ∧ RelV p.2.2 q.2.2
theorem nest_of (I : Inv X pins σ H s) {a : Addr} {L : List (NestedKey × Addr × V)} {kvs : List (D × D)} (e : H a = some (NestO a L)) (hk : KvN X.K H L kvs) :
    L.length ≤ sizeLine ∧ (a == sysModules) = false ∧ ∃ xs : List (NestedKey × Addr × Value), LX L xs ∧ s.heap.DictOfH (nestedKind X.prog X.w) a xs := by
  have ok := I.hok a _ e
  obtain ⟨⟨h1, h2, xs, h4, ⟨o, es, ep, h5, h6, h7, h8⟩, h9⟩, _, _⟩ := ok
  refine ⟨h1, h2, xs, h4, o, es, ep, h5, h6, h7, h8 X.w, ?_, h9⟩
  have key : ∀ (L : List (NestedKey × Addr × V)) (kvs : List (D × D)) (xs : List (NestedKey × Addr × Value)), KvN X.K H L kvs → LX L xs → ∀ p ∈ xs, NestedIs s.heap p.1 (.ref p.2.1) ∧ p.1.depth ≤ 8 := by
    intro L kvs xs hk
    induction hk generalizing xs with
    | nil => intro hp p hx; cases hp; cases hx
    | cons q1 q0 q2 q3 _ ih =>
      intro hp p hx
      cases hp with
      | cons r t =>
        obtain ⟨r1, r2, r3⟩ := r
        rcases List.mem_cons.mp hx with rfl | hx
        · rw [← r1, ← r2]
          exact ⟨nested_is I _ _ _ _ q1 q2 rfl, q0⟩
        · exact ih _ t p hx
  exact key L kvs xs hk h4
theorem at_nest {L : List (NestedKey × Addr × V)} {kvs : List (D × D)} (hk : KvN K H L kvs) {k : D} {n : NestedKey} (en : toNK k = some n) : ∀ {xs : List (NestedKey × Addr × Value)}, LX L xs →
    match atM kvs k with
    | some d => ∃ p v, atKey xs n = some p ∧ RelV v p.2 ∧ Dp K H v d
    | none => atKey xs n = none := by
  induction hk with
  | nil => intro xs h; cases h; rfl
  | @cons n0 b v k0 d ks kvs q1 q0 q2 q3 _ ih =>
    intro xs h
    cases h with
    | @cons p q _ xs' r t =>
      obtain ⟨r1, r2, r3⟩ := r
      have r1 : n0 = q.1 := r1
      have ih := ih t
      unfold atM atKey at ih ⊢
      rw [List.find?_cons, List.find?_cons]
      by_cases hn : n0 = n
      · have e1 : decide (toNK k0 = toNK k) = true := decide_eq_true (by rw [q1, en, hn])
        have e2 : decide (q.1 = n) = true := decide_eq_true (by rw [← r1, hn])
        rw [e1, e2]
        exact ⟨q.2, v, rfl, r3, q3⟩
      · have e1 : decide (toNK k0 = toNK k) = false := decide_eq_false (by rw [q1, en]; intro z; cases z; exact hn rfl)
        have e2 : decide (q.1 = n) = false := decide_eq_false (by rw [← r1]; exact hn)
        rw [e1, e2]
        exact ih
theorem at_int {ks : List (Int × V)} {kvs : List (D × D)} (hk : KvI K H ks kvs) (i : Int) :
    match atM kvs (.int i) with
    | some d => ∃ v, valV (ks.map fun q => ((Sum.inl q.1 : Key), q.2)) (.inl i) = some v ∧ Dp K H v d
    | none => valV (ks.map fun q => ((Sum.inl q.1 : Key), q.2)) (.inl i) = none := by
  induction hk with
  | nil => rfl
  | @cons j v d ks kvs h1 _ ih =>
    unfold atM at ih ⊢
    rw [List.find?_cons, List.map_cons]
    by_cases hj : j = i
    · subst hj
      have e1 : decide (toNK (.int j) = toNK (.int j)) = true := decide_eq_true rfl
      rw [e1]
      exact ⟨v, valV_pos rfl, h1⟩
    · have e1 : decide (toNK (.int j) = toNK (.int i)) = false := decide_eq_false (by simp only [toNK]; intro z; cases z; exact hj rfl)
      rw [e1, valV_neg (fun z => hj (by cases z; rfl))]
      exact ih
theorem keyOk_i {tk : Bool} {k : D} (h : keyOk tk k = true) : (tk = false ∧ ∃ i, k = .int i) ∨ (tk = true ∧ ∃ ds n, k = .tuple ds ∧ toNK k = some n ∧ n.depth ≤ 8) := by
  cases k with
  | int i => exact .inl ⟨by simpa [keyOk] using h, i, rfl⟩
  | tuple ds =>
    simp only [keyOk, Bool.and_eq_true] at h
    obtain ⟨h1, h2⟩ := h
    cases e : toNK (.tuple ds) with
    | none => rw [e] at h2; cases h2
    | some n => rw [e] at h2; exact .inr ⟨h1, ds, n, rfl, rfl, of_decide_eq_true h2⟩
  | _ => simp [keyOk] at h
/-! the operations -/
def rInM (K : PySem.W.Frag) (neg : Bool) : R2 := fun x y H Q => ∃ a o tk kvs d, y = .ref a ∧ H a = some o ∧ OwnR K H a o (.m tk kvs) ∧ Dp K H x d ∧ keyOk tk d = true ∧ Q (.bl (neg ^^ (atM kvs d).isSome)) H
theorem room8 {A : Around} (hu : A.units + 64 < cLine) : (nestedKind X.prog X.w).room A.in1 := by
  show A.in1.units + 8 < cLine
  have : A.in1.units ≤ A.units + 1 := by simp
  omega
theorem zinM (hu : X.A.units + 64 < cLine) (hK : X.K = K := by rfl) : OpR X (compareOp .In) (rInM K false) := by
  subst hK
  intro pins s σ H x y v u Q I rx ry h
  obtain ⟨a, o, tk, kvs, d, rfl, ha, ho, hd, hk, q⟩ := h
  cases ry
  rw [Bool.false_xor] at q
  cases ho with
  | i hkv =>
    rcases keyOk_i hk with ⟨_, i, rfl⟩ | ⟨h, _⟩
    · have ev := dp_int hd
      subst ev
      have at' := at_int hkv i
      refine d_in (by omega) I (DGet.k (k := .inl i) ha) rx fun s' I' => ⟨.bl _, H, I', rfl, ?_⟩
      cases e : atM kvs (.int i) with
      | none => rw [e] at at' q; rw [at']; exact q
      | some d => rw [e] at at' q; obtain ⟨w, w1, w2⟩ := at'; rw [w1]; exact q
    · cases h
  | n hkv =>
    rcases keyOk_i hk with ⟨h, _⟩ | ⟨_, ds, n, rfl, en, hn⟩
    · cases h
    · obtain ⟨_, hs, xs, lx, dd⟩ := nest_of I ha hkv
      obtain ⟨b, vs, rfl, _, _⟩ := dp_tup hd
      cases rx
      have at' := at_nest hkv en lx
      refine wpAny_in_heap (room8 hu) ⟨nested_is I _ _ _ _ en hd rfl, hn⟩ hs dd ⟨.bl _, H, I.tok _, rfl, ?_⟩
      cases e : atM kvs (.tuple ds) with
      | none => rw [e] at at' q; rw [at']; exact q
      | some d => rw [e] at at' q; obtain ⟨p, w, w1, w2⟩ := at'; rw [w1]; exact q
theorem znotInM (hu : X.A.units + 64 < cLine) (hK : X.K = K := by rfl) : OpR X (compareOp .NotIn) (rInM K true) := by
  subst hK
  intro pins s σ H x y v u Q I rx ry h
  obtain ⟨a, o, tk, kvs, d, rfl, ha, ho, hd, hk, q⟩ := h
  cases ry
  rw [Bool.true_xor] at q
  cases ho with
  | i hkv =>
    rcases keyOk_i hk with ⟨_, i, rfl⟩ | ⟨h, _⟩
    · have ev := dp_int hd
      subst ev
      have at' := at_int hkv i
      refine d_notIn (by omega) I (DGet.k (k := .inl i) ha) rx fun s' I' => ⟨.bl _, H, I', rfl, ?_⟩
      cases e : atM kvs (.int i) with
      | none => rw [e] at at' q; rw [at']; exact q
      | some d => rw [e] at at' q; obtain ⟨w, w1, w2⟩ := at'; rw [w1]; exact q
    · cases h
  | n hkv =>
    rcases keyOk_i hk with ⟨h, _⟩ | ⟨_, ds, n, rfl, en, hn⟩
    · cases h
    · obtain ⟨_, hs, xs, lx, dd⟩ := nest_of I ha hkv
      obtain ⟨b, vs, rfl, _, _⟩ := dp_tup hd
      cases rx
      have at' := at_nest hkv en lx
      refine wpAny_notIn_heap (room8 hu) ⟨nested_is I _ _ _ _ en hd rfl, hn⟩ hs dd ⟨.bl _, H, I.tok _, rfl, ?_⟩
      cases e : atM kvs (.tuple ds) with
      | none => rw [e] at at' q; rw [at']; exact q
      | some d => rw [e] at at' q; obtain ⟨p, w, w1, w2⟩ := at'; rw [w1]; exact q
/-- x[k] -/
def rIxM (K : PySem.W.Frag) : R2 := fun x y H Q => ∃ a o tk kvs d z G, x = .ref a ∧ H a = some o ∧ Same G H ∧ OwnR K G a o (.m tk kvs) ∧ Dp K G y d ∧ keyOk tk d = true ∧ atM kvs d = some z ∧ ∀ v, Dp K G v z → Q v H
theorem getM_core (hu : X.A.units + 64 < cLine) {x y : V} {v u : Value} {Q : VK} (I : Inv X pins σ H s) (rx : RelV x v) (ry : RelV y u) (h : rIxM X.K x y H Q) : s.TypeIs v "dict" ∧ wpAny (model X.prog X.w) X.A (getItem v u) (EP X pins σ Q) X.xe s := by
  obtain ⟨a, o, tk, kvs, d, z, G, rfl, ha, sg, ho, hd, hk, hz, q⟩ := h
  cases rx
  cases ho with
  | i hkv =>
    rcases keyOk_i hk with ⟨_, i, rfl⟩ | ⟨h, _⟩
    · have ev := dp_int hd
      subst ev
      have at' := at_int hkv i
      rw [hz] at at'
      obtain ⟨w, w1, w2⟩ := at'
      have g : DGet H a (.int i) (some w) := by rw [← w1]; exact DGet.k (k := .inl i) ha
      exact ⟨dict_typeIs I g, d_getItem (by omega) I g ry fun w' s' I' r => ⟨w, H, I', r, q w w2⟩⟩
    · cases h
  | n hkv =>
    rcases keyOk_i hk with ⟨h, _⟩ | ⟨_, ds, n, rfl, en, hn⟩
    · cases h
    · obtain ⟨_, hs, xs, lx, dd⟩ := nest_of I ha (kvN_same sg hkv)
      obtain ⟨b, vs, rfl, _, _⟩ := dp_tup hd
      cases ry
      have at' := at_nest hkv en lx
      rw [hz] at at'
      obtain ⟨p, w, w1, w2, w3⟩ := at'
      exact ⟨dd.typeIs, wpAny_getItem_heap (room8 hu) ⟨nested_is I _ _ _ _ en (dp_same sg _ _ hd) rfl, hn⟩ dd w1 ⟨w, H, I.tok _, w2, q w w3⟩⟩
theorem pe_getM {o i : Expr} {td ty : TE} {pos : Pos} (hu : X.A.units + 64 < cLine) (ho : PE X o td) (hi : PE X i ty) (hs : NoSl i) (hK : X.K = K := by rfl) : PE X (.Subscript o i pos) (tOp (rIxM K) td ty) := by
  subst hK
  refine ⟨fun pins s σ H Q I h => ?_⟩
  exact subD_of PySem.F.slot_dict_getitem.lookup hs (thn (ho.run pins s σ H _ I h) fun u s1 ⟨x, H1, I1, rx, q1⟩ => thn (hi.run pins s1 σ H1 _ I1 q1) fun iv s2 ⟨y, H2, I2, ry, q2⟩ => getM_core hu I2 rx ry q2)
/-- list(x), ints as keys -/
def rListM (K : PySem.W.Frag) : List V → Hp → VK → Prop := fun xs H Q => ∃ a o kvs, xs = [.ref a] ∧ H a = some o ∧ OwnR K H a o (.m false kvs) ∧ ∀ p (ns : List Int), H p = none → kvs.map (·.1) = ns.map PyData.int → Q (.ref p) (upd H p (.lst (ns.map V.int)))
theorem zlistM (hc : X.calm = true) (hK : X.K = K := by rfl) : CallR X (.type "list") (rListM K) := by
  subst hK
  intro pins s σ H xs us Q I r h
  obtain ⟨a, o, kvs, rfl, ha, ho, q⟩ := h
  cases ho with
  | @i ks _ hkv =>
    refine call_listD hc pins s σ H [.ref a] us Q I r ⟨a, _, rfl, .inl ha, fun p np => ?_⟩
    have e1 : (ks.map fun q => ((Sum.inl q.1 : Key), q.2)).map (fun kv => kV kv.1) = (ks.map (·.1)).map V.int := by rw [List.map_map, List.map_map]; rfl
    have e2 : kvs.map (·.1) = (ks.map (·.1)).map PyData.int := by
      clear e1 q ha
      induction hkv with
      | nil => rfl
      | cons _ _ ih => simp [ih]
    rw [e1]
    exact q p _ np e2
/-! the hash of a key without texts asks nothing of the world -/
mutual
theorem hash_any {w w' : World} : ∀ {d : D} {n : NestedKey}, toNK d = some n → n.hash w = n.hash w'
  | .int i, n, e => by
    simp only [toNK] at e
    cases e
    rfl
  | .tuple ds, n, e => by
    simp only [toNK] at e
    cases e2 : toNK.toNKs ds with
    | none => rw [e2] at e; cases e
    | some ks =>
      rw [e2] at e
      cases e
      show (NestedKey.tup ks).hash w = (NestedKey.tup ks).hash w'
      simp only [NestedKey.hash]
      rw [hashes_any (w := w) (w' := w') e2]
  | .none, n, e => by simp [toNK] at e
  | .bool _, n, e => by simp [toNK] at e
  | .str _, n, e => by simp [toNK] at e
  | .list _, n, e => by simp [toNK] at e
  | .dict _, n, e => by simp [toNK] at e
theorem hashes_any {w w' : World} : ∀ {ds : List D} {ks : List NestedKey}, toNK.toNKs ds = some ks → NestedKey.hashes w ks = NestedKey.hashes w' ks
  | [], ks, e => by
    simp only [toNK.toNKs] at e
    cases e
    rfl
  | d :: ds, ks, e => by
    simp only [toNK.toNKs] at e
    split at e
    · next k ks' e1 e2 =>
      cases e
      simp only [NestedKey.hashes]
      rw [hash_any (w := w) (w' := w') e1, hashes_any (w := w) (w' := w') e2]
    · cases e
end
/-! new, and stores -/
theorem rawN_mono {a : Addr} {L : List (NestedKey × Addr × V)} (h1 h2 : Heap) (r : rawN a L h1) (k : ∀ o, h1.get? a = some o → h2.get? a = some o) : rawN a L h2 := by
  obtain ⟨z1, z2, xs, z4, ⟨o, es, ep, z5, z6, z7, z8⟩, z9⟩ := r
  exact ⟨z1, z2, xs, z4, ⟨o, es, ep, k o z5, z6, z7, z8⟩, z9⟩
theorem nest_ok {P : Program} {w : World} {H : Hp} {h : Heap} {a : Addr} {L : List (NestedKey × Addr × V)} (r : rawN a L h) : ObjOk P w H h a (NestO a L) := by
  refine ⟨r, ?_, rawN_mono⟩
  obtain ⟨_, _, _, _, ⟨o, _, _, z5, _⟩, _⟩ := r
  exact ⟨o, z5⟩
def tNewM (tk : Bool) : TE := fun _ H Q => ∀ p, H p = none → Q (.ref p) (upd H p (if tk = true then NestO p [] else .dK []))
theorem pe_newM {pos : Pos} (tk : Bool) : PE X (.Dict [] [] pos) (tNewM tk) := by
  refine ⟨fun pins s σ H Q I h => ?_⟩
  cases tk with
  | false => exact (pe_dnewK (X := X) (pos := pos)).run pins s σ H Q I h
  | true =>
    refine wpAny_Dict_empty ⟨.ref s.heap.objs.size, _, I.laid (a := s.heap.objs.size) (o := NestO s.heap.objs.size []) (t' := s.toks) (fun _ _ q => Heap.get?_push_of_some _ q) (Nat.le_refl _) (nest_ok ?_), rfl, h _ (I.hok.fresh (Nat.le_refl _))⟩
    exact ⟨Nat.zero_le _, beq_eq_false_iff_ne.mpr (Ne.symm (Nat.ne_of_lt I.big)), [], .nil, ⟨_, #[], 0, Heap.get?_push_size _ rfl, ⟨rfl, rfl, rfl⟩, rfl, fun _ => rfl⟩, List.nodup_nil⟩
theorem put_int {G : Hp} {ks : List (Int × V)} {kvs : List (D × D)} (hk : KvI K G ks kvs) (i : Int) {v : V} {dv : D} (hv : Dp K G v dv) :
    ∃ ks', putK (ks.map fun q => ((Sum.inl q.1 : Key), q.2)) (.inl i) v = ks'.map (fun q => ((Sum.inl q.1 : Key), q.2)) ∧ KvI K G ks' (putM kvs (.int i) dv) := by
  have any : ((ks.map fun q => ((Sum.inl q.1 : Key), q.2)).any fun kv => decide (kv.1 = .inl i)) = (atM kvs (.int i)).isSome := by
    rw [valV_any]
    have := at_int hk i
    cases e : atM kvs (.int i) with
    | none => rw [e] at this; rw [this]; rfl
    | some d => rw [e] at this; obtain ⟨w, w1, _⟩ := this; rw [w1]; rfl
  unfold putK putM
  rw [any]
  cases e : (atM kvs (.int i)).isSome with
  | true =>
    rw [if_pos rfl, if_pos rfl]
    clear any e
    induction hk with
    | nil => exact ⟨[], rfl, .nil⟩
    | @cons j w d ks kvs h1 _ ih =>
      obtain ⟨ks', e1, e2⟩ := ih
      by_cases hj : j = i
      · subst hj
        refine ⟨(j, v) :: ks', ?_, ?_⟩
        · rw [List.map_cons, List.map_cons, e1, List.map_cons, if_pos rfl]
        · rw [List.map_cons, if_pos rfl]
          exact .cons hv e2
      · refine ⟨(j, w) :: ks', ?_, ?_⟩
        · rw [List.map_cons, List.map_cons, e1, List.map_cons, if_neg (fun z => hj (by cases z; rfl))]
        · rw [List.map_cons, if_neg (fun z => hj (by simp only [toNK] at z; cases z; rfl))]
          exact .cons h1 e2
  | false =>
    rw [if_neg Bool.false_ne_true, if_neg Bool.false_ne_true]
    clear any e
    refine ⟨ks ++ [(i, v)], by rw [List.map_append]; rfl, ?_⟩
    induction hk with
    | nil => exact .cons hv .nil
    | cons h1 _ ih => exact .cons h1 ih
theorem put_nest {G : Hp} {L : List (NestedKey × Addr × V)} {kvs : List (D × D)} (hk : KvN K G L kvs) {xs : List (NestedKey × Addr × Value)} (lx : LX L xs) {k dv : D} {n : NestedKey} {b : Addr} {v : V} {u : Value} (en : toNK k = some n) (hn : n.depth ≤ 8) (hb : Dp K G (.ref b) k) (hv : Dp K G v dv) (r : RelV v u) :
    ∃ L', LX L' (storedH xs n b u) ∧ KvN K G L' (putM kvs k dv) ∧ L'.length ≤ L.length + 1 := by
  have same : (atKey xs n).isSome = (atM kvs k).isSome := by
    have := at_nest hk en lx
    cases e : atM kvs k with
    | none => rw [e] at this; rw [this]; rfl
    | some d => rw [e] at this; obtain ⟨p, w, w1, _⟩ := this; rw [w1]; rfl
  unfold storedH putM
  rw [same]
  cases e : (atM kvs k).isSome with
  | true =>
    rw [if_pos rfl, if_pos rfl]
    clear same e
    induction hk generalizing xs with
    | nil => cases lx; exact ⟨[], .nil, .nil, Nat.zero_le _⟩
    | @cons n0 b0 v0 k0 d ks kvs q1 q0 q2 q3 _ ih =>
      cases lx with
      | @cons p q _ xs' r0 t =>
        obtain ⟨r1, r2, r3⟩ := r0
        have r1 : n0 = q.1 := r1
        obtain ⟨L', e1, e2, e3⟩ := ih t
        by_cases hj : n0 = n
        · refine ⟨(n0, b0, v) :: L', ?_, ?_, by simp; omega⟩
          · rw [List.map_cons]
            refine .cons ?_ e1
            unfold putAt
            rw [if_pos (by rw [← r1, hj])]
            exact ⟨r1, r2, r⟩
          · rw [List.map_cons, if_pos (by rw [q1, en, hj])]
            exact .cons q1 q0 q2 hv e2
        · refine ⟨(n0, b0, v0) :: L', ?_, ?_, by simp; omega⟩
          · rw [List.map_cons]
            refine .cons ?_ e1
            unfold putAt
            rw [if_neg (by rw [← r1]; exact hj)]
            exact ⟨r1, r2, r3⟩
          · rw [List.map_cons, if_neg (by rw [q1, en]; intro z; cases z; exact hj rfl)]
            exact .cons q1 q0 q2 q3 e2
  | false =>
    rw [if_neg Bool.false_ne_true, if_neg Bool.false_ne_true]
    clear same e
    refine ⟨L ++ [(n, b, v)], ?_, ?_, by simp⟩
    · clear hk
      induction lx with
      | nil => exact .cons ⟨rfl, rfl, r⟩ .nil
      | cons r0 _ ih => exact .cons r0 ih
    · clear lx
      induction hk with
      | nil => exact .cons en hn hb hv .nil
      | cons q1 q0 q2 q3 _ ih => exact .cons q1 q0 q2 q3 ih
def rSetM (K : PySem.W.Frag) : TSet := fun o i v H Q => ∃ a ob tk kvs d dv G, o = .ref a ∧ H a = some ob ∧ Same G H ∧ OwnR K G a ob (.m tk kvs) ∧ Dp K G i d ∧ keyOk tk d = true ∧ Dp K G v dv ∧ kvs.length < 1000000 ∧ ∀ ob', OwnR K G a ob' (.m tk (putM kvs d dv)) → Q (upd H a ob')
theorem kvI_len {G : Hp} {ks : List (Int × V)} {kvs : List (D × D)} (hk : KvI K G ks kvs) : ks.length = kvs.length := by
  induction hk with
  | nil => rfl
  | cons _ _ ih => simp [ih]
theorem kvN_len {G : Hp} {ks : List (NestedKey × Addr × V)} {kvs : List (D × D)} (hk : KvN K G ks kvs) : ks.length = kvs.length := by
  induction hk with
  | nil => rfl
  | cons _ _ _ _ _ ih => simp [ih]
theorem set_M (hu : X.A.units + 64 < cLine) (hK : X.K = K := by rfl) : PSet X (rSetM K) := by
  subst hK
  intro pins s σ H o i v ov iv u Q I ro ri rv h
  obtain ⟨a, ob, tk, kvs, d, dv, G, rfl, ha, sg, ho, hd, hk, hv, hl, q⟩ := h
  cases ro
  cases ho with
  | i hkv =>
    rcases keyOk_i hk with ⟨_, j, rfl⟩ | ⟨h, _⟩
    · have ev := dp_int hd
      subst ev
      obtain ⟨ks', e1, e2⟩ := put_int hkv j hv
      have g := DPut.k (k := .inl j) (v := v) ha (by rw [List.length_map, kvI_len hkv, sizeLine_eq]; omega)
      rw [e1] at g
      exact d_setItem (by omega) I g ri rv fun s' I' => ⟨_, I', q _ (.i e2)⟩
    · cases h
  | n hkv =>
    rcases keyOk_i hk with ⟨h, _⟩ | ⟨_, ds, n, rfl, en, hn⟩
    · cases h
    · have hkv' := kvN_same sg hkv
      obtain ⟨z1, hs, xs, lx, dd⟩ := nest_of I ha hkv'
      obtain ⟨b, vs, rfl, _, _⟩ := dp_tup hd
      cases ri
      have hd' := dp_same sg _ _ hd
      obtain ⟨L', l1, l2, l3⟩ := put_nest hkv lx en hn hd hv rv
      have hz : xs.length ≤ sizeLine := by rw [← Paired.length lx]; exact z1
      have ll := kvN_len hkv
      refine wpAny_setItem_heap (hsz := hz) (room8 hu) ⟨nested_is I _ _ _ _ en hd' rfl, hn⟩ dd fun h' dd' hsb => ⟨_, ?_, q _ (.n l2)⟩
      obtain ⟨qo, es, ep, hq, h2, h3, h4, _, h5⟩ := dd'
      refine d_write I (by rw [ha]; exact True.intro) hsb ⟨qo, hq⟩ (nest_ok ⟨by rw [sizeLine_eq]; omega, hs, _, l1, ⟨qo, es, ep, hq, h2, h3, fun w' => ?_⟩, h5⟩)
      rw [h4]
      refine List.map_congr_left fun x hx => ?_
      have nt : ∀ (L : List (NestedKey × Addr × V)) (kvs : List (D × D)) (xs : List (NestedKey × Addr × Value)), KvN X.K G L kvs → LX L xs → ∀ x ∈ xs, ∃ k, toNK k = some x.1 := by
        intro L kvs xs hk
        induction hk generalizing xs with
        | nil => intro hp x hx; cases hp; cases hx
        | cons q1 _ _ _ _ ih =>
          intro hp x hx
          cases hp with
          | cons r t =>
            rcases List.mem_cons.mp hx with rfl | hx
            · exact ⟨_, by rw [← r.1]; exact q1⟩
            · exact ih _ t x hx
      obtain ⟨k, ek⟩ := nt _ _ _ l2 l1 x hx
      show (⟨x.1.hash X.w, .ref x.2.1, x.2.2⟩ : DictEntry) = ⟨x.1.hash w', .ref x.2.1, x.2.2⟩
      rw [hash_any ek]
end
end Z
namespace Z
open PySem PySem.Spec PyProof.Rows L2
/-! ### dicts of one's own: mirrors -/
def mNewM (P : Nat) (tk : Bool) (i : Nat) : Env → Out := fun ρ => .nx (ρ.set i (some (.m tk [])))
def mInM (neg : Bool) (ma : Env → Res R) (j : Nat) : Env → Res R := fun ρ => (ma ρ).bind fun r ρ1 => match opd ρ1 r, ρ1[j]? with
  | some d, some (some (S.m tk kvs)) => if keyOk tk d = true then .ok (.d (.bool (neg ^^ (atM kvs d).isSome))) ρ1 else .no
  | _, _ => .no
def mGetM (j : Nat) (mi : Env → Res R) : Env → Res R := fun ρ => match ρ[j]? with
  | some (some (S.m _ _)) => (mi ρ).bind fun r ρ1 => (match opd ρ1 r, ρ1[j]? with
    | some d, some (some (S.m tk kvs)) => if keyOk tk d = true then (match atM kvs d with
        | some z => .ok (.d z) ρ1
        | none => .no) else .no
    | _, _ => .no)
  | _ => .no
def mPutM (P j : Nat) (me mi : Env → Res R) : Env → Out := fun ρ => match me ρ with
  | .ok r ρ1 => (match frz1 P ρ1 r with
    | some ρ2 => (match ρ2[j]? with
      | some (some (S.m _ _)) => (match mi ρ2 with
        | .ok r2 ρ3 => (match dopd ρ3 r, dopd ρ3 r2, ρ3[j]? with
          | some x, some k, some (some (S.m tk kvs)) => if keyOk tk k = true ∧ kvs.length < 1000000 then .nx (ρ3.set j (some (.m tk (putM kvs k x)))) else .no
          | _, _, _ => .no)
        | .exc c ρ3 => .exc c ρ3
        | .no => .no)
      | _ => .no)
    | none => .no)
  | .exc c ρ1 => .exc c ρ1
  | .no => .no
/-- list(x) -/
def mListM (j : Nat) : Env → Res R := fun ρ => match ρ[j]? with
  | some (some (S.m false kvs)) => if kvs.length < 1000000 then .ok (.o (kvs.map (·.1))) ρ else .no
  | _ => .no
section
variable {K : PySem.W.Frag} {P : Nat} {W : Wish} {ta ti te : TE} {ma mi me : Env → Res R}
theorem sim_newM {tk : Bool} {i : Nat} (hi : P ≤ i) : SimS K P W (tAsg (tNewM tk) (gName i)) (mNewM P tk i) := by
  intro f G H σ ρ D hp rl hq p np
  have gr := Grow.fresh (o := if tk = true then NestO p [] else .dK []) rl.gh np
  refine hq G _ _ (.refl _) ((rl.grow gr).putS (xs := .m tk []) hp hi rfl (o := if tk = true then NestO p [] else .dK []) upd_same ?_ (rl.gh.free np) (rl.fh.free np) fun k s e hs z => ?_)
  · cases tk with
    | true => exact .n .nil
    | false => exact .i (ks := []) .nil
  · obtain ⟨p', o, w1, w2, _⟩ := rl.ow k s e hs
    rw [z] at w1
    cases w1
    rw [np] at w2
    cases w2
theorem sim_inM {neg : Bool} {j : Nat} (h : SimE K P W ta ma) : SimE K P W (tOp (rInM K neg) ta (tVar j)) (mInM neg ma j) := by
  intro f G H σ ρ Q hp rl hq
  refine h.op hp rl ?_
  unfold mInM at hq
  cases e : ma ρ with
  | no => rw [e] at hq; exact hq
  | exc c ρ1 => rw [e] at hq; exact hq
  | ok r ρ1 =>
    rw [e] at hq
    intro v G1 H1 s1 rl1 h1
    simp only [Res.bind] at hq
    split at hq
    · next d tk kvs e1 e2 =>
      split at hq
      · next hk =>
        obtain ⟨p, o, w1, w2, w3, w4, w5⟩ := rl1.ow j _ e2 rfl
        exact ⟨_, w1, p, o, tk, kvs, d, rfl, w2, w3.same rl1.gh, (h1.got rl1 e1).dp rl1.gh, hk, hq _ G1 H1 s1 rl1 (.bl _)⟩
      · exact hq.elim
    · exact hq.elim
theorem sim_getM {j : Nat} (h : SimE K P W ti mi) : SimE K P W (tOp (rIxM K) (tVar j) ti) (mGetM j mi) := by
  intro f G H σ ρ Q hp rl hq
  unfold mGetM at hq
  split at hq
  · next tk0 kvs0 e0 =>
    obtain ⟨p, o, w1, w2, w3, w4, w5⟩ := rl.ow j _ e0 rfl
    refine ⟨_, w1, ?_⟩
    refine h.op hp rl ?_
    cases e : mi ρ with
    | no => rw [e] at hq; exact hq
    | exc c ρ1 => rw [e] at hq; exact hq
    | ok r ρ1 =>
      rw [e] at hq
      intro v G1 H1 s1 rl1 h1
      simp only [Res.bind] at hq
      split at hq
      · next d tk kvs e1 e2 =>
        split at hq
        · next hk =>
          split at hq
          · next z ez =>
            obtain ⟨p', o', z1, z2, z3, z4, z5⟩ := rl1.ow j _ e2 rfl
            rw [w1] at z1
            cases z1
            obtain ⟨G2, s2, rl2, hd⟩ : ∃ G2, Same G1 G2 ∧ Rel K f G2 H1 σ ρ1 ∧ Dp K G2 v d := by
              have hg := h1.got rl1 e1
              rcases hg with hg | ⟨b, us, xs, rfl, rfl, _⟩
              · exact ⟨G1, .refl _, rl1, hg⟩
              · cases hk
            obtain ⟨p', o', z1, z2, z3, z4, z5⟩ := rl2.ow j _ e2 rfl
            rw [w1] at z1
            cases z1
            exact ⟨p, o', tk, kvs, d, z, G2, rfl, z2, rl2.gh, z3, hd, hk, ez, fun v hv => hq v G2 H1 (s1.trans s2) rl2 hv⟩
          · exact hq.elim
        · exact hq.elim
      · exact hq.elim
  · exact hq.elim
theorem sim_putM {j : Nat} (h : SimE K P W te me) (h2 : SimE K P W ti mi) : SimS K P W (tAsg te (L2.gSub (tVar j) ti (rSetM K))) (mPutM P j me mi) := by
  intro f G H σ ρ D hp rl hq
  refine h.op hp rl ?_
  unfold mPutM at hq
  cases e : me ρ with
  | no => rw [e] at hq; exact hq
  | exc c ρ1 => rw [e] at hq; exact fun G1 H1 s1 rl1 => hq G1 H1 σ s1 rl1
  | ok r ρ1 =>
    rw [e] at hq
    intro v G1 H1 s1 rl1 h1
    simp only at hq
    split at hq
    · next ρ2 e2 =>
      obtain ⟨G2, s2, rl2⟩ := rl1.frz1 hp e2
      split at hq
      · next tk0 kvs0 e0 =>
        obtain ⟨p, o0, q1, _⟩ := rl2.ow j _ e0 rfl
        refine ⟨_, q1, h2.op hp rl2 ?_⟩
        cases e3 : mi ρ2 with
        | no => rw [e3] at hq; exact hq.elim
        | exc c ρ3 => rw [e3] at hq; exact fun G3 H3 s3 rl3 => hq G3 H3 σ ((s1.trans s2).trans s3) rl3
        | ok r3 ρ3 =>
          rw [e3] at hq
          intro w G3 H3 s3 rl3 h3
          simp only at hq
          split at hq
          · next x k tk kvs e4 e5 e6 =>
            split at hq
            · next hk =>
              obtain ⟨hk, hl⟩ := hk
              obtain ⟨p', ob, w1, w2, w3, w4, w5⟩ := rl3.ow j _ e6 rfl
              rw [q1] at w1
              cases w1
              have hx : Dp K G3 v x := ((h1.same s2).same s3).dat rl3 e4
              have hkd : Dp K G3 w k := h3.dat rl3 e5
              exact ⟨p, ob, tk, kvs, k, x, G3, rfl, w2, rl3.gh, w3, hkd, hk, hx, hl, fun ob' ho' => hq G3 _ σ ((s1.trans s2).trans s3) (rl3.changeS e6 rfl rfl q1 w4 w5 ho')⟩
            · exact hq.elim
          · exact hq.elim
      · exact hq.elim
    · exact hq.elim
theorem sim_listM {j : Nat} : SimE K P W (tCB (rListM K) (tCons (tVar j) tNil)) (mListM j) := by
  intro f G H σ ρ Q hp rl hq
  unfold mListM at hq
  split at hq
  · next kvs e =>
    split at hq
    · next hl =>
      obtain ⟨p, o, w1, w2, w3, w4, w5⟩ := rl.ow j _ e rfl
      refine ⟨_, w1, p, o, kvs, rfl, w2, w3.same rl.gh, fun q ns nq en => ?_⟩
      have gr := Grow.fresh (o := .lst (ns.map V.int)) rl.gh nq
      refine hq _ G _ (.refl _) (rl.grow gr) (NewV.vrep rl gr ⟨q, _, rfl, nq, upd_same, ?_, rl.gh.free nq⟩)
      rw [en]
      exact dpAll_ofInts ns
    · exact hq.elim
  · exact hq.elim
end
/-! rows for simp -/
section
variable {P j i : Nat} {neg tk : Bool} {ρ : Env} {ma mi me : Env → Res R}
def inMK (neg : Bool) (j : Nat) (r : R) (ρ1 : Env) : Res R := match opd ρ1 r, ρ1[j]? with
  | some d, some (some (S.m tk kvs)) => if keyOk tk d = true then .ok (.d (.bool (neg ^^ (atM kvs d).isSome))) ρ1 else .no
  | _, _ => .no
theorem mInM_k : mInM neg ma j ρ = (ma ρ).bind (inMK neg j) := nonrfl rfl
theorem inMK_eq {r : R} : inMK neg j r ρ = (match opd ρ r, ρ[j]? with
  | some d, some (some (S.m tk kvs)) => if keyOk tk d = true then .ok (.d (.bool (neg ^^ (atM kvs d).isSome))) ρ else .no
  | _, _ => .no) := nonrfl rfl
def getMK (j : Nat) (r : R) (ρ1 : Env) : Res R := match opd ρ1 r, ρ1[j]? with
    | some d, some (some (S.m tk kvs)) => if keyOk tk d = true then (match atM kvs d with
        | some z => .ok (.d z) ρ1
        | none => .no) else .no
    | _, _ => .no
theorem mGetM_k : mGetM j mi ρ = (match ρ[j]? with
  | some (some (S.m _ _)) => (mi ρ).bind (getMK j)
  | _ => .no) := nonrfl rfl
theorem getMK_eq {r : R} : getMK j r ρ = (match opd ρ r, ρ[j]? with
    | some d, some (some (S.m tk kvs)) => if keyOk tk d = true then (match atM kvs d with
        | some z => .ok (.d z) ρ
        | none => .no) else .no
    | _, _ => .no) := nonrfl rfl
def putK2 (P j : Nat) (r : R) : Res R → Out
  | .ok r2 ρ3 => (match dopd ρ3 r, dopd ρ3 r2, ρ3[j]? with
    | some x, some k, some (some (S.m tk kvs)) => if keyOk tk k = true ∧ kvs.length < 1000000 then .nx (ρ3.set j (some (.m tk (putM kvs k x)))) else .no
    | _, _, _ => .no)
  | .exc c ρ3 => .exc c ρ3
  | .no => .no
def putK1 (P j : Nat) (mi : Env → Res R) : Res R → Out
  | .ok r ρ1 => (match frz1 P ρ1 r with
    | some ρ2 => (match ρ2[j]? with
      | some (some (S.m _ _)) => putK2 P j r (mi ρ2)
      | _ => .no)
    | none => .no)
  | .exc c ρ1 => .exc c ρ1
  | .no => .no
theorem mPutM_k : mPutM P j me mi ρ = putK1 P j mi (me ρ) := by
  unfold mPutM putK1
  cases me ρ with
  | ok r ρ1 =>
    simp only []
    cases frz1 P ρ1 r with
    | none => rfl
    | some ρ2 =>
      simp only []
      split
      · unfold putK2
        cases mi ρ2 <;> rfl
      · rfl
  | _ => rfl
theorem putK1_ok {r : R} : putK1 P j mi (.ok r ρ) = (match frz1 P ρ r with
    | some ρ2 => (match ρ2[j]? with
      | some (some (S.m _ _)) => putK2 P j r (mi ρ2)
      | _ => .no)
    | none => .no) := nonrfl rfl
theorem putK2_ok {r r2 : R} : putK2 P j r (.ok r2 ρ) = (match dopd ρ r, dopd ρ r2, ρ[j]? with
    | some x, some k, some (some (S.m tk kvs)) => if keyOk tk k = true ∧ kvs.length < 1000000 then .nx (ρ.set j (some (.m tk (putM kvs k x)))) else .no
    | _, _, _ => .no) := nonrfl rfl
theorem mNewM_k : mNewM P tk i ρ = .nx (ρ.set i (some (.m tk []))) := nonrfl rfl
theorem mListM_k : mListM j ρ = (match ρ[j]? with
  | some (some (S.m false kvs)) => if kvs.length < 1000000 then .ok (.o (kvs.map (·.1))) ρ else .no
  | _ => .no) := nonrfl rfl
end
end Z
namespace Z
open PySem PySem.Spec PyProof.Rows L2
/-! ### pieces of the text that are left open: nothing is said of them, and nothing may come there -/
def tNoE : TE := fun _ _ _ => False
def tNoS : TS := fun _ _ _ => False
def mNoE : Env → Res R := fun _ => .no
def mNoS : Env → Out := fun _ => .no
theorem pe_no {X : Cx} {e : Expr} : PE X e tNoE := ⟨fun _ _ _ _ _ _ h => h.elim⟩
theorem ps_no {X : Cx} {st : Stmt} : PS X st tNoS := ⟨fun _ _ _ _ _ _ h => h.elim⟩
section
variable {K : PySem.W.Frag} {P : Nat} {W : Wish}
theorem sim_noE : SimE K P W tNoE mNoE := fun _ _ _ _ _ _ _ _ h => h.elim
theorem sim_noS : SimS K P W tNoS mNoS := fun _ _ _ _ _ _ _ _ h => h.elim
/-! ### list + list -/
def rCatL (K : PySem.W.Frag) : R2 := fun x y H Q => ∃ l b xs zs, x = .ref l ∧ y = .ref b ∧ SqL K H l xs ∧ SqL K H b zs ∧ xs.length + zs.length ≤ sizeLine ∧ ∀ p, H p = none → Q (.ref p) (upd H p (.lst (xs ++ zs)))
theorem zcatL {X : Cx} (hK : X.K = K := by rfl) : OpR X (binaryOp .Add) (rCatL K) := by
  subst hK
  intro pins s σ H x y v u Q I rx ry h
  obtain ⟨l, b, xs, zs, rfl, rfl, hH, hB, hz, q⟩ := h
  cases rx
  cases ry
  obtain ⟨vs, r, hl, _⟩ := I.list hH
  obtain ⟨ws, r2, hb, _⟩ := I.list hB
  obtain ⟨⟨cls, dd, data, sl⟩, n, ho, hc, _, hd⟩ := id hl
  obtain ⟨⟨cls2, dd2, data2, sl2⟩, n2, ho2, hc2, _, hd2⟩ := id hb
  simp only at hc hd hc2 hd2
  subst hc hd hc2 hd2
  have e : vs.toArray ++ ws.toArray = (vs ++ ws).toArray := by simp
  refine concat_meets ⟨_, ho, rfl⟩ ⟨_, ho2, rfl⟩ noFill_list_add seq_list_add PySem.F.slot_list_add PySem.F.entry_list_add (PySem.F.args_list_add_2 _ _) (list_addW l b vs.toArray ws.toArray n n2 dd dd2 sl sl2 (by have := r.length; have := r2.length; simp; omega)) ⟨ho, ho2, ?_⟩
  rw [e]
  exact ⟨.ref _, _, I.lnew (t' := s.toks) (r.append r2) (by rw [List.length_append]; omega), rfl, q _ I.fresh⟩
def gCatL : D → D → Option R
  | .list xs, .list ys => if xs.length + ys.length ≤ 1000000 then some (.o (xs ++ ys)) else none
  | _, _ => none
theorem s_catL : OpS K (rCatL K) gCatL := by
  intro G H x y d e z Q s h1 h2 eg hq
  unfold gCatL at eg
  split at eg
  · next xs ys =>
    split at eg
    · next hl =>
      cases eg
      obtain ⟨a, vs, rfl, w1, w2⟩ := h1.lst s
      obtain ⟨b, us, rfl, w3, w4⟩ := h2.lst s
      refine ⟨a, b, vs, us, rfl, rfl, w1, w3, by rw [dpAll_len w2, dpAll_len w4]; exact line_le hl, fun p np => ?_⟩
      exact hq _ G _ (Grow.fresh s np) ⟨p, _, rfl, np, upd_same, dpAll_append w2 w4, s.free np⟩
    · cases eg
  · cases eg
theorem gCatL_l (xs ys : List D) : gCatL (.list xs) (.list ys) = if xs.length + ys.length ≤ 1000000 then some (.o (xs ++ ys)) else none := nonrfl rfl
theorem gCatL_t (xs ys : List D) : gCatL (.tuple xs) (.tuple ys) = none := nonrfl rfl
theorem gCatT_l (xs ys : List D) : gCatT (.list xs) (.list ys) = none := nonrfl rfl
theorem gAltCat_t (xs ys : List D) : gAlt gCatT gCatL (.tuple xs) (.tuple ys) = gCatT (.tuple xs) (.tuple ys) := by
  unfold gAlt
  cases gCatT (.tuple xs) (.tuple ys) <;> rfl
theorem gAltCat_l (xs ys : List D) : gAlt gCatT gCatL (.list xs) (.list ys) = gCatL (.list xs) (.list ys) := rfl
end
end Z
namespace Z
open PySem PySem.Spec PyProof.Rows L2
/-! ### defs of whose last arguments nothing is known (functions that are handed on) -/
def tApp (ta : TA) (zs : List V) : TA := fun σ H Q => ta σ H fun vs H1 => Q (vs ++ zs) H1
def spU (K : PySem.W.Frag) (P k u n : Nat) (WC : XK → Wish) (mb : Env → Out) : Sp := fun vs H Q E => vs.length = k + u ∧ ∃ (pins : List (Option Addr)) (G : Hp) (ss : List S), pins.length = P ∧ ss.length = k ∧
  Rel K ⟨cut H pins, G, pins⟩ G H (vs.map some ++ List.replicate (n - vs.length) none) (env0 n ss) ∧ CS K (WC E) ⟨cut H pins, G, pins⟩ G { nx := fun _ H' => Q .non H', rt := Q } (mb (env0 n ss))
section
variable {P : Program} {w : World} {K : PySem.W.Frag} {mg : Str → Option Value} {base : Heap}
theorem okXU {x qual : Str} {st : Stmt} {f : Addr} {fd : FuncData} {N ps : List Str} {k np kk u n : Nat} {mb : Env → Out} (cl : Nat → Addr) (F : Fun K x qual st f fd) (S : FnScope N ps (defScope st)) (hk : ps.length = kk + u) (hn : N.length = n)
    (body : ∀ (cdv : Value) (A : Around) (outer : List PySem.Env) (s : Shared) (H : Hp) (E : XK), Room k (A.deeper (PyProof.Rows.envOfC qual (defScope st) s.heap.objs.size f cdv)) →
      ∃ t, PSs (cxOf (L2N.CX P w) P w K mg base N qual (defScope st) f cdv A outer s H E) (defBody st) t ∧ SimS K np (WXc cl E) t mb) : FnOk P w K mg base (L2N.CX P w) (k + 1) f fd ps (spU K np kk u n (WXc cl) mb) := by
  obtain ⟨_, _, _, _, _, _, cdv, _, _, rfl, lk, hcd⟩ := F.ex
  refine fn_of lk hcd S (fun vs H Q E h => by rw [hk]; exact h.1) fun A outer s H vs Q E hr h => ?_
  obtain ⟨t, h1, h2⟩ := body cdv A outer s H E hr
  refine ⟨t, h1, ?_⟩
  obtain ⟨hl, pins, G, ss, q1, q2, q3, q4⟩ := h
  subst hn
  exact h2 _ G H _ _ _ q1 q3 q4
end
section
variable {K : PySem.W.Frag} {P : Nat} {W : Wish}
theorem rel_argsU {n : Nat} {G H : Hp} {vs zs : List V} {ds : List D} (gh : Same G H) (h : DpAll K G vs ds) (hn : ds.length + zs.length ≤ n) :
    Rel K ⟨cut H [], G, []⟩ G H ((vs ++ zs).map some ++ List.replicate (n - (vs ++ zs).length) none) (env0 n (ds.map S.d)) := by
  have hl := dpAll_len h
  have nown : ∀ (i : Nat) (s : S), s.own = true → (env0 n (ds.map S.d))[i]? ≠ some (some s) := by
    intro i xs hs q
    have q2 := env0_get q
    rw [List.getElem?_map] at q2
    cases e : ds[i]? with
    | none => rw [e] at q2; cases q2
    | some x => rw [e] at q2; cases q2; cases hs
  refine ⟨?_, gh, ?_, .refl _, fun _ _ z => z, fun i b q => ?_, fun i d q => ?_, fun i xs q hs => absurd q (nown i xs hs), fun i j p xs ys q _ hs => absurd q (nown i xs hs)⟩
  · unfold env0
    simp [hl]
    omega
  · rw [cut_nil]
    exact .refl _
  · simp at q
  · have q2 := env0_get q
    rw [List.getElem?_map] at q2
    cases e : ds[i]? with
    | none => rw [e] at q2; cases q2
    | some x =>
      rw [e] at q2
      cases q2
      obtain ⟨v, w1, w2⟩ := dpAll_get h e
      refine ⟨v, start_get (n := n) ?_, w2⟩
      rw [List.getElem?_append_left (List.getElem?_eq_some_iff.mp w1).1]
      exact w1
/-- a call that may raise, with values behind the looked at ones -/
theorem sim_callSU {ex : Bool} {k u n : Nat} {mb : Env → Out} {WC : XK → Wish} {E : L2.St → XK} {ta tf : TA} {ms : Env → Res (List R)} (zs : List V) (h : SimA K P W ta ms) (hz : tf = tApp ta zs) (hu : zs.length = u) (hn : k + u ≤ n)
    (hx : ex = true → ∀ σ σ' c H, W σ c H → WC (E σ) σ' c H) :
    SimE K P W (tCallS (spU K 0 k u n WC mb) E tf) (mCall0 ex P k n mb ms) := by
  subst hz
  intro f G H σ ρ Q hp rl hq
  refine h f G H σ ρ _ hp rl ?_
  unfold mCall0 at hq
  cases e : ms ρ with
  | no => rw [e] at hq; exact hq
  | exc c ρ1 => rw [e] at hq; exact hq
  | ok rs ρ1 =>
    rw [e] at hq
    intro vs G1 H1 s1 rl1 h1
    simp only [Res.bind] at hq
    split at hq
    · exact hq.elim
    · next ρ2 e2 =>
      obtain ⟨G2, s2, rl2⟩ := rl1.frzA hp e2
      split at hq
      · exact hq.elim
      · next ds e3 =>
        split at hq
        · next hk =>
          have hd : DpAll K G2 vs ds := (h1.same s2).dat rl2 e3
          refine ⟨by rw [List.length_append, dpAll_len hd, hk, hu], [], G2, ds.map S.d, rfl, by rw [List.length_map]; exact hk, rel_argsU rl2.gh hd (by omega), ?_⟩
          have same1 : ∀ {G3 H3 : Hp} {σ' : L2.St} {ρ' : Env}, Rel K ⟨cut H1 [], G2, []⟩ G3 H3 σ' ρ' → Grow G1 H1 G1 H3 := fun rl3 => by
            have gr := grow_of_args rl3
            exact ⟨.refl _, gr.2.1, (s2.trans gr.1).trans gr.2.2.1, fun a z => .inl z⟩
          cases e4 : mb (env0 n (ds.map S.d)) with
          | no => rw [e4] at hq; exact hq.elim
          | bk _ => rw [e4] at hq; exact hq.elim
          | ct _ => rw [e4] at hq; exact hq.elim
          | nx ρ3 =>
            rw [e4] at hq
            intro G3 H3 σ3 s3 rl3
            exact hq .non G1 H3 s1 (rl1.grow (same1 rl3)) .non
          | exc c ρ3 =>
            rw [e4] at hq
            intro G3 H3 σ3 s3 rl3
            simp only at hq
            split at hq
            · next hex => exact hx hex σ σ3 c H3 (hq G1 H3 s1 (rl1.grow (same1 rl3)))
            · exact hq.elim
          | rt s ρ3 =>
            rw [e4] at hq
            intro v G3 H3 σ3 s3 rl3 hv
            have gr := grow_of_args rl3
            cases s with
            | m kvs => exact hq.elim
            | d x =>
              simp only at hq
              split at hq
              · next hf => exact hq v G1 H3 s1 (rl1.grow (same1 rl3)) (flat_dp hv hf)
              · exact hq v G3 H3 ((s1.trans s2).trans gr.1) (rl2.grow gr) hv
            | o xs =>
              obtain ⟨p, us, rfl, w1, w2, w3, w4, _⟩ := hv
              have w4 : cut H1 [] p = none := w4
              rw [cut_nil] at w4
              have nv : NewV K H1 G3 H3 (.ref p) (.o xs) := ⟨p, us, rfl, w4, w1, w2, w3⟩
              exact hq _ G3 H3 ((s1.trans s2).trans gr.1) (rl2.grow gr) (nv.vrep rl2 gr)
        · exact hq.elim
end
end Z
namespace K03
open PySem L2 Z
def m_hd : Nat → Option D := fun c => match c with
  | 3 => some (.str (PySem.Str.ofString "word"))
  | 4 => some (.str (PySem.Str.ofString "set"))
  | 2 => some (.str (PySem.Str.ofString "letters"))
  | 0 => some (.str (PySem.Str.ofString "machine"))
  | 1 => some (.str (PySem.Str.ofString "demand"))
  | _ => none
def m__law_box_e1 : Z.Env → Z.Res Z.R := (mCB cAbs (mCons (mCB cInt (mCons (mVar 1) mNil)) mNil))
def m__law_box_s1 : Z.Env → Z.Out := (mRet 0 (mLst 0 (mCons (mC (.int 0)) (mCons (mC (.int 0)) (mCons (mC (.int 0)) (mCons (mLcH 0 0 (bName 1) mYes m__law_box_e1 [1]) mNil))))))
/-- _law_box: 0 script 1 x -/
def m__law_box : Z.Env → Z.Out := m__law_box_s1
def m__law_take_s1 : Z.Env → Z.Out := (mIfS (mTest (mBin gEq (mBin gIx (mVar 0) (mC (.int 1))) (mC (.int 0)))) (mSeq (mAsg 1 2 (mBin gIx (mVar 0) (mC (.int 2))))
  (mSeq (mAsg 1 3 (mC (.int 0)))
  (mSeq (mIfS (mTest (mBin gLt (mVar 2) (mCB cLen (mCons (mBin gIx (mVar 0) (mC (.int 3))) mNil)))) (mSeq (mAsg 1 3 (mBin gIx (mBin gIx (mVar 0) (mC (.int 3))) (mVar 2)))
  (mSetI 1 0 (mIf (mTest (mBin gGe (mVar 3) (mBin gPow (mC (.int 10)) (mC (.int 18))))) (mC (.int 60)) (mUn gNeg (mC (.int 9)))) (mC (.int 1)))) mNext)
  (mSeq (mSetI 1 0 (mBin gAdd (mVar 2) (mC (.int 1))) (mC (.int 2)))
  (mSeq (mSetI 1 0 (mVar 3) (mC (.int 0)))
  (mIfS (mTest (mBin gEq (mBin gIx (mVar 0) (mC (.int 1))) (mC (.int 0)))) (mRet 1 (mC (.int 0))) mNext)))))) mNext)
def m__law_take_s2 : Z.Env → Z.Out := (mIfS (mTest (mBin gGt (mBin gIx (mVar 0) (mC (.int 1))) (mC (.int 0)))) (mSeq (mAsg 1 4 (mBin gMod (mCB cInt (mCons (mBin gIx (mVar 0) (mC (.int 0))) mNil)) (mVar 1)))
  (mSeq (mSetI 1 0 (mBin gDiv (mBin gIx (mVar 0) (mC (.int 0))) (mVar 1)) (mC (.int 0)))
  (mSeq (mSetI 1 0 (mIf (mTest (mBin gGt (mBin gIx (mVar 0) (mC (.int 0))) (mC (.int 0)))) (mBin gSub (mBin gIx (mVar 0) (mC (.int 1))) (mC (.int 1))) (mC (.int 0))) (mC (.int 1)))
  (mRet 1 (mVar 4))))) mNext)
def m__law_take_s3 : Z.Env → Z.Out := (mSetI 1 0 (mBin gAdd (mBin gIx (mVar 0) (mC (.int 1))) (mC (.int 1))) (mC (.int 1)))
def m__law_take_s4 : Z.Env → Z.Out := (mSetI 1 0 (mBin gMod (mCB cInt (mCons (mBin gAdd (mBin gMul (mBin gIx (mVar 0) (mC (.int 0))) (mC (.int 48271))) (mBin gMul (mC (.int 69621)) (mBin gAdd (mBin gIx (mVar 0) (mC (.int 1))) (mC (.int 20))))) mNil)) (mC (.int 2147483647))) (mC (.int 0)))
def m__law_take_s5 : Z.Env → Z.Out := (mRet 1 (mBin gMod (mBin gMod (mCB cInt (mCons (mBin gAdd (mBin gDiv (mBin gIx (mVar 0) (mC (.int 0))) (mC (.int 7))) (mBin gIx (mVar 0) (mC (.int 0)))) mNil)) (mC (.int 1000003))) (mVar 1)))
/-- _law_take: 0 box 1 m 2 at 3 cell 4 told -/
def m__law_take : Z.Env → Z.Out := mSeq m__law_take_s1 (mSeq m__law_take_s2 (mSeq m__law_take_s3 (mSeq m__law_take_s4 (m__law_take_s5))))
def m__law_pick_s1 : Z.Env → Z.Out := (mRet 1 (mBin gIx (mVar 1) (mCallM 1 [true] 2 5 m__law_take (mCons (mVar 0) (mCons (mCB cLen (mCons (mVar 1) mNil)) mNil)))))
/-- _law_pick: 0 box 1 menu -/
def m__law_pick : Z.Env → Z.Out := m__law_pick_s1
def m__law_demand_b1 : Z.Env → Z.Out := (mSeq (mAsg 1 8 (mCallM 1 [true] 2 5 m__law_take (mCons (mVar 0) (mCons (mBin gIx (mLst 1 (mCons (mC (.int 1)) (mCons (mC (.int 2)) (mCons (mC (.int 4)) (mCons (mC (.int 8)) (mCons (mC (.int 16)) (mCons (mC (.int 32)) mNil))))))) (mVar 1)) mNil))))
  (mIfS (mTest (mBin (gAlt gNotIn gNotInT) (mVar 8) (mVar 6))) (mMut 1 6 uAppend (mCons (mVar 8) mNil)) mNext))
def m__law_demand_t1 : Z.Env → Z.Res Bool := (mTest (mBin gEq (mBin gMod (mBin gDiv (mCB cInt (mCons (mVar 8) mNil)) (mBin gIx (mLst 1 (mCons (mC (.int 1)) (mCons (mC (.int 2)) (mCons (mC (.int 4)) (mCons (mC (.int 8)) (mCons (mC (.int 16)) mNil)))))) (mVar 11))) (mC (.int 2))) (mC (.int 1))))
def m__law_demand_b2 : Z.Env → Z.Out := (mSeq (mAsg 1 9 (mCB cLen (mCons (mLcH 1 6 (bName 8) m__law_demand_t1 (mVar 8) [8]) mNil)))
  (mIfS (mAnd (mTest (mBin gEq (mVar 9) (mC (.int 0)))) (mTest (mBin gGt (mCallM 1 [true] 2 5 m__law_take (mCons (mVar 0) (mCons (mC (.int 3)) mNil))) (mC (.int 0))))) (mMut 1 10 uAppend (mCons (mUn gNeg (mC (.int 1))) mNil)) (mMut 1 10 uAppend (mCons (mCallM 1 [true] 2 5 m__law_take (mCons (mVar 0) (mCons (mVar 3) mNil))) mNil))))
def m__law_demand_b3 : Z.Env → Z.Out := (mSeq (mAsg 1 6 (mLst 1 mNil))
  (mSeq (mFor (mRng1 (mCons (mCallM 1 [true] 2 2 m__law_pick (mCons (mVar 0) (mCons (mLst 1 (mCons (mC (.int 0)) (mCons (mC (.int 1)) (mCons (mC (.int 1)) (mCons (mC (.int 2)) (mCons (mC (.int 2)) (mCons (mC (.int 3)) (mCons (mC (.int 4)) mNil)))))))) mNil))) mNil)) (bName 7) m__law_demand_b1)
  (mSeq (mAsg 1 9 (mC (.int 0)))
  (mSeq (mAsg 1 10 (mLst 1 mNil))
  (mSeq (mFor (mRng1 (mCons (mVar 1) mNil)) (bName 11) m__law_demand_b2)
  (mMut 1 4 uAppend (mCons (mTup 1 (mCons (mCB cTuple (mCons (mCB cSortA (mCons (mVar 6) mNil)) mNil)) (mCons (mCB cTuple (mCons (mVar 10) mNil)) mNil))) mNil)))))))
def m__law_demand_s1 : Z.Env → Z.Out := (mAsg 1 3 (mBin gAdd (mC (.int 1)) (mCallM 1 [true] 2 5 m__law_take (mCons (mVar 0) (mCons (mVar 2) mNil)))))
def m__law_demand_s2 : Z.Env → Z.Out := (mAsg 1 4 (mLst 1 mNil))
def m__law_demand_s3 : Z.Env → Z.Out := (mFor (mRng1 (mCons (mVar 3) mNil)) (bName 5) m__law_demand_b3)
def m__law_demand_s4 : Z.Env → Z.Out := (mRet 1 (mTup 1 (mCons (mVar 1) (mCons (mCB cTuple (mCons (mVar 4) mNil)) mNil))))
/-- _law_demand: 0 box 1 n 2 most 3 size 4 states 5 q 6 taken 7 k 8 bits 9 used 10 after 11 a -/
def m__law_demand : Z.Env → Z.Out := mSeq m__law_demand_s1 (mSeq m__law_demand_s2 (mSeq m__law_demand_s3 (m__law_demand_s4)))
def m_is_number_s1 : Z.Env → Z.Out := (mRet 0 (mAndV (mIsi "int" (mVar 0)) (mNotV (mIsi "bool" (mVar 0)))))
/-- is_number: 0 thing -/
def m_is_number : Z.Env → Z.Out := m_is_number_s1
def m_is_below_s1 : Z.Env → Z.Out := (mRet 0 (mAndV (mCall0 false 0 1 1 m_is_number (mCons (mVar 0) mNil)) (mChain gLe gLt (mC (.int 0)) (mVar 0) (mVar 1))))
/-- is_below: 0 thing 1 many -/
def m_is_below : Z.Env → Z.Out := m_is_below_s1
def m_is_letter_count_s1 : Z.Env → Z.Out := (mRet 0 (mCall0 false 0 2 2 m_is_below (mCons (mVar 0) (mCons (mBin gAdd (mC (.int 5)) (mC (.int 1))) mNil))))
/-- is_letter_count: 0 thing -/
def m_is_letter_count : Z.Env → Z.Out := m_is_letter_count_s1
def m_bits_of_b1 : Z.Env → Z.Out := (mAug 1 (gI cAny fun i j => .int (Builtin.bitOr i j)) (mBin gShl (mC (.int 1)) (mVar 2)))
def m_bits_of_s1 : Z.Env → Z.Out := (mAsg 0 1 (mC (.int 0)))
def m_bits_of_s2 : Z.Env → Z.Out := (mFor (mIter 0 (mVar 0)) (bName 2) m_bits_of_b1)
def m_bits_of_s3 : Z.Env → Z.Out := (mRet 0 (mVar 1))
/-- bits_of: 0 letters 1 bits 2 letter -/
def m_bits_of : Z.Env → Z.Out := mSeq m_bits_of_s1 (mSeq m_bits_of_s2 (m_bits_of_s3))
def m_full_set_s1 : Z.Env → Z.Out := (mRet 0 (mCall0 false 0 1 3 m_bits_of (mCons (mRgE false (mCons (mVar 0) mNil)) mNil)))
/-- full_set: 0 n -/
def m_full_set : Z.Env → Z.Out := m_full_set_s1
def m_is_set_s1 : Z.Env → Z.Out := (mRet 0 (mCall0 false 0 2 2 m_is_below (mCons (mVar 1) (mCons (mBin gAdd (mCall0 false 0 1 1 m_full_set (mCons (mVar 0) mNil)) (mC (.int 1))) mNil))))
/-- is_set: 0 n 1 thing -/
def m_is_set : Z.Env → Z.Out := m_is_set_s1
def m__is_accepts_e1 : Z.Env → Z.Res Z.R := (mCall0 false 0 2 2 m_is_set (mCons (mVar 0) (mCons (mVar 2) mNil)))
def m__is_accepts_e2 : Z.Env → Z.Res Z.R := (mBin (gAlt gLt gLtT) (mBin gIx (mVar 1) (mBin gSub (mVar 3) (mC (.int 1)))) (mBin gIx (mVar 1) (mVar 3)))
def m__is_accepts_s1 : Z.Env → Z.Out := (mIfS (mNot (mTru (mIsi "tuple" (mVar 1)))) (mRet 0 (mC (.bool false))) mNext)
def m__is_accepts_s2 : Z.Env → Z.Out := (mIfS (mNot (mTru (mCB cAll (mCons (mLcH 0 1 (bName 2) mYes m__is_accepts_e1 [2]) mNil)))) (mRet 0 (mC (.bool false))) mNext)
def m__is_accepts_s3 : Z.Env → Z.Out := (mRet 0 (mCB cAll (mCons (mLc 0 (mRng2 (mCons (mC (.int 1)) (mCons (mCB cLen (mCons (mVar 1) mNil)) mNil))) (bName 3) mYes m__is_accepts_e2 [3]) mNil)))
/-- _is_accepts: 0 n 1 accepts 2 bits 3 at -/
def m__is_accepts : Z.Env → Z.Out := mSeq m__is_accepts_s1 (mSeq m__is_accepts_s2 (m__is_accepts_s3))
def m__is_ahead_e1 : Z.Env → Z.Res Z.R := (mAndV (mCall0 false 0 1 1 m_is_number (mCons (mVar 3) mNil)) (mChain gLe gLt (mUn gNeg (mC (.int 1))) (mVar 3) (mVar 1)))
def m__is_ahead_s1 : Z.Env → Z.Out := (mIfS (mOr (mNot (mTru (mIsi "tuple" (mVar 2)))) (mTest (mBin gNe (mCB cLen (mCons (mVar 2) mNil)) (mVar 0)))) (mRet 0 (mC (.bool false))) mNext)
def m__is_ahead_s2 : Z.Env → Z.Out := (mRet 0 (mCB cAll (mCons (mLcH 0 2 (bName 3) mYes m__is_ahead_e1 [3]) mNil)))
/-- _is_ahead: 0 n 1 many 2 ahead 3 to -/
def m__is_ahead : Z.Env → Z.Out := mSeq m__is_ahead_s1 (m__is_ahead_s2)
def m_members_t1 : Z.Env → Z.Res Bool := (mTru (mBin gAnd (mBin gShr (mVar 1) (mVar 2)) (mC (.int 1))))
def m_members_s1 : Z.Env → Z.Out := (mRet 0 (mLc 0 (mRng1 (mCons (mVar 0) mNil)) (bName 2) m_members_t1 (mVar 2) [2]))
/-- members: 0 n 1 bits 2 letter -/
def m_members : Z.Env → Z.Out := m_members_s1
def m__is_state_e1 : Z.Env → Z.Res Z.R := (mBin gNe (mBin gIx (mVar 4) (mVar 6)) (mUn gNeg (mC (.int 1))))
def m__is_state_s1 : Z.Env → Z.Out := (mIfS (mOr (mNot (mTru (mIsi "tuple" (mVar 2)))) (mTest (mBin gNe (mCB cLen (mCons (mVar 2) mNil)) (mC (.int 2))))) (mRet 0 (mC (.bool false))) mNext)
def m__is_state_s2 : Z.Env → Z.Out := (mAsgG 0 (bTup 2 (bCons (bName 3) (bCons (bName 4) bNil))) (mVar 2))
def m__is_state_s3 : Z.Env → Z.Out := (mIfS (mOr (mNot (mTru (mCall0 false 0 2 4 m__is_accepts (mCons (mVar 0) (mCons (mVar 3) mNil))))) (mNot (mTru (mCall0 false 0 3 4 m__is_ahead (mCons (mVar 0) (mCons (mVar 1) (mCons (mVar 4) mNil))))))) (mRet 0 (mC (.bool false))) mNext)
def m__is_state_s4 : Z.Env → Z.Out := (mRet 0 (mCB cAll (mCons (mLc2 0 (mIter 0 (mVar 3)) (bName 5) mYes (mIter 0 (mCall0 false 0 2 3 m_members (mCons (mVar 0) (mCons (mVar 5) mNil)))) (bName 6) mYes m__is_state_e1 [5, 6] [6]) mNil)))
/-- _is_state: 0 n 1 many 2 state 3 accepts 4 ahead 5 bits 6 letter -/
def m__is_state : Z.Env → Z.Out := mSeq m__is_state_s1 (mSeq m__is_state_s2 (mSeq m__is_state_s3 (m__is_state_s4)))
def m__is_demand_e1 : Z.Env → Z.Res Z.R := (mCall0 false 0 3 7 m__is_state (mCons (mVar 1) (mCons (mCB cLen (mCons (mVar 2) mNil)) (mCons (mVar 3) mNil))))
def m__is_demand_s1 : Z.Env → Z.Out := (mIfS (mOr (mNot (mTru (mIsi "tuple" (mVar 0)))) (mTest (mBin gNe (mCB cLen (mCons (mVar 0) mNil)) (mC (.int 2))))) (mRet 0 (mC (.bool false))) mNext)
def m__is_demand_s2 : Z.Env → Z.Out := (mAsgG 0 (bTup 2 (bCons (bName 1) (bCons (bName 2) bNil))) (mVar 0))
def m__is_demand_s3 : Z.Env → Z.Out := (mIfS (mOr (mNot (mTru (mCall0 false 0 1 1 m_is_letter_count (mCons (mVar 1) mNil)))) (mNot (mTru (mIsi "tuple" (mVar 2))))) (mRet 0 (mC (.bool false))) mNext)
def m__is_demand_s4 : Z.Env → Z.Out := (mIfS (mNot (mTest (mChain gLe gLe (mC (.int 1)) (mCB cLen (mCons (mVar 2) mNil)) (mC (.int 40))))) (mRet 0 (mC (.bool false))) mNext)
def m__is_demand_s5 : Z.Env → Z.Out := (mRet 0 (mCB cAll (mCons (mLc 0 (mIter 0 (mVar 2)) (bName 3) mYes m__is_demand_e1 [3]) mNil)))
/-- _is_demand: 0 d 1 n 2 states 3 state -/
def m__is_demand : Z.Env → Z.Out := mSeq m__is_demand_s1 (mSeq m__is_demand_s2 (mSeq m__is_demand_s3 (mSeq m__is_demand_s4 (m__is_demand_s5))))
def m_check_demand_s1 : Z.Env → Z.Out := (mIfS (mNot (mTru (mCall0 false 0 1 4 m__is_demand (mCons (mVar 0) mNil)))) (mRaise 1) mNext)
/-- check_demand: 0 d -/
def m_check_demand : Z.Env → Z.Out := m_check_demand_s1
def m_hollow_s1 : Z.Env → Z.Out := (mDrop (mCall0 true 0 1 1 m_check_demand (mCons (mVar 0) mNil)))
def m_hollow_s2 : Z.Env → Z.Out := mNoS
/-- hollow: 0 d -/
def m_hollow : Z.Env → Z.Out := mSeq m_hollow_s1 (m_hollow_s2)
def m_least_s1 : Z.Env → Z.Out := (mDrop (mCall0 true 0 1 1 m_check_demand (mCons (mVar 0) mNil)))
def m_least_s2 : Z.Env → Z.Out := mNoS
/-- least: 0 d -/
def m_least : Z.Env → Z.Out := mSeq m_least_s1 (m_least_s2)
def m_trimmed_s1 : Z.Env → Z.Out := (mDrop (mCall0 true 0 1 1 m_check_demand (mCons (mVar 0) mNil)))
def m_trimmed_s2 : Z.Env → Z.Out := mNoS
/-- trimmed: 0 d -/
def m_trimmed : Z.Env → Z.Out := mSeq m_trimmed_s1 (m_trimmed_s2)
def m_some_s1 : Z.Env → Z.Out := (mAsgG 0 (bTup 2 (bCons (bName 1) (bCons (bName 2) bNil))) (mCall0 true 0 1 1 m_trimmed (mCons (mVar 0) mNil)))
def m_some_s2 : Z.Env → Z.Out := mNoS
def m_some_s3 : Z.Env → Z.Out := mNoS
/-- some: 0 d 1 n 2 states -/
def m_some : Z.Env → Z.Out := mSeq m_some_s1 (mSeq m_some_s2 (m_some_s3))
def m_with_word_s1 : Z.Env → Z.Out := (mDrop (mCall0 true 0 1 1 m_check_demand (mCons (mVar 0) mNil)))
def m_with_word_s2 : Z.Env → Z.Out := mNoS
def m_with_word_s3 : Z.Env → Z.Out := mNoS
def m_with_word_s4 : Z.Env → Z.Out := mNoS
def m_with_word_s5 : Z.Env → Z.Out := mNoS
def m_with_word_s6 : Z.Env → Z.Out := mNoS
def m_with_word_s7 : Z.Env → Z.Out := mNoS
def m_with_word_s8 : Z.Env → Z.Out := mNoS
def m_with_word_s9 : Z.Env → Z.Out := mNoS
def m_with_word_s10 : Z.Env → Z.Out := mNoS
def m_with_word_s11 : Z.Env → Z.Out := mNoS
/-- with_word: 0 d 1 word 2 bits 3 n 4 states 5 behind 6 rows 7 q 8 letter 9 accepts 10 ahead 11 fitting 12 accepted 13 ends 14 to -/
def m_with_word : Z.Env → Z.Out := mSeq m_with_word_s1 (mSeq m_with_word_s2 (mSeq m_with_word_s3 (mSeq m_with_word_s4 (mSeq m_with_word_s5 (mSeq m_with_word_s6 (mSeq m_with_word_s7 (mSeq m_with_word_s8 (mSeq m_with_word_s9 (mSeq m_with_word_s10 (m_with_word_s11))))))))))
def m_ladder_s1 : Z.Env → Z.Out := (mDrop (mCall0 true 0 1 1 m_check_demand (mCons (mVar 0) mNil)))
def m_ladder_s2 : Z.Env → Z.Out := mNoS
/-- ladder: 0 d -/
def m_ladder : Z.Env → Z.Out := mSeq m_ladder_s1 (m_ladder_s2)
def m_is_ladder_s1 : Z.Env → Z.Out := (mDrop (mCall0 true 0 1 1 m_check_demand (mCons (mVar 0) mNil)))
def m_is_ladder_s2 : Z.Env → Z.Out := mNoS
def m_is_ladder_s3 : Z.Env → Z.Out := mNoS
def m_is_ladder_s4 : Z.Env → Z.Out := mNoS
def m_is_ladder_s5 : Z.Env → Z.Out := mNoS
/-- is_ladder: 0 d 1 states 2 under 3 at -/
def m_is_ladder : Z.Env → Z.Out := mSeq m_is_ladder_s1 (mSeq m_is_ladder_s2 (mSeq m_is_ladder_s3 (mSeq m_is_ladder_s4 (m_is_ladder_s5))))
def m_written_demand_s1 : Z.Env → Z.Out := (mDrop (mCall0 true 0 1 1 m_check_demand (mCons (mVar 0) mNil)))
def m_written_demand_s2 : Z.Env → Z.Out := mNoS
def m_written_demand_s3 : Z.Env → Z.Out := mNoS
def m_written_demand_s4 : Z.Env → Z.Out := mNoS
def m_written_demand_s5 : Z.Env → Z.Out := mNoS
/-- written_demand: 0 d 1 n 2 states 3 lines 4 at 5 accepts 6 ahead 7 sets 8 bits 9 ends 10 letter 11 to -/
def m_written_demand : Z.Env → Z.Out := mSeq m_written_demand_s1 (mSeq m_written_demand_s2 (mSeq m_written_demand_s3 (mSeq m_written_demand_s4 (m_written_demand_s5))))
def m_led_to_s1 : Z.Env → Z.Out := (mDrop (mCall0 true 0 1 1 m_check_demand (mCons (mVar 0) mNil)))
def m_led_to_s2 : Z.Env → Z.Out := mNoS
def m_led_to_s3 : Z.Env → Z.Out := mNoS
/-- led_to: 0 d 1 word -/
def m_led_to : Z.Env → Z.Out := mSeq m_led_to_s1 (mSeq m_led_to_s2 (m_led_to_s3))
def m__law_one_s1 : Z.Env → Z.Out := (mIfS (mTest (mBin gEq (mVar 0) (mC (.int 0)))) (mRet 0 (mCall0 true 0 1 1 m_check_demand (mCons (mVar 1) mNil))) mNext)
def m__law_one_s2 : Z.Env → Z.Out := (mIfS (mTest (mBin gEq (mVar 0) (mC (.int 1)))) (mRet 0 (mCall0 true 0 1 1 m_hollow (mCons (mVar 1) mNil))) mNext)
def m__law_one_s3 : Z.Env → Z.Out := (mIfS (mTest (mBin gEq (mVar 0) (mC (.int 2)))) (mRet 0 (mCall0 true 0 1 1 m_least (mCons (mVar 1) mNil))) mNext)
def m__law_one_s4 : Z.Env → Z.Out := (mIfS (mTest (mBin gEq (mVar 0) (mC (.int 3)))) (mRet 0 (mCall0 true 0 1 1 m_trimmed (mCons (mVar 1) mNil))) mNext)
def m__law_one_s5 : Z.Env → Z.Out := (mIfS (mTest (mBin gEq (mVar 0) (mC (.int 4)))) (mRet 0 (mCall0 true 0 1 3 m_some (mCons (mVar 1) mNil))) mNext)
def m__law_one_s6 : Z.Env → Z.Out := (mIfS (mTest (mBin gEq (mVar 0) (mC (.int 5)))) (mRet 0 (mCall0 true 0 3 15 m_with_word (mCons (mVar 1) (mCons (mC (.str (PySem.Str.ofString ""))) (mCons (mUn gNeg (mC (.int 1))) mNil))))) mNext)
def m__law_one_s7 : Z.Env → Z.Out := (mIfS (mTest (mBin gEq (mVar 0) (mC (.int 6)))) (mRet 0 (mCall0 true 0 1 1 m_ladder (mCons (mVar 1) mNil))) mNext)
def m__law_one_s8 : Z.Env → Z.Out := (mIfS (mTest (mBin gEq (mVar 0) (mC (.int 7)))) (mRet 0 (mCall0 true 0 2 4 m_is_ladder (mCons (mVar 1) (mCons (mTup 0 mNil) mNil)))) mNext)
def m__law_one_s9 : Z.Env → Z.Out := (mIfS (mTest (mBin gEq (mVar 0) (mC (.int 8)))) (mRet 0 (mCall0 true 0 1 12 m_written_demand (mCons (mVar 1) mNil))) mNext)
def m__law_one_s10 : Z.Env → Z.Out := (mRet 0 (mCall0 true 0 2 2 m_led_to (mCons (mVar 1) (mCons (mC (.str (PySem.Str.ofString ""))) mNil))))
/-- _law_one: 0 way 1 one -/
def m__law_one : Z.Env → Z.Out := mSeq m__law_one_s1 (mSeq m__law_one_s2 (mSeq m__law_one_s3 (mSeq m__law_one_s4 (mSeq m__law_one_s5 (mSeq m__law_one_s6 (mSeq m__law_one_s7 (mSeq m__law_one_s8 (mSeq m__law_one_s9 (m__law_one_s10)))))))))
def m_check_same_letters_s1 : Z.Env → Z.Out := (mIfS (mTest (mBin gNe (mBin gIx (mVar 0) (mC (.int 0))) (mBin gIx (mVar 1) (mC (.int 0))))) (mRaise 2) mNext)
/-- check_same_letters: 0 a 1 b -/
def m_check_same_letters : Z.Env → Z.Out := m_check_same_letters_s1
def m_check_two_demands_s1 : Z.Env → Z.Out := (mDrop (mCall0 true 0 1 1 m_check_demand (mCons (mVar 0) mNil)))
def m_check_two_demands_s2 : Z.Env → Z.Out := (mDrop (mCall0 true 0 1 1 m_check_demand (mCons (mVar 1) mNil)))
def m_check_two_demands_s3 : Z.Env → Z.Out := (mDrop (mCall0 true 0 2 2 m_check_same_letters (mCons (mVar 0) (mCons (mVar 1) mNil))))
/-- check_two_demands: 0 a 1 b -/
def m_check_two_demands : Z.Env → Z.Out := mSeq m_check_two_demands_s1 (mSeq m_check_two_demands_s2 (m_check_two_demands_s3))
def m__joined_s1 : Z.Env → Z.Out := (mDrop (mCall0 true 0 2 2 m_check_two_demands (mCons (mVar 0) (mCons (mVar 1) mNil))))
def m__joined_s2 : Z.Env → Z.Out := mNoS
def m__joined_s3 : Z.Env → Z.Out := mNoS
def m__joined_s4 : Z.Env → Z.Out := mNoS
def m__joined_s5 : Z.Env → Z.Out := mNoS
def m__joined_s6 : Z.Env → Z.Out := mNoS
def m__joined_s7 : Z.Env → Z.Out := mNoS
/-- _joined: 0 a 1 b 2 sets_of_both 3 n 4 nowhere 5 states 6 others 7 sets 8 ahead 9 other_sets 10 other_ahead 11 joined 12 used 13 ends 14 letter -/
def m__joined : Z.Env → Z.Out := mSeq m__joined_s1 (mSeq m__joined_s2 (mSeq m__joined_s3 (mSeq m__joined_s4 (mSeq m__joined_s5 (mSeq m__joined_s6 (m__joined_s7))))))
def m__common_sets_t1 : Z.Env → Z.Res Bool := (mTest (mBin (gAlt gIn gInT) (mVar 2) (mVar 1)))
def m__common_sets_s1 : Z.Env → Z.Out := (mRet 0 (mCB cTuple (mCons (mLcH 0 0 (bName 2) m__common_sets_t1 (mVar 2) [2]) mNil)))
/-- _common_sets: 0 sets 1 others 2 bits -/
def m__common_sets : Z.Env → Z.Out := m__common_sets_s1
def m_meet_s1 : Z.Env → Z.Out := (mRet 0 (mCall0 true 0 2 15 m__joined (mCons (mVar 0) (mCons (mVar 1) mNil))))
/-- meet: 0 a 1 b -/
def m_meet : Z.Env → Z.Out := m_meet_s1
def m__all_sets_s1 : Z.Env → Z.Out := (mRet 0 (mCB cTuple (mCons (mSortSet (mBin gAdd (mVar 0) (mVar 1))) mNil)))
/-- _all_sets: 0 sets 1 others -/
def m__all_sets : Z.Env → Z.Out := m__all_sets_s1
def m_either_s1 : Z.Env → Z.Out := (mRet 0 (mCall0 true 0 2 15 m__joined (mCons (mVar 0) (mCons (mVar 1) mNil))))
/-- either: 0 a 1 b -/
def m_either : Z.Env → Z.Out := m_either_s1
def m__overlaps_s1 : Z.Env → Z.Out := (mRet 0 (mCB cTuple (mCons (mSortSc2 0 (mIter 0 (mVar 0)) (bName 2) mYes (mVar 1) (bName 3) mYes (mBin gAnd (mVar 2) (mVar 3)) [2, 3] [3]) mNil)))
/-- _overlaps: 0 sets 1 others 2 bits 3 other -/
def m__overlaps : Z.Env → Z.Out := m__overlaps_s1
def m_beside_s1 : Z.Env → Z.Out := (mRet 0 (mCall0 true 0 2 15 m__joined (mCons (mVar 0) (mCons (mVar 1) mNil))))
/-- beside: 0 a 1 b -/
def m_beside : Z.Env → Z.Out := m_beside_s1
def m_parts_s1 : Z.Env → Z.Out := (mDrop (mCall0 true 0 2 2 m_check_two_demands (mCons (mVar 0) (mCons (mVar 1) mNil))))
def m_parts_s2 : Z.Env → Z.Out := mNoS
def m_parts_s3 : Z.Env → Z.Out := mNoS
def m_parts_s4 : Z.Env → Z.Out := mNoS
def m_parts_s5 : Z.Env → Z.Out := mNoS
/-- parts: 0 a 1 b 2 word 3 bits 4 first 5 second -/
def m_parts : Z.Env → Z.Out := mSeq m_parts_s1 (mSeq m_parts_s2 (mSeq m_parts_s3 (mSeq m_parts_s4 (m_parts_s5))))
def m_refines_s1 : Z.Env → Z.Out := (mDrop (mCall0 true 0 2 2 m_check_two_demands (mCons (mVar 0) (mCons (mVar 1) mNil))))
def m_refines_s2 : Z.Env → Z.Out := mNoS
def m_refines_s3 : Z.Env → Z.Out := mNoS
def m_refines_s4 : Z.Env → Z.Out := mNoS
/-- refines: 0 s 1 t 2 answer 3 shown 4 found 5 _ 6 y 7 x -/
def m_refines : Z.Env → Z.Out := mSeq m_refines_s1 (mSeq m_refines_s2 (mSeq m_refines_s3 (m_refines_s4)))
def m_takes_s1 : Z.Env → Z.Out := (mDrop (mCall0 true 0 2 2 m_check_two_demands (mCons (mVar 0) (mCons (mVar 1) mNil))))
def m_takes_s2 : Z.Env → Z.Out := mNoS
def m_takes_s3 : Z.Env → Z.Out := mNoS
def m_takes_s4 : Z.Env → Z.Out := mNoS
def m_takes_s5 : Z.Env → Z.Out := mNoS
/-- takes: 0 s 1 t 2 paper -/
def m_takes : Z.Env → Z.Out := mSeq m_takes_s1 (mSeq m_takes_s2 (mSeq m_takes_s3 (mSeq m_takes_s4 (m_takes_s5))))
def m_equal_s1 : Z.Env → Z.Out := (mDrop (mCall0 true 0 2 2 m_check_two_demands (mCons (mVar 0) (mCons (mVar 1) mNil))))
def m_equal_s2 : Z.Env → Z.Out := mNoS
/-- equal: 0 s 1 t -/
def m_equal : Z.Env → Z.Out := mSeq m_equal_s1 (m_equal_s2)
def m_divided_s1 : Z.Env → Z.Out := (mDrop (mCall0 true 0 2 2 m_check_two_demands (mCons (mVar 0) (mCons (mVar 1) mNil))))
def m_divided_s2 : Z.Env → Z.Out := mNoS
def m_divided_s3 : Z.Env → Z.Out := mNoS
def m_divided_s4 : Z.Env → Z.Out := mNoS
def m_divided_s5 : Z.Env → Z.Out := mNoS
def m_divided_s6 : Z.Env → Z.Out := mNoS
/-- divided: 0 t 1 s 2 n 3 states_t 4 states_s 5 every_set 6 wanted 7 ahead_t 8 given 9 ahead_s 10 fitting 11 bits 12 used 13 shared 14 ends 15 letter 16 end -/
def m_divided : Z.Env → Z.Out := mSeq m_divided_s1 (mSeq m_divided_s2 (mSeq m_divided_s3 (mSeq m_divided_s4 (mSeq m_divided_s5 (m_divided_s6)))))
def m_missing_s1 : Z.Env → Z.Out := (mRet 0 (mCall0 true 0 1 3 m_some (mCons (mCall0 true 0 2 17 m_divided (mCons (mVar 0) (mCons (mVar 1) mNil))) mNil)))
/-- missing: 0 t 1 s -/
def m_missing : Z.Env → Z.Out := m_missing_s1
def m__law_both_s1 : Z.Env → Z.Out := (mIfS (mTest (mBin gEq (mVar 0) (mC (.int 10)))) (mRet 0 (mCall0 true 0 2 2 m_meet (mCons (mVar 1) (mCons (mVar 2) mNil)))) mNext)
def m__law_both_s2 : Z.Env → Z.Out := (mIfS (mTest (mBin gEq (mVar 0) (mC (.int 11)))) (mRet 0 (mCall0 true 0 2 2 m_either (mCons (mVar 2) (mCons (mVar 1) mNil)))) mNext)
def m__law_both_s3 : Z.Env → Z.Out := (mIfS (mTest (mBin gEq (mVar 0) (mC (.int 12)))) (mRet 0 (mCall0 true 0 2 2 m_beside (mCons (mVar 1) (mCons (mVar 2) mNil)))) mNext)
def m__law_both_s4 : Z.Env → Z.Out := (mIfS (mTest (mBin gEq (mVar 0) (mC (.int 13)))) (mRet 0 (mCall0 true 0 4 6 m_parts (mCons (mVar 2) (mCons (mVar 1) (mCons (mC (.str (PySem.Str.ofString ""))) (mCons (mUn gNeg (mC (.int 1))) mNil)))))) mNext)
def m__law_both_s5 : Z.Env → Z.Out := (mIfS (mTest (mBin gEq (mVar 0) (mC (.int 14)))) (mRet 0 (mCall0 true 0 2 8 m_refines (mCons (mVar 2) (mCons (mVar 1) mNil)))) mNext)
def m__law_both_s6 : Z.Env → Z.Out := (mIfS (mTest (mBin gEq (mVar 0) (mC (.int 15)))) (mRet 0 (mCall0 true 0 3 3 m_takes (mCons (mVar 1) (mCons (mVar 2) (mCons (mTup 0 mNil) mNil))))) mNext)
def m__law_both_s7 : Z.Env → Z.Out := (mIfS (mTest (mBin gEq (mVar 0) (mC (.int 16)))) (mRet 0 (mCall0 true 0 2 2 m_equal (mCons (mVar 2) (mCons (mVar 1) mNil)))) mNext)
def m__law_both_s8 : Z.Env → Z.Out := (mIfS (mTest (mBin gEq (mVar 0) (mC (.int 17)))) (mRet 0 (mCall0 true 0 2 17 m_divided (mCons (mVar 1) (mCons (mVar 2) mNil)))) mNext)
def m__law_both_s9 : Z.Env → Z.Out := (mIfS (mTest (mBin gEq (mVar 0) (mC (.int 18)))) (mRet 0 (mCall0 true 0 2 17 m_divided (mCons (mVar 2) (mCons (mVar 1) mNil)))) mNext)
def m__law_both_s10 : Z.Env → Z.Out := (mIfS (mTest (mBin gEq (mVar 0) (mC (.int 19)))) (mRet 0 (mCall0 true 0 2 2 m_missing (mCons (mVar 2) (mCons (mVar 1) mNil)))) mNext)
def m__law_both_s11 : Z.Env → Z.Out := (mIfS (mTest (mBin gEq (mVar 0) (mC (.int 20)))) (mRet 0 (mCall0 true 0 2 8 m_refines (mCons (mVar 1) (mCons (mVar 2) mNil)))) mNext)
def m__law_both_s12 : Z.Env → Z.Out := (mRet 0 (mCall0 true 0 2 2 m_meet (mCons (mVar 2) (mCons (mVar 1) mNil))))
/-- _law_both: 0 way 1 one 2 other -/
def m__law_both : Z.Env → Z.Out := mSeq m__law_both_s1 (mSeq m__law_both_s2 (mSeq m__law_both_s3 (mSeq m__law_both_s4 (mSeq m__law_both_s5 (mSeq m__law_both_s6 (mSeq m__law_both_s7 (mSeq m__law_both_s8 (mSeq m__law_both_s9 (mSeq m__law_both_s10 (mSeq m__law_both_s11 (m__law_both_s12)))))))))))
def m__is_edge_s1 : Z.Env → Z.Out := (mIfS (mOr (mNot (mTru (mIsi "tuple" (mVar 2)))) (mTest (mBin gNe (mCB cLen (mCons (mVar 2) mNil)) (mC (.int 2))))) (mRet 0 (mC (.bool false))) mNext)
def m__is_edge_s2 : Z.Env → Z.Out := (mRet 0 (mAndV (mCall0 false 0 2 2 m_is_below (mCons (mBin gIx (mVar 2) (mC (.int 0))) (mCons (mVar 0) mNil))) (mCall0 false 0 2 2 m_is_below (mCons (mBin gIx (mVar 2) (mC (.int 1))) (mCons (mVar 1) mNil)))))
/-- _is_edge: 0 n 1 many 2 edge -/
def m__is_edge : Z.Env → Z.Out := mSeq m__is_edge_s1 (m__is_edge_s2)
def m__is_row_b1 : Z.Env → Z.Out := (mIfS (mNot (mTru (mCall0 false 0 3 3 m__is_edge (mCons (mVar 0) (mCons (mVar 1) (mCons (mVar 3) mNil)))))) (mRet 0 (mC (.bool false))) mNext)
def m__is_row_e1 : Z.Env → Z.Res Z.R := (mBin (gAlt gLt gLtT) (mBin gIx (mVar 2) (mBin gSub (mVar 4) (mC (.int 1)))) (mBin gIx (mVar 2) (mVar 4)))
def m__is_row_s1 : Z.Env → Z.Out := (mFor (mIter 0 (mVar 2)) (bName 3) m__is_row_b1)
def m__is_row_s2 : Z.Env → Z.Out := (mRet 0 (mCB cAll (mCons (mLc 0 (mRng2 (mCons (mC (.int 1)) (mCons (mCB cLen (mCons (mVar 2) mNil)) mNil))) (bName 4) mYes m__is_row_e1 [4]) mNil)))
/-- _is_row: 0 n 1 many 2 row 3 edge 4 at -/
def m__is_row : Z.Env → Z.Out := mSeq m__is_row_s1 (m__is_row_s2)
def m__is_machine_e1 : Z.Env → Z.Res Z.R := (mIsi "tuple" (mVar 3))
def m__is_machine_e2 : Z.Env → Z.Res Z.R := (mCB cLen (mCons (mVar 3) mNil))
def m__is_machine_e3 : Z.Env → Z.Res Z.R := (mCall0 false 0 3 5 m__is_row (mCons (mVar 1) (mCons (mCB cLen (mCons (mVar 2) mNil)) (mCons (mVar 3) mNil))))
def m__is_machine_s1 : Z.Env → Z.Out := (mIfS (mOr (mNot (mTru (mIsi "tuple" (mVar 0)))) (mTest (mBin gNe (mCB cLen (mCons (mVar 0) mNil)) (mC (.int 2))))) (mRet 0 (mC (.bool false))) mNext)
def m__is_machine_s2 : Z.Env → Z.Out := (mAsgG 0 (bTup 2 (bCons (bName 1) (bCons (bName 2) bNil))) (mVar 0))
def m__is_machine_s3 : Z.Env → Z.Out := (mIfS (mOr (mNot (mTru (mCall0 false 0 1 1 m_is_letter_count (mCons (mVar 1) mNil)))) (mNot (mTru (mIsi "tuple" (mVar 2))))) (mRet 0 (mC (.bool false))) mNext)
def m__is_machine_s4 : Z.Env → Z.Out := (mIfS (mNot (mTest (mChain gLe gLe (mC (.int 1)) (mCB cLen (mCons (mVar 2) mNil)) (mC (.int 400))))) (mRet 0 (mC (.bool false))) mNext)
def m__is_machine_s5 : Z.Env → Z.Out := (mIfS (mNot (mTru (mCB cAll (mCons (mLcH 0 2 (bName 3) mYes m__is_machine_e1 [3]) mNil)))) (mRet 0 (mC (.bool false))) mNext)
def m__is_machine_s6 : Z.Env → Z.Out := (mIfS (mTest (mBin gGt (mCB cSum (mCons (mLcH 0 2 (bName 3) mYes m__is_machine_e2 [3]) mNil)) (mC (.int 6000)))) (mRet 0 (mC (.bool false))) mNext)
def m__is_machine_s7 : Z.Env → Z.Out := (mRet 0 (mCB cAll (mCons (mLc 0 (mIter 0 (mVar 2)) (bName 3) mYes m__is_machine_e3 [3]) mNil)))
/-- _is_machine: 0 m 1 n 2 rows 3 row -/
def m__is_machine : Z.Env → Z.Out := mSeq m__is_machine_s1 (mSeq m__is_machine_s2 (mSeq m__is_machine_s3 (mSeq m__is_machine_s4 (mSeq m__is_machine_s5 (mSeq m__is_machine_s6 (m__is_machine_s7))))))
def m_check_machine_s1 : Z.Env → Z.Out := (mIfS (mNot (mTru (mCall0 false 0 1 4 m__is_machine (mCons (mVar 0) mNil)))) (mRaise 0) mNext)
/-- check_machine: 0 m -/
def m_check_machine : Z.Env → Z.Out := m_check_machine_s1
def m__check_both_s1 : Z.Env → Z.Out := (mDrop (mCall0 true 0 1 1 m_check_machine (mCons (mVar 0) mNil)))
def m__check_both_s2 : Z.Env → Z.Out := (mDrop (mCall0 true 0 1 1 m_check_demand (mCons (mVar 1) mNil)))
def m__check_both_s3 : Z.Env → Z.Out := (mDrop (mCall0 true 0 2 2 m_check_same_letters (mCons (mVar 0) (mCons (mVar 1) mNil))))
/-- _check_both: 0 m 1 d -/
def m__check_both : Z.Env → Z.Out := mSeq m__check_both_s1 (mSeq m__check_both_s2 (m__check_both_s3))
def m_keeps_s1 : Z.Env → Z.Out := (mDrop (mCall0 true 0 2 2 m__check_both (mCons (mVar 0) (mCons (mVar 1) mNil))))
def m_keeps_s2 : Z.Env → Z.Out := mNoS
def m_keeps_s3 : Z.Env → Z.Out := mNoS
def m_keeps_s4 : Z.Env → Z.Out := mNoS
def m_keeps_s5 : Z.Env → Z.Out := mNoS
def m_keeps_s6 : Z.Env → Z.Out := mNoS
def m_keeps_s7 : Z.Env → Z.Out := mNoS
def m_keeps_s8 : Z.Env → Z.Out := mNoS
def m_keeps_s9 : Z.Env → Z.Out := mNoS
/-- keeps: 0 m 1 d 2 rows 3 states 4 sets 5 row 6 groups 7 came 8 seen 9 at 10 q 11 ends 12 accepts 13 ahead 14 wrong 15 p 16 letter 17 to 18 new -/
def m_keeps : Z.Env → Z.Out := mSeq m_keeps_s1 (mSeq m_keeps_s2 (mSeq m_keeps_s3 (mSeq m_keeps_s4 (mSeq m_keeps_s5 (mSeq m_keeps_s6 (mSeq m_keeps_s7 (mSeq m_keeps_s8 (m_keeps_s9))))))))
def m_is_kept_s1 : Z.Env → Z.Out := (mDrop (mCall0 true 0 2 2 m__check_both (mCons (mVar 0) (mCons (mVar 1) mNil))))
def m_is_kept_s2 : Z.Env → Z.Out := mNoS
def m_is_kept_s3 : Z.Env → Z.Out := mNoS
def m_is_kept_s4 : Z.Env → Z.Out := mNoS
def m_is_kept_s5 : Z.Env → Z.Out := mNoS
/-- is_kept: 0 m 1 d 2 paper -/
def m_is_kept : Z.Env → Z.Out := mSeq m_is_kept_s1 (mSeq m_is_kept_s2 (mSeq m_is_kept_s3 (mSeq m_is_kept_s4 (m_is_kept_s5))))
def m__check_three_s1 : Z.Env → Z.Out := (mDrop (mCall0 true 0 1 1 m_check_machine (mCons (mVar 0) mNil)))
def m__check_three_s2 : Z.Env → Z.Out := (mDrop (mCall0 true 0 1 1 m_check_demand (mCons (mVar 1) mNil)))
def m__check_three_s3 : Z.Env → Z.Out := (mDrop (mCall0 true 0 1 1 m_check_demand (mCons (mVar 2) mNil)))
def m__check_three_s4 : Z.Env → Z.Out := (mDrop (mCall0 true 0 2 2 m_check_same_letters (mCons (mVar 0) (mCons (mVar 1) mNil))))
def m__check_three_s5 : Z.Env → Z.Out := (mDrop (mCall0 true 0 2 2 m_check_same_letters (mCons (mVar 1) (mCons (mVar 2) mNil))))
/-- _check_three: 0 x 1 s 2 t -/
def m__check_three : Z.Env → Z.Out := mSeq m__check_three_s1 (mSeq m__check_three_s2 (mSeq m__check_three_s3 (mSeq m__check_three_s4 (m__check_three_s5))))
def m_completes_s1 : Z.Env → Z.Out := (mDrop (mCall0 true 0 3 3 m__check_three (mCons (mVar 0) (mCons (mVar 1) (mCons (mVar 2) mNil)))))
def m_completes_s2 : Z.Env → Z.Out := mNoS
def m_completes_s3 : Z.Env → Z.Out := mNoS
def m_completes_s4 : Z.Env → Z.Out := mNoS
/-- completes: 0 x 1 s 2 t 3 answer 4 shown 5 found -/
def m_completes : Z.Env → Z.Out := mSeq m_completes_s1 (mSeq m_completes_s2 (mSeq m_completes_s3 (m_completes_s4)))
def m_accepts_s1 : Z.Env → Z.Out := (mDrop (mCall0 true 0 3 3 m__check_three (mCons (mVar 0) (mCons (mVar 1) (mCons (mVar 2) mNil)))))
def m_accepts_s2 : Z.Env → Z.Out := mNoS
def m_accepts_s3 : Z.Env → Z.Out := mNoS
def m_accepts_s4 : Z.Env → Z.Out := mNoS
def m_accepts_s5 : Z.Env → Z.Out := mNoS
/-- accepts: 0 x 1 s 2 t 3 paper -/
def m_accepts : Z.Env → Z.Out := mSeq m_accepts_s1 (mSeq m_accepts_s2 (mSeq m_accepts_s3 (mSeq m_accepts_s4 (m_accepts_s5))))
def m__law_third_s1 : Z.Env → Z.Out := (mAsg 0 3 (mTup 0 (mCons (mBin gIx (mVar 2) (mC (.int 0))) (mCons (mTup 0 (mCons (mTup 0 mNil) mNil)) mNil))))
def m__law_third_s2 : Z.Env → Z.Out := (mIfS (mTest (mBin gEq (mVar 0) (mC (.int 22)))) (mRet 0 (mCall0 true 0 2 19 m_keeps (mCons (mVar 3) (mCons (mVar 1) mNil)))) mNext)
def m__law_third_s3 : Z.Env → Z.Out := (mIfS (mTest (mBin gEq (mVar 0) (mC (.int 23)))) (mRet 0 (mCall0 true 0 3 3 m_is_kept (mCons (mVar 3) (mCons (mVar 1) (mCons (mTup 0 mNil) mNil))))) mNext)
def m__law_third_s4 : Z.Env → Z.Out := (mIfS (mTest (mBin gEq (mVar 0) (mC (.int 24)))) (mRet 0 (mCall0 true 0 3 6 m_completes (mCons (mVar 3) (mCons (mVar 1) (mCons (mVar 2) mNil))))) mNext)
def m__law_third_s5 : Z.Env → Z.Out := (mIfS (mTest (mBin gEq (mVar 0) (mC (.int 25)))) (mRet 0 (mCall0 true 0 3 6 m_completes (mCons (mVar 3) (mCons (mVar 2) (mCons (mVar 1) mNil))))) mNext)
def m__law_third_s6 : Z.Env → Z.Out := (mIfS (mTest (mBin gEq (mVar 0) (mC (.int 26)))) (mRet 0 (mCall0 true 0 4 4 m_accepts (mCons (mVar 3) (mCons (mVar 2) (mCons (mVar 1) (mCons (mTup 0 mNil) mNil)))))) mNext)
def m__law_third_s7 : Z.Env → Z.Out := (mIfS (mTest (mBin gEq (mVar 0) (mC (.int 27)))) (mRet 0 (mCall0 true 0 4 4 m_accepts (mCons (mVar 3) (mCons (mVar 1) (mCons (mVar 2) (mCons (mTup 0 mNil) mNil)))))) mNext)
def m__law_third_s8 : Z.Env → Z.Out := (mRet 0 (mCall0 true 0 2 19 m_keeps (mCons (mTup 0 (mCons (mC (.int 9)) (mCons (mTup 0 mNil) mNil))) (mCons (mVar 1) mNil))))
/-- _law_third: 0 way 1 one 2 other 3 m -/
def m__law_third : Z.Env → Z.Out := mSeq m__law_third_s1 (mSeq m__law_third_s2 (mSeq m__law_third_s3 (mSeq m__law_third_s4 (mSeq m__law_third_s5 (mSeq m__law_third_s6 (mSeq m__law_third_s7 (m__law_third_s8)))))))
def m__law_refused_s1 : Z.Env → Z.Out := (mTry 4 (mSeq (mIfS (mTest (mBin gLt (mVar 0) (mC (.int 10)))) (mAsg 0 3 (mCall0 true 0 2 2 m__law_one (mCons (mVar 0) (mCons (mVar 1) mNil)))) (mIfS (mTest (mBin gLt (mVar 0) (mC (.int 22)))) (mAsg 0 3 (mCall0 true 0 3 3 m__law_both (mCons (mVar 0) (mCons (mVar 1) (mCons (mVar 2) mNil))))) (mAsg 0 3 (mCall0 true 0 3 4 m__law_third (mCons (mVar 0) (mCons (mVar 1) (mCons (mVar 2) mNil)))))))
  (mRet 0 (mIf (mOr (mTest (mBin gIsN (mVar 3) (mC .none))) (mTest (mBin gGt (mVar 0) (mC (.int 0))))) (mC (.str (PySem.Str.ofString "let"))) (mC (.str (PySem.Str.ofString "told")))))) m_hd)
/-- _law_refused: 0 way 1 one 2 other 3 told 4 e -/
def m__law_refused : Z.Env → Z.Out := m__law_refused_s1
def m__law_sets_s1 : Z.Env → Z.Out := (mAsg 1 3 (mBin gIx (mLst 1 (mCons (mC (.int 1)) (mCons (mC (.int 2)) (mCons (mC (.int 4)) (mCons (mC (.int 8)) (mCons (mC (.int 16)) (mCons (mC (.int 32)) mNil))))))) (mVar 1)))
def m__law_sets_s2 : Z.Env → Z.Out := (mAsg 1 4 (mLst 1 (mCons (mBin gCatT (mVar 2) (mTup 1 (mCons (mVar 3) mNil))) (mCons (mBin gCatT (mTup 1 (mCons (mUn gNeg (mC (.int 1))) mNil)) (mVar 2)) (mCons (mTup 1 (mCons (mC (.bool true)) mNil)) (mCons (mTup 1 (mCons (mC .none) mNil)) (mCons (mTup 1 (mCons (mC (.str (PySem.Str.ofString "a"))) mNil)) (mCons (mBin gCatT (mBin (gAlt gCatT gCatL) (mVar 2) (mSl (mVar 2) (mPart (mUn gNeg (mC (.int 1)))) mNoPart)) (mTup 1 (mCons (mVar 3) mNil))) (mCons (mC .none) (mCons (mC (.int 0)) (mCons (mC (.str (PySem.Str.ofString ""))) (mCons (mTup 1 (mCons (mTup 1 mNil) mNil)) mNil))))))))))))
def m__law_sets_s3 : Z.Env → Z.Out := (mIfS (mTru (mVar 2)) (mAsg 1 4 (mBin gCatL (mVar 4) (mLst 1 (mCons (mBin (gAlt gCatT gCatL) (mVar 2) (mSl (mVar 2) (mPart (mUn gNeg (mC (.int 1)))) mNoPart)) (mCons (mBin gCatT (mTup 1 (mCons (mBin gIx (mVar 2) (mC (.int 0))) mNil)) (mVar 2)) mNil))))) mNext)
def m__law_sets_s4 : Z.Env → Z.Out := (mIfS (mTest (mBin gGt (mCB cLen (mCons (mVar 2) mNil)) (mC (.int 1)))) (mMut 1 4 uAppend (mCons (mBin gCatT (mTup 1 (mCons (mBin gIx (mVar 2) (mC (.int 1))) (mCons (mBin gIx (mVar 2) (mC (.int 0))) mNil))) (mSl (mVar 2) (mPart (mC (.int 2))) mNoPart)) mNil)) mNext)
def m__law_sets_s5 : Z.Env → Z.Out := (mRet 1 (mCallM 1 [true] 2 2 m__law_pick (mCons (mVar 0) (mCons (mVar 4) mNil))))
/-- _law_sets: 0 box 1 n 2 sets 3 most 4 bad -/
def m__law_sets : Z.Env → Z.Out := mSeq m__law_sets_s1 (mSeq m__law_sets_s2 (mSeq m__law_sets_s3 (mSeq m__law_sets_s4 (m__law_sets_s5))))
def m__law_after_b1 : Z.Env → Z.Out := (mMut 1 7 uAppend (mCons (mBin gCatT (mBin gCatT (mSl (mVar 6) mNoPart (mPart (mVar 8))) (mTup 1 (mCons (mVar 9) mNil))) (mSl (mVar 6) (mPart (mBin gAdd (mVar 8) (mC (.int 1)))) mNoPart)) mNil))
def m__law_after_t1 : Z.Env → Z.Res Bool := (mTest (mBin gEq (mBin gMod (mBin gDiv (mCB cInt (mCons (mVar 11) mNil)) (mBin gIx (mLst 1 (mCons (mC (.int 1)) (mCons (mC (.int 2)) (mCons (mC (.int 4)) (mCons (mC (.int 8)) (mCons (mC (.int 16)) mNil)))))) (mVar 10))) (mC (.int 2))) (mC (.int 1))))
def m__law_after_b2 : Z.Env → Z.Out := (mIfS (mTru (mLcH 1 5 (bName 11) m__law_after_t1 (mVar 11) [11])) (mMut 1 7 uAppend (mCons (mBin gCatT (mBin gCatT (mSl (mVar 6) mNoPart (mPart (mVar 10))) (mTup 1 (mCons (mUn gNeg (mC (.int 1))) mNil))) (mSl (mVar 6) (mPart (mBin gAdd (mVar 10) (mC (.int 1)))) mNoPart)) mNil)) mNext)
def m__law_after_s1 : Z.Env → Z.Out := (mAsgG 1 (bTup 2 (bCons (bName 3) (bCons (bName 4) bNil))) (mVar 1))
def m__law_after_s2 : Z.Env → Z.Out := (mAsgG 1 (bTup 2 (bCons (bName 5) (bCons (bName 6) bNil))) (mBin gIx (mVar 4) (mVar 2)))
def m__law_after_s3 : Z.Env → Z.Out := (mAsg 1 7 (mLst 1 (mCons (mBin gCatT (mVar 6) (mTup 1 (mCons (mC (.int 0)) mNil))) (mCons (mBin gCatT (mVar 6) (mTup 1 (mCons (mUn gNeg (mC (.int 1))) mNil))) (mCons (mC .none) (mCons (mC (.int 0)) (mCons (mC (.str (PySem.Str.ofString ""))) (mCons (mTup 1 (mCons (mVar 6) mNil)) mNil))))))))
def m__law_after_s4 : Z.Env → Z.Out := (mIfS (mTest (mBin gGt (mVar 3) (mC (.int 0)))) (mSeq (mAsg 1 8 (mCallM 1 [true] 2 5 m__law_take (mCons (mVar 0) (mCons (mVar 3) mNil))))
  (mSeq (mFor (mIter 1 (mTup 1 (mCons (mCB cLen (mCons (mVar 4) mNil)) (mCons (mUn gNeg (mC (.int 2))) (mCons (mC (.bool true)) (mCons (mC .none) (mCons (mC (.str (PySem.Str.ofString "0"))) (mCons (mC (.int 99)) mNil)))))))) (bName 9) m__law_after_b1)
  (mSeq (mMut 1 7 uAppend (mCons (mSl (mVar 6) (mPart (mC (.int 1))) mNoPart) mNil))
  (mFor (mRng1 (mCons (mVar 3) mNil)) (bName 10) m__law_after_b2)))) mNext)
def m__law_after_s5 : Z.Env → Z.Out := (mRet 1 (mCallM 1 [true] 2 2 m__law_pick (mCons (mVar 0) (mCons (mVar 7) mNil))))
/-- _law_after: 0 box 1 d 2 at 3 n 4 states 5 sets 6 after 7 bad 8 k 9 x 10 a 11 bits -/
def m__law_after : Z.Env → Z.Out := mSeq m__law_after_s1 (mSeq m__law_after_s2 (mSeq m__law_after_s3 (mSeq m__law_after_s4 (m__law_after_s5))))
def m__law_spoilt_s1 : Z.Env → Z.Out := (mAsgG 1 (bTup 2 (bCons (bName 2) (bCons (bName 3) bNil))) (mVar 1))
def m__law_spoilt_s2 : Z.Env → Z.Out := (mAsg 1 4 (mCallM 1 [true] 2 5 m__law_take (mCons (mVar 0) (mCons (mCB cLen (mCons (mVar 3) mNil)) mNil))))
def m__law_spoilt_s3 : Z.Env → Z.Out := (mAsg 1 5 (mCallM 1 [true] 2 5 m__law_take (mCons (mVar 0) (mCons (mC (.int 4)) mNil))))
def m__law_spoilt_s4 : Z.Env → Z.Out := (mAsg 1 6 (mBin gIx (mVar 3) (mVar 4)))
def m__law_spoilt_s5 : Z.Env → Z.Out := (mIfS (mTest (mBin gEq (mVar 5) (mC (.int 0)))) (mAsg 1 6 (mTup 1 (mCons (mCallM 1 [true] 3 5 m__law_sets (mCons (mVar 0) (mCons (mVar 2) (mCons (mBin gIx (mVar 6) (mC (.int 0))) mNil)))) (mCons (mBin gIx (mVar 6) (mC (.int 1))) mNil)))) (mIfS (mTest (mBin gEq (mVar 5) (mC (.int 1)))) (mAsg 1 6 (mTup 1 (mCons (mBin gIx (mVar 6) (mC (.int 0))) (mCons (mCallM 1 [true] 3 12 m__law_after (mCons (mVar 0) (mCons (mVar 1) (mCons (mVar 4) mNil)))) mNil)))) (mIfS (mTest (mBin gEq (mVar 5) (mC (.int 2)))) (mAsg 1 6 (mCallM 1 [true] 2 2 m__law_pick (mCons (mVar 0) (mCons (mLst 1 (mCons (mTup 1 mNil) (mCons (mC .none) (mCons (mC (.int 1)) (mCons (mC (.str (PySem.Str.ofString ""))) (mCons (mTup 1 (mCons (mBin gIx (mVar 6) (mC (.int 0))) mNil)) (mCons (mTup 1 (mCons (mBin gIx (mVar 6) (mC (.int 0))) (mCons (mBin gIx (mVar 6) (mC (.int 1))) (mCons (mTup 1 mNil) mNil)))) (mCons (mTup 1 (mCons (mBin gIx (mVar 6) (mC (.int 1))) (mCons (mBin gIx (mVar 6) (mC (.int 0))) (mCons (mC (.int 0)) mNil)))) mNil)))))))) mNil)))) (mRet 1 (mCallM 1 [true] 2 2 m__law_pick (mCons (mVar 0) (mCons (mLst 1 (mCons (mTup 1 (mCons (mC (.int 6)) (mCons (mVar 3) mNil))) (mCons (mTup 1 (mCons (mUn gNeg (mC (.int 1))) (mCons (mVar 3) mNil))) (mCons (mTup 1 (mCons (mC .none) (mCons (mVar 3) mNil))) (mCons (mTup 1 (mCons (mC (.str (PySem.Str.ofString "1"))) (mCons (mVar 3) mNil))) (mCons (mTup 1 (mCons (mVar 2) (mCons (mTup 1 mNil) mNil))) (mCons (mTup 1 (mCons (mVar 2) (mCons (mC .none) mNil))) (mCons (mTup 1 (mCons (mVar 2) mNil)) (mCons (mTup 1 (mCons (mVar 2) (mCons (mVar 3) (mCons (mC (.int 0)) mNil)))) (mCons (mTup 1 mNil) (mCons (mC .none) (mCons (mC (.int 3)) (mCons (mC (.str (PySem.Str.ofString "demand"))) (mCons (mVar 3) mNil)))))))))))))) mNil)))))))
def m__law_spoilt_s6 : Z.Env → Z.Out := (mRet 1 (mTup 1 (mCons (mVar 2) (mCons (mBin gCatT (mBin gCatT (mSl (mVar 3) mNoPart (mPart (mVar 4))) (mTup 1 (mCons (mVar 6) mNil))) (mSl (mVar 3) (mPart (mBin gAdd (mVar 4) (mC (.int 1)))) mNoPart)) mNil))))
/-- _law_spoilt: 0 box 1 d 2 n 3 states 4 at 5 sort 6 state -/
def m__law_spoilt : Z.Env → Z.Out := mSeq m__law_spoilt_s1 (mSeq m__law_spoilt_s2 (mSeq m__law_spoilt_s3 (mSeq m__law_spoilt_s4 (mSeq m__law_spoilt_s5 (m__law_spoilt_s6)))))
def m_law_b1 : Z.Env → Z.Out := (mIfS (mOr (mTest (mBin gNe (mCall0 false 0 3 5 m__law_refused (mCons (mVar 8) (mCons (mVar 6) (mCons (mVar 3) mNil)))) (mC (.str (PySem.Str.ofString "demand"))))) (mAnd (mTest (mBin gGt (mVar 8) (mC (.int 21)))) (mTest (mBin gNe (mCall0 false 0 3 5 m__law_refused (mCons (mVar 8) (mCons (mVar 6) (mCons (mVar 7) mNil)))) (mC (.str (PySem.Str.ofString "demand"))))))) (mRet 0 (mC (.bool false))) mNext)
def m_law_b2 : Z.Env → Z.Out := (mIfS (mOr (mTest (mBin gNe (mCall0 false 0 3 5 m__law_refused (mCons (mVar 8) (mCons (mVar 6) (mCons (mVar 7) mNil)))) (mC (.str (PySem.Str.ofString "demand"))))) (mTest (mBin gNe (mCall0 false 0 3 5 m__law_refused (mCons (mVar 8) (mCons (mVar 3) (mCons (mVar 7) mNil)))) (mC (.str (PySem.Str.ofString "letters")))))) (mRet 0 (mC (.bool false))) mNext)
def m_law_s1 : Z.Env → Z.Out := (mAsg 0 1 (mCall0 false 0 1 2 m__law_box (mCons (mVar 0) mNil)))
def m_law_s2 : Z.Env → Z.Out := (mAsg 0 2 (mCallM 0 [true] 2 5 m__law_take (mCons (mVar 1) (mCons (mC (.int 6)) mNil))))
def m_law_s3 : Z.Env → Z.Out := (mAsg 0 3 (mCallM 0 [true] 3 12 m__law_demand (mCons (mVar 1) (mCons (mVar 2) (mCons (mC (.int 5)) mNil)))))
def m_law_s4 : Z.Env → Z.Out := (mIfS (mTest (mBin gNe (mCall0 false 0 3 5 m__law_refused (mCons (mC (.int 0)) (mCons (mVar 3) (mCons (mVar 3) mNil)))) (mC (.str (PySem.Str.ofString "let"))))) (mRet 0 (mC (.bool false))) mNext)
def m_law_s5 : Z.Env → Z.Out := (mAsg 0 4 (mBin gAdd (mC (.int 40)) (mCallM 0 [true] 2 5 m__law_take (mCons (mVar 1) (mCons (mC (.int 2)) mNil)))))
def m_law_s6 : Z.Env → Z.Out := (mAsg 0 5 (mTup 0 (mCons (mVar 2) (mCons (mBin gCatT (mBin gIx (mVar 3) (mC (.int 1))) (mBin gRepA (mTup 0 (mCons (mTup 0 (mCons (mBin gIx (mBin gIx (mBin gIx (mVar 3) (mC (.int 1))) (mC (.int 0))) (mC (.int 0))) (mCons (mBin gIx (mBin gIx (mBin gIx (mVar 3) (mC (.int 1))) (mC (.int 0))) (mC (.int 1))) mNil))) mNil)) (mBin gSub (mVar 4) (mCB cLen (mCons (mBin gIx (mVar 3) (mC (.int 1))) mNil))))) mNil))))
def m_law_s7 : Z.Env → Z.Out := (mIfS (mTest (mBin gNe (mCall0 false 0 3 5 m__law_refused (mCons (mC (.int 0)) (mCons (mVar 5) (mCons (mVar 3) mNil)))) (mIf (mTest (mBin gEq (mVar 4) (mC (.int 40)))) (mC (.str (PySem.Str.ofString "let"))) (mC (.str (PySem.Str.ofString "demand")))))) (mRet 0 (mC (.bool false))) mNext)
def m_law_s8 : Z.Env → Z.Out := (mAsg 0 6 (mCallM 0 [true] 2 7 m__law_spoilt (mCons (mVar 1) (mCons (mVar 3) mNil))))
def m_law_s9 : Z.Env → Z.Out := (mAsg 0 7 (mTup 0 (mCons (mBin gMod (mCB cInt (mCons (mBin gAdd (mVar 2) (mC (.int 1))) mNil)) (mC (.int 6))) (mCons (mTup 0 (mCons (mTup 0 (mCons (mTup 0 mNil) (mCons (mBin gRepA (mTup 0 (mCons (mUn gNeg (mC (.int 1))) mNil)) (mBin gMod (mCB cInt (mCons (mBin gAdd (mVar 2) (mC (.int 1))) mNil)) (mC (.int 6)))) mNil))) mNil)) mNil))))
def m_law_s10 : Z.Env → Z.Out := (mFor (mRng1 (mCons (mC (.int 28)) mNil)) (bName 8) m_law_b1)
def m_law_s11 : Z.Env → Z.Out := (mFor (mRng2 (mCons (mC (.int 10)) (mCons (mC (.int 28)) mNil))) (bName 8) m_law_b2)
def m_law_s12 : Z.Env → Z.Out := (mRet 0 (mBin gEq (mCall0 false 0 3 5 m__law_refused (mCons (mC (.int 28)) (mCons (mVar 6) (mCons (mVar 3) mNil)))) (mC (.str (PySem.Str.ofString "machine")))))
/-- law: 0 script 1 box 2 n 3 d 4 many 5 long 6 bad 7 other 8 way -/
def m_law : Z.Env → Z.Out := mSeq m_law_s1 (mSeq m_law_s2 (mSeq m_law_s3 (mSeq m_law_s4 (mSeq m_law_s5 (mSeq m_law_s6 (mSeq m_law_s7 (mSeq m_law_s8 (mSeq m_law_s9 (mSeq m_law_s10 (mSeq m_law_s11 (m_law_s12)))))))))))


end K03
local macro_rules | `(tactic| walk_at "ev") => `(tactic| simp only [Z.mSeq_k, Z.seqK_nx, Z.seqK_rt, Z.seqK_bk, Z.seqK_ct, Z.seqK_exc, Z.mIfS_k, Z.ifK_t, Z.ifK_f, Z.ifK_exc, Z.mRet_k, Z.retK_d, Z.retK_o, Z.retK_b, Z.retK_exc, Z.mAsg_k, Z.asgK_d, Z.asgK_o, Z.asgK_b, Z.asgK_exc, Z.mDrop_k, Z.dropK_ok, Z.dropK_exc, Z.mAsgG_k, Z.asgGK_ok, Z.asgGK_exc, Z.mMut_k, Z.mutK_ok,
  Z.mTest_k, Z.mTru_k, Z.mNot_k, Z.mAnd_k, Z.mOr_k, Z.mNotV_k, Z.mAndV_k, Z.mOrV_k, Z.mIf_k, Z.mNil_k, Z.mCons_k, Z.mTup_k, Z.mLst_k, Z.mCB_k, Z.mBin_k, Z.mUn_k, Z.mIsi_k, Z.mChain_k, Z.mTry_k, Z.tryK_exc, Z.tryK_rt, Z.mSl_k, Z.mPart_k, Z.mNoPart,
  Z.mVar, Z.mC, Z.mSetI, Z.mNext, Z.mAug, Z.mYes, Z.bTup, Z.bCons, Z.bNil, Z.mRaise, Z.mBrk, Z.mCt,
  Z.bind_ok, Z.bind_exc, Z.bind_no, Z.opd, Z.cont, Z.opds, Z.dopd, Z.dopds, Z.frz1, Z.frzA, Z.tru, Z.cLen, Z.cAbs, Z.cInt, Z.cMax2, Z.cMin2, Z.cList, Z.uAppend, Z.bName, Z.cTuple,
  List.getElem?_cons_zero, List.getElem?_cons_succ, List.set_cons_zero, List.set_cons_succ, List.length_cons, List.length_nil, List.map_cons, List.map_nil, List.cons_append, List.nil_append,
  Z.gEq_int, Z.gNe_int, Z.gAdd_int, Z.gSub_int, Z.gLt_int, Z.gLe_int, Z.gGt_int, Z.gGe_int, Z.gNeg_int, Z.gMod_int, Z.gDiv_int, Z.gMul_r, Z.gMul_l, Z.gPow_18, Z.gIx_l, Z.gIx_t, Z.atI_lit, Z.ixN_lit, Nat.reduceAdd, Nat.reduceLT, Nat.reduceLeDiff, Int.reduceLT, Int.reduceNeg, Int.reduceLE, Int.reduceAdd, Int.reduceEq, Int.reduceToNat, List.length_map, Z.wipeE, Z.back, Z.tyN, Z.kit_ll, Z.kit_ii, Z.kit_ib, Z.gI_any, Z.gEq_ints, Z.gNe_ints, Z.gIn_ints,
  Z.mCall0_k, Z.callK_eq, Z.callR_nx, Z.callR_exc, Z.callR_o, Z.callR_d, Z.flat_n, Z.flat_b, Z.flat_i, Z.flat_s, Z.flat_t, Z.flat_l, Z.mCallM_k, Z.lentK_eq, Z.frzM, Z.lendS, Z.lentR_d, Z.lentR_o, Z.lentR_n, Z.takeB, Z.ndJ, Z.hasJ, Z.S.own, and_true, true_and, Z.mRng1_k, Z.rngK_nat, Z.rngK_lit, Z.mIter_k, Z.iterK_t, Z.iterK_l, Z.iterK_o, Z.mFor_k, Z.forK_ok, Z.mRng2_k, Z.rng2K_1, Z.gAltLt_int, Z.gAltLt_pair, Z.gAltIn_l, Z.gAltIn_t, Z.gAltNotIn_l, Z.gAltNotIn_t, Z.gIsN, Z.gNotN, Z.isNone, Z.cutD_take, Z.cutD_drop, Z.gCatT_t, Z.gCatL_l, Z.gCatL_t, Z.gCatT_l, Z.gAltCat_t, Z.gAltCat_l, Z.mRgE_k, Z.rgEK_t, Z.rgEK_f, Z.gRepA_1, Z.gRepA_lit, Z.natsD_len, Z.mLc2_k, Z.mLc_k, Z.lcK_eq, Z.mLcH_eq, Z.mInM_k, Z.inMK_eq, Z.mGetM_k, Z.getMK_eq, Z.mPutM_k, Z.putK1_ok, Z.putK2_ok, Z.mNewM_k, Z.mListM_k, Option.isSome_none, Option.isSome_some, Bool.true_xor, Bool.false_xor,
  Z.cast_lit, and_self, if_true, if_false, Bool.false_eq_true, reduceIte, ite_self, decide_true, decide_false, decide_eq_true_eq, not_true_eq_false, not_false_eq_true, Bool.not_true, Bool.not_false, Bool.true_and, Bool.false_and, *])
local macro_rules | `(tactic| walk_at "st") => `(tactic| simp only [Z.env0, List.length_cons, List.length_nil, List.map_cons, List.map_nil, List.cons_append, List.nil_append, Nat.reduceAdd, Nat.reduceSub, List.replicate, Nat.sub_self, List.append_nil])

namespace K03
open PySem L2 Z
def isT : Z.D → Bool
  | .tuple _ => true
  | _ => false
theorem kit_t (d : Z.D) : kitB (tyN d) "tuple" = some (isT d) := by
  cases d
  case none => exact (by decide +kernel : kitB "NoneType" "tuple" = some false)
  case bool => exact (by decide +kernel : kitB "bool" "tuple" = some false)
  case int => exact (by decide +kernel : kitB "int" "tuple" = some false)
  case str => exact (by decide +kernel : kitB "str" "tuple" = some false)
  case list => exact (by decide +kernel : kitB "list" "tuple" = some false)
  case tuple => exact (by decide +kernel : kitB "tuple" "tuple" = some true)
  case dict => exact (by decide +kernel : kitB "dict" "tuple" = some false)
theorem kit_tt : kitB "tuple" "tuple" = some true := by decide +kernel
theorem kit_td : kitB "dict" "tuple" = some false := by decide +kernel
/-- no dict -/
def noM : Z.D → Bool
  | .dict _ => false
  | _ => true
/-! ### numbers -/
def isI : Z.D → Bool
  | .int _ => true
  | _ => false
theorem isnum (d : Z.D) (hd : noM d = true) : m_is_number (env0 1 [.d d]) = .rt (.d (.bool (isI d))) [some (.d d)] := by
  cases d with
  | dict x => cases hd
  | none => rfl
  | bool b => rfl
  | int i => rfl
  | str s => rfl
  | list l => rfl
  | tuple l => rfl
def inR (i k : Int) : Bool := decide (0 ≤ i) && decide (i < k)
def below (d : Z.D) (k : Int) : Bool := match d with
  | .int i => inR i k
  | _ => false
theorem below_ok (d : Z.D) (k : Int) (hd : noM d = true) : m_is_below (env0 2 [.d d, .d (.int k)]) = .rt (.d (.bool (below d k))) [some (.d d), some (.d (.int k))] := by
  have e := isnum d hd
  unfold m_is_below m_is_below_s1
  walk_at "st"
  cases d with
  | int i =>
    simp only [isI] at e
    simp only [below, inR]
    by_cases h : 0 ≤ i
    · walk_at "ev"
    · walk_at "ev"
  | _ => simp only [isI] at e; walk_at "ev"; rfl
theorem lcount_ok (d : Z.D) (hd : noM d = true) : m_is_letter_count (env0 1 [.d d]) = .rt (.d (.bool (below d 6))) [some (.d d)] := by
  have e := below_ok d 6 hd
  unfold m_is_letter_count m_is_letter_count_s1
  walk_at "st"
  walk_at "ev"
/-- no dict in the sequence, not too long -/
def okD : Z.D → Bool
  | .tuple ds => ds.all noM && decide (ds.length < 1000000)
  | .dict _ => false
  | _ => true
theorem okD_noM {d : Z.D} (h : okD d = true) : noM d = true := by cases d <;> first | rfl | cases h
def toI : Z.D → Int
  | .int i => i
  | _ => 0
theorem below_I {d : Z.D} {k : Int} (h : below d k = true) : d = .int (toI d) ∧ 0 ≤ toI d ∧ toI d < k := by
  cases d with
  | int i =>
    simp only [below, inR, Bool.and_eq_true, decide_eq_true_eq] at h
    exact ⟨rfl, h⟩
  | _ => cases h
def okN : Nat → Z.D → Bool
  | _, .dict _ => false
  | k + 1, .tuple ds => ds.all (okN k) && decide (ds.length < 1000000)
  | _, _ => true
theorem okN_noM {k : Nat} {d : Z.D} (h : okN k d = true) : noM d = true := by
  cases d <;> first | rfl | (cases k <;> cases h)
theorem okN_1 {d : Z.D} (h : okN 1 d = true) : okD d = true := by
  cases d with
  | tuple ds =>
    simp only [okN, Bool.and_eq_true] at h
    simp only [okD, Bool.and_eq_true]
    refine ⟨?_, h.2⟩
    have h1 := h.1
    rw [List.all_eq_true] at h1 ⊢
    exact fun x hx => okN_noM (h1 x hx)
  | dict _ => cases h
  | _ => rfl
def tupL : Z.D → List Z.D
  | .tuple ds => ds
  | _ => []
theorem okN_down {k : Nat} : ∀ {d : Z.D}, okN (k + 1) d = true → okN k d = true := by
  induction k with
  | zero =>
    intro d h
    cases d with
    | tuple ds => rfl
    | dict _ => cases h
    | _ => rfl
  | succ k ih =>
    intro d h
    cases d with
    | tuple ds =>
      simp only [okN, Bool.and_eq_true] at h ⊢
      refine ⟨?_, h.2⟩
      have h1 := h.1
      rw [List.all_eq_true] at h1 ⊢
      exact fun x hx => ih (h1 x hx)
    | dict _ => cases h
    | _ => rfl
theorem okN_mono {j k : Nat} (hjk : j ≤ k) {d : Z.D} (h : okN k d = true) : okN j d = true := by
  induction hjk with
  | refl => exact h
  | step _ ih => exact ih (okN_down h)
theorem okN_mem {k : Nat} {ds : List Z.D} (h : okN (k + 1) (.tuple ds) = true) : ∀ d ∈ ds, okN k d = true := by
  simp only [okN, Bool.and_eq_true] at h
  exact List.all_eq_true.mp h.1
theorem map_all {α : Type} {p : Z.D → Bool} {f : α → Z.D} {xs : List α} (h : ∀ x ∈ xs, p (f x) = true) : (xs.map f).all p = true := by
  rw [List.all_map, List.all_eq_true]
  exact fun x hx => h x hx
theorem toI_map (xs : List Int) : (xs.map PyData.int).map toI = xs := by
  rw [List.map_map]
  exact List.map_id' xs
theorem okN_int (k : Nat) (i : Int) : okN k (.int i) = true := by cases k <;> rfl
theorem okN_ints (k : Nat) (xs : List Int) (h : xs.length < 1000000) : okN k (.tuple (xs.map .int)) = true := by
  cases k with
  | zero => rfl
  | succ k =>
    simp only [okN, Bool.and_eq_true, List.length_map, decide_eq_true_eq]
    exact ⟨map_all fun x _ => okN_int k x, h⟩
theorem okN_tup {k : Nat} {ds : List Z.D} (h : ∀ d ∈ ds, okN k d = true) (hl : ds.length < 1000000) : okN (k + 1) (.tuple ds) = true := by
  simp only [okN, Bool.and_eq_true, decide_eq_true_eq]
  exact ⟨List.all_eq_true.mpr h, hl⟩
end K03
namespace K03
open PySem L2 Z
/-! ### masks -/
def val (b0 b1 b2 b3 b4 : Bool) : Int := (if b0 then 1 else 0) + (if b1 then 2 else 0) + (if b2 then 4 else 0) + (if b3 then 8 else 0) + (if b4 then 16 else 0)
def Msk (xs : List Int) : Int := val (decide (0 ∈ xs)) (decide (1 ∈ xs)) (decide (2 ∈ xs)) (decide (3 ∈ xs)) (decide (4 ∈ xs))
theorem val_or : ∀ b0 b1 b2 b3 b4 : Bool, Builtin.bitOr (val b0 b1 b2 b3 b4) 1 = val true b1 b2 b3 b4 ∧ Builtin.bitOr (val b0 b1 b2 b3 b4) 2 = val b0 true b2 b3 b4 ∧ Builtin.bitOr (val b0 b1 b2 b3 b4) 4 = val b0 b1 true b3 b4 ∧
    Builtin.bitOr (val b0 b1 b2 b3 b4) 8 = val b0 b1 b2 true b4 ∧ Builtin.bitOr (val b0 b1 b2 b3 b4) 16 = val b0 b1 b2 b3 true := by decide +kernel
theorem Msk_add (xs : List Int) (l : Int) (h0 : 0 ≤ l) (h5 : l < 5) : Builtin.bitOr (Msk xs) (1 * 2 ^ l.toNat) = Msk (xs ++ [l]) := by
  have h := val_or (decide (0 ∈ xs)) (decide (1 ∈ xs)) (decide (2 ∈ xs)) (decide (3 ∈ xs)) (decide (4 ∈ xs))
  obtain ⟨a0, a1, a2, a3, a4⟩ := h
  have : l = 0 ∨ l = 1 ∨ l = 2 ∨ l = 3 ∨ l = 4 := by omega
  unfold Msk
  rcases this with rfl | rfl | rfl | rfl | rfl
  · simpa using a0
  · simpa using a1
  · simpa using a2
  · simpa using a3
  · simpa using a4
theorem gShl_1 (l : Int) (h0 : 0 ≤ l) (h5 : l < 5) : gShl (.int 1) (.int l) = some (.d (.int (1 * 2 ^ l.toNat))) := by
  have : cPow 1 l = true := by
    unfold cPow
    exact decide_eq_true ⟨h0, by omega, by decide⟩
  simp [gShl, gI, this]
theorem bits_loop : ∀ (ys pre : List Int) (s0 r2 : Option Z.S), (∀ y ∈ ys, 0 ≤ y ∧ y < 5) → ∃ r2', forL (bName 2) m_bits_of_b1 (ys.map .int) [s0, some (.d (.int (Msk pre))), r2] = .nx [s0, some (.d (.int (Msk (pre ++ ys)))), r2']
  | [], pre, s0, r2, _ => ⟨r2, by simp [forL]⟩
  | y :: ys, pre, s0, r2, h => by
    obtain ⟨h0, h5⟩ := h y List.mem_cons_self
    obtain ⟨r, e⟩ := bits_loop ys (pre ++ [y]) s0 (some (.d (.int y))) fun z hz => h z (List.mem_cons_of_mem _ hz)
    refine ⟨r, ?_⟩
    have hs := gShl_1 y h0 h5
    have hm := Msk_add pre y h0 h5
    have st : m_bits_of_b1 [s0, some (.d (.int (Msk pre))), some (.d (.int y))] = .nx [s0, some (.d (.int (Msk (pre ++ [y])))), some (.d (.int y))] := by
      unfold m_bits_of_b1
      walk_at "ev"
    simp only [List.map_cons, forL, bName, List.set_cons_succ, List.set_cons_zero, st, e, List.append_assoc, List.cons_append, List.nil_append]
theorem bits_ok (ys : List Int) (h : ∀ y ∈ ys, 0 ≤ y ∧ y < 5) : ∃ r, m_bits_of (env0 3 [.d (.list (ys.map .int))]) = .rt (.d (.int (Msk ys))) r := by
  obtain ⟨r2, e⟩ := bits_loop ys [] (some (.d (.list (ys.map .int)))) none h
  have e0 : Msk [] = 0 := by decide
  rw [e0, List.nil_append] at e
  refine ⟨[some (.d (.list (ys.map .int))), some (.d (.int (Msk ys))), r2], ?_⟩
  unfold m_bits_of m_bits_of_s1 m_bits_of_s2 m_bits_of_s3
  walk_at "st"
  walk_at "ev"
end K03
namespace K03
open PySem L2 Z
/-- 2 to the n -/
def pw (n : Nat) : Int := ((2 ^ n : Nat) : Int)
theorem full_ok (n : Nat) (hn : n ≤ 5) : m_full_set (env0 1 [.d (.int n)]) = .rt (.d (.int (pw n - 1))) [some (.d (.int n))] := by
  have hr := natsD_ints n
  have h1000 : n ≤ 1000 := by omega
  obtain ⟨r, e⟩ := bits_ok ((List.range n).map fun i : Nat => (i : Int)) (fun y hy => by
    obtain ⟨i, hi, rfl⟩ := List.mem_map.mp hy
    have := List.mem_range.mp hi
    omega)
  have em : Msk ((List.range n).map fun i : Nat => (i : Int)) = pw n - 1 := by
    have : n = 0 ∨ n = 1 ∨ n = 2 ∨ n = 3 ∨ n = 4 ∨ n = 5 := by omega
    rcases this with rfl | rfl | rfl | rfl | rfl | rfl <;> decide
  rw [em] at e
  unfold m_full_set m_full_set_s1
  walk_at "st"
  walk_at "ev"
theorem isset_ok (n : Nat) (hn : n ≤ 5) (d : Z.D) (hd : noM d = true) : m_is_set (env0 2 [.d (.int n), .d d]) = .rt (.d (.bool (below d (pw n)))) [some (.d (.int n)), some (.d d)] := by
  have e1 := full_ok n hn
  have e2 := below_ok d (pw n) hd
  have e3 : pw n - 1 + 1 = pw n := by omega
  unfold m_is_set m_is_set_s1
  walk_at "st"
  walk_at "ev"
end K03
namespace K03
open PySem L2 Z
/-! ### the letters of a set -/
def bitB (b : Int) (a : Nat) : Bool := decide (b / 2 ^ a % 2 = 1)
def mems (n : Nat) (b : Int) : List Nat := (List.range n).filter (bitB b)
theorem and1 (x : Int) (h : 0 ≤ x) (h2 : x < 64) : Builtin.bitAnd x 1 = x % 2 := by
  have : ∀ k : Fin 64, Builtin.bitAnd ((k.val : Nat) : Int) 1 = ((k.val : Nat) : Int) % 2 := by decide +kernel
  have := this ⟨x.toNat, by omega⟩
  rw [show ((x.toNat : Nat) : Int) = x by omega] at this
  exact this
theorem members_ok (n : Nat) (hn : n ≤ 5) (b : Int) (h0 : 0 ≤ b) (h1 : b < 64) : m_members (env0 3 [.d (.int n), .d (.int b)]) = .rt (.o ((mems n b).map fun a : Nat => PyData.int a)) [some (.d (.int n)), some (.d (.int b)), none] := by
  have lc := lcL_nats (P := 0) 2 (mt := m_members_t1) (me := mVar 2) (ρ := [some (.d (.int n)), some (.d (.int b)), none]) n (bitB b) (fun (k : Nat) => PyData.int (k : Int)) rfl (fun k hk => by
    have q0 : 0 ≤ b / 2 ^ k := Int.ediv_nonneg h0 (Int.pow_nonneg (by decide))
    have q1 : b / 2 ^ k < 64 := by
      have : b / 2 ^ k ≤ b := Int.ediv_le_self _ h0
      omega
    have sh : gShr (.int b) (.int k) = some (.d (.int (b / 2 ^ k))) := by
      have : cShr b k = true := decide_eq_true (by omega)
      simp [gShr, gI, this]
    have an : gAnd (.int (b / 2 ^ k)) (.int 1) = some (.d (.int (b / 2 ^ k % 2))) := by
      show some (R.d (.int (Builtin.bitAnd (b / 2 ^ k) 1))) = _
      rw [and1 _ q0 q1]
    have tr : (b / 2 ^ k % 2 != 0) = bitB b k := by
      unfold bitB
      have := Int.emod_two_eq (b / 2 ^ k)
      rcases this with e | e <;> simp [e]
    unfold m_members_t1
    walk_at "ev") (fun _ _ _ => rfl) (by omega)
  have hn2 : n < 1000000 := by omega
  unfold m_members m_members_s1
  walk_at "st"
  walk_at "ev"
  rfl
end K03
namespace K03
open PySem L2 Z
/-! ### demands -/
def upB (xs : List Int) : Bool := (List.range (xs.length - 1)).all fun k => decide (xs.getD k 0 < xs.getD (k + 1) 0)
def accB (n : Nat) : Z.D → Bool
  | .tuple ds => (ds.all fun d => below d (pw n)) && upB (ds.map toI)
  | _ => false
theorem isaccepts_ok (n : Nat) (hn : n ≤ 5) (w : Z.D) (hw : okD w = true) : ∃ r, m__is_accepts (env0 4 [.d (.int n), .d w]) = .rt (.d (.bool (accB n w))) r := by
  have k := kit_t w
  unfold m__is_accepts m__is_accepts_s1 m__is_accepts_s2 m__is_accepts_s3
  walk_at "st"
  cases w with
  | tuple ds =>
    simp only [okD, Bool.and_eq_true, decide_eq_true_eq] at hw
    obtain ⟨h1, h2⟩ := hw
    rw [List.all_eq_true] at h1
    have lc := lcL_nm (P := 0) 2 (me := m__is_accepts_e1) (ρ := [some (.d (.int n)), some (.d (.tuple ds)), none, none]) (ds := ds) (fun d => .bool (below d (pw n))) rfl (fun d hd => by
      have e := isset_ok n hn d (h1 d hd)
      unfold m__is_accepts_e1
      walk_at "ev") (Nat.le_of_lt h2)
    have ca := cAll_g ds fun d => below d (pw n)
    simp only [isT, tyN] at k
    simp only [accB]
    by_cases ha : (ds.all fun d => below d (pw n)) = true
    · have hi : ∀ (j : Nat) (hj : j < ds.length), ds[j]? = some (.int ((ds.map toI).getD j 0)) := fun j hj => by
        rw [List.all_eq_true] at ha
        have := below_I (ha _ (List.getElem_mem hj))
        rw [List.getElem?_eq_getElem hj, List.getD_eq_getElem?_getD, List.getElem?_map, List.getElem?_eq_getElem hj]
        exact congrArg some this.1
      have lc2 := lcL_from1 (P := 0) 3 (me := m__is_accepts_e2) (ρ := [some (.d (.int n)), some (.d (.tuple ds)), none, none]) ds.length (fun k => .bool (decide ((ds.map toI).getD k 0 < (ds.map toI).getD (k + 1) 0))) rfl (fun k hk => by
        have i1 : atI ds (1 + (k : Int) - 1) = some (.int ((ds.map toI).getD k 0)) := by
          rw [atI_nn _ _ (by omega), show (1 + (k : Int) - 1).toNat = k by omega, hi k (by omega)]
        have i2 : atI ds (1 + (k : Int)) = some (.int ((ds.map toI).getD (k + 1) 0)) := by
          rw [atI_nn _ _ (by omega), show (1 + (k : Int)).toNat = k + 1 by omega, hi (k + 1) hk]
        unfold m__is_accepts_e2
        walk_at "ev") (Nat.le_of_lt h2)
      have cb := cAll_g (List.range (ds.length - 1)) fun k => decide ((ds.map toI).getD k 0 < (ds.map toI).getD (k + 1) 0)
      have eu : upB (ds.map toI) = (List.range (ds.length - 1)).all fun k => decide ((ds.map toI).getD k 0 < (ds.map toI).getD (k + 1) 0) := by
        unfold upB
        rw [List.length_map]
      walk_at "ev"
      exact ⟨_, rfl⟩
    · have ha := eq_false_of_ne_true ha
      walk_at "ev"
      exact ⟨_, rfl⟩
  | dict _ => cases hw
  | none => simp only [isT, tyN] at k; walk_at "ev"; exact ⟨_, rfl⟩
  | bool _ => simp only [isT, tyN] at k; walk_at "ev"; exact ⟨_, rfl⟩
  | int _ => simp only [isT, tyN] at k; walk_at "ev"; exact ⟨_, rfl⟩
  | str _ => simp only [isT, tyN] at k; walk_at "ev"; exact ⟨_, rfl⟩
  | list _ => simp only [isT, tyN] at k; walk_at "ev"; exact ⟨_, rfl⟩
def toB (n many : Int) (d : Z.D) : Bool := isI d && decide (-1 ≤ toI d) && decide (toI d < many)
def aheadB (n : Nat) (many : Int) : Z.D → Bool
  | .tuple ds => decide (ds.length = n) && ds.all (toB n many)
  | _ => false
theorem isahead_ok (n : Nat) (many : Int) (w : Z.D) (hw : okD w = true) : ∃ r, m__is_ahead (env0 4 [.d (.int n), .d (.int many), .d w]) = .rt (.d (.bool (aheadB n many w))) r := by
  have k := kit_t w
  unfold m__is_ahead m__is_ahead_s1 m__is_ahead_s2
  walk_at "st"
  cases w with
  | tuple ds =>
    simp only [okD, Bool.and_eq_true, decide_eq_true_eq] at hw
    obtain ⟨h1, h2⟩ := hw
    rw [List.all_eq_true] at h1
    have lc := lcL_nm (P := 0) 3 (me := m__is_ahead_e1) (ρ := [some (.d (.int n)), some (.d (.int many)), some (.d (.tuple ds)), none]) (ds := ds) (fun d => .bool (toB n many d)) rfl (fun d hd => by
      have e := isnum d (h1 d hd)
      unfold m__is_ahead_e1 toB
      cases d with
      | int i =>
        simp only [isI] at e
        simp only [isI, toI]
        by_cases hi : (-1 : Int) ≤ i
        · walk_at "ev"
          rfl
        · walk_at "ev"
      | _ => simp only [isI] at e; simp only [isI]; walk_at "ev") (Nat.le_of_lt h2)
    have ca := cAll_g ds (toB n many)
    simp only [isT, tyN] at k
    simp only [aheadB]
    by_cases hl : (ds.length : Int) = (n : Int)
    · have hl' : ds.length = n := by omega
      rw [decide_eq_true hl', Bool.true_and]
      clear hl'
      walk_at "ev"
      exact ⟨_, rfl⟩
    · have hl' : ¬ ds.length = n := by omega
      rw [decide_eq_false hl', Bool.false_and]
      walk_at "ev"
      exact ⟨_, rfl⟩
  | dict _ => cases hw
  | none => simp only [isT, tyN] at k; walk_at "ev"; exact ⟨_, rfl⟩
  | bool _ => simp only [isT, tyN] at k; walk_at "ev"; exact ⟨_, rfl⟩
  | int _ => simp only [isT, tyN] at k; walk_at "ev"; exact ⟨_, rfl⟩
  | str _ => simp only [isT, tyN] at k; walk_at "ev"; exact ⟨_, rfl⟩
  | list _ => simp only [isT, tyN] at k; walk_at "ev"; exact ⟨_, rfl⟩
end K03
namespace K03
open PySem L2 Z
def stB (n : Nat) (many : Int) : Z.D → Bool
  | .tuple [a, h] => accB n a && (aheadB n many h && (tupL a).all fun b => (mems n (toI b)).all fun l => decide (toI ((tupL h).getD l .none) ≠ -1))
  | _ => false
theorem upB_pw {xs : List Int} (h : upB xs = true) : xs.Pairwise (· < ·) := by
  unfold upB at h
  rw [List.all_eq_true] at h
  have step : ∀ k, k + 1 < xs.length → xs.getD k 0 < xs.getD (k + 1) 0 := fun k hk => of_decide_eq_true (h k (List.mem_range.mpr (by omega)))
  have key : ∀ (m i : Nat), i + m + 1 < xs.length → xs.getD i 0 < xs.getD (i + m + 1) 0 := by
    intro m
    induction m with
    | zero => exact fun i hi => step i hi
    | succ m ih =>
      intro i hi
      have h1 := ih i (by omega)
      have h2 := step (i + m + 1) (by omega)
      rw [show i + (m + 1) + 1 = i + m + 1 + 1 by omega]
      omega
  rw [List.pairwise_iff_getElem]
  intro i j hi hj hij
  have := key (j - i - 1) i (by omega)
  rw [show i + (j - i - 1) + 1 = j by omega] at this
  rw [List.getD_eq_getElem?_getD, List.getD_eq_getElem?_getD, List.getElem?_eq_getElem hi, List.getElem?_eq_getElem hj] at this
  exact this
theorem pw_upB {xs : List Int} (h : xs.Pairwise (· < ·)) : upB xs = true := by
  unfold upB
  rw [List.all_eq_true]
  intro k hk
  have hk := List.mem_range.mp hk
  rw [List.pairwise_iff_getElem] at h
  have := h k (k + 1) (by omega) (by omega) (by omega)
  rw [List.getD_eq_getElem?_getD, List.getD_eq_getElem?_getD, List.getElem?_eq_getElem (show k < xs.length by omega), List.getElem?_eq_getElem (show k + 1 < xs.length by omega)]
  exact decide_eq_true this
theorem upB_len (xs : List Int) (B : Int) (h : xs.Pairwise (· < ·)) (hx : ∀ x ∈ xs, 0 ≤ x ∧ x < B) : (xs.length : Int) ≤ (if 0 ≤ B then B else 0) := by
  have key : ∀ (ys : List Int) (lo : Int), ys.Pairwise (· < ·) → (∀ y ∈ ys, lo ≤ y ∧ y < B) → (ys.length : Int) ≤ (if lo ≤ B then B - lo else 0) := by
    intro ys
    induction ys with
    | nil => intro lo _ _; simp only [List.length_nil]; split <;> omega
    | cons y ys ih =>
      intro lo hp hy
      rw [List.pairwise_cons] at hp
      have h0 := hy y List.mem_cons_self
      have := ih (y + 1) hp.2 fun z hz => by
        have := hp.1 z hz
        have := hy z (List.mem_cons_of_mem _ hz)
        omega
      rw [List.length_cons]
      push_cast
      rw [if_pos (by omega)] at this ⊢
      omega
  have := key xs 0 h hx
  simpa using this
theorem isstate_ok (n : Nat) (hn : n ≤ 5) (many : Int) (w : Z.D) (hw : okN 2 w = true) : ∃ r, m__is_state (env0 7 [.d (.int n), .d (.int many), .d w]) = .rt (.d (.bool (stB n many w))) r := by
  have k := kit_t w
  unfold m__is_state m__is_state_s1
  walk_at "st"
  cases w with
  | dict _ => cases hw
  | none => simp only [isT, tyN] at k; walk_at "ev"; exact ⟨_, rfl⟩
  | bool _ => simp only [isT, tyN] at k; walk_at "ev"; exact ⟨_, rfl⟩
  | int _ => simp only [isT, tyN] at k; walk_at "ev"; exact ⟨_, rfl⟩
  | str _ => simp only [isT, tyN] at k; walk_at "ev"; exact ⟨_, rfl⟩
  | list _ => simp only [isT, tyN] at k; walk_at "ev"; exact ⟨_, rfl⟩
  | tuple ds =>
    simp only [isT, tyN] at k
    by_cases hl : (ds.length : Int) = 2
    · obtain ⟨a, h, rfl⟩ : ∃ a h, ds = [a, h] := by
        match ds, hl with
        | [a, h], _ => exact ⟨a, h, rfl⟩
        | [], hl => simp at hl
        | [_], hl => simp at hl
        | _ :: _ :: _ :: _, hl => simp at hl; omega
      have ha := okN_1 (okN_mem hw a (by simp))
      have hh := okN_1 (okN_mem hw h (by simp))
      obtain ⟨r1, e1⟩ := isaccepts_ok n hn a ha
      obtain ⟨r2, e2⟩ := isahead_ok n many h hh
      clear hl
      simp only [stB]
      unfold m__is_state_s2 m__is_state_s3 m__is_state_s4
      cases ca : accB n a with
      | false =>
        rw [ca] at e1
        clear hw
        walk_at "ev"
        exact ⟨_, rfl⟩
      | true =>
        cases cb : aheadB n many h with
        | false =>
          rw [ca] at e1
          rw [cb] at e2
          clear hw
          walk_at "ev"
          exact ⟨_, rfl⟩
        | true =>
          rw [ca] at e1
          rw [cb] at e2
          cases a with
          | tuple as =>
            cases h with
            | tuple hs =>
              simp only [accB, Bool.and_eq_true] at ca
              simp only [aheadB, Bool.and_eq_true, decide_eq_true_eq] at cb
              have ca1 := List.all_eq_true.mp ca.1
              have cb2 := List.all_eq_true.mp cb.2
              simp only [okD, Bool.and_eq_true, decide_eq_true_eq] at ha
              have hpw : pw n ≤ 64 := by
                have : n = 0 ∨ n = 1 ∨ n = 2 ∨ n = 3 ∨ n = 4 ∨ n = 5 := by omega
                rcases this with rfl | rfl | rfl | rfl | rfl | rfl <;> decide
              have small : as.length ≤ 64 := by
                have := upB_len (as.map toI) (pw n) (upB_pw ca.2) fun x hx => by
                  obtain ⟨d, hd, rfl⟩ := List.mem_map.mp hx
                  exact (below_I (ca1 d hd)).2
                rw [List.length_map] at this
                omega
              have lc := lcL2_nm (P := 0) 5 6 (by decide) (ml := mIter 0 (mCall0 false 0 2 3 m_members (mCons (mVar 0) (mCons (mVar 5) mNil)))) (me := m__is_state_e1)
                (ρ := [some (.d (.int n)), some (.d (.int many)), some (.d (.tuple [.tuple as, .tuple hs])), some (.d (.tuple as)), some (.d (.tuple hs)), none, none])
                (fun b => (mems n (toI b)).map fun l : Nat => PyData.int l) (fun b l => .bool (decide (toI (hs.getD (toI l).toNat .none) ≠ -1))) rfl rfl as [] (fun d hd => by
                  obtain ⟨ed, d0, d1⟩ := below_I (ca1 d hd)
                  have em := members_ok n hn (toI d) d0 (by omega)
                  rw [← ed] at em
                  clear ed
                  walk_at "ev") (fun d hd e he => by
                  obtain ⟨l, hl, rfl⟩ := List.mem_map.mp he
                  have hl := List.mem_range.mp (List.mem_filter.mp hl).1
                  have hb := cb2 hs[l] (List.getElem_mem _)
                  have hi : hs[l]'(by omega) = .int (toI (hs[l]'(by omega))) := by
                    unfold toB at hb
                    cases q : hs[l]'(by omega) with
                    | int i => rfl
                    | _ => rw [q] at hb; cases hb
                  have ix : atI hs (l : Int) = some (.int (toI (hs[l]'(by omega)))) := by
                    rw [atI_nn _ _ (by omega), show ((l : Nat) : Int).toNat = l by omega, List.getElem?_eq_getElem (by omega), ← hi]
                  have gd : hs.getD l .none = hs[l]'(by omega) := by
                    rw [List.getD_eq_getElem?_getD, List.getElem?_eq_getElem (by omega)]
                    rfl
                  have tl : (toI (PyData.int ((l : Nat) : Int))).toNat = l := rfl
                  rw [tl, gd]
                  generalize toI (hs[l]'(by omega)) = z at ix
                  unfold m__is_state_e1
                  walk_at "ev"
                  simp) (by
                  have : ∀ xs : List Z.D, (xs.flatMap fun b => (mems n (toI b)).map fun l : Nat => PyData.int l).length ≤ 5 * xs.length := by
                    intro xs
                    induction xs with
                    | nil => simp
                    | cons x xs ih =>
                      rw [List.flatMap_cons, List.length_append, List.length_map, List.length_cons]
                      have : (mems n (toI x)).length ≤ n := by
                        have := List.length_filter_le (bitB (toI x)) (List.range n)
                        rw [List.length_range] at this
                        exact this
                      omega
                  have := this as
                  simp only [List.length_nil]
                  omega)
              have ca' := cAll_b (as.flatMap fun b => (mems n (toI b)).map fun l => decide (toI (hs.getD l .none) ≠ -1))
              have e3 : (as.flatMap fun b => ((mems n (toI b)).map fun l : Nat => PyData.int l).map fun l => PyData.bool (decide (toI (hs.getD (toI l).toNat .none) ≠ -1))) = (as.flatMap fun b => (mems n (toI b)).map fun l => decide (toI (hs.getD l .none) ≠ -1)).map PyData.bool := by
                rw [List.map_flatMap]
                congr 1
                funext b
                rw [List.map_map, List.map_map]
                rfl
              rw [List.nil_append, e3] at lc
              have e4 : (as.flatMap fun b => (mems n (toI b)).map fun l => decide (toI (hs.getD l .none) ≠ -1)).all id = (as.all fun b => (mems n (toI b)).all fun l => decide (toI (hs.getD l .none) ≠ -1)) := by
                rw [List.all_flatMap]
                congr 1
                funext b
                rw [List.all_map]
                rfl
              rw [e4] at ca'
              show ∃ r, _ = Out.rt (S.d (PyData.bool (as.all fun b => (mems n (toI b)).all fun l => decide (toI (hs.getD l .none) ≠ -1)))) r
              generalize (as.all fun b => (mems n (toI b)).all fun l => decide (toI (hs.getD l .none) ≠ -1)) = res at ca' ⊢
              generalize (as.flatMap fun b => (mems n (toI b)).map fun l => decide (toI (hs.getD l .none) ≠ -1)).map PyData.bool = bs at lc ca'
              clear ca1 cb2 ca cb
              walk_at "ev"
              exact ⟨_, rfl⟩
            | _ => cases cb
          | _ => cases ca
    · have : stB n many (.tuple ds) = false := by
        match ds, hl with
        | [a, h], hl => exact absurd rfl hl
        | [], _ => rfl
        | [_], _ => rfl
        | _ :: _ :: _ :: _, _ => rfl
      rw [this]
      walk_at "ev"
      exact ⟨_, rfl⟩
end K03
namespace K03
open PySem L2 Z
def demB : Z.D → Bool
  | .tuple [n, .tuple ss] => below n 6 && (decide (1 ≤ ss.length) && decide (ss.length ≤ 40)) && ss.all (stB (toI n).toNat ss.length)
  | _ => false
theorem isdem_ok (d : Z.D) (hd : okN 4 d = true) : ∃ r, m__is_demand (env0 4 [.d d]) = .rt (.d (.bool (demB d))) r := by
  have k := kit_t d
  unfold m__is_demand m__is_demand_s1
  walk_at "st"
  cases d with
  | dict _ => cases hd
  | none => simp only [isT, tyN] at k; walk_at "ev"; exact ⟨_, rfl⟩
  | bool _ => simp only [isT, tyN] at k; walk_at "ev"; exact ⟨_, rfl⟩
  | int _ => simp only [isT, tyN] at k; walk_at "ev"; exact ⟨_, rfl⟩
  | str _ => simp only [isT, tyN] at k; walk_at "ev"; exact ⟨_, rfl⟩
  | list _ => simp only [isT, tyN] at k; walk_at "ev"; exact ⟨_, rfl⟩
  | tuple ds =>
    simp only [isT, tyN] at k
    by_cases hl : (ds.length : Int) = 2
    · obtain ⟨n, s, rfl⟩ : ∃ a h, ds = [a, h] := by
        match ds, hl with
        | [a, h], _ => exact ⟨a, h, rfl⟩
        | [], hl => simp at hl
        | [_], hl => simp at hl
        | _ :: _ :: _ :: _, hl => simp at hl; omega
      have hn := okN_noM (okN_mem hd n (by simp))
      have hs := okN_mem hd s (by simp)
      have e1 := lcount_ok n hn
      have k2 := kit_t s
      clear hl
      unfold m__is_demand_s2 m__is_demand_s3 m__is_demand_s4 m__is_demand_s5
      cases ca : below n 6 with
      | false =>
        rw [ca] at e1
        have : demB (.tuple [n, s]) = false := by
          unfold demB
          split
          · next ss h => cases h; rw [ca]; rfl
          · rfl
        rw [this]
        clear hd hs
        walk_at "ev"
        exact ⟨_, rfl⟩
      | true =>
        rw [ca] at e1
        cases s with
        | dict _ => cases hs
        | none => simp only [isT, tyN] at k2; clear hd hs; walk_at "ev"; exact ⟨_, rfl⟩
        | bool _ => simp only [isT, tyN] at k2; clear hd hs; walk_at "ev"; exact ⟨_, rfl⟩
        | int _ => simp only [isT, tyN] at k2; clear hd hs; walk_at "ev"; exact ⟨_, rfl⟩
        | str _ => simp only [isT, tyN] at k2; clear hd hs; walk_at "ev"; exact ⟨_, rfl⟩
        | list _ => simp only [isT, tyN] at k2; clear hd hs; walk_at "ev"; exact ⟨_, rfl⟩
        | tuple ss =>
          simp only [isT, tyN] at k2
          obtain ⟨en, n0, n6⟩ := below_I ca
          obtain ⟨N, eN⟩ : ∃ N : Nat, toI n = (N : Int) := ⟨(toI n).toNat, by omega⟩
          rw [eN] at en n0 n6
          subst en
          simp only [demB, ca, Bool.true_and]
          rw [show (toI (PyData.int (N : Int))).toNat = N from rfl]
          by_cases h1 : (1 : Int) ≤ (ss.length : Int)
          · by_cases h4 : (ss.length : Int) ≤ 40
            · have lc := lcL_nm (P := 0) 3 (me := m__is_demand_e1) (ρ := [some (.d (.tuple [.int N, .tuple ss])), some (.d (.int N)), some (.d (.tuple ss)), none]) (ds := ss) (fun s => .bool (stB N ss.length s)) rfl (fun s hs' => by
                obtain ⟨r, e⟩ := isstate_ok N (by omega) ss.length s (okN_mem hs s hs')
                unfold m__is_demand_e1
                clear hd hs
                walk_at "ev") (by omega)
              have cb := cAll_g ss (stB N ss.length)
              rw [decide_eq_true (show 1 ≤ ss.length by omega), decide_eq_true (show ss.length ≤ 40 by omega), Bool.true_and, Bool.true_and]
              clear hd hs
              walk_at "ev"
              exact ⟨_, rfl⟩
            · rw [decide_eq_true (show 1 ≤ ss.length by omega), decide_eq_false (show ¬ ss.length ≤ 40 by omega), Bool.and_false, Bool.false_and]
              clear hd hs
              walk_at "ev"
              exact ⟨_, rfl⟩
          · rw [decide_eq_false (show ¬ 1 ≤ ss.length by omega), Bool.false_and, Bool.false_and]
            clear hd hs
            walk_at "ev"
            exact ⟨_, rfl⟩
    · have : demB (.tuple ds) = false := by
        unfold demB
        split
        · next n ss h =>
          cases h
          exact absurd rfl hl
        · rfl
      rw [this]
      clear hd
      walk_at "ev"
      exact ⟨_, rfl⟩
theorem checkdem_ok (d : Z.D) (hd : okN 4 d = true) (h : demB d = true) : m_check_demand (env0 1 [.d d]) = .nx [some (.d d)] := by
  obtain ⟨r, e⟩ := isdem_ok d hd
  rw [h] at e
  unfold m_check_demand m_check_demand_s1
  walk_at "st"
  clear hd
  walk_at "ev"
theorem checkdem_bad (d : Z.D) (hd : okN 4 d = true) (h : demB d = false) : m_check_demand (env0 1 [.d d]) = .exc 1 [some (.d d)] := by
  obtain ⟨r, e⟩ := isdem_ok d hd
  rw [h] at e
  unfold m_check_demand m_check_demand_s1
  walk_at "st"
  clear hd
  walk_at "ev"
end K03
namespace K03
open PySem L2 Z
/-! ### the box -/
def BoxL (c mode pl : Int) (cells : List Int) : List Z.D := [.int c, .int mode, .int pl, .list (cells.map .int)]
structure BoxP (c mode pl : Int) (cells : List Int) : Prop where
  cells0 : ∀ x ∈ cells, (0 : Int) ≤ x
  pl0 : 0 ≤ pl
  c0 : 0 ≤ c
  c1 : mode < 0 → c < 1000000000000000000
  lo : -9 ≤ mode
  hi : mode ≤ 60
def Box (xs : List Z.D) : Prop := ∃ (c mode pl : Int) (cells : List Int), xs = BoxL c mode pl cells ∧ BoxP c mode pl cells
/-- what a draw does -/
def Told (o : Z.Out) (m : Int) : Prop := ∃ (t : Int) (ys : List Z.D) (r : Z.Env), o = .rt (.d (.int t)) (some (.o ys) :: r) ∧ Box ys ∧ 0 ≤ t ∧ t < m
theorem told_of {m t c mode pl : Int} {cells : List Int} {r : Z.Env} (h : BoxP c mode pl cells) (h1 : 0 ≤ t) (h2 : t < m) : Told (.rt (.d (.int t)) (some (.o [.int c, .int mode, .int pl, .list (cells.map .int)]) :: r)) m :=
  ⟨t, _, r, rfl, ⟨c, mode, pl, cells, rfl, h⟩, h1, h2⟩
theorem take_up (c mode pl m : Int) (cells : List Int) (r2 r3 r4 : Option Z.S) (h : BoxP c mode pl cells) (hm : 0 < m) (hm2 : m < 1073741824) (h0 : ¬ mode = 0) :
    Told (mSeq m__law_take_s2 (mSeq m__law_take_s3 (mSeq m__law_take_s4 m__law_take_s5)) [some (.o (BoxL c mode pl cells)), some (.d (.int m)), r2, r3, r4]) m := by
  unfold m__law_take_s2 m__law_take_s3 m__law_take_s4 m__law_take_s5 BoxL
  obtain ⟨h1, h2, h3, h4, h5, h6⟩ := h
  have k0 := Int.emod_nonneg c (show m ≠ 0 by omega)
  have k1 := Int.emod_lt_of_pos c hm
  have k2 : 0 ≤ c / m := Int.ediv_nonneg h3 (by omega)
  by_cases up : 0 < mode
  · by_cases q : 0 < c / m
    · walk_at "ev"
      exact told_of ⟨h1, h2, k2, fun z => by omega, by omega, by omega⟩ k0 k1
    · walk_at "ev"
      exact told_of ⟨h1, h2, k2, fun z => by omega, by omega, by omega⟩ k0 k1
  · walk_at "ev"
    have k3 := Int.emod_nonneg (c * 48271 + 69621 * (mode + 1 + 20)) (show (2147483647 : Int) ≠ 0 by decide)
    have k4 := Int.emod_lt_of_pos (c * 48271 + 69621 * (mode + 1 + 20)) (show (0 : Int) < 2147483647 by decide)
    refine told_of ⟨h1, h2, k3, fun z => by omega, by omega, by omega⟩ (Int.emod_nonneg _ (by omega)) (Int.emod_lt_of_pos _ hm)
theorem take_ok0 (c mode pl m : Int) (cells : List Int) (h : BoxP c mode pl cells) (hm : 0 < m) (hm2 : m < 1073741824) :
    Told (m__law_take (env0 5 [.o (BoxL c mode pl cells), .d (.int m)])) m := by
  obtain ⟨h1, h2, h3, h4, h5, h6⟩ := id h
  unfold m__law_take
  rw [mSeq_k]
  by_cases z : mode = 0
  · subst z
    by_cases q : pl < cells.length
    · have hq : cells[pl.toNat]? = some cells[pl.toNat] := List.getElem?_eq_getElem (by omega)
      have hx : 0 ≤ cells[pl.toNat] := h1 _ (List.getElem_mem _)
      generalize cells[pl.toNat] = x at hq hx
      have ha := atI_map PyData.int cells pl h2
      rw [hq] at ha
      replace ha : atI (cells.map PyData.int) pl = some (.int x) := ha
      by_cases big : 1000000000000000000 ≤ x
      · have e : m__law_take_s1 (env0 5 [.o (BoxL c 0 pl cells), .d (.int m)]) = .nx [some (.o (BoxL x 60 (pl + 1) cells)), some (.d (.int m)), some (.d (.int pl)), some (.d (.int x)), none] := by
          unfold m__law_take_s1 BoxL
          walk_at "st"
          walk_at "ev"
        rw [e, seqK_nx]
        exact take_up x 60 (pl + 1) m cells _ _ _ ⟨h1, by omega, hx, fun z => by omega, by omega, by omega⟩ hm hm2 (by decide)
      · have e : m__law_take_s1 (env0 5 [.o (BoxL c 0 pl cells), .d (.int m)]) = .nx [some (.o (BoxL x (-9) (pl + 1) cells)), some (.d (.int m)), some (.d (.int pl)), some (.d (.int x)), none] := by
          unfold m__law_take_s1 BoxL
          walk_at "st"
          walk_at "ev"
        rw [e, seqK_nx]
        exact take_up x (-9) (pl + 1) m cells _ _ _ ⟨h1, by omega, hx, fun z => by omega, by omega, by omega⟩ hm hm2 (by decide)
    · have e : m__law_take_s1 (env0 5 [.o (BoxL c 0 pl cells), .d (.int m)]) = .rt (.d (.int 0)) [some (.o (BoxL 0 0 (pl + 1) cells)), some (.d (.int m)), some (.d (.int pl)), some (.d (.int 0)), none] := by
        unfold m__law_take_s1 BoxL
        walk_at "st"
        walk_at "ev"
      rw [e, seqK_rt]
      exact told_of ⟨h1, by omega, by omega, fun z => by omega, by omega, by omega⟩ (by omega) hm
  · have e : m__law_take_s1 (env0 5 [.o (BoxL c mode pl cells), .d (.int m)]) = .nx [some (.o (BoxL c mode pl cells)), some (.d (.int m)), none, none, none] := by
      unfold m__law_take_s1 BoxL
      walk_at "st"
      walk_at "ev"
    rw [e, seqK_nx]
    exact take_up c mode pl m cells _ _ _ h hm hm2 z
/-- a draw: a number below m, as a natural one -/
theorem take_ok (bx : List Z.D) (hb : Box bx) (m : Nat) (hm : 0 < m) (hm2 : m < 1000000) : ∃ (t : Nat) (bx' : List Z.D) (r : Z.Env), m__law_take (env0 5 [.o bx, .d (.int m)]) = .rt (.d (.int t)) (some (.o bx') :: r) ∧ Box bx' ∧ t < m := by
  obtain ⟨c, mode, pl, cells, rfl, hp⟩ := hb
  obtain ⟨t, ys, r, e, h1, h2, h3⟩ := take_ok0 c mode pl m cells hp (by omega) (by omega)
  refine ⟨t.toNat, ys, r, ?_, h1, by omega⟩
  rw [show ((t.toNat : Nat) : Int) = t by omega]
  exact e
theorem take_lit (bx : List Z.D) (hb : Box bx) (m : Nat) (hm : 0 < m) (hm2 : m < 1000000) : ∃ (t : Nat) (bx' : List Z.D) (r : Z.Env), m__law_take (env0 5 [.o bx, .d (.int (OfNat.ofNat m))]) = .rt (.d (.int t)) (some (.o bx') :: r) ∧ Box bx' ∧ t < m := take_ok bx hb m hm hm2
theorem pick_ok (bx : List Z.D) (hb : Box bx) (menu : List Z.D) (hm : 0 < menu.length) (hm2 : menu.length < 1000) : ∃ (t : Nat) (ht : t < menu.length) (bx' : List Z.D) (r : Z.Env), m__law_pick (env0 2 [.o bx, .d (.list menu)]) = .rt (.d menu[t]) (some (.o bx') :: r) ∧ Box bx' := by
  obtain ⟨t, ys, r, e, h1, h2⟩ := take_ok bx hb menu.length hm (by omega)
  refine ⟨t, h2, ys, [some (.d (.list menu))], ?_, h1⟩
  have ix : atI menu (t : Int) = some menu[t] := by rw [atI_nn _ _ (by omega), show ((t : Nat) : Int).toNat = t by omega, List.getElem?_eq_getElem h2]
  unfold m__law_pick m__law_pick_s1
  walk_at "st"
  walk_at "ev"
def absI (i : Int) : Int := if i < 0 then -i else i
theorem absI0 (i : Int) : 0 ≤ absI i := by unfold absI; split <;> omega
theorem box_ok (ns : List Int) (h : ns.length ≤ 63) : ∃ r bx, m__law_box (env0 2 [.d (.list (ns.map .int))]) = .rt (.o bx) r ∧ Box bx := by
  have lc := lcL_enc (P := 0) 1 PyData.int (mt := mYes) (me := m__law_box_e1) (ρ := [some (.d (.list (ns.map .int))), none]) ns (fun _ => true) (fun i => .int (absI i)) rfl (fun _ _ => rfl) (fun i _ _ => by
    unfold m__law_box_e1
    walk_at "ev"
    rfl) (by omega)
  rw [filter_yes] at lc
  refine ⟨[some (.d (.list (ns.map .int))), none], BoxL 0 0 0 (ns.map absI), ?_, ⟨0, 0, 0, ns.map absI, rfl, ⟨fun x hx => by
    obtain ⟨i, _, rfl⟩ := List.mem_map.mp hx
    exact absI0 i, by decide, by decide, by decide, by decide, by decide⟩⟩⟩
  unfold m__law_box m__law_box_s1 BoxL
  rw [List.map_map]
  walk_at "st"
  walk_at "ev"
  rfl
end K03
namespace K03
open PySem L2 Z
/-! ### a drawn demand -/
theorem pow6 (n : Nat) (h : n ≤ 5) : atI [PyData.int 1, .int 2, .int 4, .int 8, .int 16, .int 32] (n : Int) = some (.int (pw n)) := by
  have : n = 0 ∨ n = 1 ∨ n = 2 ∨ n = 3 ∨ n = 4 ∨ n = 5 := by omega
  rcases this with rfl | rfl | rfl | rfl | rfl | rfl <;> rfl
theorem pow5 (n : Nat) (h : n < 5) : atI [PyData.int 1, .int 2, .int 4, .int 8, .int 16] (n : Int) = some (.int (pw n)) := by
  have : n = 0 ∨ n = 1 ∨ n = 2 ∨ n = 3 ∨ n = 4 := by omega
  rcases this with rfl | rfl | rfl | rfl | rfl <;> rfl
theorem pw_pos (n : Nat) : 0 < pw n := by
  unfold pw
  have := Nat.two_pow_pos n
  omega
theorem pw_le (n : Nat) (h : n ≤ 5) : pw n ≤ 32 := by
  have : n = 0 ∨ n = 1 ∨ n = 2 ∨ n = 3 ∨ n = 4 ∨ n = 5 := by omega
  rcases this with rfl | rfl | rfl | rfl | rfl | rfl <;> decide
theorem take_pw (bx : List Z.D) (hb : Box bx) (n : Nat) (h : n ≤ 5) : ∃ (t : Nat) (bx' : List Z.D) (r : Z.Env), m__law_take (env0 5 [.o bx, .d (.int (pw n))]) = .rt (.d (.int t)) (some (.o bx') :: r) ∧ Box bx' ∧ (t : Int) < pw n := by
  have h1 := pw_pos n
  have h2 := pw_le n h
  obtain ⟨t, bx', r, e, hb', ht⟩ := take_ok bx hb (pw n).toNat (by omega) (by omega)
  rw [show (((pw n).toNat : Nat) : Int) = pw n by omega] at e
  exact ⟨t, bx', r, e, hb', by omega⟩
structure AccU (n : Nat) (acc : List Int) : Prop where
  nd : acc.Nodup
  rg : ∀ b ∈ acc, 0 ≤ b ∧ b < pw n
theorem acc_step (n : Nat) (hn : n ≤ 5) (bx : List Z.D) (hb : Box bx) (acc : List Int) (ha : AccU n acc) (hl : acc.length < 1000) (x2 x3 x4 x5 x7 x8 x9 x10 x11 : Option Z.S) :
    ∃ bx' acc' y8, Box bx' ∧ AccU n acc' ∧ acc'.length ≤ acc.length + 1 ∧ m__law_demand_b1 [some (.o bx), some (.d (.int n)), x2, x3, x4, x5, some (.o (acc.map .int)), x7, x8, x9, x10, x11] = .nx [some (.o bx'), some (.d (.int n)), x2, x3, x4, x5, some (.o (acc'.map .int)), x7, y8, x9, x10, x11] := by
  obtain ⟨t, bx', r, e, hb', ht⟩ := take_pw bx hb n hn
  have ix := pow6 n hn
  unfold m__law_demand_b1
  by_cases q : (t : Int) ∈ acc
  · refine ⟨bx', acc, some (.d (.int t)), hb', ha, by omega, ?_⟩
    walk_at "ev"
  · refine ⟨bx', acc ++ [(t : Int)], some (.d (.int t)), hb', ⟨?_, ?_⟩, by simp, ?_⟩
    · rw [List.nodup_append]
      exact ⟨ha.nd, by simp, fun x hx y hy z => by
        simp only [List.mem_singleton] at hy
        subst hy
        subst z
        exact q hx⟩
    · intro b hb2
      rcases List.mem_append.mp hb2 with h | h
      · exact ha.rg b h
      · simp only [List.mem_singleton] at h
        subst h
        exact ⟨by omega, ht⟩
    · have hl2 : acc.length < 1000000 := by omega
      clear hl
      walk_at "ev"
      rw [List.map_append]
      rfl
theorem acc_loop (n : Nat) (hn : n ≤ 5) (c : Nat) (hc : c ≤ 900) (bx : List Z.D) (hb : Box bx) (x2 x3 x4 x5 x7 x8 x9 x10 x11 : Option Z.S) :
    ∃ bx' acc' y7 y8, Box bx' ∧ AccU n acc' ∧ acc'.length ≤ c ∧ forL (bName 7) m__law_demand_b1 (natsD c) [some (.o bx), some (.d (.int n)), x2, x3, x4, x5, some (.o []), x7, x8, x9, x10, x11] = .nx [some (.o bx'), some (.d (.int n)), x2, x3, x4, x5, some (.o (acc'.map .int)), y7, y8, x9, x10, x11] := by
  obtain ⟨ρ', e, bx', acc', y7, y8, h1, h2, h3, rfl⟩ := forL_nats (b := bName 7) (body := m__law_demand_b1) (fun k ρ => ∃ bx' acc' y7 y8, Box bx' ∧ AccU n acc' ∧ acc'.length ≤ k ∧ ρ = [some (.o bx'), some (.d (.int n)), x2, x3, x4, x5, some (.o (acc'.map .int)), y7, y8, x9, x10, x11]) c
    [some (.o bx), some (.d (.int n)), x2, x3, x4, x5, some (.o []), x7, x8, x9, x10, x11] ⟨bx, [], x7, x8, hb, ⟨.nil, fun _ h => nomatch h⟩, Nat.le_refl _, rfl⟩ fun k hk ρ hρ => by
      obtain ⟨bx1, acc1, y7, y8, h1, h2, h3, rfl⟩ := hρ
      obtain ⟨bx2, acc2, z8, q1, q2, q3, q4⟩ := acc_step n hn bx1 h1 acc1 h2 (by omega) x2 x3 x4 x5 (some (.d (.int k))) y8 x9 x10 x11
      exact ⟨_, _, rfl, q4, bx2, acc2, _, z8, q1, q2, by omega, rfl⟩
  exact ⟨bx', acc', y7, y8, h1, h2, h3, e⟩
theorem pw_eq (a : Nat) : pw a = 2 ^ a := by unfold pw; push_cast; rfl
/-- how many of the sets hold the letter -/
def usedN (acc : List Int) (a : Nat) : Nat := (acc.filter fun b => bitB b a).length
theorem used_ok (acc : List Int) (a : Nat) (ha : a < 5) (hl : acc.length < 1000) (bx : List Z.D) (x1 x2 x3 x4 x5 x7 x9 x10 : Option Z.S) (d8 : Option Z.S) :
    lcL 1 (bName 8) m__law_demand_t1 (mVar 8) [8] (acc.map .int) [] [some (.o bx), x1, x2, x3, x4, x5, none, x7, none, x9, x10, some (.d (.int a))] = .ok ((acc.filter fun b => bitB b a).map .int) [some (.o bx), x1, x2, x3, x4, x5, none, x7, none, x9, x10, some (.d (.int a))] :=
  lcL_enc (P := 1) 8 PyData.int acc (fun b => bitB b a) PyData.int rfl (fun b hb => by
    have ix := pow5 a ha
    have p0 := pw_pos a
    have p1 : pw a < 1073741824 := by have := pw_le a (by omega); omega
    have e : decide (b / pw a % 2 = 1) = bitB b a := by
      unfold bitB
      rw [pw_eq]
    unfold m__law_demand_t1
    walk_at "ev") (fun _ _ _ => rfl) (by omega)
structure NxU (acc : List Int) (size k : Nat) (nx : List Int) : Prop where
  len : nx.length = k
  rg : ∀ t ∈ nx, -1 ≤ t ∧ t < (size : Int)
  st : ∀ b ∈ acc, ∀ l, l < k → bitB b l = true → nx.getD l 0 ≠ -1
theorem NxU.snoc {acc : List Int} {size k : Nat} {nx : List Int} (h : NxU acc size k nx) (t : Int) (h1 : -1 ≤ t) (h2 : t < size) (h3 : t ≠ -1 ∨ ∀ b ∈ acc, bitB b k = false) : NxU acc size (k + 1) (nx ++ [t]) := by
  refine ⟨by rw [List.length_append, h.len]; rfl, fun z hz => ?_, fun b hb l hl hbit => ?_⟩
  · rcases List.mem_append.mp hz with hz | hz
    · exact h.rg z hz
    · rw [List.mem_singleton.mp hz]
      exact ⟨h1, h2⟩
  · by_cases q : l < k
    · have : (nx ++ [t]).getD l 0 = nx.getD l 0 := by
        rw [List.getD_eq_getElem?_getD, List.getD_eq_getElem?_getD, List.getElem?_append_left (by rw [h.len]; exact q)]
      rw [this]
      exact h.st b hb l q hbit
    · have : l = k := by omega
      subst this
      have : (nx ++ [t]).getD l 0 = t := by
        rw [List.getD_eq_getElem?_getD, List.getElem?_append_right (by rw [h.len]; omega), h.len, Nat.sub_self]
        rfl
      rw [this]
      rcases h3 with h3 | h3
      · exact h3
      · rw [h3 b hb] at hbit
        cases hbit
theorem used_no {acc : List Int} {a : Nat} (h : usedN acc a = 0) : ∀ b ∈ acc, bitB b a = false := fun b hb => by
  have h := List.eq_nil_of_length_eq_zero h
  rw [List.filter_eq_nil_iff] at h
  exact eq_false_of_ne_true (h b hb)
theorem nx_step (n size : Nat) (hs : 0 < size) (hs2 : size < 1000) (acc : List Int) (hl : acc.length < 1000) (bx : List Z.D) (hb : Box bx) (a : Nat) (ha : a < 5) (nx : List Int) (hn : NxU acc size a nx) (x2 x4 x5 x7 x8 x9 : Option Z.S) :
    ∃ bx' nx', Box bx' ∧ NxU acc size (a + 1) nx' ∧ ∃ y8 y9, m__law_demand_b2 [some (.o bx), some (.d (.int n)), x2, some (.d (.int size)), x4, x5, some (.o (acc.map .int)), x7, x8, x9, some (.o (nx.map .int)), some (.d (.int a))]
      = .nx [some (.o bx'), some (.d (.int n)), x2, some (.d (.int size)), x4, x5, some (.o (acc.map .int)), x7, y8, y9, some (.o (nx'.map .int)), some (.d (.int a))] := by
  have nl : nx.length < 1000000 := by rw [hn.len]; omega
  have one (nx : List Int) (t : Int) : nx.map PyData.int ++ [PyData.int t] = (nx ++ [t]).map PyData.int := by rw [List.map_append]; rfl
  obtain ⟨s, sd⟩ : ∃ s, s = usedN acc a := ⟨_, rfl⟩
  have lc := used_ok acc a ha hl bx (some (.d (.int n))) x2 (some (.d (.int size))) x4 x5 x7 x9 (some (.o (nx.map .int))) none
  have len : (acc.filter fun b => bitB b a).length = s := sd.symm
  unfold m__law_demand_b2
  by_cases u : s = 0
  · have u' : ((s : Nat) : Int) = 0 := by omega
    obtain ⟨t, bx1, r, e1, hb1, ht⟩ := take_ok bx hb 3 (by omega) (by omega)
    have e1 : m__law_take (env0 5 [.o bx, .d (.int 3)]) = .rt (.d (.int t)) (some (.o bx1) :: r) := e1
    by_cases q : (0 : Int) < (t : Int)
    · refine ⟨bx1, nx ++ [-1], hb1, hn.snoc (-1) (by omega) (by omega) (.inr (used_no (by omega))), ?_⟩
      clear hs hs2 hl ha hn sd u
      walk_at "ev"
      exact ⟨_, _, rfl⟩
    · obtain ⟨t2, bx2, r2, e2, hb2, ht2⟩ := take_ok bx1 hb1 size hs (by omega)
      refine ⟨bx2, nx ++ [(t2 : Int)], hb2, hn.snoc t2 (by omega) (by omega) (.inl (by omega)), ?_⟩
      clear hs hs2 hl ha hn sd u
      walk_at "ev"
      exact ⟨_, _, rfl⟩
  · have u' : ¬ ((s : Nat) : Int) = 0 := by omega
    obtain ⟨t2, bx2, r2, e2, hb2, ht2⟩ := take_ok bx hb size hs (by omega)
    refine ⟨bx2, nx ++ [(t2 : Int)], hb2, hn.snoc t2 (by omega) (by omega) (.inl (by omega)), ?_⟩
    clear hs hs2 hl ha hn sd u
    walk_at "ev"
    exact ⟨_, _, rfl⟩
theorem nx_loop (n size : Nat) (hn : n ≤ 5) (hs : 0 < size) (hs2 : size < 1000) (acc : List Int) (hl : acc.length < 1000) (bx : List Z.D) (hb : Box bx) (x2 x4 x5 x7 x8 x9 x11 : Option Z.S) :
    ∃ bx' nx', Box bx' ∧ NxU acc size n nx' ∧ ∃ y8 y9 y11, forL (bName 11) m__law_demand_b2 (natsD n) [some (.o bx), some (.d (.int n)), x2, some (.d (.int size)), x4, x5, some (.o (acc.map .int)), x7, x8, x9, some (.o []), x11]
      = .nx [some (.o bx'), some (.d (.int n)), x2, some (.d (.int size)), x4, x5, some (.o (acc.map .int)), x7, y8, y9, some (.o (nx'.map .int)), y11] := by
  obtain ⟨ρ', e, bx', nx', h1, h2, y8, y9, y11, rfl⟩ := forL_nats (b := bName 11) (body := m__law_demand_b2) (fun k ρ => ∃ bx' nx', Box bx' ∧ NxU acc size k nx' ∧ ∃ y8 y9 y11, ρ = [some (.o bx'), some (.d (.int n)), x2, some (.d (.int size)), x4, x5, some (.o (acc.map .int)), x7, y8, y9, some (.o (nx'.map .int)), y11]) n
    [some (.o bx), some (.d (.int n)), x2, some (.d (.int size)), x4, x5, some (.o (acc.map .int)), x7, x8, x9, some (.o []), x11] ⟨bx, [], hb, ⟨rfl, fun _ h => (nomatch h), fun _ _ _ h => absurd h (Nat.not_lt_zero _)⟩, _, _, _, rfl⟩ fun k hk ρ hρ => by
      obtain ⟨bx1, nx1, h1, h2, y8, y9, y11, rfl⟩ := hρ
      obtain ⟨bx2, nx2, q1, q2, z8, z9, q4⟩ := nx_step n size hs hs2 acc hl bx1 h1 k (by omega) nx1 h2 x2 x4 x5 x7 y8 y9
      exact ⟨_, _, rfl, q4, bx2, nx2, q1, q2, _, _, _, rfl⟩
  exact ⟨bx', nx', h1, h2, y8, y9, y11, e⟩
/-! ### demands as data -/
abbrev StN := List Int × List Int
def stD (s : StN) : Z.D := .tuple [.tuple (s.1.map .int), .tuple (s.2.map .int)]
def demD (n : Nat) (ss : List StN) : Z.D := .tuple [.int n, .tuple (ss.map stD)]
structure StOk (n size : Nat) (s : StN) : Prop where
  up : s.1.Pairwise (· < ·)
  rg : ∀ b ∈ s.1, 0 ≤ b ∧ b < pw n
  len : s.2.length = n
  to : ∀ t ∈ s.2, -1 ≤ t ∧ t < (size : Int)
  st : ∀ b ∈ s.1, ∀ l, l < n → bitB b l = true → s.2.getD l 0 ≠ -1
structure DOk (n : Nat) (ss : List StN) : Prop where
  n5 : n ≤ 5
  one : 1 ≤ ss.length
  most : ss.length ≤ 40
  st : ∀ s ∈ ss, StOk n ss.length s
theorem stOk_of {n size : Nat} {acc nx : List Int} (h1 : AccU n acc) (h2 : NxU acc size n nx) : StOk n size (isort acc, nx) :=
  ⟨isort_lt h1.nd, fun b hb => h1.rg b ((isort_mem b).mp hb), h2.len, h2.rg, fun b hb => h2.st b ((isort_mem b).mp hb)⟩
theorem state_step (n size : Nat) (hn : n ≤ 5) (hs : 0 < size) (hs2 : size < 1000) (bx : List Z.D) (hb : Box bx) (ss : List StN) (hl : ss.length < 1000) (hss : ∀ s ∈ ss, StOk n size s) (x2 x5 x6 x7 x8 x9 x10 x11 : Option Z.S) :
    ∃ (bx' : List Z.D) (ss' : List StN), Box bx' ∧ (∀ s ∈ ss', StOk n size s) ∧ ss'.length = ss.length + 1 ∧ ∃ y6 y7 y8 y9 y10 y11, m__law_demand_b3 [some (.o bx), some (.d (.int n)), x2, some (.d (.int size)), some (.o (ss.map stD)), x5, x6, x7, x8, x9, x10, x11]
      = .nx [some (.o bx'), some (.d (.int n)), x2, some (.d (.int size)), some (.o (ss'.map stD)), x5, y6, y7, y8, y9, y10, y11] := by
  obtain ⟨t, ht, bx1, r, e1, hb1⟩ := pick_ok bx hb [.int 0, .int 1, .int 1, .int 2, .int 2, .int 3, .int 4] (by decide) (by decide)
  obtain ⟨c, hc, ec⟩ : ∃ c : Nat, c ≤ 4 ∧ ([.int 0, .int 1, .int 1, .int 2, .int 2, .int 3, .int 4] : List Z.D)[t] = .int (c : Int) := by
    have : t < 7 := ht
    have : t = 0 ∨ t = 1 ∨ t = 2 ∨ t = 3 ∨ t = 4 ∨ t = 5 ∨ t = 6 := by omega
    rcases this with rfl | rfl | rfl | rfl | rfl | rfl | rfl
    · exact ⟨0, by decide, rfl⟩
    · exact ⟨1, by decide, rfl⟩
    · exact ⟨1, by decide, rfl⟩
    · exact ⟨2, by decide, rfl⟩
    · exact ⟨2, by decide, rfl⟩
    · exact ⟨3, by decide, rfl⟩
    · exact ⟨4, by decide, rfl⟩
  rw [ec] at e1
  obtain ⟨bx2, acc, y7, y8, hb2, ha, hla, e2⟩ := acc_loop n hn c (by omega) bx1 hb1 x2 (some (.d (.int size))) (some (.o (ss.map stD))) x5 x7 x8 x9 x10 x11
  obtain ⟨bx3, nx, hb3, hnx, z8, z9, z11, e3⟩ := nx_loop n size hn hs hs2 acc (by omega) bx2 hb2 x2 (some (.o (ss.map stD))) x5 y7 y8 (some (.d (.int 0))) x11
  refine ⟨bx3, ss ++ [(isort acc, nx)], hb3, fun s hs' => ?_, by simp, ?_⟩
  · rcases List.mem_append.mp hs' with h | h
    · exact hss s h
    · rw [List.mem_singleton.mp h]
      exact stOk_of ha hnx
  · have hc2 : c < 1000000 := by omega
    have hn2 : n < 1000000 := by omega
    have hl2 : ss.length < 1000000 := by omega
    have so := cSortA_i acc
    have ap : ss.map stD ++ [.tuple [.tuple ((isort acc).map .int), .tuple (nx.map .int)]] = (ss ++ [(isort acc, nx)]).map stD := by rw [List.map_append]; rfl
    clear hss hs hs2 hl hla hn hc
    unfold m__law_demand_b3
    walk_at "ev"
    exact ⟨_, _, _, _, _, _, rfl⟩
theorem demand_run (bx : List Z.D) (hb : Box bx) (n : Nat) (hn : n ≤ 5) (most : Nat) (hm : 0 < most) (hm2 : most ≤ 40) :
    ∃ (bx' : List Z.D) (ss : List StN) (r : Z.Env), Box bx' ∧ DOk n ss ∧ ss.length ≤ most ∧ m__law_demand (env0 12 [.o bx, .d (.int n), .d (.int most)]) = .rt (.d (demD n ss)) (some (.o bx') :: r) := by
  obtain ⟨t, bx1, r1, e1, hb1, ht⟩ := take_ok bx hb most hm (by omega)
  obtain ⟨ρ', e, bx', ss, hb', hss, hl, y5, y6, y7, y8, y9, y10, y11, rfl⟩ := forL_nats (b := bName 5) (body := m__law_demand_b3)
    (fun k ρ => ∃ (bx' : List Z.D) (ss' : List StN), Box bx' ∧ (∀ s ∈ ss', StOk n (1 + t) s) ∧ ss'.length = k ∧ ∃ y5 y6 y7 y8 y9 y10 y11, ρ = [some (.o bx'), some (.d (.int n)), some (.d (.int most)), some (.d (.int ((1 + t : Nat) : Int))), some (.o (ss'.map stD)), y5, y6, y7, y8, y9, y10, y11]) (1 + t)
    [some (.o bx1), some (.d (.int n)), some (.d (.int most)), some (.d (.int ((1 + t : Nat) : Int))), some (.o []), none, none, none, none, none, none, none] ⟨bx1, [], hb1, (fun _ h => nomatch h), rfl, _, _, _, _, _, _, _, rfl⟩ fun k hk ρ hρ => by
      obtain ⟨bx1, ss1, h1, h2, h3, y5, y6, y7, y8, y9, y10, y11, rfl⟩ := hρ
      obtain ⟨bx2, ss2, q1, q2, q3, z6, z7, z8, z9, z10, z11, q4⟩ := state_step n (1 + t) hn (by omega) (by omega) bx1 h1 ss1 (by omega) h2 (some (.d (.int most))) (some (.d (.int k))) y6 y7 y8 y9 y10 y11
      exact ⟨_, _, rfl, q4, bx2, ss2, q1, q2, by omega, _, _, _, _, _, _, _, rfl⟩
  have hD : DOk n ss := ⟨hn, by omega, by omega, fun s hs => by rw [hl]; exact hss s hs⟩
  have hlm : ss.length ≤ most := by omega
  have c1 : (1 : Int) + (t : Int) = ((1 + t : Nat) : Int) := by push_cast; rfl
  have t2 : 1 + t < 1000000 := by omega
  have ex : ∃ r, m__law_demand (env0 12 [.o bx, .d (.int n), .d (.int most)]) = .rt (.d (demD n ss)) (some (.o bx') :: r) := by
    clear hss hl hD hlm ht hm hm2 hn
    unfold m__law_demand m__law_demand_s1 m__law_demand_s2 m__law_demand_s3 m__law_demand_s4 demD
    walk_at "st"
    walk_at "ev"
    exact ⟨_, rfl⟩
  obtain ⟨r, er⟩ := ex
  exact ⟨bx', ss, r, hb', hD, hlm, er⟩
theorem stOk_small {n size : Nat} (hn : n ≤ 5) {s : StN} (h : StOk n size s) : s.1.length ≤ 32 := by
  have := upB_len s.1 (pw n) h.up h.rg
  have := pw_le n hn
  have := pw_pos n
  rw [if_pos (by omega)] at *
  omega
theorem stB_ok {n size : Nat} (hn : n ≤ 5) {s : StN} (h : StOk n size s) : stB n size (stD s) = true := by
  obtain ⟨acc, nx⟩ := s
  have h1 : accB n (.tuple (acc.map .int)) = true := by
    simp only [accB, Bool.and_eq_true, toI_map]
    refine ⟨map_all fun b hb => ?_, pw_upB h.up⟩
    have := h.rg b hb
    simp only [below, inR, Bool.and_eq_true, decide_eq_true_eq]
    exact this
  have h2 : aheadB n size (.tuple (nx.map .int)) = true := by
    simp only [aheadB, Bool.and_eq_true, List.length_map, decide_eq_true_eq]
    refine ⟨h.len, map_all fun b hb => ?_⟩
    have := h.to b hb
    simp only [toB, isI, toI, Bool.and_eq_true, decide_eq_true_eq]
    exact ⟨⟨trivial, decide_eq_true this.1⟩, decide_eq_true this.2⟩
  simp only [stD, stB, h1, h2, Bool.true_and, tupL]
  refine map_all fun b hb => ?_
  rw [List.all_eq_true]
  intro l hl
  have hl := List.mem_filter.mp hl
  have hln := List.mem_range.mp hl.1
  have hs := h.st b hb l hln hl.2
  have hlen : nx.length = n := h.len
  have e : toI ((nx.map PyData.int).getD l .none) = nx.getD l 0 := by
    rw [List.getD_eq_getElem?_getD, List.getD_eq_getElem?_getD, List.getElem?_map, List.getElem?_eq_getElem (by omega)]
    rfl
  refine decide_eq_true (p := ¬ toI ((nx.map PyData.int).getD l .none) = -1) ?_
  rw [e]
  exact hs
theorem dem_okN {n : Nat} {ss : List StN} (h : DOk n ss) (k : Nat) : okN k (demD n ss) = true := by
  have hst : ∀ k s, s ∈ ss → okN k (stD s) = true := fun k s hs => by
    cases k with
    | zero => rfl
    | succ k =>
      have h1 := stOk_small h.n5 (h.st s hs)
      have h2 := (h.st s hs).len
      have h3 := h.n5
      refine okN_tup (fun d hd => ?_) (by simp)
      simp only [List.mem_cons, List.not_mem_nil, or_false] at hd
      rcases hd with rfl | rfl
      · exact okN_ints k _ (by omega)
      · exact okN_ints k _ (by omega)
  cases k with
  | zero => rfl
  | succ k =>
    refine okN_tup (fun d hd => ?_) (by simp)
    simp only [List.mem_cons, List.not_mem_nil, or_false] at hd
    rcases hd with rfl | rfl
    · exact okN_int k _
    · cases k with
      | zero => rfl
      | succ k =>
        refine okN_tup (fun d hd => ?_) (by rw [List.length_map]; have := h.most; omega)
        obtain ⟨s, hs, rfl⟩ := List.mem_map.mp hd
        exact hst k s hs
theorem dem_demB {n : Nat} {ss : List StN} (h : DOk n ss) : demB (demD n ss) = true := by
  have h5 := h.n5
  have h1 := h.one
  have h4 := h.most
  simp only [demD, demB, List.length_map, below, inR, toI, Bool.and_eq_true, decide_eq_true_eq]
  refine ⟨⟨⟨by omega, by omega⟩, h1, h4⟩, map_all fun s hs => ?_⟩
  rw [show ((n : Nat) : Int).toNat = n by omega]
  exact stB_ok h5 (h.st s hs)
theorem check_dem {n : Nat} {ss : List StN} (h : DOk n ss) : m_check_demand (env0 1 [.d (demD n ss)]) = .nx [some (.d (demD n ss))] := checkdem_ok _ (dem_okN h 4) (dem_demB h)
end K03
namespace K03
open PySem L2 Z
/-! ### machines -/
def edgeB (n many : Int) : Z.D → Bool
  | .tuple [a, b] => below a n && below b many
  | _ => false
theorem below_no (d : Z.D) (k : Int) : ∀ a, below d k = a → a = true → d = .int (toI d) := fun a h1 h2 => (below_I (h1.trans h2)).1
theorem isedge_ok (n many : Int) (w : Z.D) (hw : okN 1 w = true) : ∃ r, m__is_edge (env0 3 [.d (.int n), .d (.int many), .d w]) = .rt (.d (.bool (edgeB n many w))) r := by
  have k := kit_t w
  unfold m__is_edge m__is_edge_s1 m__is_edge_s2
  walk_at "st"
  cases w with
  | dict _ => cases hw
  | none => simp only [isT, tyN] at k; walk_at "ev"; exact ⟨_, rfl⟩
  | bool _ => simp only [isT, tyN] at k; walk_at "ev"; exact ⟨_, rfl⟩
  | int _ => simp only [isT, tyN] at k; walk_at "ev"; exact ⟨_, rfl⟩
  | str _ => simp only [isT, tyN] at k; walk_at "ev"; exact ⟨_, rfl⟩
  | list _ => simp only [isT, tyN] at k; walk_at "ev"; exact ⟨_, rfl⟩
  | tuple ds =>
    simp only [isT, tyN] at k
    by_cases hl : (ds.length : Int) = 2
    · obtain ⟨a, b, rfl⟩ : ∃ a h, ds = [a, h] := by
        match ds, hl with
        | [a, h], _ => exact ⟨a, h, rfl⟩
        | [], hl => simp at hl
        | [_], hl => simp at hl
        | _ :: _ :: _ :: _, hl => simp at hl; omega
      have e1 := below_ok a n (okN_noM (okN_mem hw a (by simp)))
      have e2 := below_ok b many (okN_noM (okN_mem hw b (by simp)))
      clear hl hw
      simp only [edgeB]
      cases ca : below a n with
      | false =>
        rw [ca] at e1
        walk_at "ev"
        exact ⟨_, rfl⟩
      | true =>
        rw [ca] at e1
        walk_at "ev"
        exact ⟨_, rfl⟩
    · have : edgeB n many (.tuple ds) = false := by
        unfold edgeB
        split
        · next n ss h =>
          cases h
          exact absurd rfl hl
        · rfl
      rw [this]
      clear hw
      walk_at "ev"
      exact ⟨_, rfl⟩
/-- a valid edge as a pair -/
def toP : Z.D → Int × Int
  | .tuple [a, b] => (toI a, toI b)
  | _ => (0, 0)
theorem edge_P {n many : Int} {d : Z.D} (h : edgeB n many d = true) : d = .tuple [.int (toP d).1, .int (toP d).2] ∧ inR (toP d).1 n = true ∧ inR (toP d).2 many = true := by
  unfold edgeB at h
  split at h
  · next a b =>
    rw [Bool.and_eq_true] at h
    obtain ⟨h1, h2⟩ := h
    have e1 := below_I h1
    have e2 := below_I h2
    refine ⟨?_, ?_, ?_⟩
    · simp only [toP]
      rw [← e1.1, ← e2.1]
    · simp only [toP, inR, Bool.and_eq_true]; exact ⟨decide_eq_true e1.2.1, decide_eq_true e1.2.2⟩
    · simp only [toP, inR, Bool.and_eq_true]; exact ⟨decide_eq_true e2.2.1, decide_eq_true e2.2.2⟩
  · cases h
def lexB (a b : Int × Int) : Bool := HT.lexLt [a.1, a.2] [b.1, b.2]
def risP (ps : List (Int × Int)) : Bool := (List.range (ps.length - 1)).all fun k => lexB (ps.getD k (0, 0)) (ps.getD (k + 1) (0, 0))
def rowB (n many : Int) : Z.D → Bool
  | .tuple es => es.all (edgeB n many) && risP (es.map toP)
  | _ => false
theorem row_loop (n many : Int) (x2 x4 : Option Z.S) : ∀ (es : List Z.D) (x3 : Option Z.S), (∀ e ∈ es, okN 1 e = true) →
    (es.all (edgeB n many) = true ∧ ∃ y3, forL (bName 3) m__is_row_b1 es [some (.d (.int n)), some (.d (.int many)), x2, x3, x4] = .nx [some (.d (.int n)), some (.d (.int many)), x2, y3, x4]) ∨
    (es.all (edgeB n many) = false ∧ ∃ r, forL (bName 3) m__is_row_b1 es [some (.d (.int n)), some (.d (.int many)), x2, x3, x4] = .rt (.d (.bool false)) r)
  | [], x3, _ => .inl ⟨rfl, x3, rfl⟩
  | e :: es, x3, h => by
    obtain ⟨r, e1⟩ := isedge_ok n many e (h e List.mem_cons_self)
    rw [List.all_cons]
    cases hb : edgeB n many e with
    | false =>
      rw [hb] at e1
      right
      have st : ∃ r, m__is_row_b1 [some (.d (.int n)), some (.d (.int many)), x2, some (.d e), x4] = .rt (.d (.bool false)) r := by
        unfold m__is_row_b1
        clear h hb
        walk_at "ev"
        exact ⟨_, rfl⟩
      obtain ⟨r, st⟩ := st
      refine ⟨by rw [Bool.false_and], ?_⟩
      simp only [forL, bName, List.set_cons_succ, List.set_cons_zero, st]
      exact ⟨_, rfl⟩
    | true =>
      rw [hb] at e1
      have st : m__is_row_b1 [some (.d (.int n)), some (.d (.int many)), x2, some (.d e), x4] = .nx [some (.d (.int n)), some (.d (.int many)), x2, some (.d e), x4] := by
        unfold m__is_row_b1
        clear h hb
        walk_at "ev"
      have ih := row_loop n many x2 x4 es (some (.d e)) fun x hx => h x (List.mem_cons_of_mem _ hx)
      simp only [forL, bName, List.set_cons_succ, List.set_cons_zero, st, Bool.true_and] at ih ⊢
      exact ih
theorem isrow_ok (n many : Int) (es : List Z.D) (hw : okN 2 (.tuple es) = true) : ∃ r, m__is_row (env0 5 [.d (.int n), .d (.int many), .d (.tuple es)]) = .rt (.d (.bool (rowB n many (.tuple es)))) r := by
  have hl : es.length < 1000000 := by
    simp only [okN, Bool.and_eq_true, decide_eq_true_eq] at hw
    exact hw.2
  unfold m__is_row m__is_row_s1 m__is_row_s2
  walk_at "st"
  simp only [rowB]
  rcases row_loop n many (some (.d (.tuple es))) none es none (okN_mem hw) with ⟨ha, y3, e⟩ | ⟨ha, r, e⟩
  · have hi : ∀ (j : Nat) (hj : j < es.length), es[j]? = some (.tuple [.int ((es.map toP).getD j (0, 0)).1, .int ((es.map toP).getD j (0, 0)).2]) := fun j hj => by
      have h1 := List.all_eq_true.mp ha _ (List.getElem_mem hj)
      rw [List.getElem?_eq_getElem hj, List.getD_eq_getElem?_getD, List.getElem?_map, List.getElem?_eq_getElem hj]
      exact congrArg some (edge_P h1).1
    have lc := lcL_from1 (P := 0) 4 (me := m__is_row_e1) (ρ := [some (.d (.int n)), some (.d (.int many)), some (.d (.tuple es)), y3, none]) es.length (fun k => .bool (lexB ((es.map toP).getD k (0, 0)) ((es.map toP).getD (k + 1) (0, 0)))) rfl (fun k hk => by
      have i1 : atI es (1 + (k : Int) - 1) = some (.tuple [.int ((es.map toP).getD k (0, 0)).1, .int ((es.map toP).getD k (0, 0)).2]) := by
        rw [atI_nn _ _ (by omega), show (1 + (k : Int) - 1).toNat = k by omega, hi k (by omega)]
      have i2 : atI es (1 + (k : Int)) = some (.tuple [.int ((es.map toP).getD (k + 1) (0, 0)).1, .int ((es.map toP).getD (k + 1) (0, 0)).2]) := by
        rw [atI_nn _ _ (by omega), show (1 + (k : Int)).toNat = k + 1 by omega, hi (k + 1) hk]
      unfold m__is_row_e1 lexB
      clear hw ha
      walk_at "ev") (Nat.le_of_lt hl)
    have cb := cAll_g (List.range (es.length - 1)) fun k => lexB ((es.map toP).getD k (0, 0)) ((es.map toP).getD (k + 1) (0, 0))
    have eu : risP (es.map toP) = (List.range (es.length - 1)).all fun k => lexB ((es.map toP).getD k (0, 0)) ((es.map toP).getD (k + 1) (0, 0)) := by
      unfold risP
      rw [List.length_map]
    rw [ha, Bool.true_and]
    clear hw ha hi
    walk_at "ev"
    exact ⟨_, rfl⟩
  · rw [ha, Bool.false_and]
    clear hw
    walk_at "ev"
    exact ⟨_, rfl⟩
def lenT : Z.D → Int
  | .tuple es => es.length
  | _ => 0
def machB : Z.D → Bool
  | .tuple [n, .tuple rs] => below n 6 && (decide (1 ≤ rs.length) && decide (rs.length ≤ 400)) && (rs.all isT && (decide ((rs.map lenT).sum ≤ 6000) && rs.all (rowB (toI n) rs.length)))
  | _ => false
theorem ismach_ok (d : Z.D) (hd : okN 4 d = true) : ∃ r, m__is_machine (env0 4 [.d d]) = .rt (.d (.bool (machB d))) r := by
  have k := kit_t d
  unfold m__is_machine m__is_machine_s1
  walk_at "st"
  cases d with
  | dict _ => cases hd
  | none => simp only [isT, tyN] at k; walk_at "ev"; exact ⟨_, rfl⟩
  | bool _ => simp only [isT, tyN] at k; walk_at "ev"; exact ⟨_, rfl⟩
  | int _ => simp only [isT, tyN] at k; walk_at "ev"; exact ⟨_, rfl⟩
  | str _ => simp only [isT, tyN] at k; walk_at "ev"; exact ⟨_, rfl⟩
  | list _ => simp only [isT, tyN] at k; walk_at "ev"; exact ⟨_, rfl⟩
  | tuple ds =>
    simp only [isT, tyN] at k
    by_cases hl : (ds.length : Int) = 2
    · obtain ⟨n, s, rfl⟩ : ∃ a h, ds = [a, h] := by
        match ds, hl with
        | [a, h], _ => exact ⟨a, h, rfl⟩
        | [], hl => simp at hl
        | [_], hl => simp at hl
        | _ :: _ :: _ :: _, hl => simp at hl; omega
      have hn := okN_noM (okN_mem hd n (by simp))
      have hs := okN_mem hd s (by simp)
      have e1 := lcount_ok n hn
      have k2 := kit_t s
      clear hl
      unfold m__is_machine_s2 m__is_machine_s3 m__is_machine_s4 m__is_machine_s5 m__is_machine_s6 m__is_machine_s7
      cases ca : below n 6 with
      | false =>
        rw [ca] at e1
        have : machB (.tuple [n, s]) = false := by
          unfold machB
          split
          · next ss h => cases h; rw [ca]; rfl
          · rfl
        rw [this]
        clear hd hs
        walk_at "ev"
        exact ⟨_, rfl⟩
      | true =>
        rw [ca] at e1
        cases s with
        | dict _ => cases hs
        | none => simp only [isT, tyN] at k2; clear hd hs; walk_at "ev"; exact ⟨_, rfl⟩
        | bool _ => simp only [isT, tyN] at k2; clear hd hs; walk_at "ev"; exact ⟨_, rfl⟩
        | int _ => simp only [isT, tyN] at k2; clear hd hs; walk_at "ev"; exact ⟨_, rfl⟩
        | str _ => simp only [isT, tyN] at k2; clear hd hs; walk_at "ev"; exact ⟨_, rfl⟩
        | list _ => simp only [isT, tyN] at k2; clear hd hs; walk_at "ev"; exact ⟨_, rfl⟩
        | tuple rs =>
          simp only [isT, tyN] at k2
          obtain ⟨en, n0, n6⟩ := below_I ca
          obtain ⟨N, eN⟩ : ∃ N : Int, toI n = N := ⟨_, rfl⟩
          rw [eN] at en n0 n6
          subst en
          simp only [machB, ca, Bool.true_and]
          rw [show toI (PyData.int N) = N from rfl]
          by_cases h1 : (1 : Int) ≤ (rs.length : Int)
          · by_cases h4 : (rs.length : Int) ≤ 400
            · rw [decide_eq_true (show 1 ≤ rs.length by omega), decide_eq_true (show rs.length ≤ 400 by omega), Bool.true_and, Bool.true_and]
              have lc := lcL_nm (P := 0) 3 (me := m__is_machine_e1) (ρ := [some (.d (.tuple [.int N, .tuple rs])), some (.d (.int N)), some (.d (.tuple rs)), none]) (ds := rs) (fun s => .bool (isT s)) rfl (fun s hs' => by
                have k3 := kit_t s
                simp only [tyN] at k3
                unfold m__is_machine_e1
                clear hd hs
                walk_at "ev") (by omega)
              have cb := cAll_g rs isT
              cases ct : rs.all isT with
              | false =>
                rw [ct] at cb
                clear hd hs
                walk_at "ev"
                exact ⟨_, rfl⟩
              | true =>
                rw [ct] at cb
                have ct' := List.all_eq_true.mp ct
                have tup : ∀ s ∈ rs, ∃ es, s = .tuple es := fun s hs' => by
                  have := ct' s hs'
                  cases s with
                  | tuple es => exact ⟨es, rfl⟩
                  | _ => cases this
                have lc2 := lcL_nm (P := 0) 3 (me := m__is_machine_e2) (ρ := [some (.d (.tuple [.int N, .tuple rs])), some (.d (.int N)), some (.d (.tuple rs)), none]) (ds := rs) (fun s => .int (lenT s)) rfl (fun s hs' => by
                  obtain ⟨es, rfl⟩ := tup s hs'
                  unfold m__is_machine_e2
                  simp only [lenT]
                  clear hd hs ct ct' tup
                  walk_at "ev") (by omega)
                have cs := cSum_g rs lenT
                rw [Bool.true_and]
                by_cases h6 : (6000 : Int) < (rs.map lenT).sum
                · rw [decide_eq_false (show ¬ (rs.map lenT).sum ≤ 6000 by omega), Bool.false_and]
                  clear hd hs ct ct' tup
                  walk_at "ev"
                  exact ⟨_, rfl⟩
                · rw [decide_eq_true (show (rs.map lenT).sum ≤ 6000 by omega), Bool.true_and]
                  have lc3 := lcL_nm (P := 0) 3 (me := m__is_machine_e3) (ρ := [some (.d (.tuple [.int N, .tuple rs])), some (.d (.int N)), some (.d (.tuple rs)), none]) (ds := rs) (fun s => .bool (rowB N rs.length s)) rfl (fun s hs' => by
                    obtain ⟨es, rfl⟩ := tup s hs'
                    obtain ⟨r, e⟩ := isrow_ok N rs.length es (okN_mem hs _ hs')
                    unfold m__is_machine_e3
                    clear hd hs ct ct' tup
                    walk_at "ev") (by omega)
                  have cb3 := cAll_g rs (rowB N rs.length)
                  clear hd hs ct ct' tup
                  walk_at "ev"
                  exact ⟨_, rfl⟩
            · rw [decide_eq_true (show 1 ≤ rs.length by omega), decide_eq_false (show ¬ rs.length ≤ 400 by omega), Bool.and_false, Bool.false_and]
              clear hd hs
              walk_at "ev"
              exact ⟨_, rfl⟩
          · rw [decide_eq_false (show ¬ 1 ≤ rs.length by omega), Bool.false_and, Bool.false_and]
            clear hd hs
            walk_at "ev"
            exact ⟨_, rfl⟩
    · have : machB (.tuple ds) = false := by
        unfold machB
        split
        · next n ss h =>
          cases h
          exact absurd rfl hl
        · rfl
      rw [this]
      clear hd
      walk_at "ev"
      exact ⟨_, rfl⟩
theorem checkmach_ok (d : Z.D) (hd : okN 4 d = true) (h : machB d = true) : m_check_machine (env0 1 [.d d]) = .nx [some (.d d)] := by
  obtain ⟨r, e⟩ := ismach_ok d hd
  rw [h] at e
  unfold m_check_machine m_check_machine_s1
  walk_at "st"
  clear hd
  walk_at "ev"
theorem checkmach_bad (d : Z.D) (hd : okN 4 d = true) (h : machB d = false) : m_check_machine (env0 1 [.d d]) = .exc 0 [some (.d d)] := by
  obtain ⟨r, e⟩ := ismach_ok d hd
  rw [h] at e
  unfold m_check_machine m_check_machine_s1
  walk_at "st"
  clear hd
  walk_at "ev"
end K03
namespace K03
open PySem L2 Z
abbrev Row := List (Int × Int)
def rowD (r : Row) : Z.D := .tuple (r.map pairD)
def machD (n : Nat) (rows : List Row) : Z.D := .tuple [.int n, .tuple (rows.map rowD)]
abbrev lexS (a b : Int × Int) : Prop := a.1 < b.1 ∨ (a.1 = b.1 ∧ a.2 < b.2)
def totR (rows : List Row) : Nat := (rows.map List.length).sum
structure MOk (n : Nat) (rows : List Row) : Prop where
  n5 : n ≤ 5
  one : 1 ≤ rows.length
  most : rows.length ≤ 400
  edge : ∀ r ∈ rows, ∀ e ∈ r, 0 ≤ e.1 ∧ e.1 < (n : Int) ∧ 0 ≤ e.2 ∧ e.2 < (rows.length : Int)
  up : ∀ r ∈ rows, r.Pairwise lexS
  few : totR rows ≤ 6000
theorem row_few {rows : List Row} {r : Row} (h : r ∈ rows) : r.length ≤ totR rows := by
  unfold totR
  induction rows with
  | nil => cases h
  | cons x xs ih =>
    rw [List.map_cons, List.sum_cons]
    rcases List.mem_cons.mp h with rfl | h
    · omega
    · have := ih h
      omega
theorem lexB_of {a b : Int × Int} (h : lexS a b) : lexB a b = true := by
  have h : a.1 < b.1 ∨ (a.1 = b.1 ∧ a.2 < b.2) := h
  unfold lexB
  rw [HT.lexLt_cons]
  by_cases q : a.1 = b.1
  · rw [if_pos q, HT.lexLt_cons, if_neg (by omega)]
    exact decide_eq_true (by omega)
  · rw [if_neg q]
    exact decide_eq_true (by omega)
theorem risP_of {ps : List (Int × Int)} (h : ps.Pairwise lexS) : risP ps = true := by
  unfold risP
  rw [List.all_eq_true]
  intro k hk
  have hk := List.mem_range.mp hk
  rw [List.pairwise_iff_getElem] at h
  have := h k (k + 1) (by omega) (by omega) (by omega)
  rw [List.getD_eq_getElem?_getD, List.getD_eq_getElem?_getD, List.getElem?_eq_getElem (show k < ps.length by omega), List.getElem?_eq_getElem (show k + 1 < ps.length by omega)]
  exact lexB_of this
theorem toP_map (r : Row) : (r.map pairD).map toP = r := by
  rw [List.map_map]
  exact List.map_id' r
theorem row_rowB {n many : Int} {r : Row} (h : ∀ e ∈ r, 0 ≤ e.1 ∧ e.1 < n ∧ 0 ≤ e.2 ∧ e.2 < many) (hu : r.Pairwise lexS) : rowB n many (rowD r) = true := by
  simp only [rowD, rowB, Bool.and_eq_true, toP_map]
  refine ⟨map_all fun e he => ?_, risP_of hu⟩
  have := h e he
  simp only [pairD, edgeB, below, inR, Bool.and_eq_true]
  exact ⟨⟨decide_eq_true this.1, decide_eq_true this.2.1⟩, decide_eq_true this.2.2.1, decide_eq_true this.2.2.2⟩
theorem lenT_sum (rows : List Row) : ((rows.map rowD).map lenT).sum = (totR rows : Int) := by
  unfold totR
  induction rows with
  | nil => rfl
  | cons r rows ih =>
    simp only [List.map_cons, List.sum_cons, ih]
    simp only [rowD, lenT, List.length_map]
    push_cast
    rfl
theorem pair_okN (k : Nat) (e : Int × Int) : okN k (pairD e) = true := by
  cases k with
  | zero => rfl
  | succ k =>
    refine okN_tup (fun d hd => ?_) (by simp)
    simp only [List.mem_cons, List.not_mem_nil, or_false] at hd
    rcases hd with rfl | rfl <;> exact okN_int k _
theorem row_okN (k : Nat) (r : Row) (h : r.length < 1000000) : okN k (rowD r) = true := by
  cases k with
  | zero => rfl
  | succ k =>
    refine okN_tup (fun d hd => ?_) (by rw [List.length_map]; exact h)
    obtain ⟨e, _, rfl⟩ := List.mem_map.mp hd
    exact pair_okN k e
theorem mach_okN' {n : Nat} {rows : List Row} (h1 : rows.length < 1000000) (h2 : ∀ r ∈ rows, r.length < 1000000) (k : Nat) : okN k (machD n rows) = true := by
  cases k with
  | zero => rfl
  | succ k =>
    refine okN_tup (fun d hd => ?_) (by simp)
    simp only [List.mem_cons, List.not_mem_nil, or_false] at hd
    rcases hd with rfl | rfl
    · exact okN_int k _
    · cases k with
      | zero => rfl
      | succ k =>
        refine okN_tup (fun d hd => ?_) (by rw [List.length_map]; exact h1)
        obtain ⟨r, hr, rfl⟩ := List.mem_map.mp hd
        exact row_okN k r (h2 r hr)
theorem mach_okN {n : Nat} {rows : List Row} (h : MOk n rows) (k : Nat) : okN k (machD n rows) = true :=
  mach_okN' (by have := h.most; omega) (fun r hr => by have := row_few hr; have := h.few; omega) k
theorem mach_machB {n : Nat} {rows : List Row} (h : MOk n rows) : machB (machD n rows) = true := by
  have h5 := h.n5
  have h1 := h.one
  have h4 := h.most
  have h6 := h.few
  simp only [machD, machB, List.length_map, Bool.and_eq_true]
  refine ⟨⟨?_, decide_eq_true h1, decide_eq_true h4⟩, map_all fun r _ => rfl, ?_, map_all fun r hr => ?_⟩
  · simp only [below, inR, Bool.and_eq_true]
    exact ⟨decide_eq_true (by omega), decide_eq_true (by omega)⟩
  · rw [lenT_sum]
    exact decide_eq_true (by omega)
  · exact row_rowB (h.edge r hr) (h.up r hr)
theorem check_mach {n : Nat} {rows : List Row} (h : MOk n rows) : m_check_machine (env0 1 [.d (machD n rows)]) = .nx [some (.d (machD n rows))] := checkmach_ok _ (mach_okN h 4) (mach_machB h)
theorem row_ix {rows : List Row} {p : Int} (h0 : 0 ≤ p) (h1 : p < rows.length) : atI (rows.map rowD) p = some (.tuple ((rows.getD p.toNat []).map pairD)) := by
  have hl : p.toNat < rows.length := by omega
  rw [atI_map _ _ _ h0, List.getElem?_eq_getElem hl, List.getD_eq_getElem?_getD, List.getElem?_eq_getElem hl]
  rfl
theorem row_mem {rows : List Row} {p : Nat} (h : p < rows.length) : rows.getD p [] ∈ rows := by
  rw [List.getD_eq_getElem?_getD, List.getElem?_eq_getElem h]
  exact List.getElem_mem h
end K03
namespace K03
open PySem L2 Z
/-! ### sets and nexts that are none -/
theorem seq_inv {ms mt : Z.Env → Z.Out} {ρ ρ' : Z.Env} (h : mSeq ms mt ρ = .nx ρ') : ∃ E, ms ρ = .nx E ∧ mt E = .nx ρ' := by
  unfold mSeq at h
  split at h
  · next E e => exact ⟨E, e, h⟩
  · next hne => exact absurd h (hne _)
abbrev iD (xs : List Int) : List Z.D := xs.map PyData.int
def lastI (xs : List Int) : List Int := xs.drop (xs.length - 1)
theorem cut_last (xs : List Int) : cutD (iD xs) (some (-1)) none = iD (lastI xs) := by
  have e : HT.sIx (iD xs).length 0 (some (-1)) = xs.length - 1 := by
    rw [List.length_map]
    show (if (-1 : Int) < 0 then (-1 + (xs.length : Int)).toNat else min (-1 : Int).toNat xs.length) = _
    rw [if_pos (by omega)]
    omega
  have e0 : HT.sIx (iD xs).length (iD xs).length none = (iD xs).length := rfl
  unfold cutD
  rw [e, e0, List.take_of_length_le (by rw [List.length_drop]; omega), iD, iD, lastI, List.map_drop]
theorem lastI_len (xs : List Int) : (lastI xs).length ≤ 1 := by
  rw [lastI, List.length_drop]; omega
structure BadA (n : Nat) (x : Z.D) : Prop where
  ok : okN 1 x = true
  bad : accB n x = false
theorem okN0 {d : Z.D} (h : noM d = true) : okN 0 d = true := by cases d <;> first | rfl | cases h
theorem tup1 {ds : List Z.D} (h : ∀ d ∈ ds, noM d = true) (hl : ds.length ≤ 999999) : okN 1 (.tuple ds) = true := okN_tup (k := 0) (fun d hd => okN0 (h d hd)) (by omega)
theorem badA_of {n : Nat} {ds : List Z.D} (e : Z.D) (he : e ∈ ds) (h : ∀ d ∈ ds, noM d = true) (hl : ds.length ≤ 999999) (hb : below e (pw n) = false) : BadA n (.tuple ds) := by
  refine ⟨tup1 h hl, ?_⟩
  simp only [accB, Bool.and_eq_false_iff]
  left
  rw [← Bool.not_eq_true, List.all_eq_true]
  intro q
  rw [q e he] at hb
  cases hb
theorem toI_iD : ∀ xs : List Int, (iD xs).map toI = xs
  | [] => rfl
  | x :: xs => by
    rw [iD, List.map_cons, List.map_cons]
    exact congrArg (x :: ·) (toI_iD xs)
theorem badA_up {n : Nat} {xs : List Int} (hl : xs.length ≤ 999999) (k : Nat) (hk : k + 1 < xs.length) (h : xs[k + 1] ≤ xs[k]) : BadA n (.tuple (iD xs)) := by
  refine ⟨tup1 (fun d hd => by obtain ⟨i, _, rfl⟩ := List.mem_map.mp hd; rfl) (by rw [List.length_map]; exact hl), ?_⟩
  simp only [accB, Bool.and_eq_false_iff]
  right
  rw [← Bool.not_eq_true, toI_iD]
  intro q
  have := List.pairwise_iff_getElem.mp (upB_pw q) k (k + 1) (by omega) hk (by omega)
  omega
theorem int_noM {xs : List Int} : ∀ d ∈ iD xs, noM d = true := fun d hd => by obtain ⟨i, _, rfl⟩ := List.mem_map.mp hd; rfl
theorem lastI_noM {xs : List Int} : ∀ d ∈ iD (lastI xs), noM d = true := int_noM
def setsA (n : Nat) (ss : List Int) : List Z.D := [.tuple (iD ss ++ [.int (pw n)]), .tuple ([.int (-1)] ++ iD ss), .tuple [.bool true], .tuple [.none], .tuple [.str (PySem.Str.ofString "a")], .tuple (iD ss ++ iD (lastI ss) ++ [.int (pw n)]), .none, .int 0, .str (PySem.Str.ofString ""), .tuple [.tuple []]]
theorem setsA_bad {n : Nat} {ss : List Int} (hl : ss.length ≤ 100) : ∀ x ∈ setsA n ss, BadA n x := by
  intro x hx
  have l1 := lastI_len ss
  have bp : below (.int (pw n)) (pw n) = false := by simp [below, inR]
  have app : ∀ {a b : List Z.D}, (∀ d ∈ a, noM d = true) → (∀ d ∈ b, noM d = true) → ∀ d ∈ a ++ b, noM d = true := fun h1 h2 d hd => by
    rcases List.mem_append.mp hd with h | h
    · exact h1 d h
    · exact h2 d h
  have one : ∀ {e : Z.D}, noM e = true → ∀ d ∈ [e], noM d = true := fun h d hd => by rw [List.mem_singleton.mp hd]; exact h
  simp only [setsA, List.mem_cons, List.not_mem_nil, or_false] at hx
  rcases hx with rfl | rfl | rfl | rfl | rfl | rfl | rfl | rfl | rfl | rfl
  · exact badA_of (.int (pw n)) (by simp) (app int_noM (one rfl)) (by simp; omega) bp
  · exact badA_of (.int (-1)) (by simp) (app (one rfl) int_noM) (by simp; omega) (by simp [below, inR])
  · exact badA_of (.bool true) (by simp) (one rfl) (by simp) rfl
  · exact badA_of .none (by simp) (one rfl) (by simp) rfl
  · exact badA_of (.str (PySem.Str.ofString "a")) (by simp) (one rfl) (by simp) rfl
  · exact badA_of (.int (pw n)) (by simp) (app (app int_noM int_noM) (one rfl)) (by simp; omega) bp
  · exact ⟨rfl, rfl⟩
  · exact ⟨rfl, rfl⟩
  · exact ⟨rfl, rfl⟩
  · exact badA_of (.tuple []) (by simp) (one rfl) (by simp) rfl
def setsB (ss : List Int) : List Z.D := [.tuple (iD ss ++ iD (lastI ss)), .tuple ([.int (ss.getD 0 0)] ++ iD ss)]
theorem setsB_bad {n : Nat} {ss : List Int} (hl : ss.length ≤ 100) (h0 : 0 < ss.length) : ∀ x ∈ setsB ss, BadA n x := by
  intro x hx
  have l1 := lastI_len ss
  have l2 : (lastI ss).length = 1 := by rw [lastI, List.length_drop]; omega
  simp only [setsB, List.mem_cons, List.not_mem_nil, or_false] at hx
  rcases hx with rfl | rfl
  · rw [show iD ss ++ iD (lastI ss) = iD (ss ++ lastI ss) by rw [iD, iD, iD, List.map_append]]
    refine badA_up (by simp; omega) (ss.length - 1) (by simp; omega) ?_
    have e1 : (ss ++ lastI ss)[ss.length - 1]'(by simp; omega) = ss[ss.length - 1] := List.getElem_append_left (by omega)
    have e2 : (ss ++ lastI ss)[ss.length - 1 + 1]'(by simp; omega) = ss[ss.length - 1] := by
      rw [List.getElem_append_right (by omega)]
      simp only [lastI, List.getElem_drop]
      congr 1
      omega
    rw [e1, e2]
    exact Int.le_refl _
  · match ss, h0 with
    | s :: ss, _ =>
      refine badA_up (n := n) (xs := s :: s :: ss) (by simp at hl ⊢; omega) 0 (by simp) (by simp)
def setsC (ss : List Int) : List Z.D := [.tuple ([.int (ss.getD 1 0), .int (ss.getD 0 0)] ++ iD (ss.drop 2))]
theorem setsC_bad {n : Nat} {ss : List Int} (hl : ss.length ≤ 100) (hu : ss.Pairwise (· < ·)) (h0 : 1 < ss.length) : ∀ x ∈ setsC ss, BadA n x := by
  intro x hx
  simp only [setsC, List.mem_cons, List.not_mem_nil, or_false] at hx
  subst hx
  match ss, h0 with
  | a :: b :: ss, _ =>
    rw [List.pairwise_cons] at hu
    have := hu.1 b (by simp)
    exact badA_up (n := n) (xs := b :: a :: ss) (by simpa using by simp at hl; omega) 0 (by simp) (by simp; omega)
/-- the law's list of tuples that are no accepted sets -/
theorem sets_run {n : Nat} (hn : n ≤ 5) (bx : List Z.D) (hb : Box bx) (ss : List Int) (hl : ss.length ≤ 100) (hu : ss.Pairwise (· < ·)) :
    ∃ (x : Z.D) (bx' : List Z.D) (z : Z.Env), Box bx' ∧ BadA n x ∧ m__law_sets (env0 5 [.o bx, .d (.int n), .d (.tuple (iD ss))]) = .rt (.d x) (some (.o bx') :: z) := by
  have ca := cut_last ss
  have l1 := lastI_len ss
  have cc : ∀ xs ys : List Z.D, xs.length ≤ 300 → ys.length ≤ 300 → gCatT (.tuple xs) (.tuple ys) = some (.d (.tuple (xs ++ ys))) := fun xs ys h1 h2 => by rw [gCatT_t, if_pos (by omega)]
  have p6 := pow6 n hn
  have p1 : mSeq m__law_sets_s1 m__law_sets_s2 (env0 5 [.o bx, .d (.int n), .d (.tuple (iD ss))]) = .nx [some (.o bx), some (.d (.int n)), some (.d (.tuple (iD ss))), some (.d (.int (pw n))), some (.o (setsA n ss))] := by
    have g1 := cc (iD ss) [.int (pw n)] (by simp; omega) (by simp)
    have g2 := cc [.int (-1)] (iD ss) (by simp) (by simp; omega)
    have g3 := cc (iD ss) (iD (lastI ss)) (by simp; omega) (by simp; omega)
    have g4 := cc (iD ss ++ iD (lastI ss)) [.int (pw n)] (by simp; omega) (by simp)
    unfold m__law_sets_s1 m__law_sets_s2 setsA
    clear hl hu l1 cc hb
    walk_at "st"
    walk_at "ev"
  have p3 : ∃ xs, xs.length ≤ 12 ∧ 0 < xs.length ∧ (∀ x ∈ xs, BadA n x) ∧ m__law_sets_s3 [some (.o bx), some (.d (.int n)), some (.d (.tuple (iD ss))), some (.d (.int (pw n))), some (.o (setsA n ss))] = .nx [some (.o bx), some (.d (.int n)), some (.d (.tuple (iD ss))), some (.d (.int (pw n))), some (.o xs)] := by
    have A := setsA_bad (n := n) hl
    have lA : (setsA n ss).length = 10 := rfl
    cases hs : ss with
    | nil =>
      refine ⟨setsA n [], by show 10 ≤ 12; omega, by show 0 < 10; omega, by rw [hs] at A; exact A, ?_⟩
      generalize setsA n [] = X
      unfold m__law_sets_s3
      walk_at "ev"
      rfl
    | cons s t =>
      rw [hs] at A lA ca hl l1
      refine ⟨setsA n (s :: t) ++ setsB (s :: t), by rw [List.length_append, lA]; show 10 + 2 ≤ 12; omega, by rw [List.length_append, lA]; omega, fun x hx => ?_, ?_⟩
      · rcases List.mem_append.mp hx with h | h
        · exact A x h
        · exact setsB_bad hl (by simp) x h
      · have g3 := cc (iD (s :: t)) (iD (lastI (s :: t))) (by rw [List.length_map]; omega) (by rw [List.length_map]; omega)
        have g5 := cc [.int s] (iD (s :: t)) (by simp) (by rw [List.length_map]; omega)
        have i0 : (iD (s :: t))[0]? = some (.int s) := rfl
        have tr : (iD (s :: t)).isEmpty = false := rfl
        have l9 : (setsA n (s :: t)).length ≤ 999998 := by rw [lA]; omega
        have gs : (s :: t).getD 0 0 = s := rfl
        unfold m__law_sets_s3 setsB
        rw [gs]
        generalize setsA n (s :: t) = X at *
        generalize iD (lastI (s :: t)) = Y at *
        generalize iD (s :: t) = Z0 at *
        clear hl hu l1 cc hb A lA p1 p6 hs
        walk_at "ev"
  obtain ⟨xs, h1, h2, h3, p3⟩ := p3
  have p4 : ∃ ys, ys.length ≤ 13 ∧ 0 < ys.length ∧ (∀ x ∈ ys, BadA n x) ∧ m__law_sets_s4 [some (.o bx), some (.d (.int n)), some (.d (.tuple (iD ss))), some (.d (.int (pw n))), some (.o xs)] = .nx [some (.o bx), some (.d (.int n)), some (.d (.tuple (iD ss))), some (.d (.int (pw n))), some (.o ys)] := by
    by_cases q : (1 : Int) < (ss.length : Int)
    · refine ⟨xs ++ setsC ss, by rw [List.length_append]; show xs.length + 1 ≤ 13; omega, by rw [List.length_append]; omega, fun x hx => ?_, ?_⟩
      · rcases List.mem_append.mp hx with h | h
        · exact h3 x h
        · exact setsC_bad hl hu (by omega) x h
      · have c2 : cutD (iD ss) (some 2) none = iD (ss.drop 2) := by
          have := cutD_drop (iD ss) 2 (by rw [List.length_map]; omega)
          rw [iD, iD, List.map_drop]
          exact this
        have i0 : (iD ss)[0]? = some (.int (ss.getD 0 0)) := by
          rw [List.getElem?_map, List.getD_eq_getElem?_getD, List.getElem?_eq_getElem (by omega)]; rfl
        have i1 : (iD ss)[1]? = some (.int (ss.getD 1 0)) := by
          rw [List.getElem?_map, List.getD_eq_getElem?_getD, List.getElem?_eq_getElem (by omega)]; rfl
        have g := cc [.int (ss.getD 1 0), .int (ss.getD 0 0)] (iD (ss.drop 2)) (by simp) (by rw [List.length_map, List.length_drop]; omega)
        have lx : xs.length < 1000000 := by omega
        unfold m__law_sets_s4 setsC
        clear hl hu l1 cc hb p1 p3 h1 h2 h3 ca
        walk_at "ev"
    · refine ⟨xs, by omega, h2, h3, ?_⟩
      unfold m__law_sets_s4
      clear hl hu l1 cc hb p1 p3 h1 h2 h3 ca
      walk_at "ev"
  obtain ⟨ys, h4, h5, h6, p4⟩ := p4
  obtain ⟨t, ht, bx', r9, e9, hb'⟩ := pick_ok bx hb ys h5 (by omega)
  obtain ⟨b, hbq⟩ : ∃ b, b = ys[t] := ⟨_, rfl⟩
  have hbad := h6 b (by rw [hbq]; exact List.getElem_mem _)
  rw [← hbq] at e9
  have p5 : ∃ z, m__law_sets_s5 [some (.o bx), some (.d (.int n)), some (.d (.tuple (iD ss))), some (.d (.int (pw n))), some (.o ys)] = .rt (.d b) (some (.o bx') :: z) := by
    unfold m__law_sets_s5
    clear hl hu l1 cc hb p1 p3 p4 h1 h2 h3 h4 h5 h6 ca hbq hbad hb' ht
    walk_at "ev"
    exact ⟨_, rfl⟩
  obtain ⟨z, p5⟩ := p5
  refine ⟨b, bx', z, hb', hbad, ?_⟩
  obtain ⟨E1, q1⟩ := seq_inv p1
  unfold m__law_sets
  rw [seq_nx q1.1, seq_nx q1.2, seq_nx p3, seq_nx p4]
  exact p5
end K03
namespace K03
open PySem L2 Z
section
variable {n : Nat} {ss : List StN}
structure BadH (n size : Nat) (s : StN) (x : Z.D) : Prop where
  ok : okN 1 x = true
  bad : stB n size (.tuple [.tuple (iD s.1), x]) = false
theorem badH_of {n size : Nat} {s : StN} {x : Z.D} (h : okN 1 x = true) (hb : aheadB n size x = false) : BadH n size s x := by
  refine ⟨h, ?_⟩
  simp only [stB, hb, Bool.false_and, Bool.and_false]
theorem ahead_len {n : Nat} {many : Int} {ds : List Z.D} (h : ds.length ≠ n) : aheadB n many (.tuple ds) = false := by
  simp only [aheadB, decide_eq_false h, Bool.false_and]
theorem ahead_mem {n : Nat} {many : Int} {ds : List Z.D} (e : Z.D) (he : e ∈ ds) (h : toB n many e = false) : aheadB n many (.tuple ds) = false := by
  simp only [aheadB, Bool.and_eq_false_iff]
  right
  rw [← Bool.not_eq_true, List.all_eq_true]
  intro q
  rw [q e he] at h
  cases h
def aftA (s : StN) : List Z.D := [.tuple (iD s.2 ++ [.int 0]), .tuple (iD s.2 ++ [.int (-1)]), .none, .int 0, .str (PySem.Str.ofString ""), .tuple [.tuple (iD s.2)]]
theorem app_noM {a b : List Z.D} (h1 : ∀ d ∈ a, noM d = true) (h2 : ∀ d ∈ b, noM d = true) : ∀ d ∈ a ++ b, noM d = true := fun d hd => by
  rcases List.mem_append.mp hd with h | h
  · exact h1 d h
  · exact h2 d h
theorem one_noM {e : Z.D} (h : noM e = true) : ∀ d ∈ [e], noM d = true := fun d hd => by rw [List.mem_singleton.mp hd]; exact h
theorem aftA_bad {size : Nat} {s : StN} (hn : n ≤ 5) (h : StOk n size s) : ∀ x ∈ aftA s, BadH n size s x := by
  intro x hx
  have hl := h.len
  simp only [aftA, List.mem_cons, List.not_mem_nil, or_false] at hx
  rcases hx with rfl | rfl | rfl | rfl | rfl | rfl
  · exact badH_of (tup1 (app_noM int_noM (one_noM rfl)) (by simp; omega)) (ahead_len (by simp; omega))
  · exact badH_of (tup1 (app_noM int_noM (one_noM rfl)) (by simp; omega)) (ahead_len (by simp; omega))
  · exact badH_of rfl rfl
  · exact badH_of rfl rfl
  · exact badH_of rfl rfl
  · exact badH_of (tup1 (one_noM rfl) (by simp)) (ahead_mem _ (List.mem_singleton.mpr rfl) (by simp [toB, isI]))
abbrev putI (s : StN) (k : Nat) (x : Z.D) : Z.D := .tuple ((iD s.2).take k ++ [x] ++ (iD s.2).drop (k + 1))
theorem putI_ok {size : Nat} {s : StN} (hn : n ≤ 5) (h : StOk n size s) (k : Nat) (x : Z.D) (hx : noM x = true) : okN 1 (putI s k x) = true := by
  have hl := h.len
  refine tup1 (app_noM (app_noM (fun d hd => int_noM d (List.mem_of_mem_take hd)) (one_noM hx)) (fun d hd => int_noM d (List.mem_of_mem_drop hd))) ?_
  simp
  omega
theorem putI_bad {size : Nat} {s : StN} (hn : n ≤ 5) (h : StOk n size s) (k : Nat) (x : Z.D) (hx : noM x = true) (hb : toB n size x = false) : BadH n size s (putI s k x) :=
  badH_of (putI_ok hn h k x hx) (ahead_mem x (by simp) hb)
theorem put_letter {size : Nat} {s : StN} (hn : n ≤ 5) (h : StOk n size s) (a : Nat) (ha : a < n) (b : Int) (hb : b ∈ s.1) (hab : bitB b a = true) : BadH n size s (putI s a (.int (-1))) := by
  refine ⟨putI_ok hn h a _ rfl, ?_⟩
  have hl := h.len
  simp only [stB, Bool.and_eq_false_iff]
  right
  right
  rw [← Bool.not_eq_true, List.all_eq_true]
  intro q
  have q := q (.int b) (List.mem_map.mpr ⟨b, hb, rfl⟩)
  rw [List.all_eq_true] at q
  have q := q a (List.mem_filter.mpr ⟨List.mem_range.mpr ha, hab⟩)
  have e : ((tupL (putI s a (.int (-1)))).getD a .none) = .int (-1) := by
    show (((iD s.2).take a ++ [PyData.int (-1)] ++ (iD s.2).drop (a + 1)).getD a .none) = .int (-1)
    have lt : ((iD s.2).take a).length = a := by rw [List.length_take, List.length_map]; omega
    rw [List.getD_eq_getElem?_getD, List.getElem?_append_left (by rw [List.length_append, lt]; simp), List.getElem?_append_right (by omega), lt, Nat.sub_self]
    rfl
  rw [e] at q
  simp [toI] at q
end
end K03
namespace K03
open PySem L2 Z
section
variable {n size : Nat} {s : StN} {x1 x2 x4 x11 : Option Z.S}
abbrev EA (bx : List Z.D) (x1 x2 : Option Z.S) (n : Nat) (x4 : Option Z.S) (s : StN) (x7 x8 x9 x10 x11 : Option Z.S) : Z.Env := [some (.o bx), x1, x2, some (.d (.int n)), x4, some (.d (.tuple (iD s.1))), some (.d (.tuple (iD s.2))), x7, x8, x9, x10, x11]
theorem put_cat (h : s.2.length ≤ 100) (k : Nat) (hk : k < s.2.length) : cutD (iD s.2) none (some (k : Int)) = (iD s.2).take k ∧ cutD (iD s.2) (some ((k : Int) + 1)) none = (iD s.2).drop (k + 1) ∧ ∀ x : Z.D, gCatT (.tuple ((iD s.2).take k)) (.tuple [x]) = some (.d (.tuple ((iD s.2).take k ++ [x]))) ∧
    gCatT (.tuple ((iD s.2).take k ++ [x])) (.tuple ((iD s.2).drop (k + 1))) = some (.d (putI s k x)) := by
  refine ⟨cutD_take _ k (by rw [List.length_map]; omega), cutD_drop (iD s.2) (k + 1) (by rw [List.length_map]; omega), fun x => ⟨?_, ?_⟩⟩
  · rw [gCatT_t, if_pos (by rw [List.length_take, List.length_map]; simp; omega)]
  · rw [gCatT_t, if_pos (by rw [List.length_append, List.length_take, List.length_drop, List.length_map]; simp; omega)]
theorem aft_b1 (h : s.2.length ≤ 100) (bx : List Z.D) (k : Nat) (hk : k < s.2.length) (bs : List Z.D) (hb : bs.length ≤ 100) (x : Z.D) (x10 x11 : Option Z.S) :
    m__law_after_b1 (EA bx x1 x2 n x4 s (some (.o bs)) (some (.d (.int k))) (some (.d x)) x10 x11) = .nx (EA bx x1 x2 n x4 s (some (.o (bs ++ [putI s k x]))) (some (.d (.int k))) (some (.d x)) x10 x11) := by
  obtain ⟨c1, c2, g⟩ := put_cat h k hk
  obtain ⟨g1, g2⟩ := g x
  have lb : bs.length < 1000000 := by omega
  unfold m__law_after_b1 EA
  clear h hk hb g
  simp only [putI] at g2 ⊢
  walk_at "ev"
theorem aft_loop (h : s.2.length ≤ 100) (bx : List Z.D) (k : Nat) (hk : k < s.2.length) (x10 x11 : Option Z.S) : ∀ (xs bs : List Z.D) (x9 : Option Z.S), bs.length + xs.length ≤ 100 →
    ∃ y9, forL (bName 9) m__law_after_b1 xs (EA bx x1 x2 n x4 s (some (.o bs)) (some (.d (.int k))) x9 x10 x11) = .nx (EA bx x1 x2 n x4 s (some (.o (bs ++ xs.map (putI s k)))) (some (.d (.int k))) y9 x10 x11)
  | [], bs, x9, _ => ⟨x9, by rw [List.map_nil, List.append_nil]; rfl⟩
  | x :: xs, bs, x9, hl => by
    rw [List.length_cons] at hl
    obtain ⟨y, e⟩ := aft_loop h bx k hk x10 x11 xs (bs ++ [putI s k x]) (some (.d x)) (by rw [List.length_append, List.length_singleton]; omega)
    have t := aft_b1 (n := n) (x1 := x1) (x2 := x2) (x4 := x4) h bx k hk bs (by omega) x x10 x11
    refine ⟨y, ?_⟩
    rw [List.append_assoc] at e
    simp only [forL, bName, EA, List.set_cons_succ, List.set_cons_zero] at t e ⊢
    rw [t]
    exact e
theorem any_b (st : List Int) (f : Int → Bool) : (!((st.filter f).map PyData.int).isEmpty) = st.any f := by
  refine Bool.eq_iff_iff.mpr ?_
  rw [List.any_eq_true]
  simp only [Bool.not_eq_true', List.isEmpty_eq_false_iff, ne_eq, List.map_eq_nil_iff, List.filter_eq_nil_iff]
  constructor
  · intro h
    by_cases z : ∃ x ∈ st, f x = true
    · exact z
    · exact absurd (fun x hx w => z ⟨x, hx, w⟩) h
  · rintro ⟨x, hx, w⟩ h
    exact h x hx w
theorem aft_b2 (hn : n ≤ 5) (h : StOk n size s) (hl : s.1.length ≤ 100) (bx : List Z.D) (a : Nat) (ha : a < n) (bs : List Z.D) (hb : bs.length ≤ 100) (hbad : ∀ x ∈ bs, BadH n size s x) (x8 x9 : Option Z.S) :
    ∃ bs' : List Z.D, bs'.length ≤ bs.length + 1 ∧ bs.length ≤ bs'.length ∧ (∀ x ∈ bs', BadH n size s x) ∧ m__law_after_b2 (EA bx x1 x2 n x4 s (some (.o bs)) x8 x9 (some (.d (.int a))) none) = .nx (EA bx x1 x2 n x4 s (some (.o bs')) x8 x9 (some (.d (.int a))) none) := by
  have h2 := h.len
  obtain ⟨c1, c2, g⟩ := put_cat (s := s) (by omega) a (by omega)
  obtain ⟨g1, g2⟩ := g (.int (-1))
  have lb : bs.length < 1000000 := by omega
  have lc := lcL_enc (P := 1) 11 PyData.int (mt := m__law_after_t1) (me := mVar 11) (ρ := EA bx x1 x2 n x4 s (some (.o bs)) x8 x9 (some (.d (.int a))) none) s.1 (fun b => bitB b a) PyData.int rfl (fun b _ => by
    have ix := pow5 a (by omega)
    have p0 := pw_pos a
    have p1 : pw a < 1073741824 := by have := pw_le a (by omega); omega
    have e : decide (b / pw a % 2 = 1) = bitB b a := by
      unfold bitB
      rw [pw_eq]
    unfold m__law_after_t1 EA
    clear hbad hb hl h h2 c1 c2 g g1 g2 lb
    walk_at "ev") (fun _ _ _ => rfl) (by omega)
  have an := any_b s.1 fun b => bitB b a
  by_cases q : s.1.any (fun b => bitB b a) = true
  · refine ⟨bs ++ [putI s a (.int (-1))], by simp, by simp, fun x hx => ?_, ?_⟩
    · rcases List.mem_append.mp hx with hx | hx
      · exact hbad x hx
      · obtain ⟨b, hb1, hb2⟩ := List.any_eq_true.mp q
        rw [List.mem_singleton.mp hx]
        exact put_letter hn h a ha b hb1 hb2
    · rw [q] at an
      unfold m__law_after_b2
      simp only [EA, putI] at lc g2 ⊢
      clear hbad hb hl h h2 hn ha q g
      walk_at "ev"
  · refine ⟨bs, by omega, by omega, hbad, ?_⟩
    rw [eq_false_of_ne_true q] at an
    unfold m__law_after_b2
    simp only [EA, putI] at lc g2 ⊢
    clear hbad hb hl h h2 hn ha q g
    walk_at "ev"
end
end K03
namespace K03
open PySem L2 Z
section
variable {n : Nat} {ss : List StN}
theorem stix {q : Nat} (h1 : q < ss.length) : atI (ss.map stD) (q : Int) = some (.tuple [.tuple (iD (ss.getD q ([], [])).1), .tuple (iD (ss.getD q ([], [])).2)]) := by
  rw [atI_map _ _ _ (by omega), show ((q : Nat) : Int).toNat = q by omega, List.getElem?_eq_getElem h1, List.getD_eq_getElem?_getD, List.getElem?_eq_getElem h1]
  rfl
theorem st_get {q : Nat} (h1 : q < ss.length) : ss.getD q ([], []) ∈ ss := by
  rw [List.getD_eq_getElem?_getD, List.getElem?_eq_getElem h1]
  exact List.getElem_mem h1
theorem pick_D (bx : List Z.D) (hb : Box bx) (ys : List Z.D) (h0 : 0 < ys.length) (h1 : ys.length < 1000) : ∃ (b : Z.D) (bx' : List Z.D) (r : Z.Env), Box bx' ∧ b ∈ ys ∧ m__law_pick (env0 2 [.o bx, .d (.list ys)]) = .rt (.d b) (some (.o bx') :: r) := by
  obtain ⟨t, ht, bx', r, e, hb'⟩ := pick_ok bx hb ys h0 h1
  exact ⟨ys[t], bx', r, hb', List.getElem_mem _, e⟩
theorem after_run (h : DOk n ss) (bx : List Z.D) (hb : Box bx) (q : Nat) (hq : q < ss.length) (hl : (ss.getD q ([], [])).1.length ≤ 100) :
    ∃ (x : Z.D) (bx' : List Z.D) (z : Z.Env), Box bx' ∧ BadH n ss.length (ss.getD q ([], [])) x ∧ m__law_after (env0 12 [.o bx, .d (demD n ss), .d (.int (q : Int))]) = .rt (.d x) (some (.o bx') :: z) := by
  have ix := stix hq
  have hs := h.st _ (st_get hq)
  have hn := h.n5
  have hz := h.most
  generalize hsq : ss.getD q ([], []) = s at *
  have h2 := hs.len
  have l2 : s.2.length ≤ 100 := by omega
  have d1 : m__law_after_s1 (env0 12 [.o bx, .d (demD n ss), .d (.int (q : Int))]) = .nx [some (.o bx), some (.d (demD n ss)), some (.d (.int (q : Int))), some (.d (.int n)), some (.d (.tuple (ss.map stD))), none, none, none, none, none, none, none] := rfl
  have d2 : m__law_after_s2 [some (.o bx), some (.d (demD n ss)), some (.d (.int (q : Int))), some (.d (.int n)), some (.d (.tuple (ss.map stD))), none, none, none, none, none, none, none] = .nx (EA bx (some (.d (demD n ss))) (some (.d (.int (q : Int)))) n (some (.d (.tuple (ss.map stD)))) s none none none none none) := by
    unfold m__law_after_s2 EA
    clear hs h2 l2 d1 h hb hq hl hsq
    walk_at "ev"
  have d3 : m__law_after_s3 (EA bx (some (.d (demD n ss))) (some (.d (.int (q : Int)))) n (some (.d (.tuple (ss.map stD)))) s none none none none none) = .nx (EA bx (some (.d (demD n ss))) (some (.d (.int (q : Int)))) n (some (.d (.tuple (ss.map stD)))) s (some (.o (aftA s))) none none none none) := by
    have g1 : gCatT (.tuple (iD s.2)) (.tuple [.int 0]) = some (.d (.tuple (iD s.2 ++ [.int 0]))) := by rw [gCatT_t, if_pos (by rw [List.length_map]; simp; omega)]
    have g2 : gCatT (.tuple (iD s.2)) (.tuple [.int (-1)]) = some (.d (.tuple (iD s.2 ++ [.int (-1)]))) := by rw [gCatT_t, if_pos (by rw [List.length_map]; simp; omega)]
    unfold m__law_after_s3 EA aftA
    clear hs h2 l2 d1 d2 h hb hq hl hsq ix
    walk_at "ev"
  have A := aftA_bad hn hs
  have lA : (aftA s).length = 6 := rfl
  have d4 : ∃ (bx' : List Z.D) (ys : List Z.D) (y8 y9 y10 : Option Z.S), Box bx' ∧ ys.length ≤ 20 ∧ 0 < ys.length ∧ (∀ x ∈ ys, BadH n ss.length s x) ∧
      m__law_after_s4 (EA bx (some (.d (demD n ss))) (some (.d (.int (q : Int)))) n (some (.d (.tuple (ss.map stD)))) s (some (.o (aftA s))) none none none none) = .nx (EA bx' (some (.d (demD n ss))) (some (.d (.int (q : Int)))) n (some (.d (.tuple (ss.map stD)))) s (some (.o ys)) y8 y9 y10 none) := by
    generalize aftA s = X at *
    by_cases c : (0 : Int) < (n : Int)
    · obtain ⟨k, bx1, r1, e1, hb1, hk⟩ := take_ok bx hb n (by omega) (by omega)
      obtain ⟨y9, e2⟩ := aft_loop (n := n) (x1 := some (.d (demD n ss))) (x2 := some (.d (.int (q : Int)))) (x4 := some (.d (.tuple (ss.map stD)))) l2 bx1 k (by omega) none none [.int (ss.length : Int), .int (-2), .bool true, .none, .str (PySem.Str.ofString "0"), .int 99] X none (by rw [lA]; show 6 + 6 ≤ 100; omega)
      have A2 : ∀ x ∈ X ++ [PyData.int (ss.length : Int), .int (-2), .bool true, .none, .str (PySem.Str.ofString "0"), .int 99].map (putI s k), BadH n ss.length s x := by
        intro x hx
        rcases List.mem_append.mp hx with hx | hx
        · exact A x hx
        · obtain ⟨e, he, rfl⟩ := List.mem_map.mp hx
          simp only [List.mem_cons, List.not_mem_nil, or_false] at he
          rcases he with rfl | rfl | rfl | rfl | rfl | rfl
          · exact putI_bad hn hs k _ rfl (by simp [toB, toI])
          · exact putI_bad hn hs k _ rfl (by simp [toB, toI])
          · exact putI_bad hn hs k _ rfl (by simp [toB, isI])
          · exact putI_bad hn hs k _ rfl (by simp [toB, isI])
          · exact putI_bad hn hs k _ rfl (by simp [toB, isI])
          · exact putI_bad hn hs k _ rfl (by simp only [toB, toI, isI, Bool.true_and, Bool.and_eq_false_iff]; right; exact decide_eq_false (by omega))
      have lX2 : (X ++ [PyData.int (ss.length : Int), .int (-2), .bool true, .none, .str (PySem.Str.ofString "0"), .int 99].map (putI s k)).length = 12 := by rw [List.length_append, lA]; rfl
      generalize X ++ [PyData.int (ss.length : Int), .int (-2), .bool true, .none, .str (PySem.Str.ofString "0"), .int 99].map (putI s k) = X2 at *
      have c1 : cutD (iD s.2) (some 1) none = (iD s.2).drop 1 := cutD_drop (iD s.2) 1 (by rw [List.length_map]; omega)
      have A3 : ∀ x ∈ X2 ++ [PyData.tuple ((iD s.2).drop 1)], BadH n ss.length s x := by
        intro x hx
        rcases List.mem_append.mp hx with hx | hx
        · exact A2 x hx
        · rw [List.mem_singleton.mp hx]
          exact badH_of (tup1 (fun d hd => int_noM d (List.mem_of_mem_drop hd)) (by simp; omega)) (ahead_len (by simp; omega))
      have lX3 : (X2 ++ [PyData.tuple ((iD s.2).drop 1)]).length = 13 := by rw [List.length_append, lX2]; rfl
      obtain ⟨ρ', e3, ys, y10, f1, f2, f3, rfl⟩ := forL_nats (b := bName 10) (body := m__law_after_b2) (fun j ρ => ∃ (ys : List Z.D) (y10 : Option Z.S), ys.length ≤ 13 + j ∧ 0 < ys.length ∧ (∀ x ∈ ys, BadH n ss.length s x) ∧
          ρ = EA bx1 (some (.d (demD n ss))) (some (.d (.int (q : Int)))) n (some (.d (.tuple (ss.map stD)))) s (some (.o ys)) (some (.d (.int k))) y9 y10 none) n
        (EA bx1 (some (.d (demD n ss))) (some (.d (.int (q : Int)))) n (some (.d (.tuple (ss.map stD)))) s (some (.o (X2 ++ [.tuple ((iD s.2).drop 1)]))) (some (.d (.int k))) y9 none none) ⟨_, none, by omega, by omega, A3, rfl⟩ fun j hj ρ hρ => by
          obtain ⟨ys, y10, f1, f2, f3, rfl⟩ := hρ
          obtain ⟨zs, g1, g2, g3, g4⟩ := aft_b2 (x1 := some (.d (demD n ss))) (x2 := some (.d (.int (q : Int)))) (x4 := some (.d (.tuple (ss.map stD)))) hn hs hl bx1 j hj ys (by omega) f3 (some (.d (.int k))) y9
          exact ⟨_, _, rfl, g4, zs, _, by omega, by omega, g3, rfl⟩
      refine ⟨bx1, ys, some (.d (.int k)), y9, y10, hb1, by omega, f2, f3, ?_⟩
      have lx : X2.length < 1000000 := by omega
      have nn : n < 1000000 := by omega
      unfold m__law_after_s4
      simp only [EA] at e2 e3 ⊢
      clear hs h2 l2 d1 d2 d3 h hb hq hl hsq ix A A2 A3 lA lX2 lX3 f1 f2 f3 hb1 hk hn hz
      walk_at "ev"
    · refine ⟨bx, X, none, none, none, hb, by omega, by omega, A, ?_⟩
      unfold m__law_after_s4 EA
      clear hs h2 l2 d1 d2 d3 h hb hq hl hsq ix A lA
      walk_at "ev"
  obtain ⟨bx2, ys, y8, y9, y10, hb2, f1, f2, f3, d4⟩ := d4
  obtain ⟨b, bx3, r9, hb3, hm, e9⟩ := pick_D bx2 hb2 ys f2 (by omega)
  have d5 : ∃ z, m__law_after_s5 (EA bx2 (some (.d (demD n ss))) (some (.d (.int (q : Int)))) n (some (.d (.tuple (ss.map stD)))) s (some (.o ys)) y8 y9 y10 none) = .rt (.d b) (some (.o bx3) :: z) := by
    unfold m__law_after_s5 EA
    clear hs h2 l2 d1 d2 d3 d4 h hb hq hl hsq ix A lA f1 f2 f3 hm hb2 hb3
    walk_at "ev"
    exact ⟨_, rfl⟩
  obtain ⟨z, d5⟩ := d5
  refine ⟨b, bx3, z, hb3, f3 b hm, ?_⟩
  unfold m__law_after
  rw [seq_nx d1, seq_nx d2, seq_nx d3, seq_nx d4]
  exact d5
end
end K03
namespace K03
open PySem L2 Z
section
variable {n : Nat} {ss : List StN}
abbrev ssD (ss : List StN) : List Z.D := ss.map stD
structure BadDem (b : Z.D) : Prop where
  ok : okN 4 b = true
  bad : demB b = false
theorem okN_two {k : Nat} {a b : Z.D} (h1 : okN k a = true) (h2 : okN k b = true) : okN (k + 1) (.tuple [a, b]) = true := okN_tup (fun d hd => by
  simp only [List.mem_cons, List.not_mem_nil, or_false] at hd
  rcases hd with rfl | rfl
  · exact h1
  · exact h2) (by simp)
theorem okN_three {k : Nat} {a b c : Z.D} (h1 : okN k a = true) (h2 : okN k b = true) (h3 : okN k c = true) : okN (k + 1) (.tuple [a, b, c]) = true := okN_tup (fun d hd => by
  simp only [List.mem_cons, List.not_mem_nil, or_false] at hd
  rcases hd with rfl | rfl | rfl
  · exact h1
  · exact h2
  · exact h3) (by simp)
theorem okN_one {k : Nat} {a : Z.D} (h1 : okN k a = true) : okN (k + 1) (.tuple [a]) = true := okN_tup (fun d hd => by
  rw [List.mem_singleton.mp hd]
  exact h1) (by simp)
theorem ints_ok (k : Nat) (xs : List Int) (h : xs.length ≤ 100) : okN k (.tuple (iD xs)) = true := okN_ints k xs (by omega)
theorem st_ok (h : DOk n ss) (k : Nat) : ∀ s ∈ ss, okN k (stD s) = true := fun s hs => by
  have h1 := stOk_small h.n5 (h.st s hs)
  have h2 := (h.st s hs).len
  have h3 := h.n5
  cases k with
  | zero => rfl
  | succ k => exact okN_two (ints_ok k _ (by omega)) (ints_ok k _ (by omega))
theorem sts_ok (h : DOk n ss) (k : Nat) : okN k (.tuple (ssD ss)) = true := by
  have h3 := h.most
  cases k with
  | zero => rfl
  | succ k => exact okN_tup (fun d hd => by
      obtain ⟨s, hs, rfl⟩ := List.mem_map.mp hd
      exact st_ok h k s hs) (by rw [List.length_map]; omega)
abbrev putS (n : Nat) (ss : List StN) (q : Nat) (x : Z.D) : Z.D := .tuple [.int n, .tuple ((ssD ss).take q ++ [x] ++ (ssD ss).drop (q + 1))]
theorem putS_bad (h : DOk n ss) (q : Nat) (hq : q < ss.length) (x : Z.D) (hx : okN 2 x = true) (hb : stB n ss.length x = false) : BadDem (putS n ss q x) := by
  have hm := h.most
  have hlen : ((ssD ss).take q ++ [x] ++ (ssD ss).drop (q + 1)).length = ss.length := by simp; omega
  refine ⟨okN_two (okN_int _ _) (okN_tup (fun d hd => ?_) (by omega)), ?_⟩
  · have hr : ∀ y ∈ ssD ss, okN 2 y = true := fun y hy => by
      obtain ⟨s, hs, rfl⟩ := List.mem_map.mp hy
      exact st_ok h 2 s hs
    rcases List.mem_append.mp hd with hd | hd
    · rcases List.mem_append.mp hd with hd | hd
      · exact hr d (List.mem_of_mem_take hd)
      · rw [List.mem_singleton.mp hd]; exact hx
    · exact hr d (List.mem_of_mem_drop hd)
  · simp only [demB, Bool.and_eq_false_iff]
    right
    rw [← Bool.not_eq_true, List.all_eq_true]
    intro z
    have z := z x (by simp)
    rw [hlen] at z
    simp only [toI] at z
    rw [show ((n : Nat) : Int).toNat = n by omega, hb] at z
    cases z
def stsC (s : StN) : List Z.D := [.tuple [], .none, .int 1, .str (PySem.Str.ofString ""), .tuple [.tuple (iD s.1)], .tuple [.tuple (iD s.1), .tuple (iD s.2), .tuple []], .tuple [.tuple (iD s.2), .tuple (iD s.1), .int 0]]
theorem stsC_bad {size : Nat} {s : StN} (h1 : s.1.length ≤ 100) (h2 : s.2.length ≤ 100) : ∀ x ∈ stsC s, okN 2 x = true ∧ stB n size x = false := by
  intro x hx
  simp only [stsC, List.mem_cons, List.not_mem_nil, or_false] at hx
  rcases hx with rfl | rfl | rfl | rfl | rfl | rfl | rfl
  · exact ⟨rfl, rfl⟩
  · exact ⟨rfl, rfl⟩
  · exact ⟨rfl, rfl⟩
  · exact ⟨rfl, rfl⟩
  · exact ⟨okN_one (ints_ok _ _ h1), rfl⟩
  · exact ⟨okN_three (ints_ok _ _ h1) (ints_ok _ _ h2) rfl, rfl⟩
  · exact ⟨okN_three (ints_ok _ _ h2) (ints_ok _ _ h1) rfl, rfl⟩
def demsD (n : Nat) (ss : List StN) : List Z.D := [.tuple [.int 6, .tuple (ssD ss)], .tuple [.int (-1), .tuple (ssD ss)], .tuple [.none, .tuple (ssD ss)], .tuple [.str (PySem.Str.ofString "1"), .tuple (ssD ss)], .tuple [.int n, .tuple []], .tuple [.int n, .none], .tuple [.int n], .tuple [.int n, .tuple (ssD ss), .int 0], .tuple [], .none, .int 3, .str (PySem.Str.ofString "demand"), .tuple (ssD ss)]
theorem demsD_bad (h : DOk n ss) : ∀ b ∈ demsD n ss, BadDem b := by
  have o := sts_ok h
  intro b hb
  simp only [demsD, List.mem_cons, List.not_mem_nil, or_false] at hb
  rcases hb with rfl | rfl | rfl | rfl | rfl | rfl | rfl | rfl | rfl | rfl | rfl | rfl | rfl
  · exact ⟨okN_two (okN_int _ _) (o _), by simp [demB, below, inR]⟩
  · exact ⟨okN_two (okN_int _ _) (o _), by simp [demB, below, inR]⟩
  · exact ⟨okN_two rfl (o _), by simp [demB, below]⟩
  · exact ⟨okN_two rfl (o _), by simp [demB, below]⟩
  · exact ⟨rfl, by simp [demB]⟩
  · exact ⟨rfl, rfl⟩
  · exact ⟨rfl, rfl⟩
  · exact ⟨okN_three (okN_int _ _) (o _) rfl, rfl⟩
  · exact ⟨rfl, rfl⟩
  · exact ⟨rfl, rfl⟩
  · exact ⟨rfl, rfl⟩
  · exact ⟨rfl, rfl⟩
  · refine ⟨o _, ?_⟩
    match ss with
    | [] => rfl
    | [_] => rfl
    | [_, _] => simp [demB, below, stD]
    | _ :: _ :: _ :: _ => rfl
theorem spoilt_run (h : DOk n ss) (bx : List Z.D) (hb : Box bx) : ∃ (b : Z.D) (bx' : List Z.D) (z : Z.Env), Box bx' ∧ BadDem b ∧ m__law_spoilt (env0 7 [.o bx, .d (demD n ss)]) = .rt (.d b) (some (.o bx') :: z) := by
  have hn := h.n5
  have hm := h.most
  obtain ⟨q, bx1, r1, e1, hb1, hq⟩ := take_ok bx hb ss.length h.one (by omega)
  obtain ⟨t, bx2, r2, e2, hb2, ht⟩ := take_lit bx1 hb1 4 (by decide) (by decide)
  have e2 : m__law_take (env0 5 [.o bx1, .d (.int 4)]) = .rt (.d (.int t)) (some (.o bx2) :: r2) := e2
  have ix := stix hq
  have hs := h.st _ (st_get hq)
  have sm := stOk_small hn hs
  have l1 : (ss.getD q ([], [])).1.length ≤ 100 := by omega
  have l2 : (ss.getD q ([], [])).2.length ≤ 100 := by have := hs.len; omega
  obtain ⟨X, bx3, z3, hb3, hX, e3⟩ := sets_run hn bx2 hb2 (ss.getD q ([], [])).1 l1 hs.up
  obtain ⟨Y, bx4, z4, hb4, hY, e4⟩ := after_run h bx2 hb2 q hq l1
  obtain ⟨C, bx5, z5, hb5, hC, e5⟩ := pick_D bx2 hb2 (stsC (ss.getD q ([], []))) (by simp [stsC]) (by simp [stsC])
  obtain ⟨B, bx6, z6, hb6, hB, e6⟩ := pick_D bx2 hb2 (demsD n ss) (by simp [demsD]) (by simp [demsD])
  have bC := stsC_bad (n := n) (size := ss.length) l1 l2 C hC
  have bB := demsD_bad h B hB
  have c0 := cutD_take (ssD ss) q (by rw [List.length_map]; omega)
  have c1 : cutD (ssD ss) (some ((q : Int) + 1)) none = (ssD ss).drop (q + 1) := cutD_drop (ssD ss) (q + 1) (by rw [List.length_map]; omega)
  have g1 : ∀ e : Z.D, gCatT (.tuple ((ssD ss).take q)) (.tuple [e]) = some (.d (.tuple ((ssD ss).take q ++ [e]))) := fun e => by rw [gCatT_t, if_pos (by rw [List.length_take, List.length_map]; simp; omega)]
  have g2 : ∀ e : Z.D, gCatT (.tuple ((ssD ss).take q ++ [e])) (.tuple ((ssD ss).drop (q + 1))) = some (.d (.tuple ((ssD ss).take q ++ [e] ++ (ssD ss).drop (q + 1)))) := fun e => by rw [gCatT_t, if_pos (by rw [List.length_append, List.length_take, List.length_drop, List.length_map]; simp; omega)]
  have o2 : okN 2 (.tuple [X, .tuple (iD (ss.getD q ([], [])).2)]) = true := okN_two hX.ok (ints_ok _ _ l2)
  have o3 : okN 2 (.tuple [.tuple (iD (ss.getD q ([], [])).1), Y]) = true := okN_two (ints_ok _ _ l1) hY.ok
  have b2 : stB n ss.length (.tuple [X, .tuple (iD (ss.getD q ([], [])).2)]) = false := by simp only [stB, hX.bad, Bool.false_and]
  have fin := putS_bad h q hq
  have d1 : m__law_spoilt_s1 (env0 7 [.o bx, .d (demD n ss)]) = .nx [some (.o bx), some (.d (demD n ss)), some (.d (.int n)), some (.d (.tuple (ssD ss))), none, none, none] := rfl
  have p1 : mSeq m__law_spoilt_s2 (mSeq m__law_spoilt_s3 m__law_spoilt_s4) [some (.o bx), some (.d (demD n ss)), some (.d (.int n)), some (.d (.tuple (ssD ss))), none, none, none]
      = .nx [some (.o bx2), some (.d (demD n ss)), some (.d (.int n)), some (.d (.tuple (ssD ss))), some (.d (.int q)), some (.d (.int t)), some (.d (.tuple [.tuple (iD (ss.getD q ([], [])).1), .tuple (iD (ss.getD q ([], [])).2)]))] := by
    clear h hn hm hb1 hq hb2 ht hs sm l1 l2 hb3 hX e3 hb4 hY e4 hb5 hC e5 hb6 hB e6 bC bB c0 c1 g1 g2 o2 o3 b2 fin d1 hb
    unfold m__law_spoilt_s2 m__law_spoilt_s3 m__law_spoilt_s4
    walk_at "ev"
  have p6 : ∀ (bx' : List Z.D) (x : Z.D), ∃ z, m__law_spoilt_s6 [some (.o bx'), some (.d (demD n ss)), some (.d (.int n)), some (.d (.tuple (ssD ss))), some (.d (.int q)), some (.d (.int t)), some (.d x)] = .rt (.d (putS n ss q x)) (some (.o bx') :: z) := by
    intro bx' x
    clear h hn hm hb1 hq hb2 ht hs sm l1 l2 hb3 hX e3 hb4 hY e4 hb5 hC e5 hb6 hB e6 bC bB o2 o3 b2 fin d1 hb p1 ix e1 e2
    unfold m__law_spoilt_s6
    walk_at "ev"
    exact ⟨_, rfl⟩
  obtain ⟨E1, w1⟩ := seq_inv p1
  obtain ⟨E2, w2⟩ := seq_inv w1.2
  have go : ∀ (bx' : List Z.D) (x : Z.D), Box bx' → okN 2 x = true → stB n ss.length x = false → m__law_spoilt_s5 [some (.o bx2), some (.d (demD n ss)), some (.d (.int n)), some (.d (.tuple (ssD ss))), some (.d (.int q)), some (.d (.int t)), some (.d (.tuple [.tuple (iD (ss.getD q ([], [])).1), .tuple (iD (ss.getD q ([], [])).2)]))]
      = .nx [some (.o bx'), some (.d (demD n ss)), some (.d (.int n)), some (.d (.tuple (ssD ss))), some (.d (.int q)), some (.d (.int t)), some (.d x)] → ∃ (b : Z.D) (bx' : List Z.D) (z : Z.Env), Box bx' ∧ BadDem b ∧ m__law_spoilt (env0 7 [.o bx, .d (demD n ss)]) = .rt (.d b) (some (.o bx') :: z) := by
    intro bx' x hb' ho hx e
    obtain ⟨z, e6⟩ := p6 bx' x
    refine ⟨_, bx', z, hb', fin x ho hx, ?_⟩
    unfold m__law_spoilt
    rw [seq_nx d1, seq_nx w1.1, seq_nx w2.1, seq_nx w2.2, seq_nx e]
    exact e6
  have : t = 0 ∨ t = 1 ∨ t = 2 ∨ t = 3 := by omega
  have c3 : ((3 : Nat) : Int) = 3 := rfl
  simp only [stsC] at e5
  simp only [demsD] at e6
  rcases this with rfl | rfl | rfl | rfl
  · refine go bx3 _ hb3 o2 b2 ?_
    clear h hn hm hb1 hq hb2 ht hs sm l1 l2 hb3 hX hb4 hY e4 hb5 hC e5 hb6 hB e6 bC bB o2 o3 b2 fin d1 hb p1 ix e1 e2 p6 go w1 w2 c0 c1 g1 g2
    unfold m__law_spoilt_s5
    generalize ss.getD q ([], []) = s at *
    walk_at "ev"
  · refine go bx4 _ hb4 o3 hY.bad ?_
    clear h hn hm hb1 hq hb2 ht hs sm l1 l2 hb3 hX hb4 hY e3 hb5 hC e5 hb6 hB e6 bC bB o2 o3 b2 fin d1 hb p1 ix e1 e2 p6 go w1 w2 c0 c1 g1 g2
    unfold m__law_spoilt_s5
    generalize ss.getD q ([], []) = s at *
    walk_at "ev"
  · refine go bx5 _ hb5 bC.1 bC.2 ?_
    clear h hn hm hb1 hq hb2 ht hs sm l1 l2 hb3 hX hb4 hY e3 hb5 hC e4 hb6 hB e6 bC bB o2 o3 b2 fin d1 hb p1 ix e1 e2 p6 go w1 w2 c0 c1 g1 g2
    unfold m__law_spoilt_s5
    generalize ss.getD q ([], []) = s at *
    walk_at "ev"
  · have e : ∃ z, m__law_spoilt_s5 [some (.o bx2), some (.d (demD n ss)), some (.d (.int n)), some (.d (.tuple (ssD ss))), some (.d (.int q)), some (.d (.int (3 : Nat))), some (.d (.tuple [.tuple (iD (ss.getD q ([], [])).1), .tuple (iD (ss.getD q ([], [])).2)]))] = .rt (.d B) (some (.o bx6) :: z) := by
      clear h hn hm hb1 hq hb2 ht hs sm l1 l2 hb3 hX hb4 hY e3 hb5 hC e4 hb6 hB e5 bC bB o2 o3 b2 fin d1 hb p1 ix e1 e2 p6 go w1 w2 c0 c1 g1 g2
      unfold m__law_spoilt_s5
      generalize ss.getD q ([], []) = s at *
      walk_at "ev"
      exact ⟨_, rfl⟩
    obtain ⟨z, e⟩ := e
    refine ⟨B, bx6, z, hb6, bB, ?_⟩
    unfold m__law_spoilt
    rw [seq_nx d1, seq_nx w1.1, seq_nx w2.1, seq_nx w2.2]
    exact seq_rt e
end
end K03
namespace K03
open PySem L2 Z
section
variable {n : Nat} {ss : List StN} {b : Z.D}
def longS (ss : List StN) (k : Nat) : List StN := ss ++ List.replicate (k - ss.length) (ss.getD 0 ([], []))
theorem long_len (h : DOk n ss) (k : Nat) (hk : 40 ≤ k) : (longS ss k).length = k := by
  have := h.most
  rw [longS, List.length_append, List.length_replicate]
  omega
theorem long_mem (h : DOk n ss) (k : Nat) : ∀ s ∈ longS ss k, s ∈ ss := by
  intro s hs
  rcases List.mem_append.mp hs with hs | hs
  · exact hs
  · rw [List.eq_of_mem_replicate hs]
    exact st_get h.one
theorem long_ok (h : DOk n ss) : DOk n (longS ss 40) := by
  have l := long_len h 40 (by omega)
  refine ⟨h.n5, by omega, by omega, fun s hs => ?_⟩
  have q := h.st s (long_mem h 40 s hs)
  have := h.most
  exact ⟨q.up, q.rg, q.len, fun t ht => by have := q.to t ht; omega, q.st⟩
theorem long_bad (h : DOk n ss) : BadDem (demD n (longS ss 41)) := by
  have l := long_len h 41 (by omega)
  refine ⟨okN_two (okN_int _ _) (okN_tup (fun d hd => ?_) (by rw [List.length_map]; omega)), ?_⟩
  · obtain ⟨s, hs, rfl⟩ := List.mem_map.mp hd
    exact st_ok h 2 s (long_mem h 41 s hs)
  · simp only [demD, demB, List.length_map, l, Bool.and_eq_false_iff]
    left
    right
    right
    exact decide_eq_false (by omega)
theorem long_D (ss : List StN) (k : Nat) : demD n (longS ss k) = .tuple [.int n, .tuple (ssD ss ++ List.replicate (k - ss.length) (.tuple [.tuple (iD (ss.getD 0 ([], [])).1), .tuple (iD (ss.getD 0 ([], [])).2)]))] := by
  simp only [demD, longS, List.map_append, List.map_replicate, stD]
abbrev sLet : Z.D := .str (PySem.Str.ofString "let")
abbrev sDem : Z.D := .str (PySem.Str.ofString "demand")
abbrev sMach : Z.D := .str (PySem.Str.ofString "machine")
abbrev sLett : Z.D := .str (PySem.Str.ofString "letters")
theorem ref0_ok (h : DOk n ss) (x : Z.D) : ∃ z, m__law_refused (env0 5 [.d (.int 0), .d (demD n ss), .d x]) = .rt (.d sLet) z := by
  have c := check_dem h
  have one : ∃ z, m__law_one (env0 2 [.d (.int 0), .d (demD n ss)]) = .rt (.d .none) z := by
    clear h
    unfold m__law_one m__law_one_s1
    walk_at "st"
    walk_at "ev"
    exact ⟨_, rfl⟩
  obtain ⟨z, one⟩ := one
  clear h c
  unfold m__law_refused m__law_refused_s1
  walk_at "st"
  walk_at "ev"
  exact ⟨_, rfl⟩
theorem ref0_bad (h : BadDem b) (x : Z.D) : ∃ z, m__law_refused (env0 5 [.d (.int 0), .d b, .d x]) = .rt (.d sDem) z := by
  have c := checkdem_bad b h.ok h.bad
  have one : ∃ z, m__law_one (env0 2 [.d (.int 0), .d b]) = .exc 1 z := by
    clear h
    unfold m__law_one m__law_one_s1
    walk_at "st"
    walk_at "ev"
    exact ⟨_, rfl⟩
  obtain ⟨z, one⟩ := one
  have h0 : m_hd 1 = some sDem := rfl
  clear h c
  unfold m__law_refused m__law_refused_s1
  walk_at "st"
  walk_at "ev"
  exact ⟨_, rfl⟩
end
end K03
namespace K03
open PySem L2 Z
abbrev RefA : Prop := ∀ (b : Z.D) (n : Nat) (ss : List StN) (k : Nat), BadDem b → DOk n ss → k < 28 → ∃ z, m__law_refused (env0 5 [.d (.int (k : Int)), .d b, .d (demD n ss)]) = .rt (.d sDem) z
abbrev RefB : Prop := ∀ (n n' : Nat) (ss ss' : List StN) (k : Nat), DOk n ss → DOk n' ss' → n ≠ n' → k < 18 → ∃ z, m__law_refused (env0 5 [.d (.int (10 + (k : Int))), .d (demD n ss), .d (demD n' ss')]) = .rt (.d sLett) z
abbrev RefC : Prop := ∀ (b : Z.D) (n : Nat) (ss : List StN), BadDem b → DOk n ss → ∃ z, m__law_refused (env0 5 [.d (.int 28), .d b, .d (demD n ss)]) = .rt (.d sMach) z
def noS (n : Nat) : StN := ([], List.replicate n (-1))
theorem no_DOk (n : Nat) (hn : n ≤ 5) : DOk n [noS n] := by
  refine ⟨hn, by simp, by simp, fun s hs => ?_⟩
  rw [List.mem_singleton.mp hs]
  refine ⟨.nil, (fun b hb => nomatch hb), by simp [noS], fun t ht => ?_, fun b hb => nomatch hb⟩
  simp only [noS] at ht
  rw [List.eq_of_mem_replicate ht]
  simp
theorem no_D (n : Nat) : demD n [noS n] = .tuple [.int n, .tuple [.tuple [.tuple [], .tuple (List.replicate n (.int (-1)))]]] := by
  simp only [demD, stD, noS, List.map_cons, List.map_nil, List.map_replicate]
section
variable {n : Nat} {ss : List StN} {sc : Option Z.S} {bx : List Z.D}
abbrev EG (sc : Option Z.S) (bx : List Z.D) (n : Nat) (ss : List StN) (x4 x5 x6 x7 x8 : Option Z.S) : Z.Env := [sc, some (.o bx), some (.d (.int n)), some (.d (demD n ss)), x4, x5, x6, x7, x8]
theorem s4_ok (h : DOk n ss) (x4 x5 x6 x7 x8 : Option Z.S) : m_law_s4 (EG sc bx n ss x4 x5 x6 x7 x8) = .nx (EG sc bx n ss x4 x5 x6 x7 x8) := by
  obtain ⟨z, e⟩ := ref0_ok h (demD n ss)
  have ne : gNe sLet sLet = some (.d (.bool false)) := gNe_str _ (by decide +kernel)
  unfold m_law_s4 EG
  clear h
  walk_at "ev"
theorem s56_ok (h : DOk n ss) (hb : Box bx) (x4 x5 x6 x7 x8 : Option Z.S) : ∃ (t : Nat) (bx' : List Z.D), t < 2 ∧ Box bx' ∧ mSeq m_law_s5 m_law_s6 (EG sc bx n ss x4 x5 x6 x7 x8) = .nx (EG sc bx' n ss (some (.d (.int ((40 + t : Nat) : Int)))) (some (.d (demD n (longS ss (40 + t))))) x6 x7 x8) := by
  obtain ⟨t, bx', r, e, hb', ht⟩ := take_lit bx hb 2 (by decide) (by decide)
  have e : m__law_take (env0 5 [.o bx, .d (.int 2)]) = .rt (.d (.int t)) (some (.o bx') :: r) := e
  refine ⟨t, bx', ht, hb', ?_⟩
  have hm := h.most
  have cw : (40 : Int) + (t : Int) = ((40 + t : Nat) : Int) := by push_cast; rfl
  have cs : ((40 + t : Nat) : Int) - (ss.length : Int) = ((40 + t - ss.length : Nat) : Int) := by omega
  have lt : 40 + t - ss.length ≤ 1000 := by omega
  have d1 : gIx (demD n ss) (.int 1) = some (.d (.tuple (ssD ss))) := rfl
  have i0 : (ssD ss)[0]? = some (.tuple [.tuple (iD (ss.getD 0 ([], [])).1), .tuple (iD (ss.getD 0 ([], [])).2)]) := by
    have := h.one
    rw [List.getElem?_map, List.getElem?_eq_getElem (by omega), List.getD_eq_getElem?_getD, List.getElem?_eq_getElem (by omega)]
    rfl
  have g : ∀ y : Z.D, gCatT (.tuple (ssD ss)) (.tuple (List.replicate (40 + t - ss.length) y)) = some (.d (.tuple (ssD ss ++ List.replicate (40 + t - ss.length) y))) := fun y => by
    rw [gCatT_t, if_pos (by rw [List.length_map, List.length_replicate]; omega)]
  rw [long_D]
  generalize hk : 40 + t - ss.length = k at *
  unfold m_law_s5 m_law_s6 EG
  clear ht hb hb' h hm hk
  generalize ss.getD 0 ([], []) = s at *
  walk_at "ev"
theorem s7_ok (h : DOk n ss) (t : Nat) (ht : t < 2) (x6 x7 x8 : Option Z.S) : m_law_s7 (EG sc bx n ss (some (.d (.int ((40 + t : Nat) : Int)))) (some (.d (demD n (longS ss (40 + t))))) x6 x7 x8) = .nx (EG sc bx n ss (some (.d (.int ((40 + t : Nat) : Int)))) (some (.d (demD n (longS ss (40 + t))))) x6 x7 x8) := by
  have : t = 0 ∨ t = 1 := by omega
  unfold m_law_s7 EG
  rcases this with rfl | rfl
  · obtain ⟨z, e⟩ := ref0_ok (long_ok h) (demD n ss)
    have e : m__law_refused (env0 5 [.d (.int 0), .d (demD n (longS ss (40 + 0))), .d (demD n ss)]) = .rt (.d sLet) z := e
    have ne : gNe sLet sLet = some (.d (.bool false)) := gNe_str _ (by decide +kernel)
    have c : ((40 + 0 : Nat) : Int) = 40 := rfl
    generalize demD n (longS ss (40 + 0)) = w at *
    clear h ht
    walk_at "ev"
  · obtain ⟨z, e⟩ := ref0_bad (long_bad h) (demD n ss)
    have e : m__law_refused (env0 5 [.d (.int 0), .d (demD n (longS ss (40 + 1))), .d (demD n ss)]) = .rt (.d sDem) z := e
    have ne : gNe sDem sDem = some (.d (.bool false)) := gNe_str _ (by decide +kernel)
    have c : ((40 + 1 : Nat) : Int) = 41 := rfl
    generalize demD n (longS ss (40 + 1)) = w at *
    clear h ht
    walk_at "ev"
theorem s9_ok (hn : n ≤ 5) (x4 x5 x6 x7 x8 : Option Z.S) : m_law_s9 (EG sc bx n ss x4 x5 x6 x7 x8) = .nx (EG sc bx n ss x4 x5 x6 (some (.d (demD ((n + 1) % 6) [noS ((n + 1) % 6)]))) x8) := by
  have cw : ((n : Int) + 1) % 6 = (((n + 1) % 6 : Nat) : Int) := by omega
  have lt : (n + 1) % 6 ≤ 1000 := by omega
  rw [no_D]
  generalize (n + 1) % 6 = k at *
  unfold m_law_s9 EG
  clear hn
  walk_at "ev"
theorem s10_ok (RA : RefA) (h : DOk n ss) (b : Z.D) (hb : BadDem b) (n' : Nat) (ss' : List StN) (h' : DOk n' ss') (x4 x5 x8 : Option Z.S) :
    ∃ y8, m_law_s10 (EG sc bx n ss x4 x5 (some (.d b)) (some (.d (demD n' ss'))) x8) = .nx (EG sc bx n ss x4 x5 (some (.d b)) (some (.d (demD n' ss'))) y8) := by
  have ne : gNe sDem sDem = some (.d (.bool false)) := gNe_str _ (by decide +kernel)
  obtain ⟨ρ', e, y8, rfl⟩ := forL_nats (b := bName 8) (body := m_law_b1) (fun k ρ => ∃ y8, ρ = EG sc bx n ss x4 x5 (some (.d b)) (some (.d (demD n' ss'))) y8) 28
    (EG sc bx n ss x4 x5 (some (.d b)) (some (.d (demD n' ss'))) x8) ⟨x8, rfl⟩ fun k hk ρ hρ => by
      obtain ⟨y8, rfl⟩ := hρ
      obtain ⟨z, e⟩ := RA b n ss k hb h hk
      obtain ⟨z', e'⟩ := RA b n' ss' k hb h' hk
      have t : m_law_b1 (EG sc bx n ss x4 x5 (some (.d b)) (some (.d (demD n' ss'))) (some (.d (.int (k : Int))))) = .nx (EG sc bx n ss x4 x5 (some (.d b)) (some (.d (demD n' ss'))) (some (.d (.int (k : Int))))) := by
        unfold m_law_b1 EG
        clear RA h h' hb hk
        by_cases q : (21 : Int) < (k : Int)
        · walk_at "ev"
        · walk_at "ev"
      exact ⟨_, _, rfl, t, _, rfl⟩
  refine ⟨y8, ?_⟩
  unfold m_law_s10
  rw [mFor_k, show mRng1 (mCons (mC (.int 28)) mNil) (EG sc bx n ss x4 x5 (some (.d b)) (some (.d (demD n' ss'))) x8) = .ok (natsD 28) (EG sc bx n ss x4 x5 (some (.d b)) (some (.d (demD n' ss'))) x8) by
    clear e RA h h' hb ne
    walk_at "ev"]
  exact e
theorem s12_ok (RC : RefC) (h : DOk n ss) (b : Z.D) (hb : BadDem b) (x4 x5 x7 x8 : Option Z.S) : ∃ z, m_law_s12 (EG sc bx n ss x4 x5 (some (.d b)) x7 x8) = .rt (.d (.bool true)) z := by
  obtain ⟨z, e⟩ := RC b n ss hb h
  have ne1 : gEq sMach sMach = some (.d (.bool true)) := by
    have h : SeqAt.shaped sMach = true := by decide +kernel
    unfold gEq
    rw [h]
    simp [PyData.eqv]
  unfold m_law_s12 EG
  clear RC h hb
  walk_at "ev"
  exact ⟨_, rfl⟩
end
end K03
namespace K03
open PySem L2 Z
section
variable {n : Nat} {ss : List StN} {sc : Option Z.S} {bx : List Z.D}
def tenD : List Z.D := (List.range 18).map fun k : Nat => PyData.int (10 + (k : Int))
theorem ten_rng (ρ : Z.Env) : mRng2 (mCons (mC (.int 10)) (mCons (mC (.int 28)) mNil)) ρ = .ok tenD ρ := by
  rw [mRng2_k]
  show rng2K [.d (.int 10), .d (.int 28)] ρ = _
  unfold rng2K
  rfl
theorem s11_ok (RA : RefA) (RB : RefB) (h : DOk n ss) (b : Z.D) (hb : BadDem b) (n' : Nat) (ss' : List StN) (h' : DOk n' ss') (hn : n ≠ n') (x4 x5 x8 : Option Z.S) :
    ∃ y8, m_law_s11 (EG sc bx n ss x4 x5 (some (.d b)) (some (.d (demD n' ss'))) x8) = .nx (EG sc bx n ss x4 x5 (some (.d b)) (some (.d (demD n' ss'))) y8) := by
  have ne : gNe sDem sDem = some (.d (.bool false)) := gNe_str _ (by decide +kernel)
  have ne2 : gNe sLett sLett = some (.d (.bool false)) := gNe_str _ (by decide +kernel)
  obtain ⟨ρ', e, y8, rfl⟩ := forL_enc (b := bName 8) (body := m_law_b2) (fun k : Nat => PyData.int (10 + (k : Int))) (fun _ ρ => ∃ y8, ρ = EG sc bx n ss x4 x5 (some (.d b)) (some (.d (demD n' ss'))) y8) (List.range 18)
    (EG sc bx n ss x4 x5 (some (.d b)) (some (.d (demD n' ss'))) x8) ⟨x8, rfl⟩ fun k hk ρ hρ => by
      rw [List.length_range] at hk
      rw [List.getElem_range]
      obtain ⟨y8, rfl⟩ := hρ
      obtain ⟨z, e⟩ := RA b n' ss' (10 + k) hb h' (by omega)
      have ck : ((10 + k : Nat) : Int) = 10 + (k : Int) := by push_cast; rfl
      rw [ck] at e
      obtain ⟨z', e'⟩ := RB n n' ss ss' k h h' hn hk
      have t : m_law_b2 (EG sc bx n ss x4 x5 (some (.d b)) (some (.d (demD n' ss'))) (some (.d (.int (10 + (k : Int)))))) = .nx (EG sc bx n ss x4 x5 (some (.d b)) (some (.d (demD n' ss'))) (some (.d (.int (10 + (k : Int)))))) := by
        unfold m_law_b2 EG
        clear RA RB h h' hb hk hn ck
        walk_at "ev"
      exact ⟨_, _, rfl, t, _, rfl⟩
  refine ⟨y8, ?_⟩
  unfold m_law_s11
  rw [mFor_k, ten_rng]
  exact e
theorem law_from (RA : RefA) (RB : RefB) (RC : RefC) : ∀ ns : List Int, ns.length ≤ 63 → ∃ ρ', m_law (env0 9 [.d (.list (ns.map .int))]) = .rt (.d (.bool true)) ρ' := by
  intro ns hns
  obtain ⟨r0, bx0, e0, hb0⟩ := box_ok ns hns
  obtain ⟨n, bx1, r1, e1, hb1, hn⟩ := take_lit bx0 hb0 6 (by decide) (by decide)
  have hn5 : n ≤ 5 := by omega
  have e1 : m__law_take (env0 5 [.o bx0, .d (.int 6)]) = .rt (.d (.int n)) (some (.o bx1) :: r1) := e1
  obtain ⟨bx2, ss, r2, hb2, h, hs5, e2⟩ := demand_run bx1 hb1 n hn5 5 (by decide) (by decide)
  have e2 : m__law_demand (env0 12 [.o bx1, .d (.int n), .d (.int 5)]) = .rt (.d (demD n ss)) (some (.o bx2) :: r2) := e2
  have p1 : mSeq m_law_s1 (mSeq m_law_s2 m_law_s3) (env0 9 [.d (.list (ns.map .int))]) = .nx (EG (some (.d (.list (ns.map .int)))) bx2 n ss none none none none none) := by
    clear hns hb0 hb1 hb2 h hs5 hn hn5 RA RB RC
    unfold m_law_s1 m_law_s2 m_law_s3
    walk_at "st"
    walk_at "ev"
  have p4 := s4_ok (sc := some (.d (.list (ns.map .int)))) (bx := bx2) h none none none none none
  obtain ⟨t, bx3, ht, hb3, p5⟩ := s56_ok (sc := some (.d (.list (ns.map .int)))) h hb2 none none none none none
  have p7 := s7_ok (sc := some (.d (.list (ns.map .int)))) (bx := bx3) h t ht none none none
  obtain ⟨b, bx4, r9, hb4, hbad, e9⟩ := spoilt_run h bx3 hb3
  generalize demD n (longS ss (40 + t)) = L at *
  generalize ((40 + t : Nat) : Int) = T at *
  have p8 : m_law_s8 (EG (some (.d (.list (ns.map .int)))) bx3 n ss (some (.d (.int T))) (some (.d L)) none none none) = .nx (EG (some (.d (.list (ns.map .int)))) bx4 n ss (some (.d (.int T))) (some (.d L)) (some (.d b)) none none) := by
    unfold m_law_s8 EG
    clear p1 p4 p5 p7 e0 e1 e2 hns hb0 hb1 hb2 hb3 hb4 h hs5 hn hn5 ht hbad RA RB RC
    walk_at "ev"
  have p9 := s9_ok (sc := some (.d (.list (ns.map .int)))) (bx := bx4) (ss := ss) hn5 (some (.d (.int T))) (some (.d L)) (some (.d b)) none none
  have h' := no_DOk ((n + 1) % 6) (by omega)
  obtain ⟨y8, p10⟩ := s10_ok (sc := some (.d (.list (ns.map .int)))) (bx := bx4) RA h b hbad _ _ h' (some (.d (.int T))) (some (.d L)) none
  obtain ⟨z8, p11⟩ := s11_ok (sc := some (.d (.list (ns.map .int)))) (bx := bx4) RA RB h b hbad _ _ h' (by omega) (some (.d (.int T))) (some (.d L)) y8
  obtain ⟨z, p12⟩ := s12_ok (sc := some (.d (.list (ns.map .int)))) (bx := bx4) RC h b hbad (some (.d (.int T))) (some (.d L)) (some (.d (demD ((n + 1) % 6) [noS ((n + 1) % 6)]))) z8
  obtain ⟨E1, q1⟩ := seq_inv p1
  obtain ⟨E2, q2⟩ := seq_inv q1.2
  obtain ⟨E3, q3⟩ := seq_inv p5
  unfold m_law
  rw [seq_nx q1.1, seq_nx q2.1, seq_nx q2.2, seq_nx p4, seq_nx q3.1, seq_nx q3.2, seq_nx p7, seq_nx p8, seq_nx p9, seq_nx p10, seq_nx p11]
  exact ⟨z, p12⟩
end
end K03
namespace K03
open PySem L2 Z
section
variable {n : Nat} {ss : List StN} {b : Z.D}
theorem hollow_no (h : BadDem b) : ∃ z, m_hollow (env0 1 [.d b]) = .exc 1 z := by
  have c := checkdem_bad b h.ok h.bad
  clear h
  unfold m_hollow m_hollow_s1
  walk_at "st"
  walk_at "ev"
  exact ⟨_, rfl⟩
theorem trimmed_no (h : BadDem b) : ∃ z, m_trimmed (env0 1 [.d b]) = .exc 1 z := by
  have c := checkdem_bad b h.ok h.bad
  clear h
  unfold m_trimmed m_trimmed_s1
  walk_at "st"
  walk_at "ev"
  exact ⟨_, rfl⟩
theorem some_no (h : BadDem b) : ∃ z, m_some (env0 3 [.d b]) = .exc 1 z := by
  obtain ⟨z, c⟩ := trimmed_no h
  clear h
  unfold m_some m_some_s1
  walk_at "st"
  walk_at "ev"
  exact ⟨_, rfl⟩
theorem withword_no (h : BadDem b) (x y : Z.D) : ∃ z, m_with_word (env0 15 [.d b, .d x, .d y]) = .exc 1 z := by
  have c := checkdem_bad b h.ok h.bad
  clear h
  unfold m_with_word m_with_word_s1
  walk_at "st"
  walk_at "ev"
  exact ⟨_, rfl⟩
theorem ladder_no (h : BadDem b) : ∃ z, m_ladder (env0 1 [.d b]) = .exc 1 z := by
  have c := checkdem_bad b h.ok h.bad
  clear h
  unfold m_ladder m_ladder_s1
  walk_at "st"
  walk_at "ev"
  exact ⟨_, rfl⟩
theorem isladder_no (h : BadDem b) (x : Z.D) : ∃ z, m_is_ladder (env0 4 [.d b, .d x]) = .exc 1 z := by
  have c := checkdem_bad b h.ok h.bad
  clear h
  unfold m_is_ladder m_is_ladder_s1
  walk_at "st"
  walk_at "ev"
  exact ⟨_, rfl⟩
theorem ledto_no (h : BadDem b) (x : Z.D) : ∃ z, m_led_to (env0 2 [.d b, .d x]) = .exc 1 z := by
  have c := checkdem_bad b h.ok h.bad
  clear h
  unfold m_led_to m_led_to_s1
  walk_at "st"
  walk_at "ev"
  exact ⟨_, rfl⟩
theorem one_ok {n' : Nat} (hn : n' ≤ 5) : MOk n' [[]] := ⟨hn, by simp, by simp, (fun r hr e he => by rw [List.mem_singleton.mp hr] at he; cases he), (fun r hr => by rw [List.mem_singleton.mp hr]; exact .nil), by simp [totR]⟩
/-- keeps, is_kept: a machine, then what is no demand; no machine; other letters -/
theorem ck_bad (hn : n ≤ 5) (h : BadDem b) : ∃ z, m__check_both (env0 2 [.d (.tuple [.int n, .tuple [.tuple []]]), .d b]) = .exc 1 z := by
  have c := check_mach (one_ok hn)
  have c : m_check_machine (env0 1 [.d (.tuple [.int n, .tuple [.tuple []]])]) = .nx [some (.d (machD n [[]]))] := c
  have d := checkdem_bad b h.ok h.bad
  clear h hn
  unfold m__check_both m__check_both_s1 m__check_both_s2
  walk_at "st"
  walk_at "ev"
  exact ⟨_, rfl⟩
theorem ck_mach (y : Z.D) : ∃ z, m__check_both (env0 2 [.d (.tuple [.int 9, .tuple []]), .d y]) = .exc 0 z := by
  have c := checkmach_bad (.tuple [.int 9, .tuple []]) rfl rfl
  unfold m__check_both m__check_both_s1
  walk_at "st"
  walk_at "ev"
  exact ⟨_, rfl⟩
theorem ck_lett {n' : Nat} (hn : n' ≤ 5) (h : DOk n ss) (hne : (n' : Int) ≠ (n : Int)) : ∃ z, m__check_both (env0 2 [.d (.tuple [.int n', .tuple [.tuple []]]), .d (demD n ss)]) = .exc 2 z := by
  have c := check_mach (one_ok hn)
  have c : m_check_machine (env0 1 [.d (.tuple [.int n', .tuple [.tuple []]])]) = .nx [some (.d (machD n' [[]]))] := c
  have d := check_dem h
  have d0 : gIx (demD n ss) (.int 0) = some (.d (.int n)) := rfl
  have dn : decide ((n' : Int) = (n : Int)) = false := decide_eq_false hne
  have cs : ∃ z, m_check_same_letters (env0 2 [.d (.tuple [.int n', .tuple [.tuple []]]), .d (demD n ss)]) = .exc 2 z := by
    clear c d h hn
    unfold m_check_same_letters m_check_same_letters_s1
    walk_at "st"
    walk_at "ev"
    exact ⟨_, rfl⟩
  obtain ⟨z, cs⟩ := cs
  clear h hn d0 dn hne
  unfold m__check_both m__check_both_s1 m__check_both_s2 m__check_both_s3
  walk_at "st"
  walk_at "ev"
  exact ⟨_, rfl⟩
theorem refC : RefC := by
  intro b n ss hb h
  obtain ⟨z, c⟩ := ck_mach b
  have k : ∃ z, m_keeps (env0 19 [.d (.tuple [.int 9, .tuple []]), .d b]) = .exc 0 z := by
    clear hb h
    unfold m_keeps m_keeps_s1
    walk_at "st"
    walk_at "ev"
    exact ⟨_, rfl⟩
  obtain ⟨z, k⟩ := k
  have d0 : gIx (demD n ss) (.int 0) = some (.d (.int n)) := rfl
  have t : ∃ z, m__law_third (env0 4 [.d (.int 28), .d b, .d (demD n ss)]) = .exc 0 z := by
    clear hb h c
    unfold m__law_third m__law_third_s1 m__law_third_s2 m__law_third_s3 m__law_third_s4 m__law_third_s5 m__law_third_s6 m__law_third_s7 m__law_third_s8
    walk_at "st"
    walk_at "ev"
    exact ⟨_, rfl⟩
  obtain ⟨z, t⟩ := t
  have h0 : m_hd 0 = some sMach := rfl
  clear hb h c k
  unfold m__law_refused m__law_refused_s1
  walk_at "st"
  walk_at "ev"
  exact ⟨_, rfl⟩
end
end K03
namespace K03
open PySem L2 Z
section
variable {n n' : Nat} {ss ss' : List StN} {b x y : Z.D} {c : Nat} {z : Z.Env}
/-! ### stage 3's functions pass on what check_two_demands and _check_three raise -/
theorem joined_no (h : m_check_two_demands (env0 2 [.d x, .d y]) = .exc c z) : ∃ z', m__joined (env0 15 [.d x, .d y]) = .exc c z' := by
  unfold m__joined m__joined_s1
  walk_at "st"
  walk_at "ev"
  exact ⟨_, rfl⟩
theorem meet_no (h : m_check_two_demands (env0 2 [.d x, .d y]) = .exc c z) : ∃ z', m_meet (env0 2 [.d x, .d y]) = .exc c z' := by
  obtain ⟨z', e⟩ := joined_no h
  clear h
  unfold m_meet m_meet_s1
  walk_at "st"
  walk_at "ev"
  exact ⟨_, rfl⟩
theorem either_no (h : m_check_two_demands (env0 2 [.d x, .d y]) = .exc c z) : ∃ z', m_either (env0 2 [.d x, .d y]) = .exc c z' := by
  obtain ⟨z', e⟩ := joined_no h
  clear h
  unfold m_either m_either_s1
  walk_at "st"
  walk_at "ev"
  exact ⟨_, rfl⟩
theorem beside_no (h : m_check_two_demands (env0 2 [.d x, .d y]) = .exc c z) : ∃ z', m_beside (env0 2 [.d x, .d y]) = .exc c z' := by
  obtain ⟨z', e⟩ := joined_no h
  clear h
  unfold m_beside m_beside_s1
  walk_at "st"
  walk_at "ev"
  exact ⟨_, rfl⟩
theorem parts_no (h : m_check_two_demands (env0 2 [.d x, .d y]) = .exc c z) (u v : Z.D) : ∃ z', m_parts (env0 6 [.d x, .d y, .d u, .d v]) = .exc c z' := by
  unfold m_parts m_parts_s1
  walk_at "st"
  walk_at "ev"
  exact ⟨_, rfl⟩
theorem refines_no (h : m_check_two_demands (env0 2 [.d x, .d y]) = .exc c z) : ∃ z', m_refines (env0 8 [.d x, .d y]) = .exc c z' := by
  unfold m_refines m_refines_s1
  walk_at "st"
  walk_at "ev"
  exact ⟨_, rfl⟩
theorem takes_no (h : m_check_two_demands (env0 2 [.d x, .d y]) = .exc c z) (u : Z.D) : ∃ z', m_takes (env0 3 [.d x, .d y, .d u]) = .exc c z' := by
  unfold m_takes m_takes_s1
  walk_at "st"
  walk_at "ev"
  exact ⟨_, rfl⟩
theorem equal_no (h : m_check_two_demands (env0 2 [.d x, .d y]) = .exc c z) : ∃ z', m_equal (env0 2 [.d x, .d y]) = .exc c z' := by
  unfold m_equal m_equal_s1
  walk_at "st"
  walk_at "ev"
  exact ⟨_, rfl⟩
theorem divided_no (h : m_check_two_demands (env0 2 [.d x, .d y]) = .exc c z) : ∃ z', m_divided (env0 17 [.d x, .d y]) = .exc c z' := by
  unfold m_divided m_divided_s1
  walk_at "st"
  walk_at "ev"
  exact ⟨_, rfl⟩
theorem missing_no (h : m_check_two_demands (env0 2 [.d x, .d y]) = .exc c z) : ∃ z', m_missing (env0 2 [.d x, .d y]) = .exc c z' := by
  obtain ⟨z', e⟩ := divided_no h
  clear h
  unfold m_missing m_missing_s1
  walk_at "st"
  walk_at "ev"
  exact ⟨_, rfl⟩
theorem completes_no {m : Z.D} (h : m__check_three (env0 3 [.d m, .d x, .d y]) = .exc c z) : ∃ z', m_completes (env0 6 [.d m, .d x, .d y]) = .exc c z' := by
  unfold m_completes m_completes_s1
  walk_at "st"
  walk_at "ev"
  exact ⟨_, rfl⟩
theorem accepts_no {m : Z.D} (h : m__check_three (env0 3 [.d m, .d x, .d y]) = .exc c z) (u : Z.D) : ∃ z', m_accepts (env0 4 [.d m, .d x, .d y, .d u]) = .exc c z' := by
  unfold m_accepts m_accepts_s1
  walk_at "st"
  walk_at "ev"
  exact ⟨_, rfl⟩
theorem keeps_no {m : Z.D} (h : m__check_both (env0 2 [.d m, .d x]) = .exc c z) : ∃ z', m_keeps (env0 19 [.d m, .d x]) = .exc c z' := by
  unfold m_keeps m_keeps_s1
  walk_at "st"
  walk_at "ev"
  exact ⟨_, rfl⟩
theorem iskept_no {m : Z.D} (h : m__check_both (env0 2 [.d m, .d x]) = .exc c z) (u : Z.D) : ∃ z', m_is_kept (env0 3 [.d m, .d x, .d u]) = .exc c z' := by
  unfold m_is_kept m_is_kept_s1
  walk_at "st"
  walk_at "ev"
  exact ⟨_, rfl⟩
theorem least_no (h : BadDem b) : ∃ z, m_least (env0 1 [.d b]) = .exc 1 z := by
  have c := checkdem_bad b h.ok h.bad
  clear h
  unfold m_least m_least_s1
  walk_at "st"
  walk_at "ev"
  exact ⟨_, rfl⟩
theorem written_no (h : BadDem b) : ∃ z, m_written_demand (env0 12 [.d b]) = .exc 1 z := by
  have c := checkdem_bad b h.ok h.bad
  clear h
  unfold m_written_demand m_written_demand_s1
  walk_at "st"
  walk_at "ev"
  exact ⟨_, rfl⟩
/-! ### what check_two_demands and _check_three raise -/
theorem two1 (h : BadDem b) (y : Z.D) : ∃ z, m_check_two_demands (env0 2 [.d b, .d y]) = .exc 1 z := by
  have c := checkdem_bad b h.ok h.bad
  clear h
  unfold m_check_two_demands m_check_two_demands_s1
  walk_at "st"
  walk_at "ev"
  exact ⟨_, rfl⟩
theorem two2 (h' : DOk n ss) (h : BadDem b) : ∃ z, m_check_two_demands (env0 2 [.d (demD n ss), .d b]) = .exc 1 z := by
  have c := checkdem_bad b h.ok h.bad
  have d := check_dem h'
  clear h h'
  unfold m_check_two_demands m_check_two_demands_s1 m_check_two_demands_s2
  walk_at "st"
  walk_at "ev"
  exact ⟨_, rfl⟩
theorem same_no (h : gIx x (.int 0) = some (.d (.int n))) (h' : gIx y (.int 0) = some (.d (.int n'))) (hn : n ≠ n') : ∃ z, m_check_same_letters (env0 2 [.d x, .d y]) = .exc 2 z := by
  have dn : decide ((n : Int) = (n' : Int)) = false := decide_eq_false (by omega)
  clear hn
  unfold m_check_same_letters m_check_same_letters_s1
  walk_at "st"
  walk_at "ev"
  exact ⟨_, rfl⟩
theorem same_yes (h : gIx x (.int 0) = some (.d (.int n))) (h' : gIx y (.int 0) = some (.d (.int n))) : m_check_same_letters (env0 2 [.d x, .d y]) = .nx [some (.d x), some (.d y)] := by
  have dn : decide ((n : Int) = (n : Int)) = true := decide_eq_true rfl
  unfold m_check_same_letters m_check_same_letters_s1
  walk_at "st"
  walk_at "ev"
theorem dem_ix (n : Nat) (ss : List StN) : gIx (demD n ss) (.int 0) = some (.d (.int n)) := rfl
theorem two3 (h : DOk n ss) (h' : DOk n' ss') (hn : n ≠ n') : ∃ z, m_check_two_demands (env0 2 [.d (demD n ss), .d (demD n' ss')]) = .exc 2 z := by
  have c := check_dem h
  have d := check_dem h'
  obtain ⟨z, e⟩ := same_no (dem_ix n ss) (dem_ix n' ss') hn
  clear h h' hn
  unfold m_check_two_demands m_check_two_demands_s1 m_check_two_demands_s2 m_check_two_demands_s3
  walk_at "st"
  walk_at "ev"
  exact ⟨_, rfl⟩
abbrev oneM (n : Nat) : Z.D := .tuple [.int n, .tuple [.tuple []]]
theorem three1 (hn : n ≤ 5) (h : BadDem b) (y : Z.D) : ∃ z, m__check_three (env0 3 [.d (oneM n), .d b, .d y]) = .exc 1 z := by
  have c := check_mach (one_ok hn)
  have c : m_check_machine (env0 1 [.d (oneM n)]) = .nx [some (.d (machD n [[]]))] := c
  have d := checkdem_bad b h.ok h.bad
  clear h hn
  unfold m__check_three m__check_three_s1 m__check_three_s2
  walk_at "st"
  walk_at "ev"
  exact ⟨_, rfl⟩
theorem three2 (hn : n ≤ 5) (h' : DOk n' ss') (h : BadDem b) : ∃ z, m__check_three (env0 3 [.d (oneM n), .d (demD n' ss'), .d b]) = .exc 1 z := by
  have c := check_mach (one_ok hn)
  have c : m_check_machine (env0 1 [.d (oneM n)]) = .nx [some (.d (machD n [[]]))] := c
  have d := checkdem_bad b h.ok h.bad
  have e := check_dem h'
  clear h hn h'
  unfold m__check_three m__check_three_s1 m__check_three_s2 m__check_three_s3
  walk_at "st"
  walk_at "ev"
  exact ⟨_, rfl⟩
theorem three3 (h : DOk n ss) (h' : DOk n' ss') (hn : n ≠ n') : ∃ z, m__check_three (env0 3 [.d (oneM n'), .d (demD n ss), .d (demD n' ss')]) = .exc 2 z := by
  have c := check_mach (one_ok h'.n5)
  have c : m_check_machine (env0 1 [.d (oneM n')]) = .nx [some (.d (machD n' [[]]))] := c
  have d := check_dem h
  have e := check_dem h'
  obtain ⟨z, g⟩ := same_no (x := oneM n') (n := n') rfl (dem_ix n ss) (fun q => hn q.symm)
  clear h hn h'
  unfold m__check_three m__check_three_s1 m__check_three_s2 m__check_three_s3 m__check_three_s4
  walk_at "st"
  walk_at "ev"
  exact ⟨_, rfl⟩
theorem three4 (h : DOk n ss) (h' : DOk n' ss') (hn : n ≠ n') : ∃ z, m__check_three (env0 3 [.d (oneM n'), .d (demD n' ss'), .d (demD n ss)]) = .exc 2 z := by
  have c := check_mach (one_ok h'.n5)
  have c : m_check_machine (env0 1 [.d (oneM n')]) = .nx [some (.d (machD n' [[]]))] := c
  have d := check_dem h
  have e := check_dem h'
  have g1 := same_yes (x := oneM n') (n := n') rfl (dem_ix n' ss')
  obtain ⟨z, g⟩ := same_no (dem_ix n' ss') (dem_ix n ss) (fun q => hn q.symm)
  clear h hn h'
  unfold m__check_three m__check_three_s1 m__check_three_s2 m__check_three_s3 m__check_three_s4 m__check_three_s5
  walk_at "st"
  walk_at "ev"
  exact ⟨_, rfl⟩
end
end K03
namespace K03
open PySem L2 Z
section
variable {n n' : Nat} {ss ss' : List StN} {b x y : Z.D} {c : Nat}
theorem one_no (h : BadDem b) (k : Nat) (hk : k < 10) : ∃ z, m__law_one (env0 2 [.d (.int (k : Int)), .d b]) = .exc 1 z := by
  have c0 := checkdem_bad b h.ok h.bad
  obtain ⟨z1, c1⟩ := hollow_no h
  obtain ⟨z2, c2⟩ := least_no h
  obtain ⟨z3, c3⟩ := trimmed_no h
  obtain ⟨z4, c4⟩ := some_no h
  obtain ⟨z5, c5⟩ := withword_no h (.str (PySem.Str.ofString "")) (.int (-1))
  obtain ⟨z6, c6⟩ := ladder_no h
  obtain ⟨z7, c7⟩ := isladder_no h (.tuple [])
  obtain ⟨z8, c8⟩ := written_no h
  obtain ⟨z9, c9⟩ := ledto_no h (.str (PySem.Str.ofString ""))
  clear h
  have : k = 0 ∨ k = 1 ∨ k = 2 ∨ k = 3 ∨ k = 4 ∨ k = 5 ∨ k = 6 ∨ k = 7 ∨ k = 8 ∨ k = 9 := by omega
  clear hk
  unfold m__law_one m__law_one_s1 m__law_one_s2 m__law_one_s3 m__law_one_s4 m__law_one_s5 m__law_one_s6 m__law_one_s7 m__law_one_s8 m__law_one_s9 m__law_one_s10
  rcases this with rfl | rfl | rfl | rfl | rfl | rfl | rfl | rfl | rfl | rfl
  all_goals
    walk_at "st"
    walk_at "ev"
    exact ⟨_, rfl⟩
theorem both_no {z z' : Z.Env} (h : m_check_two_demands (env0 2 [.d x, .d y]) = .exc c z) (h' : m_check_two_demands (env0 2 [.d y, .d x]) = .exc c z') (k : Nat) (hk : k < 12) :
    ∃ z, m__law_both (env0 3 [.d (.int (10 + (k : Int))), .d x, .d y]) = .exc c z := by
  obtain ⟨z0, c0⟩ := meet_no h
  obtain ⟨z1, c1⟩ := either_no h'
  obtain ⟨z2, c2⟩ := beside_no h
  obtain ⟨z3, c3⟩ := parts_no h' (.str (PySem.Str.ofString "")) (.int (-1))
  obtain ⟨z4, c4⟩ := refines_no h'
  obtain ⟨z5, c5⟩ := takes_no h (.tuple [])
  obtain ⟨z6, c6⟩ := equal_no h'
  obtain ⟨z7, c7⟩ := divided_no h
  obtain ⟨z8, c8⟩ := divided_no h'
  obtain ⟨z9, c9⟩ := missing_no h'
  obtain ⟨z10, c10⟩ := refines_no h
  obtain ⟨z11, c11⟩ := meet_no h'
  clear h h'
  have : k = 0 ∨ k = 1 ∨ k = 2 ∨ k = 3 ∨ k = 4 ∨ k = 5 ∨ k = 6 ∨ k = 7 ∨ k = 8 ∨ k = 9 ∨ k = 10 ∨ k = 11 := by omega
  clear hk
  unfold m__law_both m__law_both_s1 m__law_both_s2 m__law_both_s3 m__law_both_s4 m__law_both_s5 m__law_both_s6 m__law_both_s7 m__law_both_s8 m__law_both_s9 m__law_both_s10 m__law_both_s11 m__law_both_s12
  rcases this with rfl | rfl | rfl | rfl | rfl | rfl | rfl | rfl | rfl | rfl | rfl | rfl
  · rw [show (10 : Int) + ((0 : Nat) : Int) = 10 from rfl]
    walk_at "st"
    walk_at "ev"
    exact ⟨_, rfl⟩
  · rw [show (10 : Int) + ((1 : Nat) : Int) = 11 from rfl]
    walk_at "st"
    walk_at "ev"
    exact ⟨_, rfl⟩
  · rw [show (10 : Int) + ((2 : Nat) : Int) = 12 from rfl]
    walk_at "st"
    walk_at "ev"
    exact ⟨_, rfl⟩
  · rw [show (10 : Int) + ((3 : Nat) : Int) = 13 from rfl]
    walk_at "st"
    walk_at "ev"
    exact ⟨_, rfl⟩
  · rw [show (10 : Int) + ((4 : Nat) : Int) = 14 from rfl]
    walk_at "st"
    walk_at "ev"
    exact ⟨_, rfl⟩
  · rw [show (10 : Int) + ((5 : Nat) : Int) = 15 from rfl]
    walk_at "st"
    walk_at "ev"
    exact ⟨_, rfl⟩
  · rw [show (10 : Int) + ((6 : Nat) : Int) = 16 from rfl]
    walk_at "st"
    walk_at "ev"
    exact ⟨_, rfl⟩
  · rw [show (10 : Int) + ((7 : Nat) : Int) = 17 from rfl]
    walk_at "st"
    walk_at "ev"
    exact ⟨_, rfl⟩
  · rw [show (10 : Int) + ((8 : Nat) : Int) = 18 from rfl]
    walk_at "st"
    walk_at "ev"
    exact ⟨_, rfl⟩
  · rw [show (10 : Int) + ((9 : Nat) : Int) = 19 from rfl]
    walk_at "st"
    walk_at "ev"
    exact ⟨_, rfl⟩
  · rw [show (10 : Int) + ((10 : Nat) : Int) = 20 from rfl]
    walk_at "st"
    walk_at "ev"
    exact ⟨_, rfl⟩
  · rw [show (10 : Int) + ((11 : Nat) : Int) = 21 from rfl]
    walk_at "st"
    walk_at "ev"
    exact ⟨_, rfl⟩
theorem third_no {z1 z2 z3 : Z.Env} (hy : gIx y (.int 0) = some (.d (.int (n' : Int)))) (h : m__check_both (env0 2 [.d (oneM n'), .d x]) = .exc c z1) (h1 : m__check_three (env0 3 [.d (oneM n'), .d x, .d y]) = .exc c z2)
    (h2 : m__check_three (env0 3 [.d (oneM n'), .d y, .d x]) = .exc c z3) (k : Nat) (hk : k < 6) :
    ∃ z, m__law_third (env0 4 [.d (.int (22 + (k : Int))), .d x, .d y]) = .exc c z := by
  obtain ⟨_, c0⟩ := keeps_no h
  obtain ⟨_, c1⟩ := iskept_no h (.tuple [])
  obtain ⟨_, c2⟩ := completes_no h1
  obtain ⟨_, c3⟩ := completes_no h2
  obtain ⟨_, c4⟩ := accepts_no h2 (.tuple [])
  obtain ⟨_, c5⟩ := accepts_no h1 (.tuple [])
  clear h h1 h2
  have : k = 0 ∨ k = 1 ∨ k = 2 ∨ k = 3 ∨ k = 4 ∨ k = 5 := by omega
  clear hk
  unfold oneM at *
  unfold m__law_third m__law_third_s1 m__law_third_s2 m__law_third_s3 m__law_third_s4 m__law_third_s5 m__law_third_s6 m__law_third_s7 m__law_third_s8
  rcases this with rfl | rfl | rfl | rfl | rfl | rfl
  · rw [show (22 : Int) + ((0 : Nat) : Int) = 22 from rfl]
    walk_at "st"
    walk_at "ev"
    exact ⟨_, rfl⟩
  · rw [show (22 : Int) + ((1 : Nat) : Int) = 23 from rfl]
    walk_at "st"
    walk_at "ev"
    exact ⟨_, rfl⟩
  · rw [show (22 : Int) + ((2 : Nat) : Int) = 24 from rfl]
    walk_at "st"
    walk_at "ev"
    exact ⟨_, rfl⟩
  · rw [show (22 : Int) + ((3 : Nat) : Int) = 25 from rfl]
    walk_at "st"
    walk_at "ev"
    exact ⟨_, rfl⟩
  · rw [show (22 : Int) + ((4 : Nat) : Int) = 26 from rfl]
    walk_at "st"
    walk_at "ev"
    exact ⟨_, rfl⟩
  · rw [show (22 : Int) + ((5 : Nat) : Int) = 27 from rfl]
    walk_at "st"
    walk_at "ev"
    exact ⟨_, rfl⟩
/-! ### the law's refusals -/
theorem ref_one {z : Z.Env} (w : Int) (h1 : w < 10) (hd : Z.D) (hm : m_hd c = some hd) (h : m__law_one (env0 2 [.d (.int w), .d x]) = .exc c z) : ∃ z', m__law_refused (env0 5 [.d (.int w), .d x, .d y]) = .rt (.d hd) z' := by
  unfold m__law_refused m__law_refused_s1
  walk_at "st"
  walk_at "ev"
  exact ⟨_, rfl⟩
theorem ref_both {z : Z.Env} (w : Int) (h1 : ¬ w < 10) (h2 : w < 22) (hd : Z.D) (hm : m_hd c = some hd) (h : m__law_both (env0 3 [.d (.int w), .d x, .d y]) = .exc c z) : ∃ z', m__law_refused (env0 5 [.d (.int w), .d x, .d y]) = .rt (.d hd) z' := by
  unfold m__law_refused m__law_refused_s1
  walk_at "st"
  walk_at "ev"
  exact ⟨_, rfl⟩
theorem ref_third {z : Z.Env} (w : Int) (h1 : ¬ w < 10) (h2 : ¬ w < 22) (hd : Z.D) (hm : m_hd c = some hd) (h : m__law_third (env0 4 [.d (.int w), .d x, .d y]) = .exc c z) : ∃ z', m__law_refused (env0 5 [.d (.int w), .d x, .d y]) = .rt (.d hd) z' := by
  unfold m__law_refused m__law_refused_s1
  walk_at "st"
  walk_at "ev"
  exact ⟨_, rfl⟩
theorem refA : RefA := by
  intro b n ss k hb h hk
  by_cases h1 : k < 10
  · obtain ⟨z, e⟩ := one_no hb k h1
    exact ref_one _ (by omega) sDem rfl e
  · by_cases h2 : k < 22
    · obtain ⟨z, e⟩ := two1 hb (demD n ss)
      obtain ⟨z', e'⟩ := two2 h hb
      obtain ⟨j, rfl⟩ : ∃ j, k = 10 + j := ⟨k - 10, by omega⟩
      obtain ⟨z2, e2⟩ := both_no e e' j (by omega)
      have ck : ((10 + j : Nat) : Int) = 10 + (j : Int) := by push_cast; rfl
      rw [ck]
      exact ref_both _ (by omega) (by omega) sDem rfl e2
    · obtain ⟨z, e⟩ := ck_bad h.n5 hb
      obtain ⟨z', e'⟩ := three1 h.n5 hb (demD n ss)
      obtain ⟨z'', e''⟩ := three2 h.n5 h hb
      obtain ⟨j, rfl⟩ : ∃ j, k = 22 + j := ⟨k - 22, by omega⟩
      obtain ⟨z2, e2⟩ := third_no (dem_ix n ss) e e' e'' j (by omega)
      have ck : ((22 + j : Nat) : Int) = 22 + (j : Int) := by push_cast; rfl
      rw [ck]
      exact ref_third _ (by omega) (by omega) sDem rfl e2
theorem refB : RefB := by
  intro n n' ss ss' k h h' hn hk
  by_cases h2 : k < 12
  · obtain ⟨z, e⟩ := two3 h h' hn
    obtain ⟨z', e'⟩ := two3 h' h (fun q => hn q.symm)
    obtain ⟨z2, e2⟩ := both_no e e' k (by omega)
    exact ref_both _ (by omega) (by omega) sLett rfl e2
  · obtain ⟨z, e⟩ := ck_lett h'.n5 h (n' := n') (by omega)
    obtain ⟨z', e'⟩ := three3 h h' hn
    obtain ⟨z'', e''⟩ := three4 h h' hn
    obtain ⟨j, rfl⟩ : ∃ j, k = 12 + j := ⟨k - 12, by omega⟩
    obtain ⟨z2, e2⟩ := third_no (dem_ix n' ss') e e' e'' j (by omega)
    have ck : (10 : Int) + ((12 + j : Nat) : Int) = 22 + (j : Int) := by push_cast; omega
    rw [ck]
    exact ref_third _ (by omega) (by omega) sLett rfl e2
theorem law_true : ∀ ns : List Int, ns.length ≤ 63 → ∃ ρ', m_law (env0 9 [.d (.list (ns.map .int))]) = .rt (.d (.bool true)) ρ' := law_from refA refB refC
end
end K03
namespace K03
open PySem L2 L2H Z
def top (i : Nat) : Stmt := PySem.Challenge.pw_spandrel_k03_what_is_a_demand.main.body.getD i (.Pass ⟨0, 0, 0, 0⟩)
abbrev s__law_box : Stmt := top 133
abbrev s__law_take : Stmt := top 134
abbrev s__law_pick : Stmt := top 135
abbrev s__law_demand : Stmt := top 139
abbrev s__law_class : Stmt := top 144
abbrev s_is_number : Stmt := top 17
abbrev s_is_below : Stmt := top 18
abbrev s_is_letter_count : Stmt := top 19
abbrev s_bits_of : Stmt := top 14
abbrev s_full_set : Stmt := top 16
abbrev s_is_set : Stmt := top 20
abbrev s__is_accepts : Stmt := top 55
abbrev s__is_ahead : Stmt := top 56
abbrev s_members : Stmt := top 13
abbrev s__is_state : Stmt := top 54
abbrev s__is_demand : Stmt := top 53
abbrev s_check_demand : Stmt := top 49
abbrev s_hollow : Stmt := top 65
abbrev s_least : Stmt := top 126
abbrev s_trimmed : Stmt := top 68
abbrev s_some : Stmt := top 69
abbrev s_with_word : Stmt := top 70
abbrev s_ladder : Stmt := top 67
abbrev s_is_ladder : Stmt := top 66
abbrev s_written_demand : Stmt := top 130
abbrev s_led_to : Stmt := top 51
abbrev s__law_one : Stmt := top 145
abbrev s_check_same_letters : Stmt := top 24
abbrev s_check_two_demands : Stmt := top 50
abbrev s__joined : Stmt := top 117
abbrev s__common_sets : Stmt := top 118
abbrev s_meet : Stmt := top 113
abbrev s__all_sets : Stmt := top 119
abbrev s_either : Stmt := top 114
abbrev s__overlaps : Stmt := top 120
abbrev s_beside : Stmt := top 115
abbrev s_parts : Stmt := top 116
abbrev s_refines : Stmt := top 123
abbrev s_takes : Stmt := top 124
abbrev s_equal : Stmt := top 125
abbrev s_divided : Stmt := top 104
abbrev s_missing : Stmt := top 107
abbrev s__law_both : Stmt := top 146
abbrev s__is_edge : Stmt := top 40
abbrev s__is_row : Stmt := top 39
abbrev s__is_machine : Stmt := top 38
abbrev s_check_machine : Stmt := top 35
abbrev s__check_both : Stmt := top 78
abbrev s_keeps : Stmt := top 75
abbrev s_is_kept : Stmt := top 76
abbrev s__check_three : Stmt := top 108
abbrev s_completes : Stmt := top 105
abbrev s_accepts : Stmt := top 106
abbrev s__law_third : Stmt := top 147
abbrev s__law_refused : Stmt := top 148
abbrev s__law_sets : Stmt := top 149
abbrev s__law_after : Stmt := top 150
abbrev s__law_spoilt : Stmt := top 151
abbrev s_law : Stmt := top 152
theorem m_hd_flat : ∀ c y, m_hd c = some y → flatD y = true := by
  intro c y h
  unfold m_hd at h
  split at h <;> first | (cases h; rfl) | cases h
theorem sc__law_box : FnScope ["script", "x"] ["script"] (defScope s__law_box) := ⟨rfl, rfl, rfl, by decide +kernel, rfl, by decide +kernel, by decide +kernel⟩
theorem sc__law_take : FnScope ["box", "m", "at", "cell", "told"] ["box", "m"] (defScope s__law_take) := ⟨rfl, rfl, rfl, by decide +kernel, rfl, by decide +kernel, by decide +kernel⟩
theorem sc__law_pick : FnScope ["box", "menu"] ["box", "menu"] (defScope s__law_pick) := ⟨rfl, rfl, rfl, by decide +kernel, rfl, by decide +kernel, by decide +kernel⟩
theorem sc__law_demand : FnScope ["box", "n", "most", "size", "states", "q", "taken", "k", "bits", "used", "after", "a"] ["box", "n", "most"] (defScope s__law_demand) := ⟨rfl, rfl, rfl, by decide +kernel, rfl, by decide +kernel, by decide +kernel⟩
theorem sc__law_class : FnScope ["e", "kinds"] ["e"] (defScope s__law_class) := ⟨rfl, rfl, rfl, by decide +kernel, rfl, by decide +kernel, by decide +kernel⟩
theorem sc_is_number : FnScope ["thing"] ["thing"] (defScope s_is_number) := ⟨rfl, rfl, rfl, by decide +kernel, rfl, by decide +kernel, by decide +kernel⟩
theorem sc_is_below : FnScope ["thing", "many"] ["thing", "many"] (defScope s_is_below) := ⟨rfl, rfl, rfl, by decide +kernel, rfl, by decide +kernel, by decide +kernel⟩
theorem sc_is_letter_count : FnScope ["thing"] ["thing"] (defScope s_is_letter_count) := ⟨rfl, rfl, rfl, by decide +kernel, rfl, by decide +kernel, by decide +kernel⟩
theorem sc_bits_of : FnScope ["letters", "bits", "letter"] ["letters"] (defScope s_bits_of) := ⟨rfl, rfl, rfl, by decide +kernel, rfl, by decide +kernel, by decide +kernel⟩
theorem sc_full_set : FnScope ["n"] ["n"] (defScope s_full_set) := ⟨rfl, rfl, rfl, by decide +kernel, rfl, by decide +kernel, by decide +kernel⟩
theorem sc_is_set : FnScope ["n", "thing"] ["n", "thing"] (defScope s_is_set) := ⟨rfl, rfl, rfl, by decide +kernel, rfl, by decide +kernel, by decide +kernel⟩
theorem sc__is_accepts : FnScope ["n", "accepts", "bits", "at"] ["n", "accepts"] (defScope s__is_accepts) := ⟨rfl, rfl, rfl, by decide +kernel, rfl, by decide +kernel, by decide +kernel⟩
theorem sc__is_ahead : FnScope ["n", "many", "ahead", "to"] ["n", "many", "ahead"] (defScope s__is_ahead) := ⟨rfl, rfl, rfl, by decide +kernel, rfl, by decide +kernel, by decide +kernel⟩
theorem sc_members : FnScope ["n", "bits", "letter"] ["n", "bits"] (defScope s_members) := ⟨rfl, rfl, rfl, by decide +kernel, rfl, by decide +kernel, by decide +kernel⟩
theorem sc__is_state : FnScope ["n", "many", "state", "accepts", "ahead", "bits", "letter"] ["n", "many", "state"] (defScope s__is_state) := ⟨rfl, rfl, rfl, by decide +kernel, rfl, by decide +kernel, by decide +kernel⟩
theorem sc__is_demand : FnScope ["d", "n", "states", "state"] ["d"] (defScope s__is_demand) := ⟨rfl, rfl, rfl, by decide +kernel, rfl, by decide +kernel, by decide +kernel⟩
theorem sc_check_demand : FnScope ["d"] ["d"] (defScope s_check_demand) := ⟨rfl, rfl, rfl, by decide +kernel, rfl, by decide +kernel, by decide +kernel⟩
theorem sc_hollow : FnScope ["d"] ["d"] (defScope s_hollow) := ⟨rfl, rfl, rfl, by decide +kernel, rfl, by decide +kernel, by decide +kernel⟩
theorem sc_least : FnScope ["d"] ["d"] (defScope s_least) := ⟨rfl, rfl, rfl, by decide +kernel, rfl, by decide +kernel, by decide +kernel⟩
theorem sc_trimmed : FnScope ["d"] ["d"] (defScope s_trimmed) := ⟨rfl, rfl, rfl, by decide +kernel, rfl, by decide +kernel, by decide +kernel⟩
theorem sc_some : FnScope ["d", "n", "states"] ["d"] (defScope s_some) := ⟨rfl, rfl, rfl, by decide +kernel, rfl, by decide +kernel, by decide +kernel⟩
theorem sc_with_word : FnScope ["d", "word", "bits", "n", "states", "behind", "rows", "q", "letter", "accepts", "ahead", "fitting", "accepted", "ends", "to"] ["d", "word", "bits"] (defScope s_with_word) := ⟨rfl, rfl, rfl, by decide +kernel, rfl, by decide +kernel, by decide +kernel⟩
theorem sc_ladder : FnScope ["d"] ["d"] (defScope s_ladder) := ⟨rfl, rfl, rfl, by decide +kernel, rfl, by decide +kernel, by decide +kernel⟩
theorem sc_is_ladder : FnScope ["d", "states", "under", "at"] ["d", "states"] (defScope s_is_ladder) := ⟨rfl, rfl, rfl, by decide +kernel, rfl, by decide +kernel, by decide +kernel⟩
theorem sc_written_demand : FnScope ["d", "n", "states", "lines", "at", "accepts", "ahead", "sets", "bits", "ends", "letter", "to"] ["d"] (defScope s_written_demand) := ⟨rfl, rfl, rfl, by decide +kernel, rfl, by decide +kernel, by decide +kernel⟩
theorem sc_led_to : FnScope ["d", "word"] ["d", "word"] (defScope s_led_to) := ⟨rfl, rfl, rfl, by decide +kernel, rfl, by decide +kernel, by decide +kernel⟩
theorem sc__law_one : FnScope ["way", "one"] ["way", "one"] (defScope s__law_one) := ⟨rfl, rfl, rfl, by decide +kernel, rfl, by decide +kernel, by decide +kernel⟩
theorem sc_check_same_letters : FnScope ["a", "b"] ["a", "b"] (defScope s_check_same_letters) := ⟨rfl, rfl, rfl, by decide +kernel, rfl, by decide +kernel, by decide +kernel⟩
theorem sc_check_two_demands : FnScope ["a", "b"] ["a", "b"] (defScope s_check_two_demands) := ⟨rfl, rfl, rfl, by decide +kernel, rfl, by decide +kernel, by decide +kernel⟩
theorem sc__joined : FnScope ["a", "b", "sets_of_both", "n", "nowhere", "states", "others", "sets", "ahead", "other_sets", "other_ahead", "joined", "used", "ends", "letter"] ["a", "b", "sets_of_both"] (defScope s__joined) := ⟨rfl, rfl, rfl, by decide +kernel, rfl, by decide +kernel, by decide +kernel⟩
theorem sc__common_sets : FnScope ["sets", "others", "bits"] ["sets", "others"] (defScope s__common_sets) := ⟨rfl, rfl, rfl, by decide +kernel, rfl, by decide +kernel, by decide +kernel⟩
theorem sc_meet : FnScope ["a", "b"] ["a", "b"] (defScope s_meet) := ⟨rfl, rfl, rfl, by decide +kernel, rfl, by decide +kernel, by decide +kernel⟩
theorem sc__all_sets : FnScope ["sets", "others"] ["sets", "others"] (defScope s__all_sets) := ⟨rfl, rfl, rfl, by decide +kernel, rfl, by decide +kernel, by decide +kernel⟩
theorem sc_either : FnScope ["a", "b"] ["a", "b"] (defScope s_either) := ⟨rfl, rfl, rfl, by decide +kernel, rfl, by decide +kernel, by decide +kernel⟩
theorem sc__overlaps : FnScope ["sets", "others", "bits", "other"] ["sets", "others"] (defScope s__overlaps) := ⟨rfl, rfl, rfl, by decide +kernel, rfl, by decide +kernel, by decide +kernel⟩
theorem sc_beside : FnScope ["a", "b"] ["a", "b"] (defScope s_beside) := ⟨rfl, rfl, rfl, by decide +kernel, rfl, by decide +kernel, by decide +kernel⟩
theorem sc_parts : FnScope ["a", "b", "word", "bits", "first", "second"] ["a", "b", "word", "bits"] (defScope s_parts) := ⟨rfl, rfl, rfl, by decide +kernel, rfl, by decide +kernel, by decide +kernel⟩
theorem sc_refines : FnScope ["s", "t", "answer", "shown", "found", "_", "y", "x"] ["s", "t"] (defScope s_refines) := ⟨rfl, rfl, rfl, by decide +kernel, rfl, by decide +kernel, by decide +kernel⟩
theorem sc_takes : FnScope ["s", "t", "paper"] ["s", "t", "paper"] (defScope s_takes) := ⟨rfl, rfl, rfl, by decide +kernel, rfl, by decide +kernel, by decide +kernel⟩
theorem sc_equal : FnScope ["s", "t"] ["s", "t"] (defScope s_equal) := ⟨rfl, rfl, rfl, by decide +kernel, rfl, by decide +kernel, by decide +kernel⟩
theorem sc_divided : FnScope ["t", "s", "n", "states_t", "states_s", "every_set", "wanted", "ahead_t", "given", "ahead_s", "fitting", "bits", "used", "shared", "ends", "letter", "end"] ["t", "s"] (defScope s_divided) := ⟨rfl, rfl, rfl, by decide +kernel, rfl, by decide +kernel, by decide +kernel⟩
theorem sc_missing : FnScope ["t", "s"] ["t", "s"] (defScope s_missing) := ⟨rfl, rfl, rfl, by decide +kernel, rfl, by decide +kernel, by decide +kernel⟩
theorem sc__law_both : FnScope ["way", "one", "other"] ["way", "one", "other"] (defScope s__law_both) := ⟨rfl, rfl, rfl, by decide +kernel, rfl, by decide +kernel, by decide +kernel⟩
theorem sc__is_edge : FnScope ["n", "many", "edge"] ["n", "many", "edge"] (defScope s__is_edge) := ⟨rfl, rfl, rfl, by decide +kernel, rfl, by decide +kernel, by decide +kernel⟩
theorem sc__is_row : FnScope ["n", "many", "row", "edge", "at"] ["n", "many", "row"] (defScope s__is_row) := ⟨rfl, rfl, rfl, by decide +kernel, rfl, by decide +kernel, by decide +kernel⟩
theorem sc__is_machine : FnScope ["m", "n", "rows", "row"] ["m"] (defScope s__is_machine) := ⟨rfl, rfl, rfl, by decide +kernel, rfl, by decide +kernel, by decide +kernel⟩
theorem sc_check_machine : FnScope ["m"] ["m"] (defScope s_check_machine) := ⟨rfl, rfl, rfl, by decide +kernel, rfl, by decide +kernel, by decide +kernel⟩
theorem sc__check_both : FnScope ["m", "d"] ["m", "d"] (defScope s__check_both) := ⟨rfl, rfl, rfl, by decide +kernel, rfl, by decide +kernel, by decide +kernel⟩
theorem sc_keeps : FnScope ["m", "d", "rows", "states", "sets", "row", "groups", "came", "seen", "at", "q", "ends", "accepts", "ahead", "wrong", "p", "letter", "to", "new"] ["m", "d"] (defScope s_keeps) := ⟨rfl, rfl, rfl, by decide +kernel, rfl, by decide +kernel, by decide +kernel⟩
theorem sc_is_kept : FnScope ["m", "d", "paper"] ["m", "d", "paper"] (defScope s_is_kept) := ⟨rfl, rfl, rfl, by decide +kernel, rfl, by decide +kernel, by decide +kernel⟩
theorem sc__check_three : FnScope ["x", "s", "t"] ["x", "s", "t"] (defScope s__check_three) := ⟨rfl, rfl, rfl, by decide +kernel, rfl, by decide +kernel, by decide +kernel⟩
theorem sc_completes : FnScope ["x", "s", "t", "answer", "shown", "found"] ["x", "s", "t"] (defScope s_completes) := ⟨rfl, rfl, rfl, by decide +kernel, rfl, by decide +kernel, by decide +kernel⟩
theorem sc_accepts : FnScope ["x", "s", "t", "paper"] ["x", "s", "t", "paper"] (defScope s_accepts) := ⟨rfl, rfl, rfl, by decide +kernel, rfl, by decide +kernel, by decide +kernel⟩
theorem sc__law_third : FnScope ["way", "one", "other", "m"] ["way", "one", "other"] (defScope s__law_third) := ⟨rfl, rfl, rfl, by decide +kernel, rfl, by decide +kernel, by decide +kernel⟩
theorem sc__law_refused : FnScope ["way", "one", "other", "told", "e"] ["way", "one", "other"] (defScope s__law_refused) := ⟨rfl, rfl, rfl, by decide +kernel, rfl, by decide +kernel, by decide +kernel⟩
theorem sc__law_sets : FnScope ["box", "n", "sets", "most", "bad"] ["box", "n", "sets"] (defScope s__law_sets) := ⟨rfl, rfl, rfl, by decide +kernel, rfl, by decide +kernel, by decide +kernel⟩
theorem sc__law_after : FnScope ["box", "d", "at", "n", "states", "sets", "after", "bad", "k", "x", "a", "bits"] ["box", "d", "at"] (defScope s__law_after) := ⟨rfl, rfl, rfl, by decide +kernel, rfl, by decide +kernel, by decide +kernel⟩
theorem sc__law_spoilt : FnScope ["box", "d", "n", "states", "at", "sort", "state"] ["box", "d"] (defScope s__law_spoilt) := ⟨rfl, rfl, rfl, by decide +kernel, rfl, by decide +kernel, by decide +kernel⟩
theorem sc_law : FnScope ["script", "box", "n", "d", "many", "long", "bad", "other", "way"] ["script"] (defScope s_law) := ⟨rfl, rfl, rfl, by decide +kernel, rfl, by decide +kernel, by decide +kernel⟩
set_option genInjectivity false in
set_option genSizeOf false in
set_option maxHeartbeats 0 in
structure Tx (K : PySem.W.Frag) (mg : Str → Option Value) where
  a__law_box : Addr
  fd__law_box : FuncData
  F__law_box : Fun K "_law_box" "_law_box" s__law_box a__law_box fd__law_box
  mg__law_box : mg "_law_box" = some (.ref a__law_box)
  b__law_box : Binds K fd__law_box ["script"] []
  a__law_take : Addr
  fd__law_take : FuncData
  F__law_take : Fun K "_law_take" "_law_take" s__law_take a__law_take fd__law_take
  mg__law_take : mg "_law_take" = some (.ref a__law_take)
  b__law_take : Binds K fd__law_take ["box", "m"] []
  a__law_pick : Addr
  fd__law_pick : FuncData
  F__law_pick : Fun K "_law_pick" "_law_pick" s__law_pick a__law_pick fd__law_pick
  mg__law_pick : mg "_law_pick" = some (.ref a__law_pick)
  b__law_pick : Binds K fd__law_pick ["box", "menu"] []
  a__law_demand : Addr
  fd__law_demand : FuncData
  F__law_demand : Fun K "_law_demand" "_law_demand" s__law_demand a__law_demand fd__law_demand
  mg__law_demand : mg "_law_demand" = some (.ref a__law_demand)
  b__law_demand : Binds K fd__law_demand ["box", "n", "most"] []
  a__law_class : Addr
  fd__law_class : FuncData
  F__law_class : Fun K "_law_class" "_law_class" s__law_class a__law_class fd__law_class
  mg__law_class : mg "_law_class" = some (.ref a__law_class)
  b__law_class : Binds K fd__law_class ["e"] []
  a_is_number : Addr
  fd_is_number : FuncData
  F_is_number : Fun K "is_number" "is_number" s_is_number a_is_number fd_is_number
  mg_is_number : mg "is_number" = some (.ref a_is_number)
  b_is_number : Binds K fd_is_number ["thing"] []
  a_is_below : Addr
  fd_is_below : FuncData
  F_is_below : Fun K "is_below" "is_below" s_is_below a_is_below fd_is_below
  mg_is_below : mg "is_below" = some (.ref a_is_below)
  b_is_below : Binds K fd_is_below ["thing", "many"] []
  a_is_letter_count : Addr
  fd_is_letter_count : FuncData
  F_is_letter_count : Fun K "is_letter_count" "is_letter_count" s_is_letter_count a_is_letter_count fd_is_letter_count
  mg_is_letter_count : mg "is_letter_count" = some (.ref a_is_letter_count)
  b_is_letter_count : Binds K fd_is_letter_count ["thing"] []
  a_bits_of : Addr
  fd_bits_of : FuncData
  F_bits_of : Fun K "bits_of" "bits_of" s_bits_of a_bits_of fd_bits_of
  mg_bits_of : mg "bits_of" = some (.ref a_bits_of)
  b_bits_of : Binds K fd_bits_of ["letters"] []
  a_full_set : Addr
  fd_full_set : FuncData
  F_full_set : Fun K "full_set" "full_set" s_full_set a_full_set fd_full_set
  mg_full_set : mg "full_set" = some (.ref a_full_set)
  b_full_set : Binds K fd_full_set ["n"] []
  a_is_set : Addr
  fd_is_set : FuncData
  F_is_set : Fun K "is_set" "is_set" s_is_set a_is_set fd_is_set
  mg_is_set : mg "is_set" = some (.ref a_is_set)
  b_is_set : Binds K fd_is_set ["n", "thing"] []
  a__is_accepts : Addr
  fd__is_accepts : FuncData
  F__is_accepts : Fun K "_is_accepts" "_is_accepts" s__is_accepts a__is_accepts fd__is_accepts
  mg__is_accepts : mg "_is_accepts" = some (.ref a__is_accepts)
  b__is_accepts : Binds K fd__is_accepts ["n", "accepts"] []
  a__is_ahead : Addr
  fd__is_ahead : FuncData
  F__is_ahead : Fun K "_is_ahead" "_is_ahead" s__is_ahead a__is_ahead fd__is_ahead
  mg__is_ahead : mg "_is_ahead" = some (.ref a__is_ahead)
  b__is_ahead : Binds K fd__is_ahead ["n", "many", "ahead"] []
  a_members : Addr
  fd_members : FuncData
  F_members : Fun K "members" "members" s_members a_members fd_members
  mg_members : mg "members" = some (.ref a_members)
  b_members : Binds K fd_members ["n", "bits"] []
  a__is_state : Addr
  fd__is_state : FuncData
  F__is_state : Fun K "_is_state" "_is_state" s__is_state a__is_state fd__is_state
  mg__is_state : mg "_is_state" = some (.ref a__is_state)
  b__is_state : Binds K fd__is_state ["n", "many", "state"] []
  a__is_demand : Addr
  fd__is_demand : FuncData
  F__is_demand : Fun K "_is_demand" "_is_demand" s__is_demand a__is_demand fd__is_demand
  mg__is_demand : mg "_is_demand" = some (.ref a__is_demand)
  b__is_demand : Binds K fd__is_demand ["d"] []
  a_check_demand : Addr
  fd_check_demand : FuncData
  F_check_demand : Fun K "check_demand" "check_demand" s_check_demand a_check_demand fd_check_demand
  mg_check_demand : mg "check_demand" = some (.ref a_check_demand)
  b_check_demand : Binds K fd_check_demand ["d"] []
  a_hollow : Addr
  fd_hollow : FuncData
  F_hollow : Fun K "hollow" "hollow" s_hollow a_hollow fd_hollow
  mg_hollow : mg "hollow" = some (.ref a_hollow)
  b_hollow : Binds K fd_hollow ["d"] []
  a_least : Addr
  fd_least : FuncData
  F_least : Fun K "least" "least" s_least a_least fd_least
  mg_least : mg "least" = some (.ref a_least)
  b_least : Binds K fd_least ["d"] []
  a_trimmed : Addr
  fd_trimmed : FuncData
  F_trimmed : Fun K "trimmed" "trimmed" s_trimmed a_trimmed fd_trimmed
  mg_trimmed : mg "trimmed" = some (.ref a_trimmed)
  b_trimmed : Binds K fd_trimmed ["d"] []
  a_some : Addr
  fd_some : FuncData
  F_some : Fun K "some" "some" s_some a_some fd_some
  mg_some : mg "some" = some (.ref a_some)
  b_some : Binds K fd_some ["d"] []
  a_with_word : Addr
  fd_with_word : FuncData
  F_with_word : Fun K "with_word" "with_word" s_with_word a_with_word fd_with_word
  mg_with_word : mg "with_word" = some (.ref a_with_word)
  b_with_word : Binds K fd_with_word ["d", "word", "bits"] []
  a_ladder : Addr
  fd_ladder : FuncData
  F_ladder : Fun K "ladder" "ladder" s_ladder a_ladder fd_ladder
  mg_ladder : mg "ladder" = some (.ref a_ladder)
  b_ladder : Binds K fd_ladder ["d"] []
  a_is_ladder : Addr
  fd_is_ladder : FuncData
  F_is_ladder : Fun K "is_ladder" "is_ladder" s_is_ladder a_is_ladder fd_is_ladder
  mg_is_ladder : mg "is_ladder" = some (.ref a_is_ladder)
  b_is_ladder : Binds K fd_is_ladder ["d", "states"] []
  a_written_demand : Addr
  fd_written_demand : FuncData
  F_written_demand : Fun K "written_demand" "written_demand" s_written_demand a_written_demand fd_written_demand
  mg_written_demand : mg "written_demand" = some (.ref a_written_demand)
  b_written_demand : Binds K fd_written_demand ["d"] []
  a_led_to : Addr
  fd_led_to : FuncData
  F_led_to : Fun K "led_to" "led_to" s_led_to a_led_to fd_led_to
  mg_led_to : mg "led_to" = some (.ref a_led_to)
  b_led_to : Binds K fd_led_to ["d", "word"] []
  a__law_one : Addr
  fd__law_one : FuncData
  F__law_one : Fun K "_law_one" "_law_one" s__law_one a__law_one fd__law_one
  mg__law_one : mg "_law_one" = some (.ref a__law_one)
  b__law_one : Binds K fd__law_one ["way", "one"] []
  a_check_same_letters : Addr
  fd_check_same_letters : FuncData
  F_check_same_letters : Fun K "check_same_letters" "check_same_letters" s_check_same_letters a_check_same_letters fd_check_same_letters
  mg_check_same_letters : mg "check_same_letters" = some (.ref a_check_same_letters)
  b_check_same_letters : Binds K fd_check_same_letters ["a", "b"] []
  a_check_two_demands : Addr
  fd_check_two_demands : FuncData
  F_check_two_demands : Fun K "check_two_demands" "check_two_demands" s_check_two_demands a_check_two_demands fd_check_two_demands
  mg_check_two_demands : mg "check_two_demands" = some (.ref a_check_two_demands)
  b_check_two_demands : Binds K fd_check_two_demands ["a", "b"] []
  a__joined : Addr
  fd__joined : FuncData
  F__joined : Fun K "_joined" "_joined" s__joined a__joined fd__joined
  mg__joined : mg "_joined" = some (.ref a__joined)
  b__joined : Binds K fd__joined ["a", "b", "sets_of_both"] []
  a__common_sets : Addr
  fd__common_sets : FuncData
  F__common_sets : Fun K "_common_sets" "_common_sets" s__common_sets a__common_sets fd__common_sets
  mg__common_sets : mg "_common_sets" = some (.ref a__common_sets)
  b__common_sets : Binds K fd__common_sets ["sets", "others"] []
  a_meet : Addr
  fd_meet : FuncData
  F_meet : Fun K "meet" "meet" s_meet a_meet fd_meet
  mg_meet : mg "meet" = some (.ref a_meet)
  b_meet : Binds K fd_meet ["a", "b"] []
  a__all_sets : Addr
  fd__all_sets : FuncData
  F__all_sets : Fun K "_all_sets" "_all_sets" s__all_sets a__all_sets fd__all_sets
  mg__all_sets : mg "_all_sets" = some (.ref a__all_sets)
  b__all_sets : Binds K fd__all_sets ["sets", "others"] []
  a_either : Addr
  fd_either : FuncData
  F_either : Fun K "either" "either" s_either a_either fd_either
  mg_either : mg "either" = some (.ref a_either)
  b_either : Binds K fd_either ["a", "b"] []
  a__overlaps : Addr
  fd__overlaps : FuncData
  F__overlaps : Fun K "_overlaps" "_overlaps" s__overlaps a__overlaps fd__overlaps
  mg__overlaps : mg "_overlaps" = some (.ref a__overlaps)
  b__overlaps : Binds K fd__overlaps ["sets", "others"] []
  a_beside : Addr
  fd_beside : FuncData
  F_beside : Fun K "beside" "beside" s_beside a_beside fd_beside
  mg_beside : mg "beside" = some (.ref a_beside)
  b_beside : Binds K fd_beside ["a", "b"] []
  a_parts : Addr
  fd_parts : FuncData
  F_parts : Fun K "parts" "parts" s_parts a_parts fd_parts
  mg_parts : mg "parts" = some (.ref a_parts)
  b_parts : Binds K fd_parts ["a", "b", "word", "bits"] []
  a_refines : Addr
  fd_refines : FuncData
  F_refines : Fun K "refines" "refines" s_refines a_refines fd_refines
  mg_refines : mg "refines" = some (.ref a_refines)
  b_refines : Binds K fd_refines ["s", "t"] []
  a_takes : Addr
  fd_takes : FuncData
  F_takes : Fun K "takes" "takes" s_takes a_takes fd_takes
  mg_takes : mg "takes" = some (.ref a_takes)
  b_takes : Binds K fd_takes ["s", "t", "paper"] []
  a_equal : Addr
  fd_equal : FuncData
  F_equal : Fun K "equal" "equal" s_equal a_equal fd_equal
  mg_equal : mg "equal" = some (.ref a_equal)
  b_equal : Binds K fd_equal ["s", "t"] []
  a_divided : Addr
  fd_divided : FuncData
  F_divided : Fun K "divided" "divided" s_divided a_divided fd_divided
  mg_divided : mg "divided" = some (.ref a_divided)
  b_divided : Binds K fd_divided ["t", "s"] []
  a_missing : Addr
  fd_missing : FuncData
  F_missing : Fun K "missing" "missing" s_missing a_missing fd_missing
  mg_missing : mg "missing" = some (.ref a_missing)
  b_missing : Binds K fd_missing ["t", "s"] []
  a__law_both : Addr
  fd__law_both : FuncData
  F__law_both : Fun K "_law_both" "_law_both" s__law_both a__law_both fd__law_both
  mg__law_both : mg "_law_both" = some (.ref a__law_both)
  b__law_both : Binds K fd__law_both ["way", "one", "other"] []
  a__is_edge : Addr
  fd__is_edge : FuncData
  F__is_edge : Fun K "_is_edge" "_is_edge" s__is_edge a__is_edge fd__is_edge
  mg__is_edge : mg "_is_edge" = some (.ref a__is_edge)
  b__is_edge : Binds K fd__is_edge ["n", "many", "edge"] []
  a__is_row : Addr
  fd__is_row : FuncData
  F__is_row : Fun K "_is_row" "_is_row" s__is_row a__is_row fd__is_row
  mg__is_row : mg "_is_row" = some (.ref a__is_row)
  b__is_row : Binds K fd__is_row ["n", "many", "row"] []
  a__is_machine : Addr
  fd__is_machine : FuncData
  F__is_machine : Fun K "_is_machine" "_is_machine" s__is_machine a__is_machine fd__is_machine
  mg__is_machine : mg "_is_machine" = some (.ref a__is_machine)
  b__is_machine : Binds K fd__is_machine ["m"] []
  a_check_machine : Addr
  fd_check_machine : FuncData
  F_check_machine : Fun K "check_machine" "check_machine" s_check_machine a_check_machine fd_check_machine
  mg_check_machine : mg "check_machine" = some (.ref a_check_machine)
  b_check_machine : Binds K fd_check_machine ["m"] []
  a__check_both : Addr
  fd__check_both : FuncData
  F__check_both : Fun K "_check_both" "_check_both" s__check_both a__check_both fd__check_both
  mg__check_both : mg "_check_both" = some (.ref a__check_both)
  b__check_both : Binds K fd__check_both ["m", "d"] []
  a_keeps : Addr
  fd_keeps : FuncData
  F_keeps : Fun K "keeps" "keeps" s_keeps a_keeps fd_keeps
  mg_keeps : mg "keeps" = some (.ref a_keeps)
  b_keeps : Binds K fd_keeps ["m", "d"] []
  a_is_kept : Addr
  fd_is_kept : FuncData
  F_is_kept : Fun K "is_kept" "is_kept" s_is_kept a_is_kept fd_is_kept
  mg_is_kept : mg "is_kept" = some (.ref a_is_kept)
  b_is_kept : Binds K fd_is_kept ["m", "d", "paper"] []
  a__check_three : Addr
  fd__check_three : FuncData
  F__check_three : Fun K "_check_three" "_check_three" s__check_three a__check_three fd__check_three
  mg__check_three : mg "_check_three" = some (.ref a__check_three)
  b__check_three : Binds K fd__check_three ["x", "s", "t"] []
  a_completes : Addr
  fd_completes : FuncData
  F_completes : Fun K "completes" "completes" s_completes a_completes fd_completes
  mg_completes : mg "completes" = some (.ref a_completes)
  b_completes : Binds K fd_completes ["x", "s", "t"] []
  a_accepts : Addr
  fd_accepts : FuncData
  F_accepts : Fun K "accepts" "accepts" s_accepts a_accepts fd_accepts
  mg_accepts : mg "accepts" = some (.ref a_accepts)
  b_accepts : Binds K fd_accepts ["x", "s", "t", "paper"] []
  a__law_third : Addr
  fd__law_third : FuncData
  F__law_third : Fun K "_law_third" "_law_third" s__law_third a__law_third fd__law_third
  mg__law_third : mg "_law_third" = some (.ref a__law_third)
  b__law_third : Binds K fd__law_third ["way", "one", "other"] []
  a__law_refused : Addr
  fd__law_refused : FuncData
  F__law_refused : Fun K "_law_refused" "_law_refused" s__law_refused a__law_refused fd__law_refused
  mg__law_refused : mg "_law_refused" = some (.ref a__law_refused)
  b__law_refused : Binds K fd__law_refused ["way", "one", "other"] []
  a__law_sets : Addr
  fd__law_sets : FuncData
  F__law_sets : Fun K "_law_sets" "_law_sets" s__law_sets a__law_sets fd__law_sets
  mg__law_sets : mg "_law_sets" = some (.ref a__law_sets)
  b__law_sets : Binds K fd__law_sets ["box", "n", "sets"] []
  a__law_after : Addr
  fd__law_after : FuncData
  F__law_after : Fun K "_law_after" "_law_after" s__law_after a__law_after fd__law_after
  mg__law_after : mg "_law_after" = some (.ref a__law_after)
  b__law_after : Binds K fd__law_after ["box", "d", "at"] []
  a__law_spoilt : Addr
  fd__law_spoilt : FuncData
  F__law_spoilt : Fun K "_law_spoilt" "_law_spoilt" s__law_spoilt a__law_spoilt fd__law_spoilt
  mg__law_spoilt : mg "_law_spoilt" = some (.ref a__law_spoilt)
  b__law_spoilt : Binds K fd__law_spoilt ["box", "d"] []
  a_law : Addr
  fd_law : FuncData
  F_law : Fun K "law" "law" s_law a_law fd_law
  mg_law : mg "law" = some (.ref a_law)
  b_law : Binds K fd_law ["script"] []
  z_ValueError : mg "ValueError" = none
  z_abs : mg "abs" = none
  z_all : mg "all" = none
  z_bool : mg "bool" = none
  z_int : mg "int" = none
  z_isinstance : mg "isinstance" = none
  z_len : mg "len" = none
  z_list : mg "list" = none
  z_range : mg "range" = none
  z_set : mg "set" = none
  z_sorted : mg "sorted" = none
  z_sum : mg "sum" = none
  z_tuple : mg "tuple" = none
  t_LONGEST_WORD : Tok
  c_LONGEST_WORD : mg "LONGEST_WORD" = some (.int 200 t_LONGEST_WORD)
  t_MOST_DEMAND_STATES : Tok
  c_MOST_DEMAND_STATES : mg "MOST_DEMAND_STATES" = some (.int 40 t_MOST_DEMAND_STATES)
  t_MOST_EDGES : Tok
  c_MOST_EDGES : mg "MOST_EDGES" = some (.int 6000 t_MOST_EDGES)
  t_MOST_LETTERS : Tok
  c_MOST_LETTERS : mg "MOST_LETTERS" = some (.int 5 t_MOST_LETTERS)
  t_MOST_STATES : Tok
  c_MOST_STATES : mg "MOST_STATES" = some (.int 400 t_MOST_STATES)
  C_BadMachine : Addr
  mg_BadMachine : mg "BadMachine" = some (.ref C_BadMachine)
  f_BadMachine : ClsF K C_BadMachine
  C_BadDemand : Addr
  mg_BadDemand : mg "BadDemand" = some (.ref C_BadDemand)
  f_BadDemand : ClsF K C_BadDemand
  C_BadLetters : Addr
  mg_BadLetters : mg "BadLetters" = some (.ref C_BadLetters)
  f_BadLetters : ClsF K C_BadLetters
  C_BadWord : Addr
  mg_BadWord : mg "BadWord" = some (.ref C_BadWord)
  f_BadWord : ClsF K C_BadWord
  C_BadSet : Addr
  mg_BadSet : mg "BadSet" = some (.ref C_BadSet)
  f_BadSet : ClsF K C_BadSet
  C_BadState : Addr
  mg_BadState : mg "BadState" = some (.ref C_BadState)
  f_BadState : ClsF K C_BadState
  C_BadText : Addr
  mg_BadText : mg "BadText" = some (.ref C_BadText)
  f_BadText : ClsF K C_BadText
  C_TooMuch : Addr
  mg_TooMuch : mg "TooMuch" = some (.ref C_TooMuch)
  f_TooMuch : ClsF K C_TooMuch
  C_SpandrelError : Addr
  mg_SpandrelError : mg "SpandrelError" = some (.ref C_SpandrelError)
  f_SpandrelError : ClsF K C_SpandrelError
  kp_BadWord : PySem.W.keepIn K (.ref C_BadWord) = true
  q_BadWord : PySem.W.excIn K C_BadWord [.type "ValueError", .type "Exception", .type "BaseException", .type "object"] "ValueError.__new__" = true
  v_BadWord : PySem.W.subIn K (.ref C_BadWord) (.type "ValueError") = some true
  w_BadWord : PySem.W.subIn K (.ref C_BadWord) (.ref C_SpandrelError) = some true
  s_BadWord_BadMachine : PySem.W.subIn K (.ref C_BadWord) (.ref C_BadMachine) = some false
  s_BadWord_BadDemand : PySem.W.subIn K (.ref C_BadWord) (.ref C_BadDemand) = some false
  s_BadWord_BadLetters : PySem.W.subIn K (.ref C_BadWord) (.ref C_BadLetters) = some false
  s_BadWord_BadWord : PySem.W.subIn K (.ref C_BadWord) (.ref C_BadWord) = some true
  s_BadWord_BadSet : PySem.W.subIn K (.ref C_BadWord) (.ref C_BadSet) = some false
  s_BadWord_BadState : PySem.W.subIn K (.ref C_BadWord) (.ref C_BadState) = some false
  s_BadWord_BadText : PySem.W.subIn K (.ref C_BadWord) (.ref C_BadText) = some false
  s_BadWord_TooMuch : PySem.W.subIn K (.ref C_BadWord) (.ref C_TooMuch) = some false
  kp_BadSet : PySem.W.keepIn K (.ref C_BadSet) = true
  q_BadSet : PySem.W.excIn K C_BadSet [.type "ValueError", .type "Exception", .type "BaseException", .type "object"] "ValueError.__new__" = true
  v_BadSet : PySem.W.subIn K (.ref C_BadSet) (.type "ValueError") = some true
  w_BadSet : PySem.W.subIn K (.ref C_BadSet) (.ref C_SpandrelError) = some true
  s_BadSet_BadMachine : PySem.W.subIn K (.ref C_BadSet) (.ref C_BadMachine) = some false
  s_BadSet_BadDemand : PySem.W.subIn K (.ref C_BadSet) (.ref C_BadDemand) = some false
  s_BadSet_BadLetters : PySem.W.subIn K (.ref C_BadSet) (.ref C_BadLetters) = some false
  s_BadSet_BadWord : PySem.W.subIn K (.ref C_BadSet) (.ref C_BadWord) = some false
  s_BadSet_BadSet : PySem.W.subIn K (.ref C_BadSet) (.ref C_BadSet) = some true
  s_BadSet_BadState : PySem.W.subIn K (.ref C_BadSet) (.ref C_BadState) = some false
  s_BadSet_BadText : PySem.W.subIn K (.ref C_BadSet) (.ref C_BadText) = some false
  s_BadSet_TooMuch : PySem.W.subIn K (.ref C_BadSet) (.ref C_TooMuch) = some false
  kp_BadLetters : PySem.W.keepIn K (.ref C_BadLetters) = true
  q_BadLetters : PySem.W.excIn K C_BadLetters [.type "ValueError", .type "Exception", .type "BaseException", .type "object"] "ValueError.__new__" = true
  v_BadLetters : PySem.W.subIn K (.ref C_BadLetters) (.type "ValueError") = some true
  w_BadLetters : PySem.W.subIn K (.ref C_BadLetters) (.ref C_SpandrelError) = some true
  s_BadLetters_BadMachine : PySem.W.subIn K (.ref C_BadLetters) (.ref C_BadMachine) = some false
  s_BadLetters_BadDemand : PySem.W.subIn K (.ref C_BadLetters) (.ref C_BadDemand) = some false
  s_BadLetters_BadLetters : PySem.W.subIn K (.ref C_BadLetters) (.ref C_BadLetters) = some true
  s_BadLetters_BadWord : PySem.W.subIn K (.ref C_BadLetters) (.ref C_BadWord) = some false
  s_BadLetters_BadSet : PySem.W.subIn K (.ref C_BadLetters) (.ref C_BadSet) = some false
  s_BadLetters_BadState : PySem.W.subIn K (.ref C_BadLetters) (.ref C_BadState) = some false
  s_BadLetters_BadText : PySem.W.subIn K (.ref C_BadLetters) (.ref C_BadText) = some false
  s_BadLetters_TooMuch : PySem.W.subIn K (.ref C_BadLetters) (.ref C_TooMuch) = some false
  kp_BadMachine : PySem.W.keepIn K (.ref C_BadMachine) = true
  q_BadMachine : PySem.W.excIn K C_BadMachine [.type "ValueError", .type "Exception", .type "BaseException", .type "object"] "ValueError.__new__" = true
  v_BadMachine : PySem.W.subIn K (.ref C_BadMachine) (.type "ValueError") = some true
  w_BadMachine : PySem.W.subIn K (.ref C_BadMachine) (.ref C_SpandrelError) = some true
  s_BadMachine_BadMachine : PySem.W.subIn K (.ref C_BadMachine) (.ref C_BadMachine) = some true
  s_BadMachine_BadDemand : PySem.W.subIn K (.ref C_BadMachine) (.ref C_BadDemand) = some false
  s_BadMachine_BadLetters : PySem.W.subIn K (.ref C_BadMachine) (.ref C_BadLetters) = some false
  s_BadMachine_BadWord : PySem.W.subIn K (.ref C_BadMachine) (.ref C_BadWord) = some false
  s_BadMachine_BadSet : PySem.W.subIn K (.ref C_BadMachine) (.ref C_BadSet) = some false
  s_BadMachine_BadState : PySem.W.subIn K (.ref C_BadMachine) (.ref C_BadState) = some false
  s_BadMachine_BadText : PySem.W.subIn K (.ref C_BadMachine) (.ref C_BadText) = some false
  s_BadMachine_TooMuch : PySem.W.subIn K (.ref C_BadMachine) (.ref C_TooMuch) = some false
  kp_BadDemand : PySem.W.keepIn K (.ref C_BadDemand) = true
  q_BadDemand : PySem.W.excIn K C_BadDemand [.type "ValueError", .type "Exception", .type "BaseException", .type "object"] "ValueError.__new__" = true
  v_BadDemand : PySem.W.subIn K (.ref C_BadDemand) (.type "ValueError") = some true
  w_BadDemand : PySem.W.subIn K (.ref C_BadDemand) (.ref C_SpandrelError) = some true
  s_BadDemand_BadMachine : PySem.W.subIn K (.ref C_BadDemand) (.ref C_BadMachine) = some false
  s_BadDemand_BadDemand : PySem.W.subIn K (.ref C_BadDemand) (.ref C_BadDemand) = some true
  s_BadDemand_BadLetters : PySem.W.subIn K (.ref C_BadDemand) (.ref C_BadLetters) = some false
  s_BadDemand_BadWord : PySem.W.subIn K (.ref C_BadDemand) (.ref C_BadWord) = some false
  s_BadDemand_BadSet : PySem.W.subIn K (.ref C_BadDemand) (.ref C_BadSet) = some false
  s_BadDemand_BadState : PySem.W.subIn K (.ref C_BadDemand) (.ref C_BadState) = some false
  s_BadDemand_BadText : PySem.W.subIn K (.ref C_BadDemand) (.ref C_BadText) = some false
  s_BadDemand_TooMuch : PySem.W.subIn K (.ref C_BadDemand) (.ref C_TooMuch) = some false
def Tx.cl {K : PySem.W.Frag} {mg : Str → Option Value} (T : Tx K mg) : Nat → Addr := fun c => match c with
  | 0 => T.C_BadMachine
  | 1 => T.C_BadDemand
  | 2 => T.C_BadLetters
  | 3 => T.C_BadWord
  | 4 => T.C_BadSet
  | 5 => T.C_BadState
  | 6 => T.C_BadText
  | 7 => T.C_TooMuch
  | _ => T.C_SpandrelError
theorem Tx.caught {K : PySem.W.Frag} {mg : Str → Option Value} (T : Tx K mg) : ∀ c x, m_hd c = some x → flatD x = true ∧ PySem.W.exmOne K (.ref (T.cl c)) (.ref T.C_SpandrelError) = some true := by
  intro c x h
  refine ⟨m_hd_flat c x h, ?_⟩
  unfold m_hd at h
  split at h
  · exact exm_ref T.f_SpandrelError T.w_BadWord
  · exact exm_ref T.f_SpandrelError T.w_BadSet
  · exact exm_ref T.f_SpandrelError T.w_BadLetters
  · exact exm_ref T.f_SpandrelError T.w_BadMachine
  · exact exm_ref T.f_SpandrelError T.w_BadDemand
  · cases h
section
variable {P : Program} {w : World} {K : PySem.W.Frag} {mg : Str → Option Value} {base : Heap}
set_option maxHeartbeats 4000000 in
theorem ok__law_box (T : Tx K mg) : FnOk P w K mg base CX0 1 T.a__law_box T.fd__law_box ["script"] (spM K 0 1 2 W0 m__law_box) := by
  refine ok0 T.F__law_box sc__law_box rfl rfl fun cdv A outer s H E hr => ⟨_,
    (pss_one (ps_ret (pe_lst (pa_cons pe_int (pa_cons pe_int (pa_cons pe_int (pa_cons (pe_lc (own := [("x", 1)]) rfl sc__law_box.nd (zseq K (pv 0)) (blkOk_by (N := ["script", "x"]) (sc := defScope s__law_box) (by decide +kernel)) (fun _ _ _ _ _ => (pg_name (i := 1) sc__law_box.nd rfl (by first | exact Or.inl rfl | exact Or.inr rfl))) (fun _ _ _ _ _ => pts_nil) (fun _ _ _ _ _ => (pe_callB call_abs (by rfl) T.z_abs (by decide +kernel) (pa_cons (pe_callTy call_int1 (by rfl) T.z_int (by decide +kernel) (pa_cons (pv 1) pa_nil)) pa_nil)))) pa_nil))))))),
    ?_⟩
  exact (sim_ret (sim_lst (sim_cons (sim_c (.int _)) (sim_cons (sim_c (.int _)) (sim_cons (sim_c (.int _)) (sim_cons (sim_lcH (simg_name (by decide)) sim_yes (sim_cb s_abs (sim_cons (sim_cb s_int (sim_cons sim_var sim_nil)) sim_nil)) (by decide) (by decide) (by decide)) sim_nil))))))
set_option maxHeartbeats 4000000 in
theorem ok__law_take (T : Tx K mg) : FnOk P w K mg base CX0 1 T.a__law_take T.fd__law_take ["box", "m"] (spM K 1 2 5 W0 m__law_take) := by
  refine ok0 T.F__law_take sc__law_take rfl rfl fun cdv A outer s H E hr => ⟨_,
    (pss_cons (ps_if (pt_cmpR (zeq K (hu64 hr)) (pe_ix (zix K) (pv 0) pe_int (fun _ _ => rfl)) pe_int (nomark _)) (pss_cons (ps_set (i := 2) sc__law_take.nd rfl (by first | exact Or.inl rfl | exact Or.inr rfl) (pe_ix (zix K) (pv 0) pe_int (fun _ _ => rfl)))
      (pss_cons (ps_set (i := 3) sc__law_take.nd rfl (by first | exact Or.inl rfl | exact Or.inr rfl) pe_int)
      (pss_cons (ps_if (pt_cmpR op_lt (pv 2) (pe_callB (zlen K) (by rfl) T.z_len (by decide +kernel) (pa_cons (pe_ix (zix K) (pv 0) pe_int (fun _ _ => rfl)) pa_nil)) (nomark _)) (pss_cons (ps_set (i := 3) sc__law_take.nd rfl (by first | exact Or.inl rfl | exact Or.inr rfl) (pe_ix (zix K) (pe_ix (zix K) (pv 0) pe_int (fun _ _ => rfl)) (pv 2) (fun _ _ => rfl)))
      (pss_one (ps_asg (pe_ifExp (pt_cmpR op_ge (pv 3) (pe_op op_pow pe_int pe_int) (nomark _)) pe_int (pe_un un_neg pe_int)) (pg_sub (pv 0) pe_int set_list)))) pss_nil)
      (pss_cons (ps_asg (pe_op op_add (pv 2) pe_int) (pg_sub (pv 0) pe_int set_list))
      (pss_cons (ps_asg (pv 3) (pg_sub (pv 0) pe_int set_list))
      (pss_one (ps_if (pt_cmpR (zeq K (hu64 hr)) (pe_ix (zix K) (pv 0) pe_int (fun _ _ => rfl)) pe_int (nomark _)) (pss_one (ps_ret pe_int)) pss_nil))))))) pss_nil)
      (pss_cons (ps_if (pt_cmpR op_gt (pe_ix (zix K) (pv 0) pe_int (fun _ _ => rfl)) pe_int (nomark _)) (pss_cons (ps_set (i := 4) sc__law_take.nd rfl (by first | exact Or.inl rfl | exact Or.inr rfl) (pe_op op_mod (pe_callTy call_int1 (by rfl) T.z_int (by decide +kernel) (pa_cons (pe_ix (zix K) (pv 0) pe_int (fun _ _ => rfl)) pa_nil)) (pv 1)))
      (pss_cons (ps_asg (pe_op op_fdiv (pe_ix (zix K) (pv 0) pe_int (fun _ _ => rfl)) (pv 1)) (pg_sub (pv 0) pe_int set_list))
      (pss_cons (ps_asg (pe_ifExp (pt_cmpR op_gt (pe_ix (zix K) (pv 0) pe_int (fun _ _ => rfl)) pe_int (nomark _)) (pe_op op_sub (pe_ix (zix K) (pv 0) pe_int (fun _ _ => rfl)) pe_int) pe_int) (pg_sub (pv 0) pe_int set_list))
      (pss_one (ps_ret (pv 4)))))) pss_nil)
      (pss_cons (ps_asg (pe_op op_add (pe_ix (zix K) (pv 0) pe_int (fun _ _ => rfl)) pe_int) (pg_sub (pv 0) pe_int set_list))
      (pss_cons (ps_asg (pe_op op_mod (pe_callTy call_int1 (by rfl) T.z_int (by decide +kernel) (pa_cons (pe_op op_add (pe_op op_mul (pe_ix (zix K) (pv 0) pe_int (fun _ _ => rfl)) pe_int) (pe_op op_mul pe_int (pe_op op_add (pe_ix (zix K) (pv 0) pe_int (fun _ _ => rfl)) pe_int))) pa_nil)) pe_int) (pg_sub (pv 0) pe_int set_list))
      (pss_one (ps_ret (pe_op op_mod (pe_op op_mod (pe_callTy call_int1 (by rfl) T.z_int (by decide +kernel) (pa_cons (pe_op op_add (pe_op op_fdiv (pe_ix (zix K) (pv 0) pe_int (fun _ _ => rfl)) pe_int) (pe_ix (zix K) (pv 0) pe_int (fun _ _ => rfl))) pa_nil)) pe_int) (pv 1)))))))),
    ?_⟩
  exact (sim_seq (sim_ifS (sim_test (sim_op s_eq (sim_op s_ix sim_var (sim_c (.int _))) (sim_c (.int _)))) (sim_seq (sim_asg (sim_op s_ix sim_var (sim_c (.int _))) (by decide))
      (sim_seq (sim_asg (sim_c (.int _)) (by decide))
      (sim_seq (sim_ifS (sim_test (sim_op s_lt sim_var (sim_cb s_len (sim_cons (sim_op s_ix sim_var (sim_c (.int _))) sim_nil)))) (sim_seq (sim_asg (sim_op s_ix (sim_op s_ix sim_var (sim_c (.int _))) sim_var) (by decide))
      (sim_setI (sim_if (sim_test (sim_op s_ge sim_var (sim_op s_pow (sim_c (.int _)) (sim_c (.int _))))) (sim_c (.int _)) (sim_un s_neg (sim_c (.int _)))) (sim_c (.int _)))) sim_next)
      (sim_seq (sim_setI (sim_op s_add sim_var (sim_c (.int _))) (sim_c (.int _)))
      (sim_seq (sim_setI sim_var (sim_c (.int _)))
      (sim_ifS (sim_test (sim_op s_eq (sim_op s_ix sim_var (sim_c (.int _))) (sim_c (.int _)))) (sim_ret (sim_c (.int _))) sim_next)))))) sim_next)
      (sim_seq (sim_ifS (sim_test (sim_op s_gt (sim_op s_ix sim_var (sim_c (.int _))) (sim_c (.int _)))) (sim_seq (sim_asg (sim_op s_mod (sim_cb s_int (sim_cons (sim_op s_ix sim_var (sim_c (.int _))) sim_nil)) sim_var) (by decide))
      (sim_seq (sim_setI (sim_op s_div (sim_op s_ix sim_var (sim_c (.int _))) sim_var) (sim_c (.int _)))
      (sim_seq (sim_setI (sim_if (sim_test (sim_op s_gt (sim_op s_ix sim_var (sim_c (.int _))) (sim_c (.int _)))) (sim_op s_sub (sim_op s_ix sim_var (sim_c (.int _))) (sim_c (.int _))) (sim_c (.int _))) (sim_c (.int _)))
      (sim_ret sim_var)))) sim_next)
      (sim_seq (sim_setI (sim_op s_add (sim_op s_ix sim_var (sim_c (.int _))) (sim_c (.int _))) (sim_c (.int _)))
      (sim_seq (sim_setI (sim_op s_mod (sim_cb s_int (sim_cons (sim_op s_add (sim_op s_mul (sim_op s_ix sim_var (sim_c (.int _))) (sim_c (.int _))) (sim_op s_mul (sim_c (.int _)) (sim_op s_add (sim_op s_ix sim_var (sim_c (.int _))) (sim_c (.int _))))) sim_nil)) (sim_c (.int _))) (sim_c (.int _)))
      (sim_ret (sim_op s_mod (sim_op s_mod (sim_cb s_int (sim_cons (sim_op s_add (sim_op s_div (sim_op s_ix sim_var (sim_c (.int _))) (sim_c (.int _))) (sim_op s_ix sim_var (sim_c (.int _)))) sim_nil)) (sim_c (.int _))) sim_var))))))
set_option maxHeartbeats 4000000 in
theorem ok__law_pick (T : Tx K mg) : FnOk P w K mg base CX0 2 T.a__law_pick T.fd__law_pick ["box", "menu"] (spM K 1 2 2 W0 m__law_pick) := by
  refine ok0 T.F__law_pick sc__law_pick rfl rfl fun cdv A outer s H E hr => ⟨_,
    (pss_one (ps_ret (pe_ix (zix K) (pv 1) (pe_call (ok__law_take T) (hr.mono (by decide)) rfl T.mg__law_take T.F__law_take.kp T.b__law_take .nil pass0 (pa_cons (pv 0) (pa_cons (pe_callB (zlen K) (by rfl) T.z_len (by decide +kernel) (pa_cons (pv 1) pa_nil)) pa_nil))) (fun _ _ => rfl)))),
    ?_⟩
  exact (sim_ret (sim_op s_ix sim_var (sim_callM (mask := [true]) (sim_cons sim_var (sim_cons (sim_cb s_len (sim_cons sim_var sim_nil)) sim_nil)))))
set_option maxHeartbeats 4000000 in
theorem ok__law_demand (T : Tx K mg) : FnOk P w K mg base CX0 3 T.a__law_demand T.fd__law_demand ["box", "n", "most"] (spM K 1 3 12 W0 m__law_demand) := by
  refine ok0 T.F__law_demand sc__law_demand rfl rfl fun cdv A outer s H E hr => ⟨_,
    (pss_cons (ps_set (i := 3) sc__law_demand.nd rfl (by first | exact Or.inl rfl | exact Or.inr rfl) (pe_op op_add pe_int (pe_call (ok__law_take T) (hr.mono (by decide)) rfl T.mg__law_take T.F__law_take.kp T.b__law_take .nil pass0 (pa_cons (pv 0) (pa_cons (pv 2) pa_nil)))))
      (pss_cons (ps_set (i := 4) sc__law_demand.nd rfl (by first | exact Or.inl rfl | exact Or.inr rfl) (pe_lst pa_nil))
      (pss_cons (ps_for PassesOwn.never rfl (pi_range1 (by rfl) T.z_range (pa_cons (pv 3) pa_nil)) (pg_name (i := 5) sc__law_demand.nd rfl (by first | exact Or.inl rfl | exact Or.inr rfl)) (pss_cons (ps_set (i := 6) sc__law_demand.nd rfl (by first | exact Or.inl rfl | exact Or.inr rfl) (pe_lst pa_nil))
      (pss_cons (ps_for PassesOwn.never rfl (pi_range1 (by rfl) T.z_range (pa_cons (pe_call (ok__law_pick T) (hr.mono (by decide)) rfl T.mg__law_pick T.F__law_pick.kp T.b__law_pick .nil pass0 (pa_cons (pv 0) (pa_cons (pe_lst (pa_cons pe_int (pa_cons pe_int (pa_cons pe_int (pa_cons pe_int (pa_cons pe_int (pa_cons pe_int (pa_cons pe_int pa_nil)))))))) pa_nil))) pa_nil)) (pg_name (i := 7) sc__law_demand.nd rfl (by first | exact Or.inl rfl | exact Or.inr rfl)) (pss_cons (ps_set (i := 8) sc__law_demand.nd rfl (by first | exact Or.inl rfl | exact Or.inr rfl) (pe_call (ok__law_take T) (hr.mono (by decide)) rfl T.mg__law_take T.F__law_take.kp T.b__law_take .nil pass0 (pa_cons (pv 0) (pa_cons (pe_ix (zix K) (pe_lst (pa_cons pe_int (pa_cons pe_int (pa_cons pe_int (pa_cons pe_int (pa_cons pe_int (pa_cons pe_int pa_nil))))))) (pv 1) (fun _ _ => rfl)) pa_nil))))
      (pss_one (ps_if (pt_cmpR (zalt (znotIn K (hu65 hr)) (znotInT (K := K) (hu65 hr))) (pv 8) (pv 6) (by rfl)) (pss_one (ps_expr (pe_bm PySem.F.plainAttrs_list PySem.F.slot_list_append PySem.F.type_list_append mt_append (pv 6) (pa_cons (pv 8) pa_nil)))) pss_nil))))
      (pss_cons (ps_set (i := 9) sc__law_demand.nd rfl (by first | exact Or.inl rfl | exact Or.inr rfl) pe_int)
      (pss_cons (ps_set (i := 10) sc__law_demand.nd rfl (by first | exact Or.inl rfl | exact Or.inr rfl) (pe_lst pa_nil))
      (pss_cons (ps_for PassesOwn.never rfl (pi_range1 (by rfl) T.z_range (pa_cons (pv 1) pa_nil)) (pg_name (i := 11) sc__law_demand.nd rfl (by first | exact Or.inl rfl | exact Or.inr rfl)) (pss_cons (ps_set (i := 9) sc__law_demand.nd rfl (by first | exact Or.inl rfl | exact Or.inr rfl) (pe_callB (zlen K) (by rfl) T.z_len (by decide +kernel) (pa_cons (pe_lc (own := [("bits", 8)]) rfl sc__law_demand.nd (zseq K (pv 6)) (blkOk_by (N := ["box", "n", "most", "size", "states", "q", "taken", "k", "bits", "used", "after", "a"]) (sc := defScope s__law_demand) (by decide +kernel)) (fun _ _ _ _ _ => (pg_name (i := 8) sc__law_demand.nd rfl (by first | exact Or.inl rfl | exact Or.inr rfl))) (fun _ _ _ _ _ => (pts_one (pt_cmpR (zeq K (hu64 hr)) (pe_op op_mod (pe_op op_fdiv (pe_callTy call_int1 (by rfl) T.z_int (by decide +kernel) (pa_cons (pv 8) pa_nil)) (pe_ix (zix K) (pe_lst (pa_cons pe_int (pa_cons pe_int (pa_cons pe_int (pa_cons pe_int (pa_cons pe_int pa_nil)))))) (pv 11) (fun _ _ => rfl))) pe_int) pe_int (nomark _)))) (fun _ _ _ _ _ => (pv 8))) pa_nil)))
      (pss_one (ps_if (PW.pt (pw_and (pt_cmpR (zeq K (hu64 hr)) (pv 9) pe_int (nomark _)) (pw_and1 (pt_cmpR op_gt (pe_call (ok__law_take T) (hr.mono (by decide)) rfl T.mg__law_take T.F__law_take.kp T.b__law_take .nil pass0 (pa_cons (pv 0) (pa_cons pe_int pa_nil))) pe_int (nomark _))))) (pss_one (ps_expr (pe_bm PySem.F.plainAttrs_list PySem.F.slot_list_append PySem.F.type_list_append mt_append (pv 10) (pa_cons (pe_un un_neg pe_int) pa_nil)))) (pss_one (ps_expr (pe_bm PySem.F.plainAttrs_list PySem.F.slot_list_append PySem.F.type_list_append mt_append (pv 10) (pa_cons (pe_call (ok__law_take T) (hr.mono (by decide)) rfl T.mg__law_take T.F__law_take.kp T.b__law_take .nil pass0 (pa_cons (pv 0) (pa_cons (pv 3) pa_nil))) pa_nil))))))))
      (pss_one (ps_expr (pe_bm PySem.F.plainAttrs_list PySem.F.slot_list_append PySem.F.type_list_append mt_append (pv 4) (pa_cons (pe_tup (pa_cons (pe_callTy (ztuple (K := K)) (by rfl) T.z_tuple (by decide +kernel) (pa_cons (pe_callB (zsortA (K := K)) (by rfl) T.z_sorted (by decide +kernel) (pa_cons (pv 6) pa_nil)) pa_nil)) (pa_cons (pe_callTy (ztuple (K := K)) (by rfl) T.z_tuple (by decide +kernel) (pa_cons (pv 10) pa_nil)) pa_nil))) pa_nil))))))))))
      (pss_one (ps_ret (pe_tup (pa_cons (pv 1) (pa_cons (pe_callTy (ztuple (K := K)) (by rfl) T.z_tuple (by decide +kernel) (pa_cons (pv 4) pa_nil)) pa_nil)))))))),
    ?_⟩
  exact (sim_seq (sim_asg (sim_op s_add (sim_c (.int _)) (sim_callM (mask := [true]) (sim_cons sim_var (sim_cons sim_var sim_nil)))) (by decide))
      (sim_seq (sim_asg (sim_lst sim_nil) (by decide))
      (sim_seq (sim_for (sim_rng1 (sim_cons sim_var sim_nil)) (simg_name (by decide)) (sim_seq (sim_asg (sim_lst sim_nil) (by decide))
      (sim_seq (sim_for (sim_rng1 (sim_cons (sim_callM (mask := [true]) (sim_cons sim_var (sim_cons (sim_lst (sim_cons (sim_c (.int _)) (sim_cons (sim_c (.int _)) (sim_cons (sim_c (.int _)) (sim_cons (sim_c (.int _)) (sim_cons (sim_c (.int _)) (sim_cons (sim_c (.int _)) (sim_cons (sim_c (.int _)) sim_nil)))))))) sim_nil))) sim_nil)) (simg_name (by decide)) (sim_seq (sim_asg (sim_callM (mask := [true]) (sim_cons sim_var (sim_cons (sim_op s_ix (sim_lst (sim_cons (sim_c (.int _)) (sim_cons (sim_c (.int _)) (sim_cons (sim_c (.int _)) (sim_cons (sim_c (.int _)) (sim_cons (sim_c (.int _)) (sim_cons (sim_c (.int _)) sim_nil))))))) sim_var) sim_nil))) (by decide))
      (sim_ifS (sim_test (sim_op (s_alt s_notIn s_notInT) sim_var sim_var)) (sim_mut s_append (sim_cons sim_var sim_nil)) sim_next)))
      (sim_seq (sim_asg (sim_c (.int _)) (by decide))
      (sim_seq (sim_asg (sim_lst sim_nil) (by decide))
      (sim_seq (sim_for (sim_rng1 (sim_cons sim_var sim_nil)) (simg_name (by decide)) (sim_seq (sim_asg (sim_cb s_len (sim_cons (sim_lcH (simg_name (by decide)) (sim_test (sim_op s_eq (sim_op s_mod (sim_op s_div (sim_cb s_int (sim_cons sim_var sim_nil)) (sim_op s_ix (sim_lst (sim_cons (sim_c (.int _)) (sim_cons (sim_c (.int _)) (sim_cons (sim_c (.int _)) (sim_cons (sim_c (.int _)) (sim_cons (sim_c (.int _)) sim_nil)))))) sim_var)) (sim_c (.int _))) (sim_c (.int _)))) sim_var (by decide) (by decide) (by decide)) sim_nil)) (by decide))
      (sim_ifS (sim_and (sim_test (sim_op s_eq sim_var (sim_c (.int _)))) (sim_test (sim_op s_gt (sim_callM (mask := [true]) (sim_cons sim_var (sim_cons (sim_c (.int _)) sim_nil))) (sim_c (.int _))))) (sim_mut s_append (sim_cons (sim_un s_neg (sim_c (.int _))) sim_nil)) (sim_mut s_append (sim_cons (sim_callM (mask := [true]) (sim_cons sim_var (sim_cons sim_var sim_nil))) sim_nil)))))
      (sim_mut s_append (sim_cons (sim_tup (sim_cons (sim_cb s_tuple (sim_cons (sim_cb s_sortA (sim_cons sim_var sim_nil)) sim_nil)) (sim_cons (sim_cb s_tuple (sim_cons sim_var sim_nil)) sim_nil))) sim_nil))))))))
      (sim_ret (sim_tup (sim_cons sim_var (sim_cons (sim_cb s_tuple (sim_cons sim_var sim_nil)) sim_nil)))))))
set_option maxHeartbeats 4000000 in
theorem der__law_class (T : Tx K mg) {k : Nat} {Ce : Addr} (fC : ClsF K Ce) (cdv : Value) (A : Around) (outer : List PySem.Env) (s : Shared) (H : Hp) (p : Addr × Obj) (hr : RoomH k (A.deeper (PyProof.Rows.envOfC "_law_class" (defScope s__law_class) s.heap.objs.size T.a__law_class cdv))) (hot : Hot1 A p) (zn : L2N.Zn (.ref Ce) none p.2) : PSs (cxH CX0 P w K mg base ["e", "kinds"] "_law_class" (defScope s__law_class) T.a__law_class cdv A outer s H E0 p) (defBody s__law_class) (clsT K Ce p.1 [T.C_BadMachine, T.C_BadDemand, T.C_BadLetters, T.C_BadWord, T.C_BadSet, T.C_BadState, T.C_BadText, T.C_TooMuch] [PySem.Str.ofString "machine", PySem.Str.ofString "demand", PySem.Str.ofString "letters", PySem.Str.ofString "word", PySem.Str.ofString "set", PySem.Str.ofString "state", PySem.Str.ofString "text", PySem.Str.ofString "much"] (PySem.Str.ofString "several")) :=
  (pss_cons (ps_set (i := 1) sc__law_class.nd rfl (by first | exact Or.inl rfl | exact Or.inr rfl) (pe_lst (pa_cons (pe_callB (zisE (a := p.1) (oe := p.2) (by exact List.mem_cons_self) fC.x zn.zc ⟨_, hot.2.choose_spec.1⟩) (by rfl) T.z_isinstance (by decide +kernel) (pa_cons (pv 0) (pa_cons (pe_glob (v := .ref T.C_BadMachine) rfl T.mg_BadMachine rfl) pa_nil)))
      (pa_cons (pe_callB (zisE (a := p.1) (oe := p.2) (by exact List.mem_cons_self) fC.x zn.zc ⟨_, hot.2.choose_spec.1⟩) (by rfl) T.z_isinstance (by decide +kernel) (pa_cons (pv 0) (pa_cons (pe_glob (v := .ref T.C_BadDemand) rfl T.mg_BadDemand rfl) pa_nil)))
      (pa_cons (pe_callB (zisE (a := p.1) (oe := p.2) (by exact List.mem_cons_self) fC.x zn.zc ⟨_, hot.2.choose_spec.1⟩) (by rfl) T.z_isinstance (by decide +kernel) (pa_cons (pv 0) (pa_cons (pe_glob (v := .ref T.C_BadLetters) rfl T.mg_BadLetters rfl) pa_nil)))
      (pa_cons (pe_callB (zisE (a := p.1) (oe := p.2) (by exact List.mem_cons_self) fC.x zn.zc ⟨_, hot.2.choose_spec.1⟩) (by rfl) T.z_isinstance (by decide +kernel) (pa_cons (pv 0) (pa_cons (pe_glob (v := .ref T.C_BadWord) rfl T.mg_BadWord rfl) pa_nil)))
      (pa_cons (pe_callB (zisE (a := p.1) (oe := p.2) (by exact List.mem_cons_self) fC.x zn.zc ⟨_, hot.2.choose_spec.1⟩) (by rfl) T.z_isinstance (by decide +kernel) (pa_cons (pv 0) (pa_cons (pe_glob (v := .ref T.C_BadSet) rfl T.mg_BadSet rfl) pa_nil)))
      (pa_cons (pe_callB (zisE (a := p.1) (oe := p.2) (by exact List.mem_cons_self) fC.x zn.zc ⟨_, hot.2.choose_spec.1⟩) (by rfl) T.z_isinstance (by decide +kernel) (pa_cons (pv 0) (pa_cons (pe_glob (v := .ref T.C_BadState) rfl T.mg_BadState rfl) pa_nil)))
      (pa_cons (pe_callB (zisE (a := p.1) (oe := p.2) (by exact List.mem_cons_self) fC.x zn.zc ⟨_, hot.2.choose_spec.1⟩) (by rfl) T.z_isinstance (by decide +kernel) (pa_cons (pv 0) (pa_cons (pe_glob (v := .ref T.C_BadText) rfl T.mg_BadText rfl) pa_nil)))
      (pa_cons (pe_callB (zisE (a := p.1) (oe := p.2) (by exact List.mem_cons_self) fC.x zn.zc ⟨_, hot.2.choose_spec.1⟩) (by rfl) T.z_isinstance (by decide +kernel) (pa_cons (pv 0) (pa_cons (pe_glob (v := .ref T.C_TooMuch) rfl T.mg_TooMuch rfl) pa_nil)))
      pa_nil))))))))))
    (pss_cons (ps_if (PW.pt (pw_or (pt_cmpR (zne K (huH hr)) (pe_bm PySem.F.plainAttrs_list PySem.F.slot_list_count PySem.F.type_list_count mt_countF (pv 1) (pa_cons pe_bl pa_nil)) pe_int (nomark _)) (pw_or1 (pt_not (zpt_tru K (pe_callB (zisE (a := p.1) (oe := p.2) (by exact List.mem_cons_self) fC.x zn.zc ⟨_, hot.2.choose_spec.1⟩) (by rfl) T.z_isinstance (by decide +kernel) (pa_cons (pv 0) (pa_cons (pe_bltn (v := .ty "ValueError") (by rfl) T.z_ValueError (by decide +kernel) rfl) pa_nil)))))))) (pss_one (ps_ret pe_str)) pss_nil)
    (pss_one (ps_ret (pe_ix (zix K) (pe_lst (pa_cons pe_str (pa_cons pe_str (pa_cons pe_str (pa_cons pe_str (pa_cons pe_str (pa_cons pe_str (pa_cons pe_str (pa_cons pe_str pa_nil))))))))) (pe_bm PySem.F.plainAttrs_list PySem.F.slot_list_index PySem.F.type_list_index mt_index (pv 1) (pa_cons pe_bl pa_nil)) (fun _ _ => rfl))))))
theorem err__law_class (T : Tx K mg) : FnErr P w K mg base T.cl m_hd 1 T.a__law_class T.fd__law_class "e" := by
  refine fnErr_of (k := 0) T.F__law_class sc__law_class fun cdv A outer s H p c y Q hr hot zn hy hq => ?_
  unfold m_hd at hy
  split at hy
  · cases hy
    exact ⟨_, der__law_class T T.f_BadWord cdv A outer s H p hr hot zn, clsTail (bs := [false, false, false, true, false, false, false, false]) (j := 3) rfl (by show 1 < 2; decide) rfl (zc1 (kit_ref T.f_BadWord T.f_BadMachine T.s_BadWord_BadMachine) (zc1 (kit_ref T.f_BadWord T.f_BadDemand T.s_BadWord_BadDemand) (zc1 (kit_ref T.f_BadWord T.f_BadLetters T.s_BadWord_BadLetters) (zc1 (kit_ref T.f_BadWord T.f_BadWord T.s_BadWord_BadWord) (zc1 (kit_ref T.f_BadWord T.f_BadSet T.s_BadWord_BadSet) (zc1 (kit_ref T.f_BadWord T.f_BadState T.s_BadWord_BadState) (zc1 (kit_ref T.f_BadWord T.f_BadText T.s_BadWord_BadText) (zc1 (kit_ref T.f_BadWord T.f_TooMuch T.s_BadWord_TooMuch) zc0)))))))) (kit_val T.v_BadWord) (by show 8 ≤ 100; decide) (by show 8 ≤ 100; decide) rfl rfl (hm_of rfl) rfl hq⟩
  · cases hy
    exact ⟨_, der__law_class T T.f_BadSet cdv A outer s H p hr hot zn, clsTail (bs := [false, false, false, false, true, false, false, false]) (j := 4) rfl (by show 1 < 2; decide) rfl (zc1 (kit_ref T.f_BadSet T.f_BadMachine T.s_BadSet_BadMachine) (zc1 (kit_ref T.f_BadSet T.f_BadDemand T.s_BadSet_BadDemand) (zc1 (kit_ref T.f_BadSet T.f_BadLetters T.s_BadSet_BadLetters) (zc1 (kit_ref T.f_BadSet T.f_BadWord T.s_BadSet_BadWord) (zc1 (kit_ref T.f_BadSet T.f_BadSet T.s_BadSet_BadSet) (zc1 (kit_ref T.f_BadSet T.f_BadState T.s_BadSet_BadState) (zc1 (kit_ref T.f_BadSet T.f_BadText T.s_BadSet_BadText) (zc1 (kit_ref T.f_BadSet T.f_TooMuch T.s_BadSet_TooMuch) zc0)))))))) (kit_val T.v_BadSet) (by show 8 ≤ 100; decide) (by show 8 ≤ 100; decide) rfl rfl (hm_of rfl) rfl hq⟩
  · cases hy
    exact ⟨_, der__law_class T T.f_BadLetters cdv A outer s H p hr hot zn, clsTail (bs := [false, false, true, false, false, false, false, false]) (j := 2) rfl (by show 1 < 2; decide) rfl (zc1 (kit_ref T.f_BadLetters T.f_BadMachine T.s_BadLetters_BadMachine) (zc1 (kit_ref T.f_BadLetters T.f_BadDemand T.s_BadLetters_BadDemand) (zc1 (kit_ref T.f_BadLetters T.f_BadLetters T.s_BadLetters_BadLetters) (zc1 (kit_ref T.f_BadLetters T.f_BadWord T.s_BadLetters_BadWord) (zc1 (kit_ref T.f_BadLetters T.f_BadSet T.s_BadLetters_BadSet) (zc1 (kit_ref T.f_BadLetters T.f_BadState T.s_BadLetters_BadState) (zc1 (kit_ref T.f_BadLetters T.f_BadText T.s_BadLetters_BadText) (zc1 (kit_ref T.f_BadLetters T.f_TooMuch T.s_BadLetters_TooMuch) zc0)))))))) (kit_val T.v_BadLetters) (by show 8 ≤ 100; decide) (by show 8 ≤ 100; decide) rfl rfl (hm_of rfl) rfl hq⟩
  · cases hy
    exact ⟨_, der__law_class T T.f_BadMachine cdv A outer s H p hr hot zn, clsTail (bs := [true, false, false, false, false, false, false, false]) (j := 0) rfl (by show 1 < 2; decide) rfl (zc1 (kit_ref T.f_BadMachine T.f_BadMachine T.s_BadMachine_BadMachine) (zc1 (kit_ref T.f_BadMachine T.f_BadDemand T.s_BadMachine_BadDemand) (zc1 (kit_ref T.f_BadMachine T.f_BadLetters T.s_BadMachine_BadLetters) (zc1 (kit_ref T.f_BadMachine T.f_BadWord T.s_BadMachine_BadWord) (zc1 (kit_ref T.f_BadMachine T.f_BadSet T.s_BadMachine_BadSet) (zc1 (kit_ref T.f_BadMachine T.f_BadState T.s_BadMachine_BadState) (zc1 (kit_ref T.f_BadMachine T.f_BadText T.s_BadMachine_BadText) (zc1 (kit_ref T.f_BadMachine T.f_TooMuch T.s_BadMachine_TooMuch) zc0)))))))) (kit_val T.v_BadMachine) (by show 8 ≤ 100; decide) (by show 8 ≤ 100; decide) rfl rfl (hm_of rfl) rfl hq⟩
  · cases hy
    exact ⟨_, der__law_class T T.f_BadDemand cdv A outer s H p hr hot zn, clsTail (bs := [false, true, false, false, false, false, false, false]) (j := 1) rfl (by show 1 < 2; decide) rfl (zc1 (kit_ref T.f_BadDemand T.f_BadMachine T.s_BadDemand_BadMachine) (zc1 (kit_ref T.f_BadDemand T.f_BadDemand T.s_BadDemand_BadDemand) (zc1 (kit_ref T.f_BadDemand T.f_BadLetters T.s_BadDemand_BadLetters) (zc1 (kit_ref T.f_BadDemand T.f_BadWord T.s_BadDemand_BadWord) (zc1 (kit_ref T.f_BadDemand T.f_BadSet T.s_BadDemand_BadSet) (zc1 (kit_ref T.f_BadDemand T.f_BadState T.s_BadDemand_BadState) (zc1 (kit_ref T.f_BadDemand T.f_BadText T.s_BadDemand_BadText) (zc1 (kit_ref T.f_BadDemand T.f_TooMuch T.s_BadDemand_TooMuch) zc0)))))))) (kit_val T.v_BadDemand) (by show 8 ≤ 100; decide) (by show 8 ≤ 100; decide) rfl rfl (hm_of rfl) rfl hq⟩
  · cases hy
set_option maxHeartbeats 4000000 in
theorem ok_is_number (T : Tx K mg) : FnOk P w K mg base CX0 1 T.a_is_number T.fd_is_number ["thing"] (spM K 0 1 1 W0 m_is_number) := by
  refine ok0 T.F_is_number sc_is_number rfl rfl fun cdv A outer s H E hr => ⟨_,
    (pss_one (ps_ret (pe_and (pe_callB (zisi K) (by rfl) T.z_isinstance (by decide +kernel) (pa_cons (pv 0) (pa_cons (pe_bltn (v := .ty "int") (by rfl) T.z_int (by decide +kernel) rfl) pa_nil))) (pe_one (pe_not (pe_callB (zisi K) (by rfl) T.z_isinstance (by decide +kernel) (pa_cons (pv 0) (pa_cons (pe_bltn (v := .ty "bool") (by rfl) T.z_bool (by decide +kernel) rfl) pa_nil)))))))),
    ?_⟩
  exact (sim_ret (sim_andV (sim_isi sim_var) (sim_notV (sim_isi sim_var))))
set_option maxHeartbeats 4000000 in
theorem ok_is_below (T : Tx K mg) : FnOk P w K mg base CX0 2 T.a_is_below T.fd_is_below ["thing", "many"] (spM K 0 2 2 W0 m_is_below) := by
  refine ok0 T.F_is_below sc_is_below rfl rfl fun cdv A outer s H E hr => ⟨_,
    (pss_one (ps_ret (pe_and (pe_call (ok_is_number T) (hr.mono (by decide)) rfl T.mg_is_number T.F_is_number.kp T.b_is_number .nil pass0 (pa_cons (pv 0) pa_nil)) (pe_one (pe_chain op_le op_lt pe_int (pv 0) (pv 1)))))),
    ?_⟩
  exact (sim_ret (sim_andV (sim_call0 (sim_cons sim_var sim_nil) (by intro h; cases h)) (sim_chain s_le s_lt (sim_c (.int _)) sim_var sim_var)))
set_option maxHeartbeats 4000000 in
theorem ok_is_letter_count (T : Tx K mg) : FnOk P w K mg base CX0 3 T.a_is_letter_count T.fd_is_letter_count ["thing"] (spM K 0 1 1 W0 m_is_letter_count) := by
  refine ok0 T.F_is_letter_count sc_is_letter_count rfl rfl fun cdv A outer s H E hr => ⟨_,
    (pss_one (ps_ret (pe_call (ok_is_below T) (hr.mono (by decide)) rfl T.mg_is_below T.F_is_below.kp T.b_is_below .nil pass0 (pa_cons (pv 0) (pa_cons (pe_op op_add (pe_glob (v := .int 5) rfl T.c_MOST_LETTERS ⟨_, rfl⟩) pe_int) pa_nil))))),
    ?_⟩
  exact (sim_ret (sim_call0 (sim_cons sim_var (sim_cons (sim_op s_add (sim_c (.int _)) (sim_c (.int _))) sim_nil)) (by intro h; cases h)))
set_option maxHeartbeats 4000000 in
theorem ok_bits_of (T : Tx K mg) : FnOk P w K mg base CX0 1 T.a_bits_of T.fd_bits_of ["letters"] (spM K 0 1 3 W0 m_bits_of) := by
  refine ok0 T.F_bits_of sc_bits_of rfl rfl fun cdv A outer s H E hr => ⟨_,
    (pss_cons (ps_set (i := 1) sc_bits_of.nd rfl (by first | exact Or.inl rfl | exact Or.inr rfl) pe_int)
      (pss_cons (ps_for PassesOwn.never rfl (zseq K (pv 0)) (pg_name (i := 2) sc_bits_of.nd rfl (by first | exact Or.inl rfl | exact Or.inr rfl)) (pss_one (ps_aug (i := 1) sc_bits_of.nd rfl (by first | exact Or.inl rfl | exact Or.inr rfl) (pe_op op_shl pe_int (pv 2)) zip_or)))
      (pss_one (ps_ret (pv 1))))),
    ?_⟩
  exact (sim_seq (sim_asg (sim_c (.int _)) (by decide))
      (sim_seq (sim_for (sim_iter sim_var) (simg_name (by decide)) (sim_aug s_ipI (sim_op s_shl (sim_c (.int _)) sim_var) (by decide)))
      (sim_ret sim_var)))
set_option maxHeartbeats 4000000 in
theorem ok_full_set (T : Tx K mg) : FnOk P w K mg base CX0 2 T.a_full_set T.fd_full_set ["n"] (spM K 0 1 1 W0 m_full_set) := by
  refine ok0 T.F_full_set sc_full_set rfl rfl fun cdv A outer s H E hr => ⟨_,
    (pss_one (ps_ret (pe_call (ok_bits_of T) (hr.mono (by decide)) rfl T.mg_bits_of T.F_bits_of.kp T.b_bits_of .nil pass0 (pa_cons (pe_listRg rfl (by rfl) T.z_list (prg_1 (by rfl) T.z_range (pv 0))) pa_nil)))),
    ?_⟩
  exact (sim_ret (sim_call0 (sim_cons (sim_lstRg sim_var) sim_nil) (by intro h; cases h)))
set_option maxHeartbeats 4000000 in
theorem ok_is_set (T : Tx K mg) : FnOk P w K mg base CX0 3 T.a_is_set T.fd_is_set ["n", "thing"] (spM K 0 2 2 W0 m_is_set) := by
  refine ok0 T.F_is_set sc_is_set rfl rfl fun cdv A outer s H E hr => ⟨_,
    (pss_one (ps_ret (pe_call (ok_is_below T) (hr.mono (by decide)) rfl T.mg_is_below T.F_is_below.kp T.b_is_below .nil pass0 (pa_cons (pv 1) (pa_cons (pe_op op_add (pe_call (ok_full_set T) (hr.mono (by decide)) rfl T.mg_full_set T.F_full_set.kp T.b_full_set .nil pass0 (pa_cons (pv 0) pa_nil)) pe_int) pa_nil))))),
    ?_⟩
  exact (sim_ret (sim_call0 (sim_cons sim_var (sim_cons (sim_op s_add (sim_call0 (sim_cons sim_var sim_nil) (by intro h; cases h)) (sim_c (.int _))) sim_nil)) (by intro h; cases h)))
set_option maxHeartbeats 4000000 in
theorem ok__is_accepts (T : Tx K mg) : FnOk P w K mg base CX0 4 T.a__is_accepts T.fd__is_accepts ["n", "accepts"] (spM K 0 2 4 W0 m__is_accepts) := by
  refine ok0 T.F__is_accepts sc__is_accepts rfl rfl fun cdv A outer s H E hr => ⟨_,
    (pss_cons (ps_if (pt_not (zpt_tru K (pe_callB (zisi K) (by rfl) T.z_isinstance (by decide +kernel) (pa_cons (pv 1) (pa_cons (pe_bltn (v := .ty "tuple") (by rfl) T.z_tuple (by decide +kernel) rfl) pa_nil))))) (pss_one (ps_ret pe_bl)) pss_nil)
      (pss_cons (ps_if (pt_not (zpt_tru K (pe_callB (zall (K := K) rfl) (by rfl) T.z_all (by decide +kernel) (pa_cons (pe_lc (own := [("bits", 2)]) rfl sc__is_accepts.nd (zseq K (pv 1)) (blkOk_by (N := ["n", "accepts", "bits", "at"]) (sc := defScope s__is_accepts) (by decide +kernel)) (fun _ _ _ _ _ => (pg_name (i := 2) sc__is_accepts.nd rfl (by first | exact Or.inl rfl | exact Or.inr rfl))) (fun _ _ _ _ _ => pts_nil) (fun _ _ _ _ _ => (pe_call (ok_is_set T) (hr.mono (by decide)) rfl T.mg_is_set T.F_is_set.kp T.b_is_set .nil pass0 (pa_cons (pv 0) (pa_cons (pv 2) pa_nil))))) pa_nil)))) (pss_one (ps_ret pe_bl)) pss_nil)
      (pss_one (ps_ret (pe_callB (zall (K := K) rfl) (by rfl) T.z_all (by decide +kernel) (pa_cons (pe_lc (own := [("at", 3)]) rfl sc__is_accepts.nd (pi_range2 (by rfl) T.z_range (pa_cons pe_int (pa_cons (pe_callB (zlen K) (by rfl) T.z_len (by decide +kernel) (pa_cons (pv 1) pa_nil)) pa_nil))) (blkOk_by (N := ["n", "accepts", "bits", "at"]) (sc := defScope s__is_accepts) (by decide +kernel)) (fun _ _ _ _ _ => (pg_name (i := 3) sc__is_accepts.nd rfl (by first | exact Or.inl rfl | exact Or.inr rfl))) (fun _ _ _ _ _ => pts_nil) (fun _ _ _ _ _ => (pe_cmpR (zalt op_lt (zltT (K := K) (hu64 hr))) (pe_ix (zix K) (pv 1) (pe_op op_sub (pv 3) pe_int) (fun _ _ => rfl)) (pe_ix (zix K) (pv 1) (pv 3) (fun _ _ => rfl)) (nomark _)))) pa_nil)))))),
    ?_⟩
  exact (sim_seq (sim_ifS (sim_not (sim_tru (sim_isi sim_var))) (sim_ret (sim_c (.bl _))) sim_next)
      (sim_seq (sim_ifS (sim_not (sim_tru (sim_cb s_all (sim_cons (sim_lcH (simg_name (by decide)) sim_yes (sim_call0 (sim_cons sim_var (sim_cons sim_var sim_nil)) (by intro h; cases h)) (by decide) (by decide) (by decide)) sim_nil)))) (sim_ret (sim_c (.bl _))) sim_next)
      (sim_ret (sim_cb s_all (sim_cons (sim_lc (sim_rng2 (sim_cons (sim_c (.int _)) (sim_cons (sim_cb s_len (sim_cons sim_var sim_nil)) sim_nil))) (simg_name (by decide)) sim_yes (sim_op (s_alt s_lt s_ltT) (sim_op s_ix sim_var (sim_op s_sub sim_var (sim_c (.int _)))) (sim_op s_ix sim_var sim_var)) (by decide) (by decide)) sim_nil)))))
set_option maxHeartbeats 4000000 in
theorem ok__is_ahead (T : Tx K mg) : FnOk P w K mg base CX0 2 T.a__is_ahead T.fd__is_ahead ["n", "many", "ahead"] (spM K 0 3 4 W0 m__is_ahead) := by
  refine ok0 T.F__is_ahead sc__is_ahead rfl rfl fun cdv A outer s H E hr => ⟨_,
    (pss_cons (ps_if (PW.pt (pw_or (pt_not (zpt_tru K (pe_callB (zisi K) (by rfl) T.z_isinstance (by decide +kernel) (pa_cons (pv 2) (pa_cons (pe_bltn (v := .ty "tuple") (by rfl) T.z_tuple (by decide +kernel) rfl) pa_nil))))) (pw_or1 (pt_cmpR (zne K (hu64 hr)) (pe_callB (zlen K) (by rfl) T.z_len (by decide +kernel) (pa_cons (pv 2) pa_nil)) (pv 0) (nomark _))))) (pss_one (ps_ret pe_bl)) pss_nil)
      (pss_one (ps_ret (pe_callB (zall (K := K) rfl) (by rfl) T.z_all (by decide +kernel) (pa_cons (pe_lc (own := [("to", 3)]) rfl sc__is_ahead.nd (zseq K (pv 2)) (blkOk_by (N := ["n", "many", "ahead", "to"]) (sc := defScope s__is_ahead) (by decide +kernel)) (fun _ _ _ _ _ => (pg_name (i := 3) sc__is_ahead.nd rfl (by first | exact Or.inl rfl | exact Or.inr rfl))) (fun _ _ _ _ _ => pts_nil) (fun _ _ _ _ _ => (pe_and (pe_call (ok_is_number T) (hr.mono (by decide)) rfl T.mg_is_number T.F_is_number.kp T.b_is_number .nil pass0 (pa_cons (pv 3) pa_nil)) (pe_one (pe_chain op_le op_lt (pe_un un_neg pe_int) (pv 3) (pv 1)))))) pa_nil))))),
    ?_⟩
  exact (sim_seq (sim_ifS (sim_or (sim_not (sim_tru (sim_isi sim_var))) (sim_test (sim_op s_ne (sim_cb s_len (sim_cons sim_var sim_nil)) sim_var))) (sim_ret (sim_c (.bl _))) sim_next)
      (sim_ret (sim_cb s_all (sim_cons (sim_lcH (simg_name (by decide)) sim_yes (sim_andV (sim_call0 (sim_cons sim_var sim_nil) (by intro h; cases h)) (sim_chain s_le s_lt (sim_un s_neg (sim_c (.int _))) sim_var sim_var)) (by decide) (by decide) (by decide)) sim_nil))))
set_option maxHeartbeats 4000000 in
theorem ok_members (T : Tx K mg) : FnOk P w K mg base CX0 1 T.a_members T.fd_members ["n", "bits"] (spM K 0 2 3 W0 m_members) := by
  refine ok0 T.F_members sc_members rfl rfl fun cdv A outer s H E hr => ⟨_,
    (pss_one (ps_ret (pe_lc (own := [("letter", 2)]) rfl sc_members.nd (pi_range1 (by rfl) T.z_range (pa_cons (pv 0) pa_nil)) (blkOk_by (N := ["n", "bits", "letter"]) (sc := defScope s_members) (by decide +kernel)) (fun _ _ _ _ _ => (pg_name (i := 2) sc_members.nd rfl (by first | exact Or.inl rfl | exact Or.inr rfl))) (fun _ _ _ _ _ => (pts_one (zpt_tru K (pe_op op_and (pe_op op_shr (pv 1) (pv 2)) pe_int)))) (fun _ _ _ _ _ => (pv 2))))),
    ?_⟩
  exact (sim_ret (sim_lc (sim_rng1 (sim_cons sim_var sim_nil)) (simg_name (by decide)) (sim_tru (sim_op s_and (sim_op s_shr sim_var sim_var) (sim_c (.int _)))) sim_var (by decide) (by decide)))
set_option maxHeartbeats 4000000 in
theorem ok__is_state (T : Tx K mg) : FnOk P w K mg base CX0 5 T.a__is_state T.fd__is_state ["n", "many", "state"] (spM K 0 3 7 W0 m__is_state) := by
  refine ok0 T.F__is_state sc__is_state rfl rfl fun cdv A outer s H E hr => ⟨_,
    (pss_cons (ps_if (PW.pt (pw_or (pt_not (zpt_tru K (pe_callB (zisi K) (by rfl) T.z_isinstance (by decide +kernel) (pa_cons (pv 2) (pa_cons (pe_bltn (v := .ty "tuple") (by rfl) T.z_tuple (by decide +kernel) rfl) pa_nil))))) (pw_or1 (pt_cmpR (zne K (hu64 hr)) (pe_callB (zlen K) (by rfl) T.z_len (by decide +kernel) (pa_cons (pv 2) pa_nil)) pe_int (nomark _))))) (pss_one (ps_ret pe_bl)) pss_nil)
      (pss_cons (ps_asg (pv 2) (pg_tup rfl (pgs_cons (pg_name (i := 3) sc__is_state.nd rfl (by first | exact Or.inl rfl | exact Or.inr rfl)) (pgs_cons (pg_name (i := 4) sc__is_state.nd rfl (by first | exact Or.inl rfl | exact Or.inr rfl)) pgs_nil))))
      (pss_cons (ps_if (PW.pt (pw_or (pt_not (zpt_tru K (pe_call (ok__is_accepts T) (hr.mono (by decide)) rfl T.mg__is_accepts T.F__is_accepts.kp T.b__is_accepts .nil pass0 (pa_cons (pv 0) (pa_cons (pv 3) pa_nil))))) (pw_or1 (pt_not (zpt_tru K (pe_call (ok__is_ahead T) (hr.mono (by decide)) rfl T.mg__is_ahead T.F__is_ahead.kp T.b__is_ahead .nil pass0 (pa_cons (pv 0) (pa_cons (pv 1) (pa_cons (pv 4) pa_nil))))))))) (pss_one (ps_ret pe_bl)) pss_nil)
      (pss_one (ps_ret (pe_callB (zall (K := K) rfl) (by rfl) T.z_all (by decide +kernel) (pa_cons (pe_lc2 (own := [("bits", 5), ("letter", 6)]) (vs1 := [6]) rfl sc__is_state.nd (zseq K (pv 3)) (blkOk_by (N := ["n", "many", "state", "accepts", "ahead", "bits", "letter"]) (sc := defScope s__is_state) (by decide +kernel)) (by decide) (fun _ _ _ _ _ => (pg_name (i := 5) sc__is_state.nd rfl (by first | exact Or.inl rfl | exact Or.inr rfl))) (fun _ _ _ _ _ => pts_nil) (fun _ _ _ _ _ => (zseq K (pe_call (ok_members T) (hr.mono (by decide)) rfl T.mg_members T.F_members.kp T.b_members .nil pass0 (pa_cons (pv 0) (pa_cons (pv 5) pa_nil))))) (fun _ _ _ _ _ => (pg_name (i := 6) sc__is_state.nd rfl (by first | exact Or.inl rfl | exact Or.inr rfl))) (fun _ _ _ _ _ => pts_nil) (fun _ _ _ _ _ => (pe_cmpR (zne K (hu64 hr)) (pe_ix (zix K) (pv 4) (pv 6) (fun _ _ => rfl)) (pe_un un_neg pe_int) (nomark _)))) pa_nil))))))),
    ?_⟩
  exact (sim_seq (sim_ifS (sim_or (sim_not (sim_tru (sim_isi sim_var))) (sim_test (sim_op s_ne (sim_cb s_len (sim_cons sim_var sim_nil)) (sim_c (.int _))))) (sim_ret (sim_c (.bl _))) sim_next)
      (sim_seq (sim_asgG sim_var (simg_tup (simgs_cons (simg_name (by decide)) (simgs_cons (simg_name (by decide)) simgs_nil))))
      (sim_seq (sim_ifS (sim_or (sim_not (sim_tru (sim_call0 (sim_cons sim_var (sim_cons sim_var sim_nil)) (by intro h; cases h)))) (sim_not (sim_tru (sim_call0 (sim_cons sim_var (sim_cons sim_var (sim_cons sim_var sim_nil))) (by intro h; cases h))))) (sim_ret (sim_c (.bl _))) sim_next)
      (sim_ret (sim_cb s_all (sim_cons (sim_lc2 (sim_iter sim_var) (simg_name (by decide)) sim_yes (simA_iter (sim_call0 (sim_cons sim_var (sim_cons sim_var sim_nil)) (by intro h; cases h))) (simg_name (by decide)) sim_yes (sim_op s_ne (sim_op s_ix sim_var sim_var) (sim_un s_neg (sim_c (.int _)))) (by decide) (by decide) (by decide) (by decide)) sim_nil))))))
set_option maxHeartbeats 4000000 in
theorem ok__is_demand (T : Tx K mg) : FnOk P w K mg base CX0 6 T.a__is_demand T.fd__is_demand ["d"] (spM K 0 1 4 W0 m__is_demand) := by
  refine ok0 T.F__is_demand sc__is_demand rfl rfl fun cdv A outer s H E hr => ⟨_,
    (pss_cons (ps_if (PW.pt (pw_or (pt_not (zpt_tru K (pe_callB (zisi K) (by rfl) T.z_isinstance (by decide +kernel) (pa_cons (pv 0) (pa_cons (pe_bltn (v := .ty "tuple") (by rfl) T.z_tuple (by decide +kernel) rfl) pa_nil))))) (pw_or1 (pt_cmpR (zne K (hu64 hr)) (pe_callB (zlen K) (by rfl) T.z_len (by decide +kernel) (pa_cons (pv 0) pa_nil)) pe_int (nomark _))))) (pss_one (ps_ret pe_bl)) pss_nil)
      (pss_cons (ps_asg (pv 0) (pg_tup rfl (pgs_cons (pg_name (i := 1) sc__is_demand.nd rfl (by first | exact Or.inl rfl | exact Or.inr rfl)) (pgs_cons (pg_name (i := 2) sc__is_demand.nd rfl (by first | exact Or.inl rfl | exact Or.inr rfl)) pgs_nil))))
      (pss_cons (ps_if (PW.pt (pw_or (pt_not (zpt_tru K (pe_call (ok_is_letter_count T) (hr.mono (by decide)) rfl T.mg_is_letter_count T.F_is_letter_count.kp T.b_is_letter_count .nil pass0 (pa_cons (pv 1) pa_nil)))) (pw_or1 (pt_not (zpt_tru K (pe_callB (zisi K) (by rfl) T.z_isinstance (by decide +kernel) (pa_cons (pv 2) (pa_cons (pe_bltn (v := .ty "tuple") (by rfl) T.z_tuple (by decide +kernel) rfl) pa_nil)))))))) (pss_one (ps_ret pe_bl)) pss_nil)
      (pss_cons (ps_if (pt_not (pt_chain op_le op_le pe_int (pe_callB (zlen K) (by rfl) T.z_len (by decide +kernel) (pa_cons (pv 2) pa_nil)) (pe_glob (v := .int 40) rfl T.c_MOST_DEMAND_STATES ⟨_, rfl⟩))) (pss_one (ps_ret pe_bl)) pss_nil)
      (pss_one (ps_ret (pe_callB (zall (K := K) rfl) (by rfl) T.z_all (by decide +kernel) (pa_cons (pe_lc (own := [("state", 3)]) rfl sc__is_demand.nd (zseq K (pv 2)) (blkOk_by (N := ["d", "n", "states", "state"]) (sc := defScope s__is_demand) (by decide +kernel)) (fun _ _ _ _ _ => (pg_name (i := 3) sc__is_demand.nd rfl (by first | exact Or.inl rfl | exact Or.inr rfl))) (fun _ _ _ _ _ => pts_nil) (fun _ _ _ _ _ => (pe_call (ok__is_state T) (hr.mono (by decide)) rfl T.mg__is_state T.F__is_state.kp T.b__is_state .nil pass0 (pa_cons (pv 1) (pa_cons (pe_callB (zlen K) (by rfl) T.z_len (by decide +kernel) (pa_cons (pv 2) pa_nil)) (pa_cons (pv 3) pa_nil)))))) pa_nil)))))))),
    ?_⟩
  exact (sim_seq (sim_ifS (sim_or (sim_not (sim_tru (sim_isi sim_var))) (sim_test (sim_op s_ne (sim_cb s_len (sim_cons sim_var sim_nil)) (sim_c (.int _))))) (sim_ret (sim_c (.bl _))) sim_next)
      (sim_seq (sim_asgG sim_var (simg_tup (simgs_cons (simg_name (by decide)) (simgs_cons (simg_name (by decide)) simgs_nil))))
      (sim_seq (sim_ifS (sim_or (sim_not (sim_tru (sim_call0 (sim_cons sim_var sim_nil) (by intro h; cases h)))) (sim_not (sim_tru (sim_isi sim_var)))) (sim_ret (sim_c (.bl _))) sim_next)
      (sim_seq (sim_ifS (sim_not (sim_test (sim_chain s_le s_le (sim_c (.int _)) (sim_cb s_len (sim_cons sim_var sim_nil)) (sim_c (.int _))))) (sim_ret (sim_c (.bl _))) sim_next)
      (sim_ret (sim_cb s_all (sim_cons (sim_lc (sim_iter sim_var) (simg_name (by decide)) sim_yes (sim_call0 (sim_cons sim_var (sim_cons (sim_cb s_len (sim_cons sim_var sim_nil)) (sim_cons sim_var sim_nil))) (by intro h; cases h)) (by decide) (by decide)) sim_nil)))))))
set_option maxHeartbeats 4000000 in
theorem ok_check_demand (T : Tx K mg) : FnOk P w K mg base (L2N.CX P w) 7 T.a_check_demand T.fd_check_demand ["d"] (spM K 0 1 1 (WXc T.cl) m_check_demand) := by
  refine okX T.cl T.F_check_demand sc_check_demand rfl rfl fun cdv A outer s H E hr => ?_
  have tk : L2N.Takes (cxOf (L2N.CX P w) P w K mg base ["d"] "check_demand" (defScope s_check_demand) T.a_check_demand cdv A outer s H E) (fun cls d _ H => E cls d H) := L2N.takes_of rfl rfl rfl rfl
  refine ⟨_,
    (pss_one (ps_if (pt_not (zpt_tru K (pe_call (ok__is_demand T) (hr.mono (by decide)) rfl T.mg__is_demand T.F__is_demand.kp T.b__is_demand .nil pass0 (pa_cons (pv 0) pa_nil)))) (pss_one (L2N.ps_raise rfl tk (zpmk0 PySem.F.excBase_ValueError T.q_BadDemand T.mg_BadDemand T.kp_BadDemand (L2.raises_own T.f_BadDemand.x.hs T.f_BadDemand.ty) rfl))) pss_nil)),
    ?_⟩
  exact (sim_ifS (sim_not (sim_tru (sim_call0 (sim_cons sim_var sim_nil) (by intro h; cases h)))) (sim_raise (C := T.C_BadDemand) (W := WXc T.cl E) (Wx := fun cls d _ H => E cls d H) (fun _ _ h => h)) sim_next)
set_option maxHeartbeats 4000000 in
theorem ok_hollow (T : Tx K mg) : FnOk P w K mg base (L2N.CX P w) 8 T.a_hollow T.fd_hollow ["d"] (spM K 0 1 1 (WXc T.cl) m_hollow) := by
  refine okX T.cl T.F_hollow sc_hollow rfl rfl fun cdv A outer s H E hr => ?_
  have tk : L2N.Takes (cxOf (L2N.CX P w) P w K mg base ["d"] "hollow" (defScope s_hollow) T.a_hollow cdv A outer s H E) (fun cls d _ H => E cls d H) := L2N.takes_of rfl rfl rfl rfl
  refine ⟨_,
    (pss_cons (ps_expr (pe_callS (ok_check_demand T) (hr.mono (by decide)) rfl T.mg_check_demand T.F_check_demand.kp T.b_check_demand (fun σ => L2N.passAt tk σ) (pa_cons (pv 0) pa_nil)))
      (pss_one ps_no)),
    ?_⟩
  exact (sim_seq (sim_drop (sim_callS (sim_cons sim_var sim_nil) (fun _ _ _ _ _ h => h)))
      sim_noS)
set_option maxHeartbeats 4000000 in
theorem ok_least (T : Tx K mg) : FnOk P w K mg base (L2N.CX P w) 8 T.a_least T.fd_least ["d"] (spM K 0 1 1 (WXc T.cl) m_least) := by
  refine okX T.cl T.F_least sc_least rfl rfl fun cdv A outer s H E hr => ?_
  have tk : L2N.Takes (cxOf (L2N.CX P w) P w K mg base ["d"] "least" (defScope s_least) T.a_least cdv A outer s H E) (fun cls d _ H => E cls d H) := L2N.takes_of rfl rfl rfl rfl
  refine ⟨_,
    (pss_cons (ps_expr (pe_callS (ok_check_demand T) (hr.mono (by decide)) rfl T.mg_check_demand T.F_check_demand.kp T.b_check_demand (fun σ => L2N.passAt tk σ) (pa_cons (pv 0) pa_nil)))
      (pss_one ps_no)),
    ?_⟩
  exact (sim_seq (sim_drop (sim_callS (sim_cons sim_var sim_nil) (fun _ _ _ _ _ h => h)))
      sim_noS)
set_option maxHeartbeats 4000000 in
theorem ok_trimmed (T : Tx K mg) : FnOk P w K mg base (L2N.CX P w) 8 T.a_trimmed T.fd_trimmed ["d"] (spM K 0 1 1 (WXc T.cl) m_trimmed) := by
  refine okX T.cl T.F_trimmed sc_trimmed rfl rfl fun cdv A outer s H E hr => ?_
  have tk : L2N.Takes (cxOf (L2N.CX P w) P w K mg base ["d"] "trimmed" (defScope s_trimmed) T.a_trimmed cdv A outer s H E) (fun cls d _ H => E cls d H) := L2N.takes_of rfl rfl rfl rfl
  refine ⟨_,
    (pss_cons (ps_expr (pe_callS (ok_check_demand T) (hr.mono (by decide)) rfl T.mg_check_demand T.F_check_demand.kp T.b_check_demand (fun σ => L2N.passAt tk σ) (pa_cons (pv 0) pa_nil)))
      (pss_one ps_no)),
    ?_⟩
  exact (sim_seq (sim_drop (sim_callS (sim_cons sim_var sim_nil) (fun _ _ _ _ _ h => h)))
      sim_noS)
set_option maxHeartbeats 4000000 in
theorem ok_some (T : Tx K mg) : FnOk P w K mg base (L2N.CX P w) 9 T.a_some T.fd_some ["d"] (spM K 0 1 3 (WXc T.cl) m_some) := by
  refine okX T.cl T.F_some sc_some rfl rfl fun cdv A outer s H E hr => ?_
  have tk : L2N.Takes (cxOf (L2N.CX P w) P w K mg base ["d", "n", "states"] "some" (defScope s_some) T.a_some cdv A outer s H E) (fun cls d _ H => E cls d H) := L2N.takes_of rfl rfl rfl rfl
  refine ⟨_,
    (pss_cons (ps_asg (pe_callS (ok_trimmed T) (hr.mono (by decide)) rfl T.mg_trimmed T.F_trimmed.kp T.b_trimmed (fun σ => L2N.passAt tk σ) (pa_cons (pv 0) pa_nil)) (pg_tup rfl (pgs_cons (pg_name (i := 1) sc_some.nd rfl (by first | exact Or.inl rfl | exact Or.inr rfl)) (pgs_cons (pg_name (i := 2) sc_some.nd rfl (by first | exact Or.inl rfl | exact Or.inr rfl)) pgs_nil))))
      (pss_cons ps_no
      (pss_one ps_no))),
    ?_⟩
  exact (sim_seq (sim_asgG (sim_callS (sim_cons sim_var sim_nil) (fun _ _ _ _ _ h => h)) (simg_tup (simgs_cons (simg_name (by decide)) (simgs_cons (simg_name (by decide)) simgs_nil))))
      (sim_seq sim_noS
      sim_noS))
set_option maxHeartbeats 4000000 in
theorem ok_with_word (T : Tx K mg) : FnOk P w K mg base (L2N.CX P w) 8 T.a_with_word T.fd_with_word ["d", "word", "bits"] (spM K 0 3 15 (WXc T.cl) m_with_word) := by
  refine okX T.cl T.F_with_word sc_with_word rfl rfl fun cdv A outer s H E hr => ?_
  have tk : L2N.Takes (cxOf (L2N.CX P w) P w K mg base ["d", "word", "bits", "n", "states", "behind", "rows", "q", "letter", "accepts", "ahead", "fitting", "accepted", "ends", "to"] "with_word" (defScope s_with_word) T.a_with_word cdv A outer s H E) (fun cls d _ H => E cls d H) := L2N.takes_of rfl rfl rfl rfl
  refine ⟨_,
    (pss_cons (ps_expr (pe_callS (ok_check_demand T) (hr.mono (by decide)) rfl T.mg_check_demand T.F_check_demand.kp T.b_check_demand (fun σ => L2N.passAt tk σ) (pa_cons (pv 0) pa_nil)))
      (pss_cons ps_no
      (pss_cons ps_no
      (pss_cons ps_no
      (pss_cons ps_no
      (pss_cons ps_no
      (pss_cons ps_no
      (pss_cons ps_no
      (pss_cons ps_no
      (pss_cons ps_no
      (pss_one ps_no))))))))))),
    ?_⟩
  exact (sim_seq (sim_drop (sim_callS (sim_cons sim_var sim_nil) (fun _ _ _ _ _ h => h)))
      (sim_seq sim_noS
      (sim_seq sim_noS
      (sim_seq sim_noS
      (sim_seq sim_noS
      (sim_seq sim_noS
      (sim_seq sim_noS
      (sim_seq sim_noS
      (sim_seq sim_noS
      (sim_seq sim_noS
      sim_noS))))))))))
set_option maxHeartbeats 4000000 in
theorem ok_ladder (T : Tx K mg) : FnOk P w K mg base (L2N.CX P w) 8 T.a_ladder T.fd_ladder ["d"] (spM K 0 1 1 (WXc T.cl) m_ladder) := by
  refine okX T.cl T.F_ladder sc_ladder rfl rfl fun cdv A outer s H E hr => ?_
  have tk : L2N.Takes (cxOf (L2N.CX P w) P w K mg base ["d"] "ladder" (defScope s_ladder) T.a_ladder cdv A outer s H E) (fun cls d _ H => E cls d H) := L2N.takes_of rfl rfl rfl rfl
  refine ⟨_,
    (pss_cons (ps_expr (pe_callS (ok_check_demand T) (hr.mono (by decide)) rfl T.mg_check_demand T.F_check_demand.kp T.b_check_demand (fun σ => L2N.passAt tk σ) (pa_cons (pv 0) pa_nil)))
      (pss_one ps_no)),
    ?_⟩
  exact (sim_seq (sim_drop (sim_callS (sim_cons sim_var sim_nil) (fun _ _ _ _ _ h => h)))
      sim_noS)
set_option maxHeartbeats 4000000 in
theorem ok_is_ladder (T : Tx K mg) : FnOk P w K mg base (L2N.CX P w) 8 T.a_is_ladder T.fd_is_ladder ["d", "states"] (spM K 0 2 4 (WXc T.cl) m_is_ladder) := by
  refine okX T.cl T.F_is_ladder sc_is_ladder rfl rfl fun cdv A outer s H E hr => ?_
  have tk : L2N.Takes (cxOf (L2N.CX P w) P w K mg base ["d", "states", "under", "at"] "is_ladder" (defScope s_is_ladder) T.a_is_ladder cdv A outer s H E) (fun cls d _ H => E cls d H) := L2N.takes_of rfl rfl rfl rfl
  refine ⟨_,
    (pss_cons (ps_expr (pe_callS (ok_check_demand T) (hr.mono (by decide)) rfl T.mg_check_demand T.F_check_demand.kp T.b_check_demand (fun σ => L2N.passAt tk σ) (pa_cons (pv 0) pa_nil)))
      (pss_cons ps_no
      (pss_cons ps_no
      (pss_cons ps_no
      (pss_one ps_no))))),
    ?_⟩
  exact (sim_seq (sim_drop (sim_callS (sim_cons sim_var sim_nil) (fun _ _ _ _ _ h => h)))
      (sim_seq sim_noS
      (sim_seq sim_noS
      (sim_seq sim_noS
      sim_noS))))
set_option maxHeartbeats 4000000 in
theorem ok_written_demand (T : Tx K mg) : FnOk P w K mg base (L2N.CX P w) 8 T.a_written_demand T.fd_written_demand ["d"] (spM K 0 1 12 (WXc T.cl) m_written_demand) := by
  refine okX T.cl T.F_written_demand sc_written_demand rfl rfl fun cdv A outer s H E hr => ?_
  have tk : L2N.Takes (cxOf (L2N.CX P w) P w K mg base ["d", "n", "states", "lines", "at", "accepts", "ahead", "sets", "bits", "ends", "letter", "to"] "written_demand" (defScope s_written_demand) T.a_written_demand cdv A outer s H E) (fun cls d _ H => E cls d H) := L2N.takes_of rfl rfl rfl rfl
  refine ⟨_,
    (pss_cons (ps_expr (pe_callS (ok_check_demand T) (hr.mono (by decide)) rfl T.mg_check_demand T.F_check_demand.kp T.b_check_demand (fun σ => L2N.passAt tk σ) (pa_cons (pv 0) pa_nil)))
      (pss_cons ps_no
      (pss_cons ps_no
      (pss_cons ps_no
      (pss_one ps_no))))),
    ?_⟩
  exact (sim_seq (sim_drop (sim_callS (sim_cons sim_var sim_nil) (fun _ _ _ _ _ h => h)))
      (sim_seq sim_noS
      (sim_seq sim_noS
      (sim_seq sim_noS
      sim_noS))))
set_option maxHeartbeats 4000000 in
theorem ok_led_to (T : Tx K mg) : FnOk P w K mg base (L2N.CX P w) 8 T.a_led_to T.fd_led_to ["d", "word"] (spM K 0 2 2 (WXc T.cl) m_led_to) := by
  refine okX T.cl T.F_led_to sc_led_to rfl rfl fun cdv A outer s H E hr => ?_
  have tk : L2N.Takes (cxOf (L2N.CX P w) P w K mg base ["d", "word"] "led_to" (defScope s_led_to) T.a_led_to cdv A outer s H E) (fun cls d _ H => E cls d H) := L2N.takes_of rfl rfl rfl rfl
  refine ⟨_,
    (pss_cons (ps_expr (pe_callS (ok_check_demand T) (hr.mono (by decide)) rfl T.mg_check_demand T.F_check_demand.kp T.b_check_demand (fun σ => L2N.passAt tk σ) (pa_cons (pv 0) pa_nil)))
      (pss_cons ps_no
      (pss_one ps_no))),
    ?_⟩
  exact (sim_seq (sim_drop (sim_callS (sim_cons sim_var sim_nil) (fun _ _ _ _ _ h => h)))
      (sim_seq sim_noS
      sim_noS))
set_option maxHeartbeats 4000000 in
theorem ok__law_one (T : Tx K mg) : FnOk P w K mg base (L2N.CX P w) 10 T.a__law_one T.fd__law_one ["way", "one"] (spM K 0 2 2 (WXc T.cl) m__law_one) := by
  refine okX T.cl T.F__law_one sc__law_one rfl rfl fun cdv A outer s H E hr => ?_
  have tk : L2N.Takes (cxOf (L2N.CX P w) P w K mg base ["way", "one"] "_law_one" (defScope s__law_one) T.a__law_one cdv A outer s H E) (fun cls d _ H => E cls d H) := L2N.takes_of rfl rfl rfl rfl
  refine ⟨_,
    (pss_cons (ps_if (pt_cmpR (zeq K (hu64 hr)) (pv 0) pe_int (nomark _)) (pss_one (ps_ret (pe_callS (ok_check_demand T) (hr.mono (by decide)) rfl T.mg_check_demand T.F_check_demand.kp T.b_check_demand (fun σ => L2N.passAt tk σ) (pa_cons (pv 1) pa_nil)))) pss_nil)
      (pss_cons (ps_if (pt_cmpR (zeq K (hu64 hr)) (pv 0) pe_int (nomark _)) (pss_one (ps_ret (pe_callS (ok_hollow T) (hr.mono (by decide)) rfl T.mg_hollow T.F_hollow.kp T.b_hollow (fun σ => L2N.passAt tk σ) (pa_cons (pv 1) pa_nil)))) pss_nil)
      (pss_cons (ps_if (pt_cmpR (zeq K (hu64 hr)) (pv 0) pe_int (nomark _)) (pss_one (ps_ret (pe_callS (ok_least T) (hr.mono (by decide)) rfl T.mg_least T.F_least.kp T.b_least (fun σ => L2N.passAt tk σ) (pa_cons (pv 1) pa_nil)))) pss_nil)
      (pss_cons (ps_if (pt_cmpR (zeq K (hu64 hr)) (pv 0) pe_int (nomark _)) (pss_one (ps_ret (pe_callS (ok_trimmed T) (hr.mono (by decide)) rfl T.mg_trimmed T.F_trimmed.kp T.b_trimmed (fun σ => L2N.passAt tk σ) (pa_cons (pv 1) pa_nil)))) pss_nil)
      (pss_cons (ps_if (pt_cmpR (zeq K (hu64 hr)) (pv 0) pe_int (nomark _)) (pss_one (ps_ret (pe_callS (ok_some T) (hr.mono (by decide)) rfl T.mg_some T.F_some.kp T.b_some (fun σ => L2N.passAt tk σ) (pa_cons (pv 1) pa_nil)))) pss_nil)
      (pss_cons (ps_if (pt_cmpR (zeq K (hu64 hr)) (pv 0) pe_int (nomark _)) (pss_one (ps_ret (pe_callS (ok_with_word T) (hr.mono (by decide)) rfl T.mg_with_word T.F_with_word.kp T.b_with_word (fun σ => L2N.passAt tk σ) (pa_cons (pv 1) (pa_cons pe_str (pa_cons (pe_un un_neg pe_int) pa_nil)))))) pss_nil)
      (pss_cons (ps_if (pt_cmpR (zeq K (hu64 hr)) (pv 0) pe_int (nomark _)) (pss_one (ps_ret (pe_callS (ok_ladder T) (hr.mono (by decide)) rfl T.mg_ladder T.F_ladder.kp T.b_ladder (fun σ => L2N.passAt tk σ) (pa_cons (pv 1) pa_nil)))) pss_nil)
      (pss_cons (ps_if (pt_cmpR (zeq K (hu64 hr)) (pv 0) pe_int (nomark _)) (pss_one (ps_ret (pe_callS (ok_is_ladder T) (hr.mono (by decide)) rfl T.mg_is_ladder T.F_is_ladder.kp T.b_is_ladder (fun σ => L2N.passAt tk σ) (pa_cons (pv 1) (pa_cons (pe_tup pa_nil) pa_nil))))) pss_nil)
      (pss_cons (ps_if (pt_cmpR (zeq K (hu64 hr)) (pv 0) pe_int (nomark _)) (pss_one (ps_ret (pe_callS (ok_written_demand T) (hr.mono (by decide)) rfl T.mg_written_demand T.F_written_demand.kp T.b_written_demand (fun σ => L2N.passAt tk σ) (pa_cons (pv 1) pa_nil)))) pss_nil)
      (pss_one (ps_ret (pe_callS (ok_led_to T) (hr.mono (by decide)) rfl T.mg_led_to T.F_led_to.kp T.b_led_to (fun σ => L2N.passAt tk σ) (pa_cons (pv 1) (pa_cons pe_str pa_nil)))))))))))))),
    ?_⟩
  exact (sim_seq (sim_ifS (sim_test (sim_op s_eq sim_var (sim_c (.int _)))) (sim_ret (sim_callS (sim_cons sim_var sim_nil) (fun _ _ _ _ _ h => h))) sim_next)
      (sim_seq (sim_ifS (sim_test (sim_op s_eq sim_var (sim_c (.int _)))) (sim_ret (sim_callS (sim_cons sim_var sim_nil) (fun _ _ _ _ _ h => h))) sim_next)
      (sim_seq (sim_ifS (sim_test (sim_op s_eq sim_var (sim_c (.int _)))) (sim_ret (sim_callS (sim_cons sim_var sim_nil) (fun _ _ _ _ _ h => h))) sim_next)
      (sim_seq (sim_ifS (sim_test (sim_op s_eq sim_var (sim_c (.int _)))) (sim_ret (sim_callS (sim_cons sim_var sim_nil) (fun _ _ _ _ _ h => h))) sim_next)
      (sim_seq (sim_ifS (sim_test (sim_op s_eq sim_var (sim_c (.int _)))) (sim_ret (sim_callS (sim_cons sim_var sim_nil) (fun _ _ _ _ _ h => h))) sim_next)
      (sim_seq (sim_ifS (sim_test (sim_op s_eq sim_var (sim_c (.int _)))) (sim_ret (sim_callS (sim_cons sim_var (sim_cons (sim_c (.str _)) (sim_cons (sim_un s_neg (sim_c (.int _))) sim_nil))) (fun _ _ _ _ _ h => h))) sim_next)
      (sim_seq (sim_ifS (sim_test (sim_op s_eq sim_var (sim_c (.int _)))) (sim_ret (sim_callS (sim_cons sim_var sim_nil) (fun _ _ _ _ _ h => h))) sim_next)
      (sim_seq (sim_ifS (sim_test (sim_op s_eq sim_var (sim_c (.int _)))) (sim_ret (sim_callS (sim_cons sim_var (sim_cons (sim_tup sim_nil) sim_nil)) (fun _ _ _ _ _ h => h))) sim_next)
      (sim_seq (sim_ifS (sim_test (sim_op s_eq sim_var (sim_c (.int _)))) (sim_ret (sim_callS (sim_cons sim_var sim_nil) (fun _ _ _ _ _ h => h))) sim_next)
      (sim_ret (sim_callS (sim_cons sim_var (sim_cons (sim_c (.str _)) sim_nil)) (fun _ _ _ _ _ h => h))))))))))))
set_option maxHeartbeats 4000000 in
theorem ok_check_same_letters (T : Tx K mg) : FnOk P w K mg base (L2N.CX P w) 1 T.a_check_same_letters T.fd_check_same_letters ["a", "b"] (spM K 0 2 2 (WXc T.cl) m_check_same_letters) := by
  refine okX T.cl T.F_check_same_letters sc_check_same_letters rfl rfl fun cdv A outer s H E hr => ?_
  have tk : L2N.Takes (cxOf (L2N.CX P w) P w K mg base ["a", "b"] "check_same_letters" (defScope s_check_same_letters) T.a_check_same_letters cdv A outer s H E) (fun cls d _ H => E cls d H) := L2N.takes_of rfl rfl rfl rfl
  refine ⟨_,
    (pss_one (ps_if (pt_cmpR (zne K (hu64 hr)) (pe_ix (zix K) (pv 0) pe_int (fun _ _ => rfl)) (pe_ix (zix K) (pv 1) pe_int (fun _ _ => rfl)) (nomark _)) (pss_one (L2N.ps_raise rfl tk (zpmk0 PySem.F.excBase_ValueError T.q_BadLetters T.mg_BadLetters T.kp_BadLetters (L2.raises_own T.f_BadLetters.x.hs T.f_BadLetters.ty) rfl))) pss_nil)),
    ?_⟩
  exact (sim_ifS (sim_test (sim_op s_ne (sim_op s_ix sim_var (sim_c (.int _))) (sim_op s_ix sim_var (sim_c (.int _))))) (sim_raise (C := T.C_BadLetters) (W := WXc T.cl E) (Wx := fun cls d _ H => E cls d H) (fun _ _ h => h)) sim_next)
set_option maxHeartbeats 4000000 in
theorem ok_check_two_demands (T : Tx K mg) : FnOk P w K mg base (L2N.CX P w) 8 T.a_check_two_demands T.fd_check_two_demands ["a", "b"] (spM K 0 2 2 (WXc T.cl) m_check_two_demands) := by
  refine okX T.cl T.F_check_two_demands sc_check_two_demands rfl rfl fun cdv A outer s H E hr => ?_
  have tk : L2N.Takes (cxOf (L2N.CX P w) P w K mg base ["a", "b"] "check_two_demands" (defScope s_check_two_demands) T.a_check_two_demands cdv A outer s H E) (fun cls d _ H => E cls d H) := L2N.takes_of rfl rfl rfl rfl
  refine ⟨_,
    (pss_cons (ps_expr (pe_callS (ok_check_demand T) (hr.mono (by decide)) rfl T.mg_check_demand T.F_check_demand.kp T.b_check_demand (fun σ => L2N.passAt tk σ) (pa_cons (pv 0) pa_nil)))
      (pss_cons (ps_expr (pe_callS (ok_check_demand T) (hr.mono (by decide)) rfl T.mg_check_demand T.F_check_demand.kp T.b_check_demand (fun σ => L2N.passAt tk σ) (pa_cons (pv 1) pa_nil)))
      (pss_one (ps_expr (pe_callS (ok_check_same_letters T) (hr.mono (by decide)) rfl T.mg_check_same_letters T.F_check_same_letters.kp T.b_check_same_letters (fun σ => L2N.passAt tk σ) (pa_cons (pv 0) (pa_cons (pv 1) pa_nil))))))),
    ?_⟩
  exact (sim_seq (sim_drop (sim_callS (sim_cons sim_var sim_nil) (fun _ _ _ _ _ h => h)))
      (sim_seq (sim_drop (sim_callS (sim_cons sim_var sim_nil) (fun _ _ _ _ _ h => h)))
      (sim_drop (sim_callS (sim_cons sim_var (sim_cons sim_var sim_nil)) (fun _ _ _ _ _ h => h)))))
set_option maxHeartbeats 4000000 in
theorem ok__joined (T : Tx K mg) : FnOk P w K mg base (L2N.CX P w) 9 T.a__joined T.fd__joined ["a", "b", "sets_of_both"] (spU K 0 2 1 15 (WXc T.cl) m__joined) := by
  refine okXU T.cl T.F__joined sc__joined rfl rfl fun cdv A outer s H E hr => ?_
  have tk : L2N.Takes (cxOf (L2N.CX P w) P w K mg base ["a", "b", "sets_of_both", "n", "nowhere", "states", "others", "sets", "ahead", "other_sets", "other_ahead", "joined", "used", "ends", "letter"] "_joined" (defScope s__joined) T.a__joined cdv A outer s H E) (fun cls d _ H => E cls d H) := L2N.takes_of rfl rfl rfl rfl
  refine ⟨_,
    (pss_cons (ps_expr (pe_callS (ok_check_two_demands T) (hr.mono (by decide)) rfl T.mg_check_two_demands T.F_check_two_demands.kp T.b_check_two_demands (fun σ => L2N.passAt tk σ) (pa_cons (pv 0) (pa_cons (pv 1) pa_nil))))
      (pss_cons ps_no
      (pss_cons ps_no
      (pss_cons ps_no
      (pss_cons ps_no
      (pss_cons ps_no
      (pss_one ps_no))))))),
    ?_⟩
  exact (sim_seq (sim_drop (sim_callS (sim_cons sim_var (sim_cons sim_var sim_nil)) (fun _ _ _ _ _ h => h)))
      (sim_seq sim_noS
      (sim_seq sim_noS
      (sim_seq sim_noS
      (sim_seq sim_noS
      (sim_seq sim_noS
      sim_noS))))))
set_option maxHeartbeats 4000000 in
theorem ok__common_sets (T : Tx K mg) : FnOk P w K mg base CX0 1 T.a__common_sets T.fd__common_sets ["sets", "others"] (spM K 0 2 3 W0 m__common_sets) := by
  refine ok0 T.F__common_sets sc__common_sets rfl rfl fun cdv A outer s H E hr => ⟨_,
    (pss_one (ps_ret (pe_callTy (ztuple (K := K)) (by rfl) T.z_tuple (by decide +kernel) (pa_cons (pe_lc (own := [("bits", 2)]) rfl sc__common_sets.nd (zseq K (pv 0)) (blkOk_by (N := ["sets", "others", "bits"]) (sc := defScope s__common_sets) (by decide +kernel)) (fun _ _ _ _ _ => (pg_name (i := 2) sc__common_sets.nd rfl (by first | exact Or.inl rfl | exact Or.inr rfl))) (fun _ _ _ _ _ => (pts_one (pt_cmpR (zalt (zin K (hu65 hr)) (zinT (K := K) (hu65 hr))) (pv 2) (pv 1) (by rfl)))) (fun _ _ _ _ _ => (pv 2))) pa_nil)))),
    ?_⟩
  exact (sim_ret (sim_cb s_tuple (sim_cons (sim_lcH (simg_name (by decide)) (sim_test (sim_op (s_alt s_in s_inT) sim_var sim_var)) sim_var (by decide) (by decide) (by decide)) sim_nil)))
set_option maxHeartbeats 4000000 in
theorem ok_meet (T : Tx K mg) : FnOk P w K mg base (L2N.CX P w) 10 T.a_meet T.fd_meet ["a", "b"] (spM K 0 2 2 (WXc T.cl) m_meet) := by
  refine okX T.cl T.F_meet sc_meet rfl rfl fun cdv A outer s H E hr => ?_
  have tk : L2N.Takes (cxOf (L2N.CX P w) P w K mg base ["a", "b"] "meet" (defScope s_meet) T.a_meet cdv A outer s H E) (fun cls d _ H => E cls d H) := L2N.takes_of rfl rfl rfl rfl
  refine ⟨_,
    (pss_one (ps_ret (pe_callS (ok__joined T) (hr.mono (by decide)) rfl T.mg__joined T.F__joined.kp T.b__joined (fun σ => L2N.passAt tk σ) (pa_cons (pv 0) (pa_cons (pv 1) (pa_cons (pe_glob (v := .ref T.a__common_sets) rfl T.mg__common_sets rfl) pa_nil)))))),
    ?_⟩
  exact (sim_ret (sim_callSU [.ref T.a__common_sets] (sim_cons sim_var (sim_cons sim_var sim_nil)) rfl rfl (by decide) (fun _ _ _ _ _ h => h)))
set_option maxHeartbeats 4000000 in
theorem ok__all_sets (T : Tx K mg) : FnOk P w K mg base CX0 1 T.a__all_sets T.fd__all_sets ["sets", "others"] (spM K 0 2 2 W0 m__all_sets) := by
  refine ok0 T.F__all_sets sc__all_sets rfl rfl fun cdv A outer s H E hr => ⟨_,
    (pss_one (ps_ret (pe_callTy (ztuple (K := K)) (by rfl) T.z_tuple (by decide +kernel) (pa_cons (pe_callB (zsortSet w rfl) (by rfl) T.z_sorted (by decide +kernel) (pa_cons (pe_callTy (zsetI K w rfl) (by rfl) T.z_set (by decide +kernel) (pa_cons (pe_op op_add (pv 0) (pv 1)) pa_nil)) pa_nil)) pa_nil)))),
    ?_⟩
  exact (sim_ret (sim_cb s_tuple (sim_cons (sim_sortSet (sim_op s_add sim_var sim_var)) sim_nil)))
set_option maxHeartbeats 4000000 in
theorem ok_either (T : Tx K mg) : FnOk P w K mg base (L2N.CX P w) 10 T.a_either T.fd_either ["a", "b"] (spM K 0 2 2 (WXc T.cl) m_either) := by
  refine okX T.cl T.F_either sc_either rfl rfl fun cdv A outer s H E hr => ?_
  have tk : L2N.Takes (cxOf (L2N.CX P w) P w K mg base ["a", "b"] "either" (defScope s_either) T.a_either cdv A outer s H E) (fun cls d _ H => E cls d H) := L2N.takes_of rfl rfl rfl rfl
  refine ⟨_,
    (pss_one (ps_ret (pe_callS (ok__joined T) (hr.mono (by decide)) rfl T.mg__joined T.F__joined.kp T.b__joined (fun σ => L2N.passAt tk σ) (pa_cons (pv 0) (pa_cons (pv 1) (pa_cons (pe_glob (v := .ref T.a__all_sets) rfl T.mg__all_sets rfl) pa_nil)))))),
    ?_⟩
  exact (sim_ret (sim_callSU [.ref T.a__all_sets] (sim_cons sim_var (sim_cons sim_var sim_nil)) rfl rfl (by decide) (fun _ _ _ _ _ h => h)))
set_option maxHeartbeats 4000000 in
theorem ok__overlaps (T : Tx K mg) : FnOk P w K mg base CX0 1 T.a__overlaps T.fd__overlaps ["sets", "others"] (spM K 0 2 4 W0 m__overlaps) := by
  refine ok0 T.F__overlaps sc__overlaps rfl rfl fun cdv A outer s H E hr => ⟨_,
    (pss_one (ps_ret (pe_callTy (ztuple (K := K)) (by rfl) T.z_tuple (by decide +kernel) (pa_cons (pe_callB (zsortSet w rfl) (by rfl) T.z_sorted (by decide +kernel) (pa_cons (pe_sc2 (own := [("bits", 2), ("other", 3)]) (vs1 := [3]) rfl sc__overlaps.nd (zseq K (pv 0)) (blkOk_by (N := ["sets", "others", "bits", "other"]) (sc := defScope s__overlaps) (by decide +kernel)) (by decide) (fun _ _ _ _ _ => (pg_name (i := 2) sc__overlaps.nd rfl (by first | exact Or.inl rfl | exact Or.inr rfl))) (fun _ _ _ _ _ => pts_nil) (fun _ _ _ _ _ => (zseq K (pv 1))) (fun _ _ _ _ _ => (pg_name (i := 3) sc__overlaps.nd rfl (by first | exact Or.inl rfl | exact Or.inr rfl))) (fun _ _ _ _ _ => pts_nil) (fun _ _ _ _ _ => (pe_op op_and (pv 2) (pv 3)))) pa_nil)) pa_nil)))),
    ?_⟩
  exact (sim_ret (sim_cb s_tuple (sim_cons (sim_sortSc2 (sim_iter sim_var) (simg_name (by decide)) sim_yes sim_var (simg_name (by decide)) sim_yes (sim_op s_and sim_var sim_var) (by decide) (by decide) (by decide) (by decide)) sim_nil)))
set_option maxHeartbeats 4000000 in
theorem ok_beside (T : Tx K mg) : FnOk P w K mg base (L2N.CX P w) 10 T.a_beside T.fd_beside ["a", "b"] (spM K 0 2 2 (WXc T.cl) m_beside) := by
  refine okX T.cl T.F_beside sc_beside rfl rfl fun cdv A outer s H E hr => ?_
  have tk : L2N.Takes (cxOf (L2N.CX P w) P w K mg base ["a", "b"] "beside" (defScope s_beside) T.a_beside cdv A outer s H E) (fun cls d _ H => E cls d H) := L2N.takes_of rfl rfl rfl rfl
  refine ⟨_,
    (pss_one (ps_ret (pe_callS (ok__joined T) (hr.mono (by decide)) rfl T.mg__joined T.F__joined.kp T.b__joined (fun σ => L2N.passAt tk σ) (pa_cons (pv 0) (pa_cons (pv 1) (pa_cons (pe_glob (v := .ref T.a__overlaps) rfl T.mg__overlaps rfl) pa_nil)))))),
    ?_⟩
  exact (sim_ret (sim_callSU [.ref T.a__overlaps] (sim_cons sim_var (sim_cons sim_var sim_nil)) rfl rfl (by decide) (fun _ _ _ _ _ h => h)))
set_option maxHeartbeats 4000000 in
theorem ok_parts (T : Tx K mg) : FnOk P w K mg base (L2N.CX P w) 9 T.a_parts T.fd_parts ["a", "b", "word", "bits"] (spM K 0 4 6 (WXc T.cl) m_parts) := by
  refine okX T.cl T.F_parts sc_parts rfl rfl fun cdv A outer s H E hr => ?_
  have tk : L2N.Takes (cxOf (L2N.CX P w) P w K mg base ["a", "b", "word", "bits", "first", "second"] "parts" (defScope s_parts) T.a_parts cdv A outer s H E) (fun cls d _ H => E cls d H) := L2N.takes_of rfl rfl rfl rfl
  refine ⟨_,
    (pss_cons (ps_expr (pe_callS (ok_check_two_demands T) (hr.mono (by decide)) rfl T.mg_check_two_demands T.F_check_two_demands.kp T.b_check_two_demands (fun σ => L2N.passAt tk σ) (pa_cons (pv 0) (pa_cons (pv 1) pa_nil))))
      (pss_cons ps_no
      (pss_cons ps_no
      (pss_cons ps_no
      (pss_one ps_no))))),
    ?_⟩
  exact (sim_seq (sim_drop (sim_callS (sim_cons sim_var (sim_cons sim_var sim_nil)) (fun _ _ _ _ _ h => h)))
      (sim_seq sim_noS
      (sim_seq sim_noS
      (sim_seq sim_noS
      sim_noS))))
set_option maxHeartbeats 4000000 in
theorem ok_refines (T : Tx K mg) : FnOk P w K mg base (L2N.CX P w) 9 T.a_refines T.fd_refines ["s", "t"] (spM K 0 2 8 (WXc T.cl) m_refines) := by
  refine okX T.cl T.F_refines sc_refines rfl rfl fun cdv A outer s H E hr => ?_
  have tk : L2N.Takes (cxOf (L2N.CX P w) P w K mg base ["s", "t", "answer", "shown", "found", "_", "y", "x"] "refines" (defScope s_refines) T.a_refines cdv A outer s H E) (fun cls d _ H => E cls d H) := L2N.takes_of rfl rfl rfl rfl
  refine ⟨_,
    (pss_cons (ps_expr (pe_callS (ok_check_two_demands T) (hr.mono (by decide)) rfl T.mg_check_two_demands T.F_check_two_demands.kp T.b_check_two_demands (fun σ => L2N.passAt tk σ) (pa_cons (pv 0) (pa_cons (pv 1) pa_nil))))
      (pss_cons ps_no
      (pss_cons ps_no
      (pss_one ps_no)))),
    ?_⟩
  exact (sim_seq (sim_drop (sim_callS (sim_cons sim_var (sim_cons sim_var sim_nil)) (fun _ _ _ _ _ h => h)))
      (sim_seq sim_noS
      (sim_seq sim_noS
      sim_noS)))
set_option maxHeartbeats 4000000 in
theorem ok_takes (T : Tx K mg) : FnOk P w K mg base (L2N.CX P w) 9 T.a_takes T.fd_takes ["s", "t", "paper"] (spM K 0 3 3 (WXc T.cl) m_takes) := by
  refine okX T.cl T.F_takes sc_takes rfl rfl fun cdv A outer s H E hr => ?_
  have tk : L2N.Takes (cxOf (L2N.CX P w) P w K mg base ["s", "t", "paper"] "takes" (defScope s_takes) T.a_takes cdv A outer s H E) (fun cls d _ H => E cls d H) := L2N.takes_of rfl rfl rfl rfl
  refine ⟨_,
    (pss_cons (ps_expr (pe_callS (ok_check_two_demands T) (hr.mono (by decide)) rfl T.mg_check_two_demands T.F_check_two_demands.kp T.b_check_two_demands (fun σ => L2N.passAt tk σ) (pa_cons (pv 0) (pa_cons (pv 1) pa_nil))))
      (pss_cons ps_no
      (pss_cons ps_no
      (pss_cons ps_no
      (pss_one ps_no))))),
    ?_⟩
  exact (sim_seq (sim_drop (sim_callS (sim_cons sim_var (sim_cons sim_var sim_nil)) (fun _ _ _ _ _ h => h)))
      (sim_seq sim_noS
      (sim_seq sim_noS
      (sim_seq sim_noS
      sim_noS))))
set_option maxHeartbeats 4000000 in
theorem ok_equal (T : Tx K mg) : FnOk P w K mg base (L2N.CX P w) 9 T.a_equal T.fd_equal ["s", "t"] (spM K 0 2 2 (WXc T.cl) m_equal) := by
  refine okX T.cl T.F_equal sc_equal rfl rfl fun cdv A outer s H E hr => ?_
  have tk : L2N.Takes (cxOf (L2N.CX P w) P w K mg base ["s", "t"] "equal" (defScope s_equal) T.a_equal cdv A outer s H E) (fun cls d _ H => E cls d H) := L2N.takes_of rfl rfl rfl rfl
  refine ⟨_,
    (pss_cons (ps_expr (pe_callS (ok_check_two_demands T) (hr.mono (by decide)) rfl T.mg_check_two_demands T.F_check_two_demands.kp T.b_check_two_demands (fun σ => L2N.passAt tk σ) (pa_cons (pv 0) (pa_cons (pv 1) pa_nil))))
      (pss_one ps_no)),
    ?_⟩
  exact (sim_seq (sim_drop (sim_callS (sim_cons sim_var (sim_cons sim_var sim_nil)) (fun _ _ _ _ _ h => h)))
      sim_noS)
set_option maxHeartbeats 4000000 in
theorem ok_divided (T : Tx K mg) : FnOk P w K mg base (L2N.CX P w) 9 T.a_divided T.fd_divided ["t", "s"] (spM K 0 2 17 (WXc T.cl) m_divided) := by
  refine okX T.cl T.F_divided sc_divided rfl rfl fun cdv A outer s H E hr => ?_
  have tk : L2N.Takes (cxOf (L2N.CX P w) P w K mg base ["t", "s", "n", "states_t", "states_s", "every_set", "wanted", "ahead_t", "given", "ahead_s", "fitting", "bits", "used", "shared", "ends", "letter", "end"] "divided" (defScope s_divided) T.a_divided cdv A outer s H E) (fun cls d _ H => E cls d H) := L2N.takes_of rfl rfl rfl rfl
  refine ⟨_,
    (pss_cons (ps_expr (pe_callS (ok_check_two_demands T) (hr.mono (by decide)) rfl T.mg_check_two_demands T.F_check_two_demands.kp T.b_check_two_demands (fun σ => L2N.passAt tk σ) (pa_cons (pv 0) (pa_cons (pv 1) pa_nil))))
      (pss_cons ps_no
      (pss_cons ps_no
      (pss_cons ps_no
      (pss_cons ps_no
      (pss_one ps_no)))))),
    ?_⟩
  exact (sim_seq (sim_drop (sim_callS (sim_cons sim_var (sim_cons sim_var sim_nil)) (fun _ _ _ _ _ h => h)))
      (sim_seq sim_noS
      (sim_seq sim_noS
      (sim_seq sim_noS
      (sim_seq sim_noS
      sim_noS)))))
set_option maxHeartbeats 4000000 in
theorem ok_missing (T : Tx K mg) : FnOk P w K mg base (L2N.CX P w) 10 T.a_missing T.fd_missing ["t", "s"] (spM K 0 2 2 (WXc T.cl) m_missing) := by
  refine okX T.cl T.F_missing sc_missing rfl rfl fun cdv A outer s H E hr => ?_
  have tk : L2N.Takes (cxOf (L2N.CX P w) P w K mg base ["t", "s"] "missing" (defScope s_missing) T.a_missing cdv A outer s H E) (fun cls d _ H => E cls d H) := L2N.takes_of rfl rfl rfl rfl
  refine ⟨_,
    (pss_one (ps_ret (pe_callS (ok_some T) (hr.mono (by decide)) rfl T.mg_some T.F_some.kp T.b_some (fun σ => L2N.passAt tk σ) (pa_cons (pe_callS (ok_divided T) (hr.mono (by decide)) rfl T.mg_divided T.F_divided.kp T.b_divided (fun σ => L2N.passAt tk σ) (pa_cons (pv 0) (pa_cons (pv 1) pa_nil))) pa_nil)))),
    ?_⟩
  exact (sim_ret (sim_callS (sim_cons (sim_callS (sim_cons sim_var (sim_cons sim_var sim_nil)) (fun _ _ _ _ _ h => h)) sim_nil) (fun _ _ _ _ _ h => h)))
set_option maxHeartbeats 4000000 in
theorem ok__law_both (T : Tx K mg) : FnOk P w K mg base (L2N.CX P w) 11 T.a__law_both T.fd__law_both ["way", "one", "other"] (spM K 0 3 3 (WXc T.cl) m__law_both) := by
  refine okX T.cl T.F__law_both sc__law_both rfl rfl fun cdv A outer s H E hr => ?_
  have tk : L2N.Takes (cxOf (L2N.CX P w) P w K mg base ["way", "one", "other"] "_law_both" (defScope s__law_both) T.a__law_both cdv A outer s H E) (fun cls d _ H => E cls d H) := L2N.takes_of rfl rfl rfl rfl
  refine ⟨_,
    (pss_cons (ps_if (pt_cmpR (zeq K (hu64 hr)) (pv 0) pe_int (nomark _)) (pss_one (ps_ret (pe_callS (ok_meet T) (hr.mono (by decide)) rfl T.mg_meet T.F_meet.kp T.b_meet (fun σ => L2N.passAt tk σ) (pa_cons (pv 1) (pa_cons (pv 2) pa_nil))))) pss_nil)
      (pss_cons (ps_if (pt_cmpR (zeq K (hu64 hr)) (pv 0) pe_int (nomark _)) (pss_one (ps_ret (pe_callS (ok_either T) (hr.mono (by decide)) rfl T.mg_either T.F_either.kp T.b_either (fun σ => L2N.passAt tk σ) (pa_cons (pv 2) (pa_cons (pv 1) pa_nil))))) pss_nil)
      (pss_cons (ps_if (pt_cmpR (zeq K (hu64 hr)) (pv 0) pe_int (nomark _)) (pss_one (ps_ret (pe_callS (ok_beside T) (hr.mono (by decide)) rfl T.mg_beside T.F_beside.kp T.b_beside (fun σ => L2N.passAt tk σ) (pa_cons (pv 1) (pa_cons (pv 2) pa_nil))))) pss_nil)
      (pss_cons (ps_if (pt_cmpR (zeq K (hu64 hr)) (pv 0) pe_int (nomark _)) (pss_one (ps_ret (pe_callS (ok_parts T) (hr.mono (by decide)) rfl T.mg_parts T.F_parts.kp T.b_parts (fun σ => L2N.passAt tk σ) (pa_cons (pv 2) (pa_cons (pv 1) (pa_cons pe_str (pa_cons (pe_un un_neg pe_int) pa_nil))))))) pss_nil)
      (pss_cons (ps_if (pt_cmpR (zeq K (hu64 hr)) (pv 0) pe_int (nomark _)) (pss_one (ps_ret (pe_callS (ok_refines T) (hr.mono (by decide)) rfl T.mg_refines T.F_refines.kp T.b_refines (fun σ => L2N.passAt tk σ) (pa_cons (pv 2) (pa_cons (pv 1) pa_nil))))) pss_nil)
      (pss_cons (ps_if (pt_cmpR (zeq K (hu64 hr)) (pv 0) pe_int (nomark _)) (pss_one (ps_ret (pe_callS (ok_takes T) (hr.mono (by decide)) rfl T.mg_takes T.F_takes.kp T.b_takes (fun σ => L2N.passAt tk σ) (pa_cons (pv 1) (pa_cons (pv 2) (pa_cons (pe_tup pa_nil) pa_nil)))))) pss_nil)
      (pss_cons (ps_if (pt_cmpR (zeq K (hu64 hr)) (pv 0) pe_int (nomark _)) (pss_one (ps_ret (pe_callS (ok_equal T) (hr.mono (by decide)) rfl T.mg_equal T.F_equal.kp T.b_equal (fun σ => L2N.passAt tk σ) (pa_cons (pv 2) (pa_cons (pv 1) pa_nil))))) pss_nil)
      (pss_cons (ps_if (pt_cmpR (zeq K (hu64 hr)) (pv 0) pe_int (nomark _)) (pss_one (ps_ret (pe_callS (ok_divided T) (hr.mono (by decide)) rfl T.mg_divided T.F_divided.kp T.b_divided (fun σ => L2N.passAt tk σ) (pa_cons (pv 1) (pa_cons (pv 2) pa_nil))))) pss_nil)
      (pss_cons (ps_if (pt_cmpR (zeq K (hu64 hr)) (pv 0) pe_int (nomark _)) (pss_one (ps_ret (pe_callS (ok_divided T) (hr.mono (by decide)) rfl T.mg_divided T.F_divided.kp T.b_divided (fun σ => L2N.passAt tk σ) (pa_cons (pv 2) (pa_cons (pv 1) pa_nil))))) pss_nil)
      (pss_cons (ps_if (pt_cmpR (zeq K (hu64 hr)) (pv 0) pe_int (nomark _)) (pss_one (ps_ret (pe_callS (ok_missing T) (hr.mono (by decide)) rfl T.mg_missing T.F_missing.kp T.b_missing (fun σ => L2N.passAt tk σ) (pa_cons (pv 2) (pa_cons (pv 1) pa_nil))))) pss_nil)
      (pss_cons (ps_if (pt_cmpR (zeq K (hu64 hr)) (pv 0) pe_int (nomark _)) (pss_one (ps_ret (pe_callS (ok_refines T) (hr.mono (by decide)) rfl T.mg_refines T.F_refines.kp T.b_refines (fun σ => L2N.passAt tk σ) (pa_cons (pv 1) (pa_cons (pv 2) pa_nil))))) pss_nil)
      (pss_one (ps_ret (pe_callS (ok_meet T) (hr.mono (by decide)) rfl T.mg_meet T.F_meet.kp T.b_meet (fun σ => L2N.passAt tk σ) (pa_cons (pv 2) (pa_cons (pv 1) pa_nil)))))))))))))))),
    ?_⟩
  exact (sim_seq (sim_ifS (sim_test (sim_op s_eq sim_var (sim_c (.int _)))) (sim_ret (sim_callS (sim_cons sim_var (sim_cons sim_var sim_nil)) (fun _ _ _ _ _ h => h))) sim_next)
      (sim_seq (sim_ifS (sim_test (sim_op s_eq sim_var (sim_c (.int _)))) (sim_ret (sim_callS (sim_cons sim_var (sim_cons sim_var sim_nil)) (fun _ _ _ _ _ h => h))) sim_next)
      (sim_seq (sim_ifS (sim_test (sim_op s_eq sim_var (sim_c (.int _)))) (sim_ret (sim_callS (sim_cons sim_var (sim_cons sim_var sim_nil)) (fun _ _ _ _ _ h => h))) sim_next)
      (sim_seq (sim_ifS (sim_test (sim_op s_eq sim_var (sim_c (.int _)))) (sim_ret (sim_callS (sim_cons sim_var (sim_cons sim_var (sim_cons (sim_c (.str _)) (sim_cons (sim_un s_neg (sim_c (.int _))) sim_nil)))) (fun _ _ _ _ _ h => h))) sim_next)
      (sim_seq (sim_ifS (sim_test (sim_op s_eq sim_var (sim_c (.int _)))) (sim_ret (sim_callS (sim_cons sim_var (sim_cons sim_var sim_nil)) (fun _ _ _ _ _ h => h))) sim_next)
      (sim_seq (sim_ifS (sim_test (sim_op s_eq sim_var (sim_c (.int _)))) (sim_ret (sim_callS (sim_cons sim_var (sim_cons sim_var (sim_cons (sim_tup sim_nil) sim_nil))) (fun _ _ _ _ _ h => h))) sim_next)
      (sim_seq (sim_ifS (sim_test (sim_op s_eq sim_var (sim_c (.int _)))) (sim_ret (sim_callS (sim_cons sim_var (sim_cons sim_var sim_nil)) (fun _ _ _ _ _ h => h))) sim_next)
      (sim_seq (sim_ifS (sim_test (sim_op s_eq sim_var (sim_c (.int _)))) (sim_ret (sim_callS (sim_cons sim_var (sim_cons sim_var sim_nil)) (fun _ _ _ _ _ h => h))) sim_next)
      (sim_seq (sim_ifS (sim_test (sim_op s_eq sim_var (sim_c (.int _)))) (sim_ret (sim_callS (sim_cons sim_var (sim_cons sim_var sim_nil)) (fun _ _ _ _ _ h => h))) sim_next)
      (sim_seq (sim_ifS (sim_test (sim_op s_eq sim_var (sim_c (.int _)))) (sim_ret (sim_callS (sim_cons sim_var (sim_cons sim_var sim_nil)) (fun _ _ _ _ _ h => h))) sim_next)
      (sim_seq (sim_ifS (sim_test (sim_op s_eq sim_var (sim_c (.int _)))) (sim_ret (sim_callS (sim_cons sim_var (sim_cons sim_var sim_nil)) (fun _ _ _ _ _ h => h))) sim_next)
      (sim_ret (sim_callS (sim_cons sim_var (sim_cons sim_var sim_nil)) (fun _ _ _ _ _ h => h))))))))))))))
set_option maxHeartbeats 4000000 in
theorem ok__is_edge (T : Tx K mg) : FnOk P w K mg base CX0 3 T.a__is_edge T.fd__is_edge ["n", "many", "edge"] (spM K 0 3 3 W0 m__is_edge) := by
  refine ok0 T.F__is_edge sc__is_edge rfl rfl fun cdv A outer s H E hr => ⟨_,
    (pss_cons (ps_if (PW.pt (pw_or (pt_not (zpt_tru K (pe_callB (zisi K) (by rfl) T.z_isinstance (by decide +kernel) (pa_cons (pv 2) (pa_cons (pe_bltn (v := .ty "tuple") (by rfl) T.z_tuple (by decide +kernel) rfl) pa_nil))))) (pw_or1 (pt_cmpR (zne K (hu64 hr)) (pe_callB (zlen K) (by rfl) T.z_len (by decide +kernel) (pa_cons (pv 2) pa_nil)) pe_int (nomark _))))) (pss_one (ps_ret pe_bl)) pss_nil)
      (pss_one (ps_ret (pe_and (pe_call (ok_is_below T) (hr.mono (by decide)) rfl T.mg_is_below T.F_is_below.kp T.b_is_below .nil pass0 (pa_cons (pe_ix (zix K) (pv 2) pe_int (fun _ _ => rfl)) (pa_cons (pv 0) pa_nil))) (pe_one (pe_call (ok_is_below T) (hr.mono (by decide)) rfl T.mg_is_below T.F_is_below.kp T.b_is_below .nil pass0 (pa_cons (pe_ix (zix K) (pv 2) pe_int (fun _ _ => rfl)) (pa_cons (pv 1) pa_nil)))))))),
    ?_⟩
  exact (sim_seq (sim_ifS (sim_or (sim_not (sim_tru (sim_isi sim_var))) (sim_test (sim_op s_ne (sim_cb s_len (sim_cons sim_var sim_nil)) (sim_c (.int _))))) (sim_ret (sim_c (.bl _))) sim_next)
      (sim_ret (sim_andV (sim_call0 (sim_cons (sim_op s_ix sim_var (sim_c (.int _))) (sim_cons sim_var sim_nil)) (by intro h; cases h)) (sim_call0 (sim_cons (sim_op s_ix sim_var (sim_c (.int _))) (sim_cons sim_var sim_nil)) (by intro h; cases h)))))
set_option maxHeartbeats 4000000 in
theorem ok__is_row (T : Tx K mg) : FnOk P w K mg base CX0 4 T.a__is_row T.fd__is_row ["n", "many", "row"] (spM K 0 3 5 W0 m__is_row) := by
  refine ok0 T.F__is_row sc__is_row rfl rfl fun cdv A outer s H E hr => ⟨_,
    (pss_cons (ps_for PassesOwn.never rfl (zseq K (pv 2)) (pg_name (i := 3) sc__is_row.nd rfl (by first | exact Or.inl rfl | exact Or.inr rfl)) (pss_one (ps_if (pt_not (zpt_tru K (pe_call (ok__is_edge T) (hr.mono (by decide)) rfl T.mg__is_edge T.F__is_edge.kp T.b__is_edge .nil pass0 (pa_cons (pv 0) (pa_cons (pv 1) (pa_cons (pv 3) pa_nil)))))) (pss_one (ps_ret pe_bl)) pss_nil)))
      (pss_one (ps_ret (pe_callB (zall (K := K) rfl) (by rfl) T.z_all (by decide +kernel) (pa_cons (pe_lc (own := [("at", 4)]) rfl sc__is_row.nd (pi_range2 (by rfl) T.z_range (pa_cons pe_int (pa_cons (pe_callB (zlen K) (by rfl) T.z_len (by decide +kernel) (pa_cons (pv 2) pa_nil)) pa_nil))) (blkOk_by (N := ["n", "many", "row", "edge", "at"]) (sc := defScope s__is_row) (by decide +kernel)) (fun _ _ _ _ _ => (pg_name (i := 4) sc__is_row.nd rfl (by first | exact Or.inl rfl | exact Or.inr rfl))) (fun _ _ _ _ _ => pts_nil) (fun _ _ _ _ _ => (pe_cmpR (zalt op_lt (zltT (K := K) (hu64 hr))) (pe_ix (zix K) (pv 2) (pe_op op_sub (pv 4) pe_int) (fun _ _ => rfl)) (pe_ix (zix K) (pv 2) (pv 4) (fun _ _ => rfl)) (nomark _)))) pa_nil))))),
    ?_⟩
  exact (sim_seq (sim_for (sim_iter sim_var) (simg_name (by decide)) (sim_ifS (sim_not (sim_tru (sim_call0 (sim_cons sim_var (sim_cons sim_var (sim_cons sim_var sim_nil))) (by intro h; cases h)))) (sim_ret (sim_c (.bl _))) sim_next))
      (sim_ret (sim_cb s_all (sim_cons (sim_lc (sim_rng2 (sim_cons (sim_c (.int _)) (sim_cons (sim_cb s_len (sim_cons sim_var sim_nil)) sim_nil))) (simg_name (by decide)) sim_yes (sim_op (s_alt s_lt s_ltT) (sim_op s_ix sim_var (sim_op s_sub sim_var (sim_c (.int _)))) (sim_op s_ix sim_var sim_var)) (by decide) (by decide)) sim_nil))))
set_option maxHeartbeats 4000000 in
theorem ok__is_machine (T : Tx K mg) : FnOk P w K mg base CX0 5 T.a__is_machine T.fd__is_machine ["m"] (spM K 0 1 4 W0 m__is_machine) := by
  refine ok0 T.F__is_machine sc__is_machine rfl rfl fun cdv A outer s H E hr => ⟨_,
    (pss_cons (ps_if (PW.pt (pw_or (pt_not (zpt_tru K (pe_callB (zisi K) (by rfl) T.z_isinstance (by decide +kernel) (pa_cons (pv 0) (pa_cons (pe_bltn (v := .ty "tuple") (by rfl) T.z_tuple (by decide +kernel) rfl) pa_nil))))) (pw_or1 (pt_cmpR (zne K (hu64 hr)) (pe_callB (zlen K) (by rfl) T.z_len (by decide +kernel) (pa_cons (pv 0) pa_nil)) pe_int (nomark _))))) (pss_one (ps_ret pe_bl)) pss_nil)
      (pss_cons (ps_asg (pv 0) (pg_tup rfl (pgs_cons (pg_name (i := 1) sc__is_machine.nd rfl (by first | exact Or.inl rfl | exact Or.inr rfl)) (pgs_cons (pg_name (i := 2) sc__is_machine.nd rfl (by first | exact Or.inl rfl | exact Or.inr rfl)) pgs_nil))))
      (pss_cons (ps_if (PW.pt (pw_or (pt_not (zpt_tru K (pe_call (ok_is_letter_count T) (hr.mono (by decide)) rfl T.mg_is_letter_count T.F_is_letter_count.kp T.b_is_letter_count .nil pass0 (pa_cons (pv 1) pa_nil)))) (pw_or1 (pt_not (zpt_tru K (pe_callB (zisi K) (by rfl) T.z_isinstance (by decide +kernel) (pa_cons (pv 2) (pa_cons (pe_bltn (v := .ty "tuple") (by rfl) T.z_tuple (by decide +kernel) rfl) pa_nil)))))))) (pss_one (ps_ret pe_bl)) pss_nil)
      (pss_cons (ps_if (pt_not (pt_chain op_le op_le pe_int (pe_callB (zlen K) (by rfl) T.z_len (by decide +kernel) (pa_cons (pv 2) pa_nil)) (pe_glob (v := .int 400) rfl T.c_MOST_STATES ⟨_, rfl⟩))) (pss_one (ps_ret pe_bl)) pss_nil)
      (pss_cons (ps_if (pt_not (zpt_tru K (pe_callB (zall (K := K) rfl) (by rfl) T.z_all (by decide +kernel) (pa_cons (pe_lc (own := [("row", 3)]) rfl sc__is_machine.nd (zseq K (pv 2)) (blkOk_by (N := ["m", "n", "rows", "row"]) (sc := defScope s__is_machine) (by decide +kernel)) (fun _ _ _ _ _ => (pg_name (i := 3) sc__is_machine.nd rfl (by first | exact Or.inl rfl | exact Or.inr rfl))) (fun _ _ _ _ _ => pts_nil) (fun _ _ _ _ _ => (pe_callB (zisi K) (by rfl) T.z_isinstance (by decide +kernel) (pa_cons (pv 3) (pa_cons (pe_bltn (v := .ty "tuple") (by rfl) T.z_tuple (by decide +kernel) rfl) pa_nil))))) pa_nil)))) (pss_one (ps_ret pe_bl)) pss_nil)
      (pss_cons (ps_if (pt_cmpR op_gt (pe_callB (zsum (K := K) rfl) (by rfl) T.z_sum (by decide +kernel) (pa_cons (pe_lc (own := [("row", 3)]) rfl sc__is_machine.nd (zseq K (pv 2)) (blkOk_by (N := ["m", "n", "rows", "row"]) (sc := defScope s__is_machine) (by decide +kernel)) (fun _ _ _ _ _ => (pg_name (i := 3) sc__is_machine.nd rfl (by first | exact Or.inl rfl | exact Or.inr rfl))) (fun _ _ _ _ _ => pts_nil) (fun _ _ _ _ _ => (pe_callB (zlen K) (by rfl) T.z_len (by decide +kernel) (pa_cons (pv 3) pa_nil)))) pa_nil)) (pe_glob (v := .int 6000) rfl T.c_MOST_EDGES ⟨_, rfl⟩) (nomark _)) (pss_one (ps_ret pe_bl)) pss_nil)
      (pss_one (ps_ret (pe_callB (zall (K := K) rfl) (by rfl) T.z_all (by decide +kernel) (pa_cons (pe_lc (own := [("row", 3)]) rfl sc__is_machine.nd (zseq K (pv 2)) (blkOk_by (N := ["m", "n", "rows", "row"]) (sc := defScope s__is_machine) (by decide +kernel)) (fun _ _ _ _ _ => (pg_name (i := 3) sc__is_machine.nd rfl (by first | exact Or.inl rfl | exact Or.inr rfl))) (fun _ _ _ _ _ => pts_nil) (fun _ _ _ _ _ => (pe_call (ok__is_row T) (hr.mono (by decide)) rfl T.mg__is_row T.F__is_row.kp T.b__is_row .nil pass0 (pa_cons (pv 1) (pa_cons (pe_callB (zlen K) (by rfl) T.z_len (by decide +kernel) (pa_cons (pv 2) pa_nil)) (pa_cons (pv 3) pa_nil)))))) pa_nil)))))))))),
    ?_⟩
  exact (sim_seq (sim_ifS (sim_or (sim_not (sim_tru (sim_isi sim_var))) (sim_test (sim_op s_ne (sim_cb s_len (sim_cons sim_var sim_nil)) (sim_c (.int _))))) (sim_ret (sim_c (.bl _))) sim_next)
      (sim_seq (sim_asgG sim_var (simg_tup (simgs_cons (simg_name (by decide)) (simgs_cons (simg_name (by decide)) simgs_nil))))
      (sim_seq (sim_ifS (sim_or (sim_not (sim_tru (sim_call0 (sim_cons sim_var sim_nil) (by intro h; cases h)))) (sim_not (sim_tru (sim_isi sim_var)))) (sim_ret (sim_c (.bl _))) sim_next)
      (sim_seq (sim_ifS (sim_not (sim_test (sim_chain s_le s_le (sim_c (.int _)) (sim_cb s_len (sim_cons sim_var sim_nil)) (sim_c (.int _))))) (sim_ret (sim_c (.bl _))) sim_next)
      (sim_seq (sim_ifS (sim_not (sim_tru (sim_cb s_all (sim_cons (sim_lcH (simg_name (by decide)) sim_yes (sim_isi sim_var) (by decide) (by decide) (by decide)) sim_nil)))) (sim_ret (sim_c (.bl _))) sim_next)
      (sim_seq (sim_ifS (sim_test (sim_op s_gt (sim_cb s_sum (sim_cons (sim_lcH (simg_name (by decide)) sim_yes (sim_cb s_len (sim_cons sim_var sim_nil)) (by decide) (by decide) (by decide)) sim_nil)) (sim_c (.int _)))) (sim_ret (sim_c (.bl _))) sim_next)
      (sim_ret (sim_cb s_all (sim_cons (sim_lc (sim_iter sim_var) (simg_name (by decide)) sim_yes (sim_call0 (sim_cons sim_var (sim_cons (sim_cb s_len (sim_cons sim_var sim_nil)) (sim_cons sim_var sim_nil))) (by intro h; cases h)) (by decide) (by decide)) sim_nil)))))))))
set_option maxHeartbeats 4000000 in
theorem ok_check_machine (T : Tx K mg) : FnOk P w K mg base (L2N.CX P w) 6 T.a_check_machine T.fd_check_machine ["m"] (spM K 0 1 1 (WXc T.cl) m_check_machine) := by
  refine okX T.cl T.F_check_machine sc_check_machine rfl rfl fun cdv A outer s H E hr => ?_
  have tk : L2N.Takes (cxOf (L2N.CX P w) P w K mg base ["m"] "check_machine" (defScope s_check_machine) T.a_check_machine cdv A outer s H E) (fun cls d _ H => E cls d H) := L2N.takes_of rfl rfl rfl rfl
  refine ⟨_,
    (pss_one (ps_if (pt_not (zpt_tru K (pe_call (ok__is_machine T) (hr.mono (by decide)) rfl T.mg__is_machine T.F__is_machine.kp T.b__is_machine .nil pass0 (pa_cons (pv 0) pa_nil)))) (pss_one (L2N.ps_raise rfl tk (zpmk0 PySem.F.excBase_ValueError T.q_BadMachine T.mg_BadMachine T.kp_BadMachine (L2.raises_own T.f_BadMachine.x.hs T.f_BadMachine.ty) rfl))) pss_nil)),
    ?_⟩
  exact (sim_ifS (sim_not (sim_tru (sim_call0 (sim_cons sim_var sim_nil) (by intro h; cases h)))) (sim_raise (C := T.C_BadMachine) (W := WXc T.cl E) (Wx := fun cls d _ H => E cls d H) (fun _ _ h => h)) sim_next)
set_option maxHeartbeats 4000000 in
theorem ok__check_both (T : Tx K mg) : FnOk P w K mg base (L2N.CX P w) 8 T.a__check_both T.fd__check_both ["m", "d"] (spM K 0 2 2 (WXc T.cl) m__check_both) := by
  refine okX T.cl T.F__check_both sc__check_both rfl rfl fun cdv A outer s H E hr => ?_
  have tk : L2N.Takes (cxOf (L2N.CX P w) P w K mg base ["m", "d"] "_check_both" (defScope s__check_both) T.a__check_both cdv A outer s H E) (fun cls d _ H => E cls d H) := L2N.takes_of rfl rfl rfl rfl
  refine ⟨_,
    (pss_cons (ps_expr (pe_callS (ok_check_machine T) (hr.mono (by decide)) rfl T.mg_check_machine T.F_check_machine.kp T.b_check_machine (fun σ => L2N.passAt tk σ) (pa_cons (pv 0) pa_nil)))
      (pss_cons (ps_expr (pe_callS (ok_check_demand T) (hr.mono (by decide)) rfl T.mg_check_demand T.F_check_demand.kp T.b_check_demand (fun σ => L2N.passAt tk σ) (pa_cons (pv 1) pa_nil)))
      (pss_one (ps_expr (pe_callS (ok_check_same_letters T) (hr.mono (by decide)) rfl T.mg_check_same_letters T.F_check_same_letters.kp T.b_check_same_letters (fun σ => L2N.passAt tk σ) (pa_cons (pv 0) (pa_cons (pv 1) pa_nil))))))),
    ?_⟩
  exact (sim_seq (sim_drop (sim_callS (sim_cons sim_var sim_nil) (fun _ _ _ _ _ h => h)))
      (sim_seq (sim_drop (sim_callS (sim_cons sim_var sim_nil) (fun _ _ _ _ _ h => h)))
      (sim_drop (sim_callS (sim_cons sim_var (sim_cons sim_var sim_nil)) (fun _ _ _ _ _ h => h)))))
set_option maxHeartbeats 4000000 in
theorem ok_keeps (T : Tx K mg) : FnOk P w K mg base (L2N.CX P w) 9 T.a_keeps T.fd_keeps ["m", "d"] (spM K 0 2 19 (WXc T.cl) m_keeps) := by
  refine okX T.cl T.F_keeps sc_keeps rfl rfl fun cdv A outer s H E hr => ?_
  have tk : L2N.Takes (cxOf (L2N.CX P w) P w K mg base ["m", "d", "rows", "states", "sets", "row", "groups", "came", "seen", "at", "q", "ends", "accepts", "ahead", "wrong", "p", "letter", "to", "new"] "keeps" (defScope s_keeps) T.a_keeps cdv A outer s H E) (fun cls d _ H => E cls d H) := L2N.takes_of rfl rfl rfl rfl
  refine ⟨_,
    (pss_cons (ps_expr (pe_callS (ok__check_both T) (hr.mono (by decide)) rfl T.mg__check_both T.F__check_both.kp T.b__check_both (fun σ => L2N.passAt tk σ) (pa_cons (pv 0) (pa_cons (pv 1) pa_nil))))
      (pss_cons ps_no
      (pss_cons ps_no
      (pss_cons ps_no
      (pss_cons ps_no
      (pss_cons ps_no
      (pss_cons ps_no
      (pss_cons ps_no
      (pss_one ps_no))))))))),
    ?_⟩
  exact (sim_seq (sim_drop (sim_callS (sim_cons sim_var (sim_cons sim_var sim_nil)) (fun _ _ _ _ _ h => h)))
      (sim_seq sim_noS
      (sim_seq sim_noS
      (sim_seq sim_noS
      (sim_seq sim_noS
      (sim_seq sim_noS
      (sim_seq sim_noS
      (sim_seq sim_noS
      sim_noS))))))))
set_option maxHeartbeats 4000000 in
theorem ok_is_kept (T : Tx K mg) : FnOk P w K mg base (L2N.CX P w) 9 T.a_is_kept T.fd_is_kept ["m", "d", "paper"] (spM K 0 3 3 (WXc T.cl) m_is_kept) := by
  refine okX T.cl T.F_is_kept sc_is_kept rfl rfl fun cdv A outer s H E hr => ?_
  have tk : L2N.Takes (cxOf (L2N.CX P w) P w K mg base ["m", "d", "paper"] "is_kept" (defScope s_is_kept) T.a_is_kept cdv A outer s H E) (fun cls d _ H => E cls d H) := L2N.takes_of rfl rfl rfl rfl
  refine ⟨_,
    (pss_cons (ps_expr (pe_callS (ok__check_both T) (hr.mono (by decide)) rfl T.mg__check_both T.F__check_both.kp T.b__check_both (fun σ => L2N.passAt tk σ) (pa_cons (pv 0) (pa_cons (pv 1) pa_nil))))
      (pss_cons ps_no
      (pss_cons ps_no
      (pss_cons ps_no
      (pss_one ps_no))))),
    ?_⟩
  exact (sim_seq (sim_drop (sim_callS (sim_cons sim_var (sim_cons sim_var sim_nil)) (fun _ _ _ _ _ h => h)))
      (sim_seq sim_noS
      (sim_seq sim_noS
      (sim_seq sim_noS
      sim_noS))))
set_option maxHeartbeats 4000000 in
theorem ok__check_three (T : Tx K mg) : FnOk P w K mg base (L2N.CX P w) 8 T.a__check_three T.fd__check_three ["x", "s", "t"] (spM K 0 3 3 (WXc T.cl) m__check_three) := by
  refine okX T.cl T.F__check_three sc__check_three rfl rfl fun cdv A outer s H E hr => ?_
  have tk : L2N.Takes (cxOf (L2N.CX P w) P w K mg base ["x", "s", "t"] "_check_three" (defScope s__check_three) T.a__check_three cdv A outer s H E) (fun cls d _ H => E cls d H) := L2N.takes_of rfl rfl rfl rfl
  refine ⟨_,
    (pss_cons (ps_expr (pe_callS (ok_check_machine T) (hr.mono (by decide)) rfl T.mg_check_machine T.F_check_machine.kp T.b_check_machine (fun σ => L2N.passAt tk σ) (pa_cons (pv 0) pa_nil)))
      (pss_cons (ps_expr (pe_callS (ok_check_demand T) (hr.mono (by decide)) rfl T.mg_check_demand T.F_check_demand.kp T.b_check_demand (fun σ => L2N.passAt tk σ) (pa_cons (pv 1) pa_nil)))
      (pss_cons (ps_expr (pe_callS (ok_check_demand T) (hr.mono (by decide)) rfl T.mg_check_demand T.F_check_demand.kp T.b_check_demand (fun σ => L2N.passAt tk σ) (pa_cons (pv 2) pa_nil)))
      (pss_cons (ps_expr (pe_callS (ok_check_same_letters T) (hr.mono (by decide)) rfl T.mg_check_same_letters T.F_check_same_letters.kp T.b_check_same_letters (fun σ => L2N.passAt tk σ) (pa_cons (pv 0) (pa_cons (pv 1) pa_nil))))
      (pss_one (ps_expr (pe_callS (ok_check_same_letters T) (hr.mono (by decide)) rfl T.mg_check_same_letters T.F_check_same_letters.kp T.b_check_same_letters (fun σ => L2N.passAt tk σ) (pa_cons (pv 1) (pa_cons (pv 2) pa_nil))))))))),
    ?_⟩
  exact (sim_seq (sim_drop (sim_callS (sim_cons sim_var sim_nil) (fun _ _ _ _ _ h => h)))
      (sim_seq (sim_drop (sim_callS (sim_cons sim_var sim_nil) (fun _ _ _ _ _ h => h)))
      (sim_seq (sim_drop (sim_callS (sim_cons sim_var sim_nil) (fun _ _ _ _ _ h => h)))
      (sim_seq (sim_drop (sim_callS (sim_cons sim_var (sim_cons sim_var sim_nil)) (fun _ _ _ _ _ h => h)))
      (sim_drop (sim_callS (sim_cons sim_var (sim_cons sim_var sim_nil)) (fun _ _ _ _ _ h => h)))))))
set_option maxHeartbeats 4000000 in
theorem ok_completes (T : Tx K mg) : FnOk P w K mg base (L2N.CX P w) 9 T.a_completes T.fd_completes ["x", "s", "t"] (spM K 0 3 6 (WXc T.cl) m_completes) := by
  refine okX T.cl T.F_completes sc_completes rfl rfl fun cdv A outer s H E hr => ?_
  have tk : L2N.Takes (cxOf (L2N.CX P w) P w K mg base ["x", "s", "t", "answer", "shown", "found"] "completes" (defScope s_completes) T.a_completes cdv A outer s H E) (fun cls d _ H => E cls d H) := L2N.takes_of rfl rfl rfl rfl
  refine ⟨_,
    (pss_cons (ps_expr (pe_callS (ok__check_three T) (hr.mono (by decide)) rfl T.mg__check_three T.F__check_three.kp T.b__check_three (fun σ => L2N.passAt tk σ) (pa_cons (pv 0) (pa_cons (pv 1) (pa_cons (pv 2) pa_nil)))))
      (pss_cons ps_no
      (pss_cons ps_no
      (pss_one ps_no)))),
    ?_⟩
  exact (sim_seq (sim_drop (sim_callS (sim_cons sim_var (sim_cons sim_var (sim_cons sim_var sim_nil))) (fun _ _ _ _ _ h => h)))
      (sim_seq sim_noS
      (sim_seq sim_noS
      sim_noS)))
set_option maxHeartbeats 4000000 in
theorem ok_accepts (T : Tx K mg) : FnOk P w K mg base (L2N.CX P w) 9 T.a_accepts T.fd_accepts ["x", "s", "t", "paper"] (spM K 0 4 4 (WXc T.cl) m_accepts) := by
  refine okX T.cl T.F_accepts sc_accepts rfl rfl fun cdv A outer s H E hr => ?_
  have tk : L2N.Takes (cxOf (L2N.CX P w) P w K mg base ["x", "s", "t", "paper"] "accepts" (defScope s_accepts) T.a_accepts cdv A outer s H E) (fun cls d _ H => E cls d H) := L2N.takes_of rfl rfl rfl rfl
  refine ⟨_,
    (pss_cons (ps_expr (pe_callS (ok__check_three T) (hr.mono (by decide)) rfl T.mg__check_three T.F__check_three.kp T.b__check_three (fun σ => L2N.passAt tk σ) (pa_cons (pv 0) (pa_cons (pv 1) (pa_cons (pv 2) pa_nil)))))
      (pss_cons ps_no
      (pss_cons ps_no
      (pss_cons ps_no
      (pss_one ps_no))))),
    ?_⟩
  exact (sim_seq (sim_drop (sim_callS (sim_cons sim_var (sim_cons sim_var (sim_cons sim_var sim_nil))) (fun _ _ _ _ _ h => h)))
      (sim_seq sim_noS
      (sim_seq sim_noS
      (sim_seq sim_noS
      sim_noS))))
set_option maxHeartbeats 4000000 in
theorem ok__law_third (T : Tx K mg) : FnOk P w K mg base (L2N.CX P w) 10 T.a__law_third T.fd__law_third ["way", "one", "other"] (spM K 0 3 4 (WXc T.cl) m__law_third) := by
  refine okX T.cl T.F__law_third sc__law_third rfl rfl fun cdv A outer s H E hr => ?_
  have tk : L2N.Takes (cxOf (L2N.CX P w) P w K mg base ["way", "one", "other", "m"] "_law_third" (defScope s__law_third) T.a__law_third cdv A outer s H E) (fun cls d _ H => E cls d H) := L2N.takes_of rfl rfl rfl rfl
  refine ⟨_,
    (pss_cons (ps_set (i := 3) sc__law_third.nd rfl (by first | exact Or.inl rfl | exact Or.inr rfl) (pe_tup (pa_cons (pe_ix (zix K) (pv 2) pe_int (fun _ _ => rfl)) (pa_cons (pe_tup (pa_cons (pe_tup pa_nil) pa_nil)) pa_nil))))
      (pss_cons (ps_if (pt_cmpR (zeq K (hu64 hr)) (pv 0) pe_int (nomark _)) (pss_one (ps_ret (pe_callS (ok_keeps T) (hr.mono (by decide)) rfl T.mg_keeps T.F_keeps.kp T.b_keeps (fun σ => L2N.passAt tk σ) (pa_cons (pv 3) (pa_cons (pv 1) pa_nil))))) pss_nil)
      (pss_cons (ps_if (pt_cmpR (zeq K (hu64 hr)) (pv 0) pe_int (nomark _)) (pss_one (ps_ret (pe_callS (ok_is_kept T) (hr.mono (by decide)) rfl T.mg_is_kept T.F_is_kept.kp T.b_is_kept (fun σ => L2N.passAt tk σ) (pa_cons (pv 3) (pa_cons (pv 1) (pa_cons (pe_tup pa_nil) pa_nil)))))) pss_nil)
      (pss_cons (ps_if (pt_cmpR (zeq K (hu64 hr)) (pv 0) pe_int (nomark _)) (pss_one (ps_ret (pe_callS (ok_completes T) (hr.mono (by decide)) rfl T.mg_completes T.F_completes.kp T.b_completes (fun σ => L2N.passAt tk σ) (pa_cons (pv 3) (pa_cons (pv 1) (pa_cons (pv 2) pa_nil)))))) pss_nil)
      (pss_cons (ps_if (pt_cmpR (zeq K (hu64 hr)) (pv 0) pe_int (nomark _)) (pss_one (ps_ret (pe_callS (ok_completes T) (hr.mono (by decide)) rfl T.mg_completes T.F_completes.kp T.b_completes (fun σ => L2N.passAt tk σ) (pa_cons (pv 3) (pa_cons (pv 2) (pa_cons (pv 1) pa_nil)))))) pss_nil)
      (pss_cons (ps_if (pt_cmpR (zeq K (hu64 hr)) (pv 0) pe_int (nomark _)) (pss_one (ps_ret (pe_callS (ok_accepts T) (hr.mono (by decide)) rfl T.mg_accepts T.F_accepts.kp T.b_accepts (fun σ => L2N.passAt tk σ) (pa_cons (pv 3) (pa_cons (pv 2) (pa_cons (pv 1) (pa_cons (pe_tup pa_nil) pa_nil))))))) pss_nil)
      (pss_cons (ps_if (pt_cmpR (zeq K (hu64 hr)) (pv 0) pe_int (nomark _)) (pss_one (ps_ret (pe_callS (ok_accepts T) (hr.mono (by decide)) rfl T.mg_accepts T.F_accepts.kp T.b_accepts (fun σ => L2N.passAt tk σ) (pa_cons (pv 3) (pa_cons (pv 1) (pa_cons (pv 2) (pa_cons (pe_tup pa_nil) pa_nil))))))) pss_nil)
      (pss_one (ps_ret (pe_callS (ok_keeps T) (hr.mono (by decide)) rfl T.mg_keeps T.F_keeps.kp T.b_keeps (fun σ => L2N.passAt tk σ) (pa_cons (pe_tup (pa_cons pe_int (pa_cons (pe_tup pa_nil) pa_nil))) (pa_cons (pv 1) pa_nil)))))))))))),
    ?_⟩
  exact (sim_seq (sim_asg (sim_tup (sim_cons (sim_op s_ix sim_var (sim_c (.int _))) (sim_cons (sim_tup (sim_cons (sim_tup sim_nil) sim_nil)) sim_nil))) (by decide))
      (sim_seq (sim_ifS (sim_test (sim_op s_eq sim_var (sim_c (.int _)))) (sim_ret (sim_callS (sim_cons sim_var (sim_cons sim_var sim_nil)) (fun _ _ _ _ _ h => h))) sim_next)
      (sim_seq (sim_ifS (sim_test (sim_op s_eq sim_var (sim_c (.int _)))) (sim_ret (sim_callS (sim_cons sim_var (sim_cons sim_var (sim_cons (sim_tup sim_nil) sim_nil))) (fun _ _ _ _ _ h => h))) sim_next)
      (sim_seq (sim_ifS (sim_test (sim_op s_eq sim_var (sim_c (.int _)))) (sim_ret (sim_callS (sim_cons sim_var (sim_cons sim_var (sim_cons sim_var sim_nil))) (fun _ _ _ _ _ h => h))) sim_next)
      (sim_seq (sim_ifS (sim_test (sim_op s_eq sim_var (sim_c (.int _)))) (sim_ret (sim_callS (sim_cons sim_var (sim_cons sim_var (sim_cons sim_var sim_nil))) (fun _ _ _ _ _ h => h))) sim_next)
      (sim_seq (sim_ifS (sim_test (sim_op s_eq sim_var (sim_c (.int _)))) (sim_ret (sim_callS (sim_cons sim_var (sim_cons sim_var (sim_cons sim_var (sim_cons (sim_tup sim_nil) sim_nil)))) (fun _ _ _ _ _ h => h))) sim_next)
      (sim_seq (sim_ifS (sim_test (sim_op s_eq sim_var (sim_c (.int _)))) (sim_ret (sim_callS (sim_cons sim_var (sim_cons sim_var (sim_cons sim_var (sim_cons (sim_tup sim_nil) sim_nil)))) (fun _ _ _ _ _ h => h))) sim_next)
      (sim_ret (sim_callS (sim_cons (sim_tup (sim_cons (sim_c (.int _)) (sim_cons (sim_tup sim_nil) sim_nil))) (sim_cons sim_var sim_nil)) (fun _ _ _ _ _ h => h))))))))))
set_option maxHeartbeats 4000000 in
theorem ok__law_refused (T : Tx K mg) : FnOk P w K mg base CX0 12 T.a__law_refused T.fd__law_refused ["way", "one", "other"] (spM K 0 3 5 W0 m__law_refused) := by
  refine ok0 T.F__law_refused sc__law_refused rfl rfl fun cdv A outer s H E hr => ⟨_,
    (pss_one (L2N.ps_try_as (ts := tClsN T.cl m_hd 4) (Wout := fun _ _ _ _ => False) (i := 4) rfl rfl sc__law_refused.nd rfl rfl ⟨rfl, by decide, .inl T.mg_SpandrelError⟩ takes0 (fun W pn xe tk po => (pss_cons (ps_if (pt_cmpR op_lt (pv 0) pe_int (nomark _)) (pss_one (ps_set (i := 3) sc__law_refused.nd rfl (by first | exact Or.inl rfl | exact Or.inr rfl) (pe_callS (ok__law_one T) (hr.mono (by decide)) rfl T.mg__law_one T.F__law_one.kp T.b__law_one (fun σ => L2N.passAt tk σ) (pa_cons (pv 0) (pa_cons (pv 1) pa_nil))))) (pss_one (ps_if (pt_cmpR op_lt (pv 0) pe_int (nomark _)) (pss_one (ps_set (i := 3) sc__law_refused.nd rfl (by first | exact Or.inl rfl | exact Or.inr rfl) (pe_callS (ok__law_both T) (hr.mono (by decide)) rfl T.mg__law_both T.F__law_both.kp T.b__law_both (fun σ => L2N.passAt tk σ) (pa_cons (pv 0) (pa_cons (pv 1) (pa_cons (pv 2) pa_nil)))))) (pss_one (ps_set (i := 3) sc__law_refused.nd rfl (by first | exact Or.inl rfl | exact Or.inr rfl) (pe_callS (ok__law_third T) (hr.mono (by decide)) rfl T.mg__law_third T.F__law_third.kp T.b__law_third (fun σ => L2N.passAt tk σ) (pa_cons (pv 0) (pa_cons (pv 1) (pa_cons (pv 2) pa_nil)))))))))
      (pss_one (ps_ret (pe_ifExp (PW.pt (pw_or (pt_cmpR op_isN1 (pv 3) pe_non (nomark _)) (pw_or1 (pt_cmpR op_gt (pv 0) pe_int (nomark _))))) pe_str pe_str))))) (fun a oe cls d pn zn hf => pss_when (p := d = none) (t := tCls T.cl m_hd 4 a cls) (fun hd0 => by
        subst hd0
        exact pss_one (ps_ret (te := zsuT T.cl m_hd 4 a cls) (by exact zsuite (err__law_class T) (roomH_of (hr.mono (by decide))) rfl T.mg__law_class T.F__law_class.kp T.b__law_class zn hf rfl (by first | exact Or.inl rfl | exact Or.inr rfl) m_hd_flat)))))),
    ?_⟩
  exact (sim_tryN (fun Wx => (sim_seq (sim_ifS (sim_test (sim_op s_lt sim_var (sim_c (.int _)))) (sim_asg (sim_callS (sim_cons sim_var (sim_cons sim_var sim_nil)) (fun _ _ _ _ _ h => h)) (by decide)) (sim_ifS (sim_test (sim_op s_lt sim_var (sim_c (.int _)))) (sim_asg (sim_callS (sim_cons sim_var (sim_cons sim_var (sim_cons sim_var sim_nil))) (fun _ _ _ _ _ h => h)) (by decide)) (sim_asg (sim_callS (sim_cons sim_var (sim_cons sim_var (sim_cons sim_var sim_nil))) (fun _ _ _ _ _ h => h)) (by decide))))
      (sim_ret (sim_if (sim_or (sim_test (sim_op s_isN sim_var (sim_c .non))) (sim_test (sim_op s_gt sim_var (sim_c (.int _))))) (sim_c (.str _)) (sim_c (.str _)))))) T.caught)
set_option maxHeartbeats 4000000 in
theorem ok__law_sets (T : Tx K mg) : FnOk P w K mg base CX0 3 T.a__law_sets T.fd__law_sets ["box", "n", "sets"] (spM K 1 3 5 W0 m__law_sets) := by
  refine ok0 T.F__law_sets sc__law_sets rfl rfl fun cdv A outer s H E hr => ⟨_,
    (pss_cons (ps_set (i := 3) sc__law_sets.nd rfl (by first | exact Or.inl rfl | exact Or.inr rfl) (pe_ix (zix K) (pe_lst (pa_cons pe_int (pa_cons pe_int (pa_cons pe_int (pa_cons pe_int (pa_cons pe_int (pa_cons pe_int pa_nil))))))) (pv 1) (fun _ _ => rfl)))
      (pss_cons (ps_set (i := 4) sc__law_sets.nd rfl (by first | exact Or.inl rfl | exact Or.inr rfl) (pe_lst (pa_cons (pe_op (zcatA (K := K)) (pv 2) (pe_tup (pa_cons (pv 3) pa_nil))) (pa_cons (pe_op (zcatA (K := K)) (pe_tup (pa_cons (pe_un un_neg pe_int) pa_nil)) (pv 2)) (pa_cons (pe_tup (pa_cons pe_bl pa_nil)) (pa_cons (pe_tup (pa_cons pe_non pa_nil)) (pa_cons (pe_tup (pa_cons pe_str pa_nil)) (pa_cons (pe_op (zcatA (K := K)) (pe_op (zalt (zcatA (K := K)) (zcatL (K := K))) (pv 2) (pe_slice (zsl (K := K)) (pv 2) (po_some (pe_un un_neg pe_int)) po_none)) (pe_tup (pa_cons (pv 3) pa_nil))) (pa_cons pe_non (pa_cons pe_int (pa_cons pe_str (pa_cons (pe_tup (pa_cons (pe_tup pa_nil) pa_nil)) pa_nil))))))))))))
      (pss_cons (ps_if (zpt_tru K (pv 2)) (pss_one (ps_set (i := 4) sc__law_sets.nd rfl (by first | exact Or.inl rfl | exact Or.inr rfl) (pe_op (zcatL (K := K)) (pv 4) (pe_lst (pa_cons (pe_op (zalt (zcatA (K := K)) (zcatL (K := K))) (pv 2) (pe_slice (zsl (K := K)) (pv 2) (po_some (pe_un un_neg pe_int)) po_none)) (pa_cons (pe_op (zcatA (K := K)) (pe_tup (pa_cons (pe_ix (zix K) (pv 2) pe_int (fun _ _ => rfl)) pa_nil)) (pv 2)) pa_nil)))))) pss_nil)
      (pss_cons (ps_if (pt_cmpR op_gt (pe_callB (zlen K) (by rfl) T.z_len (by decide +kernel) (pa_cons (pv 2) pa_nil)) pe_int (nomark _)) (pss_one (ps_expr (pe_bm PySem.F.plainAttrs_list PySem.F.slot_list_append PySem.F.type_list_append mt_append (pv 4) (pa_cons (pe_op (zcatA (K := K)) (pe_tup (pa_cons (pe_ix (zix K) (pv 2) pe_int (fun _ _ => rfl)) (pa_cons (pe_ix (zix K) (pv 2) pe_int (fun _ _ => rfl)) pa_nil))) (pe_slice (zsl (K := K)) (pv 2) (po_some pe_int) po_none)) pa_nil)))) pss_nil)
      (pss_one (ps_ret (pe_call (ok__law_pick T) (hr.mono (by decide)) rfl T.mg__law_pick T.F__law_pick.kp T.b__law_pick .nil pass0 (pa_cons (pv 0) (pa_cons (pv 4) pa_nil))))))))),
    ?_⟩
  exact (sim_seq (sim_asg (sim_op s_ix (sim_lst (sim_cons (sim_c (.int _)) (sim_cons (sim_c (.int _)) (sim_cons (sim_c (.int _)) (sim_cons (sim_c (.int _)) (sim_cons (sim_c (.int _)) (sim_cons (sim_c (.int _)) sim_nil))))))) sim_var) (by decide))
      (sim_seq (sim_asg (sim_lst (sim_cons (sim_op s_catT sim_var (sim_tup (sim_cons sim_var sim_nil))) (sim_cons (sim_op s_catT (sim_tup (sim_cons (sim_un s_neg (sim_c (.int _))) sim_nil)) sim_var) (sim_cons (sim_tup (sim_cons (sim_c (.bl _)) sim_nil)) (sim_cons (sim_tup (sim_cons (sim_c .non) sim_nil)) (sim_cons (sim_tup (sim_cons (sim_c (.str _)) sim_nil)) (sim_cons (sim_op s_catT (sim_op (s_alt s_catT s_catL) sim_var (sim_sl sim_var (sim_part (sim_un s_neg (sim_c (.int _)))) sim_noPart)) (sim_tup (sim_cons sim_var sim_nil))) (sim_cons (sim_c .non) (sim_cons (sim_c (.int _)) (sim_cons (sim_c (.str _)) (sim_cons (sim_tup (sim_cons (sim_tup sim_nil) sim_nil)) sim_nil))))))))))) (by decide))
      (sim_seq (sim_ifS (sim_tru sim_var) (sim_asg (sim_op s_catL sim_var (sim_lst (sim_cons (sim_op (s_alt s_catT s_catL) sim_var (sim_sl sim_var (sim_part (sim_un s_neg (sim_c (.int _)))) sim_noPart)) (sim_cons (sim_op s_catT (sim_tup (sim_cons (sim_op s_ix sim_var (sim_c (.int _))) sim_nil)) sim_var) sim_nil)))) (by decide)) sim_next)
      (sim_seq (sim_ifS (sim_test (sim_op s_gt (sim_cb s_len (sim_cons sim_var sim_nil)) (sim_c (.int _)))) (sim_mut s_append (sim_cons (sim_op s_catT (sim_tup (sim_cons (sim_op s_ix sim_var (sim_c (.int _))) (sim_cons (sim_op s_ix sim_var (sim_c (.int _))) sim_nil))) (sim_sl sim_var (sim_part (sim_c (.int _))) sim_noPart)) sim_nil)) sim_next)
      (sim_ret (sim_callM (mask := [true]) (sim_cons sim_var (sim_cons sim_var sim_nil))))))))
set_option maxHeartbeats 4000000 in
theorem ok__law_after (T : Tx K mg) : FnOk P w K mg base CX0 3 T.a__law_after T.fd__law_after ["box", "d", "at"] (spM K 1 3 12 W0 m__law_after) := by
  refine ok0 T.F__law_after sc__law_after rfl rfl fun cdv A outer s H E hr => ⟨_,
    (pss_cons (ps_asg (pv 1) (pg_tup rfl (pgs_cons (pg_name (i := 3) sc__law_after.nd rfl (by first | exact Or.inl rfl | exact Or.inr rfl)) (pgs_cons (pg_name (i := 4) sc__law_after.nd rfl (by first | exact Or.inl rfl | exact Or.inr rfl)) pgs_nil))))
      (pss_cons (ps_asg (pe_ix (zix K) (pv 4) (pv 2) (fun _ _ => rfl)) (pg_tup rfl (pgs_cons (pg_name (i := 5) sc__law_after.nd rfl (by first | exact Or.inl rfl | exact Or.inr rfl)) (pgs_cons (pg_name (i := 6) sc__law_after.nd rfl (by first | exact Or.inl rfl | exact Or.inr rfl)) pgs_nil))))
      (pss_cons (ps_set (i := 7) sc__law_after.nd rfl (by first | exact Or.inl rfl | exact Or.inr rfl) (pe_lst (pa_cons (pe_op (zcatA (K := K)) (pv 6) (pe_tup (pa_cons pe_int pa_nil))) (pa_cons (pe_op (zcatA (K := K)) (pv 6) (pe_tup (pa_cons (pe_un un_neg pe_int) pa_nil))) (pa_cons pe_non (pa_cons pe_int (pa_cons pe_str (pa_cons (pe_tup (pa_cons (pv 6) pa_nil)) pa_nil))))))))
      (pss_cons (ps_if (pt_cmpR op_gt (pv 3) pe_int (nomark _)) (pss_cons (ps_set (i := 8) sc__law_after.nd rfl (by first | exact Or.inl rfl | exact Or.inr rfl) (pe_call (ok__law_take T) (hr.mono (by decide)) rfl T.mg__law_take T.F__law_take.kp T.b__law_take .nil pass0 (pa_cons (pv 0) (pa_cons (pv 3) pa_nil))))
      (pss_cons (ps_for PassesOwn.never rfl (zseq K (pe_tup (pa_cons (pe_callB (zlen K) (by rfl) T.z_len (by decide +kernel) (pa_cons (pv 4) pa_nil)) (pa_cons (pe_un un_neg pe_int) (pa_cons pe_bl (pa_cons pe_non (pa_cons pe_str (pa_cons pe_int pa_nil)))))))) (pg_name (i := 9) sc__law_after.nd rfl (by first | exact Or.inl rfl | exact Or.inr rfl)) (pss_one (ps_expr (pe_bm PySem.F.plainAttrs_list PySem.F.slot_list_append PySem.F.type_list_append mt_append (pv 7) (pa_cons (pe_op (zcatA (K := K)) (pe_op (zcatA (K := K)) (pe_slice (zsl (K := K)) (pv 6) po_none (po_some (pv 8))) (pe_tup (pa_cons (pv 9) pa_nil))) (pe_slice (zsl (K := K)) (pv 6) (po_some (pe_op op_add (pv 8) pe_int)) po_none)) pa_nil)))))
      (pss_cons (ps_expr (pe_bm PySem.F.plainAttrs_list PySem.F.slot_list_append PySem.F.type_list_append mt_append (pv 7) (pa_cons (pe_slice (zsl (K := K)) (pv 6) (po_some pe_int) po_none) pa_nil)))
      (pss_one (ps_for PassesOwn.never rfl (pi_range1 (by rfl) T.z_range (pa_cons (pv 3) pa_nil)) (pg_name (i := 10) sc__law_after.nd rfl (by first | exact Or.inl rfl | exact Or.inr rfl)) (pss_one (ps_if (zpt_tru K (pe_lc (own := [("bits", 11)]) rfl sc__law_after.nd (zseq K (pv 5)) (blkOk_by (N := ["box", "d", "at", "n", "states", "sets", "after", "bad", "k", "x", "a", "bits"]) (sc := defScope s__law_after) (by decide +kernel)) (fun _ _ _ _ _ => (pg_name (i := 11) sc__law_after.nd rfl (by first | exact Or.inl rfl | exact Or.inr rfl))) (fun _ _ _ _ _ => (pts_one (pt_cmpR (zeq K (hu64 hr)) (pe_op op_mod (pe_op op_fdiv (pe_callTy call_int1 (by rfl) T.z_int (by decide +kernel) (pa_cons (pv 11) pa_nil)) (pe_ix (zix K) (pe_lst (pa_cons pe_int (pa_cons pe_int (pa_cons pe_int (pa_cons pe_int (pa_cons pe_int pa_nil)))))) (pv 10) (fun _ _ => rfl))) pe_int) pe_int (nomark _)))) (fun _ _ _ _ _ => (pv 11)))) (pss_one (ps_expr (pe_bm PySem.F.plainAttrs_list PySem.F.slot_list_append PySem.F.type_list_append mt_append (pv 7) (pa_cons (pe_op (zcatA (K := K)) (pe_op (zcatA (K := K)) (pe_slice (zsl (K := K)) (pv 6) po_none (po_some (pv 10))) (pe_tup (pa_cons (pe_un un_neg pe_int) pa_nil))) (pe_slice (zsl (K := K)) (pv 6) (po_some (pe_op op_add (pv 10) pe_int)) po_none)) pa_nil)))) pss_nil))))))) pss_nil)
      (pss_one (ps_ret (pe_call (ok__law_pick T) (hr.mono (by decide)) rfl T.mg__law_pick T.F__law_pick.kp T.b__law_pick .nil pass0 (pa_cons (pv 0) (pa_cons (pv 7) pa_nil))))))))),
    ?_⟩
  exact (sim_seq (sim_asgG sim_var (simg_tup (simgs_cons (simg_name (by decide)) (simgs_cons (simg_name (by decide)) simgs_nil))))
      (sim_seq (sim_asgG (sim_op s_ix sim_var sim_var) (simg_tup (simgs_cons (simg_name (by decide)) (simgs_cons (simg_name (by decide)) simgs_nil))))
      (sim_seq (sim_asg (sim_lst (sim_cons (sim_op s_catT sim_var (sim_tup (sim_cons (sim_c (.int _)) sim_nil))) (sim_cons (sim_op s_catT sim_var (sim_tup (sim_cons (sim_un s_neg (sim_c (.int _))) sim_nil))) (sim_cons (sim_c .non) (sim_cons (sim_c (.int _)) (sim_cons (sim_c (.str _)) (sim_cons (sim_tup (sim_cons sim_var sim_nil)) sim_nil))))))) (by decide))
      (sim_seq (sim_ifS (sim_test (sim_op s_gt sim_var (sim_c (.int _)))) (sim_seq (sim_asg (sim_callM (mask := [true]) (sim_cons sim_var (sim_cons sim_var sim_nil))) (by decide))
      (sim_seq (sim_for (sim_iter (sim_tup (sim_cons (sim_cb s_len (sim_cons sim_var sim_nil)) (sim_cons (sim_un s_neg (sim_c (.int _))) (sim_cons (sim_c (.bl _)) (sim_cons (sim_c .non) (sim_cons (sim_c (.str _)) (sim_cons (sim_c (.int _)) sim_nil)))))))) (simg_name (by decide)) (sim_mut s_append (sim_cons (sim_op s_catT (sim_op s_catT (sim_sl sim_var sim_noPart (sim_part sim_var)) (sim_tup (sim_cons sim_var sim_nil))) (sim_sl sim_var (sim_part (sim_op s_add sim_var (sim_c (.int _)))) sim_noPart)) sim_nil)))
      (sim_seq (sim_mut s_append (sim_cons (sim_sl sim_var (sim_part (sim_c (.int _))) sim_noPart) sim_nil))
      (sim_for (sim_rng1 (sim_cons sim_var sim_nil)) (simg_name (by decide)) (sim_ifS (sim_tru (sim_lcH (simg_name (by decide)) (sim_test (sim_op s_eq (sim_op s_mod (sim_op s_div (sim_cb s_int (sim_cons sim_var sim_nil)) (sim_op s_ix (sim_lst (sim_cons (sim_c (.int _)) (sim_cons (sim_c (.int _)) (sim_cons (sim_c (.int _)) (sim_cons (sim_c (.int _)) (sim_cons (sim_c (.int _)) sim_nil)))))) sim_var)) (sim_c (.int _))) (sim_c (.int _)))) sim_var (by decide) (by decide) (by decide))) (sim_mut s_append (sim_cons (sim_op s_catT (sim_op s_catT (sim_sl sim_var sim_noPart (sim_part sim_var)) (sim_tup (sim_cons (sim_un s_neg (sim_c (.int _))) sim_nil))) (sim_sl sim_var (sim_part (sim_op s_add sim_var (sim_c (.int _)))) sim_noPart)) sim_nil)) sim_next))))) sim_next)
      (sim_ret (sim_callM (mask := [true]) (sim_cons sim_var (sim_cons sim_var sim_nil))))))))
set_option maxHeartbeats 4000000 in
theorem ok__law_spoilt (T : Tx K mg) : FnOk P w K mg base CX0 4 T.a__law_spoilt T.fd__law_spoilt ["box", "d"] (spM K 1 2 7 W0 m__law_spoilt) := by
  refine ok0 T.F__law_spoilt sc__law_spoilt rfl rfl fun cdv A outer s H E hr => ⟨_,
    (pss_cons (ps_asg (pv 1) (pg_tup rfl (pgs_cons (pg_name (i := 2) sc__law_spoilt.nd rfl (by first | exact Or.inl rfl | exact Or.inr rfl)) (pgs_cons (pg_name (i := 3) sc__law_spoilt.nd rfl (by first | exact Or.inl rfl | exact Or.inr rfl)) pgs_nil))))
      (pss_cons (ps_set (i := 4) sc__law_spoilt.nd rfl (by first | exact Or.inl rfl | exact Or.inr rfl) (pe_call (ok__law_take T) (hr.mono (by decide)) rfl T.mg__law_take T.F__law_take.kp T.b__law_take .nil pass0 (pa_cons (pv 0) (pa_cons (pe_callB (zlen K) (by rfl) T.z_len (by decide +kernel) (pa_cons (pv 3) pa_nil)) pa_nil))))
      (pss_cons (ps_set (i := 5) sc__law_spoilt.nd rfl (by first | exact Or.inl rfl | exact Or.inr rfl) (pe_call (ok__law_take T) (hr.mono (by decide)) rfl T.mg__law_take T.F__law_take.kp T.b__law_take .nil pass0 (pa_cons (pv 0) (pa_cons pe_int pa_nil))))
      (pss_cons (ps_set (i := 6) sc__law_spoilt.nd rfl (by first | exact Or.inl rfl | exact Or.inr rfl) (pe_ix (zix K) (pv 3) (pv 4) (fun _ _ => rfl)))
      (pss_cons (ps_if (pt_cmpR (zeq K (hu64 hr)) (pv 5) pe_int (nomark _)) (pss_one (ps_set (i := 6) sc__law_spoilt.nd rfl (by first | exact Or.inl rfl | exact Or.inr rfl) (pe_tup (pa_cons (pe_call (ok__law_sets T) (hr.mono (by decide)) rfl T.mg__law_sets T.F__law_sets.kp T.b__law_sets .nil pass0 (pa_cons (pv 0) (pa_cons (pv 2) (pa_cons (pe_ix (zix K) (pv 6) pe_int (fun _ _ => rfl)) pa_nil)))) (pa_cons (pe_ix (zix K) (pv 6) pe_int (fun _ _ => rfl)) pa_nil))))) (pss_one (ps_if (pt_cmpR (zeq K (hu64 hr)) (pv 5) pe_int (nomark _)) (pss_one (ps_set (i := 6) sc__law_spoilt.nd rfl (by first | exact Or.inl rfl | exact Or.inr rfl) (pe_tup (pa_cons (pe_ix (zix K) (pv 6) pe_int (fun _ _ => rfl)) (pa_cons (pe_call (ok__law_after T) (hr.mono (by decide)) rfl T.mg__law_after T.F__law_after.kp T.b__law_after .nil pass0 (pa_cons (pv 0) (pa_cons (pv 1) (pa_cons (pv 4) pa_nil)))) pa_nil))))) (pss_one (ps_if (pt_cmpR (zeq K (hu64 hr)) (pv 5) pe_int (nomark _)) (pss_one (ps_set (i := 6) sc__law_spoilt.nd rfl (by first | exact Or.inl rfl | exact Or.inr rfl) (pe_call (ok__law_pick T) (hr.mono (by decide)) rfl T.mg__law_pick T.F__law_pick.kp T.b__law_pick .nil pass0 (pa_cons (pv 0) (pa_cons (pe_lst (pa_cons (pe_tup pa_nil) (pa_cons pe_non (pa_cons pe_int (pa_cons pe_str (pa_cons (pe_tup (pa_cons (pe_ix (zix K) (pv 6) pe_int (fun _ _ => rfl)) pa_nil)) (pa_cons (pe_tup (pa_cons (pe_ix (zix K) (pv 6) pe_int (fun _ _ => rfl)) (pa_cons (pe_ix (zix K) (pv 6) pe_int (fun _ _ => rfl)) (pa_cons (pe_tup pa_nil) pa_nil)))) (pa_cons (pe_tup (pa_cons (pe_ix (zix K) (pv 6) pe_int (fun _ _ => rfl)) (pa_cons (pe_ix (zix K) (pv 6) pe_int (fun _ _ => rfl)) (pa_cons pe_int pa_nil)))) pa_nil)))))))) pa_nil))))) (pss_one (ps_ret (pe_call (ok__law_pick T) (hr.mono (by decide)) rfl T.mg__law_pick T.F__law_pick.kp T.b__law_pick .nil pass0 (pa_cons (pv 0) (pa_cons (pe_lst (pa_cons (pe_tup (pa_cons pe_int (pa_cons (pv 3) pa_nil))) (pa_cons (pe_tup (pa_cons (pe_un un_neg pe_int) (pa_cons (pv 3) pa_nil))) (pa_cons (pe_tup (pa_cons pe_non (pa_cons (pv 3) pa_nil))) (pa_cons (pe_tup (pa_cons pe_str (pa_cons (pv 3) pa_nil))) (pa_cons (pe_tup (pa_cons (pv 2) (pa_cons (pe_tup pa_nil) pa_nil))) (pa_cons (pe_tup (pa_cons (pv 2) (pa_cons pe_non pa_nil))) (pa_cons (pe_tup (pa_cons (pv 2) pa_nil)) (pa_cons (pe_tup (pa_cons (pv 2) (pa_cons (pv 3) (pa_cons pe_int pa_nil)))) (pa_cons (pe_tup pa_nil) (pa_cons pe_non (pa_cons pe_int (pa_cons pe_str (pa_cons (pv 3) pa_nil)))))))))))))) pa_nil))))))))))
      (pss_one (ps_ret (pe_tup (pa_cons (pv 2) (pa_cons (pe_op (zcatA (K := K)) (pe_op (zcatA (K := K)) (pe_slice (zsl (K := K)) (pv 3) po_none (po_some (pv 4))) (pe_tup (pa_cons (pv 6) pa_nil))) (pe_slice (zsl (K := K)) (pv 3) (po_some (pe_op op_add (pv 4) pe_int)) po_none)) pa_nil)))))))))),
    ?_⟩
  exact (sim_seq (sim_asgG sim_var (simg_tup (simgs_cons (simg_name (by decide)) (simgs_cons (simg_name (by decide)) simgs_nil))))
      (sim_seq (sim_asg (sim_callM (mask := [true]) (sim_cons sim_var (sim_cons (sim_cb s_len (sim_cons sim_var sim_nil)) sim_nil))) (by decide))
      (sim_seq (sim_asg (sim_callM (mask := [true]) (sim_cons sim_var (sim_cons (sim_c (.int _)) sim_nil))) (by decide))
      (sim_seq (sim_asg (sim_op s_ix sim_var sim_var) (by decide))
      (sim_seq (sim_ifS (sim_test (sim_op s_eq sim_var (sim_c (.int _)))) (sim_asg (sim_tup (sim_cons (sim_callM (mask := [true]) (sim_cons sim_var (sim_cons sim_var (sim_cons (sim_op s_ix sim_var (sim_c (.int _))) sim_nil)))) (sim_cons (sim_op s_ix sim_var (sim_c (.int _))) sim_nil))) (by decide)) (sim_ifS (sim_test (sim_op s_eq sim_var (sim_c (.int _)))) (sim_asg (sim_tup (sim_cons (sim_op s_ix sim_var (sim_c (.int _))) (sim_cons (sim_callM (mask := [true]) (sim_cons sim_var (sim_cons sim_var (sim_cons sim_var sim_nil)))) sim_nil))) (by decide)) (sim_ifS (sim_test (sim_op s_eq sim_var (sim_c (.int _)))) (sim_asg (sim_callM (mask := [true]) (sim_cons sim_var (sim_cons (sim_lst (sim_cons (sim_tup sim_nil) (sim_cons (sim_c .non) (sim_cons (sim_c (.int _)) (sim_cons (sim_c (.str _)) (sim_cons (sim_tup (sim_cons (sim_op s_ix sim_var (sim_c (.int _))) sim_nil)) (sim_cons (sim_tup (sim_cons (sim_op s_ix sim_var (sim_c (.int _))) (sim_cons (sim_op s_ix sim_var (sim_c (.int _))) (sim_cons (sim_tup sim_nil) sim_nil)))) (sim_cons (sim_tup (sim_cons (sim_op s_ix sim_var (sim_c (.int _))) (sim_cons (sim_op s_ix sim_var (sim_c (.int _))) (sim_cons (sim_c (.int _)) sim_nil)))) sim_nil)))))))) sim_nil))) (by decide)) (sim_ret (sim_callM (mask := [true]) (sim_cons sim_var (sim_cons (sim_lst (sim_cons (sim_tup (sim_cons (sim_c (.int _)) (sim_cons sim_var sim_nil))) (sim_cons (sim_tup (sim_cons (sim_un s_neg (sim_c (.int _))) (sim_cons sim_var sim_nil))) (sim_cons (sim_tup (sim_cons (sim_c .non) (sim_cons sim_var sim_nil))) (sim_cons (sim_tup (sim_cons (sim_c (.str _)) (sim_cons sim_var sim_nil))) (sim_cons (sim_tup (sim_cons sim_var (sim_cons (sim_tup sim_nil) sim_nil))) (sim_cons (sim_tup (sim_cons sim_var (sim_cons (sim_c .non) sim_nil))) (sim_cons (sim_tup (sim_cons sim_var sim_nil)) (sim_cons (sim_tup (sim_cons sim_var (sim_cons sim_var (sim_cons (sim_c (.int _)) sim_nil)))) (sim_cons (sim_tup sim_nil) (sim_cons (sim_c .non) (sim_cons (sim_c (.int _)) (sim_cons (sim_c (.str _)) (sim_cons sim_var sim_nil)))))))))))))) sim_nil)))))))
      (sim_ret (sim_tup (sim_cons sim_var (sim_cons (sim_op s_catT (sim_op s_catT (sim_sl sim_var sim_noPart (sim_part sim_var)) (sim_tup (sim_cons sim_var sim_nil))) (sim_sl sim_var (sim_part (sim_op s_add sim_var (sim_c (.int _)))) sim_noPart)) sim_nil)))))))))
set_option maxHeartbeats 4000000 in
theorem ok_law (T : Tx K mg) : FnOk P w K mg base CX0 13 T.a_law T.fd_law ["script"] (spM K 0 1 9 W0 m_law) := by
  refine ok0 T.F_law sc_law rfl rfl fun cdv A outer s H E hr => ⟨_,
    (pss_cons (ps_set (i := 1) sc_law.nd rfl (by first | exact Or.inl rfl | exact Or.inr rfl) (pe_call (ok__law_box T) (hr.mono (by decide)) rfl T.mg__law_box T.F__law_box.kp T.b__law_box .nil pass0 (pa_cons (pv 0) pa_nil)))
      (pss_cons (ps_set (i := 2) sc_law.nd rfl (by first | exact Or.inl rfl | exact Or.inr rfl) (pe_call (ok__law_take T) (hr.mono (by decide)) rfl T.mg__law_take T.F__law_take.kp T.b__law_take .nil pass0 (pa_cons (pv 1) (pa_cons pe_int pa_nil))))
      (pss_cons (ps_set (i := 3) sc_law.nd rfl (by first | exact Or.inl rfl | exact Or.inr rfl) (pe_call (ok__law_demand T) (hr.mono (by decide)) rfl T.mg__law_demand T.F__law_demand.kp T.b__law_demand .nil pass0 (pa_cons (pv 1) (pa_cons (pv 2) (pa_cons pe_int pa_nil)))))
      (pss_cons (ps_if (pt_cmpR (zne K (hu64 hr)) (pe_call (ok__law_refused T) (hr.mono (by decide)) rfl T.mg__law_refused T.F__law_refused.kp T.b__law_refused .nil pass0 (pa_cons pe_int (pa_cons (pv 3) (pa_cons (pv 3) pa_nil)))) pe_str (nomark _)) (pss_one (ps_ret pe_bl)) pss_nil)
      (pss_cons (ps_set (i := 4) sc_law.nd rfl (by first | exact Or.inl rfl | exact Or.inr rfl) (pe_op op_add pe_int (pe_call (ok__law_take T) (hr.mono (by decide)) rfl T.mg__law_take T.F__law_take.kp T.b__law_take .nil pass0 (pa_cons (pv 1) (pa_cons pe_int pa_nil)))))
      (pss_cons (ps_set (i := 5) sc_law.nd rfl (by first | exact Or.inl rfl | exact Or.inr rfl) (pe_tup (pa_cons (pv 2) (pa_cons (pe_op (zcatA (K := K)) (pe_ix (zix K) (pv 3) pe_int (fun _ _ => rfl)) (pe_op (zrepA (K := K)) (pe_tup (pa_cons (pe_tup (pa_cons (pe_ix (zix K) (pe_ix (zix K) (pe_ix (zix K) (pv 3) pe_int (fun _ _ => rfl)) pe_int (fun _ _ => rfl)) pe_int (fun _ _ => rfl)) (pa_cons (pe_ix (zix K) (pe_ix (zix K) (pe_ix (zix K) (pv 3) pe_int (fun _ _ => rfl)) pe_int (fun _ _ => rfl)) pe_int (fun _ _ => rfl)) pa_nil))) pa_nil)) (pe_op op_sub (pv 4) (pe_callB (zlen K) (by rfl) T.z_len (by decide +kernel) (pa_cons (pe_ix (zix K) (pv 3) pe_int (fun _ _ => rfl)) pa_nil))))) pa_nil))))
      (pss_cons (ps_if (pt_cmpR (zne K (hu64 hr)) (pe_call (ok__law_refused T) (hr.mono (by decide)) rfl T.mg__law_refused T.F__law_refused.kp T.b__law_refused .nil pass0 (pa_cons pe_int (pa_cons (pv 5) (pa_cons (pv 3) pa_nil)))) (pe_ifExp (pt_cmpR (zeq K (hu64 hr)) (pv 4) pe_int (nomark _)) pe_str pe_str) (nomark _)) (pss_one (ps_ret pe_bl)) pss_nil)
      (pss_cons (ps_set (i := 6) sc_law.nd rfl (by first | exact Or.inl rfl | exact Or.inr rfl) (pe_call (ok__law_spoilt T) (hr.mono (by decide)) rfl T.mg__law_spoilt T.F__law_spoilt.kp T.b__law_spoilt .nil pass0 (pa_cons (pv 1) (pa_cons (pv 3) pa_nil))))
      (pss_cons (ps_set (i := 7) sc_law.nd rfl (by first | exact Or.inl rfl | exact Or.inr rfl) (pe_tup (pa_cons (pe_op op_mod (pe_callTy call_int1 (by rfl) T.z_int (by decide +kernel) (pa_cons (pe_op op_add (pv 2) pe_int) pa_nil)) pe_int) (pa_cons (pe_tup (pa_cons (pe_tup (pa_cons (pe_tup pa_nil) (pa_cons (pe_op (zrepA (K := K)) (pe_tup (pa_cons (pe_un un_neg pe_int) pa_nil)) (pe_op op_mod (pe_callTy call_int1 (by rfl) T.z_int (by decide +kernel) (pa_cons (pe_op op_add (pv 2) pe_int) pa_nil)) pe_int)) pa_nil))) pa_nil)) pa_nil))))
      (pss_cons (ps_for PassesOwn.never rfl (pi_range1 (by rfl) T.z_range (pa_cons pe_int pa_nil)) (pg_name (i := 8) sc_law.nd rfl (by first | exact Or.inl rfl | exact Or.inr rfl)) (pss_one (ps_if (PW.pt (pw_or (pt_cmpR (zne K (hu64 hr)) (pe_call (ok__law_refused T) (hr.mono (by decide)) rfl T.mg__law_refused T.F__law_refused.kp T.b__law_refused .nil pass0 (pa_cons (pv 8) (pa_cons (pv 6) (pa_cons (pv 3) pa_nil)))) pe_str (nomark _)) (pw_or1 (PW.pt (pw_and (pt_cmpR op_gt (pv 8) pe_int (nomark _)) (pw_and1 (pt_cmpR (zne K (hu64 hr)) (pe_call (ok__law_refused T) (hr.mono (by decide)) rfl T.mg__law_refused T.F__law_refused.kp T.b__law_refused .nil pass0 (pa_cons (pv 8) (pa_cons (pv 6) (pa_cons (pv 7) pa_nil)))) pe_str (nomark _)))))))) (pss_one (ps_ret pe_bl)) pss_nil)))
      (pss_cons (ps_for PassesOwn.never rfl (pi_range2 (by rfl) T.z_range (pa_cons pe_int (pa_cons pe_int pa_nil))) (pg_name (i := 8) sc_law.nd rfl (by first | exact Or.inl rfl | exact Or.inr rfl)) (pss_one (ps_if (PW.pt (pw_or (pt_cmpR (zne K (hu64 hr)) (pe_call (ok__law_refused T) (hr.mono (by decide)) rfl T.mg__law_refused T.F__law_refused.kp T.b__law_refused .nil pass0 (pa_cons (pv 8) (pa_cons (pv 6) (pa_cons (pv 7) pa_nil)))) pe_str (nomark _)) (pw_or1 (pt_cmpR (zne K (hu64 hr)) (pe_call (ok__law_refused T) (hr.mono (by decide)) rfl T.mg__law_refused T.F__law_refused.kp T.b__law_refused .nil pass0 (pa_cons (pv 8) (pa_cons (pv 3) (pa_cons (pv 7) pa_nil)))) pe_str (nomark _))))) (pss_one (ps_ret pe_bl)) pss_nil)))
      (pss_one (ps_ret (pe_cmpR (zeq K (hu64 hr)) (pe_call (ok__law_refused T) (hr.mono (by decide)) rfl T.mg__law_refused T.F__law_refused.kp T.b__law_refused .nil pass0 (pa_cons pe_int (pa_cons (pv 6) (pa_cons (pv 3) pa_nil)))) pe_str (nomark _))))))))))))))),
    ?_⟩
  exact (sim_seq (sim_asg (sim_call0 (sim_cons sim_var sim_nil) (by intro h; cases h)) (by decide))
      (sim_seq (sim_asg (sim_callM (mask := [true]) (sim_cons sim_var (sim_cons (sim_c (.int _)) sim_nil))) (by decide))
      (sim_seq (sim_asg (sim_callM (mask := [true]) (sim_cons sim_var (sim_cons sim_var (sim_cons (sim_c (.int _)) sim_nil)))) (by decide))
      (sim_seq (sim_ifS (sim_test (sim_op s_ne (sim_call0 (sim_cons (sim_c (.int _)) (sim_cons sim_var (sim_cons sim_var sim_nil))) (by intro h; cases h)) (sim_c (.str _)))) (sim_ret (sim_c (.bl _))) sim_next)
      (sim_seq (sim_asg (sim_op s_add (sim_c (.int _)) (sim_callM (mask := [true]) (sim_cons sim_var (sim_cons (sim_c (.int _)) sim_nil)))) (by decide))
      (sim_seq (sim_asg (sim_tup (sim_cons sim_var (sim_cons (sim_op s_catT (sim_op s_ix sim_var (sim_c (.int _))) (sim_op s_repA (sim_tup (sim_cons (sim_tup (sim_cons (sim_op s_ix (sim_op s_ix (sim_op s_ix sim_var (sim_c (.int _))) (sim_c (.int _))) (sim_c (.int _))) (sim_cons (sim_op s_ix (sim_op s_ix (sim_op s_ix sim_var (sim_c (.int _))) (sim_c (.int _))) (sim_c (.int _))) sim_nil))) sim_nil)) (sim_op s_sub sim_var (sim_cb s_len (sim_cons (sim_op s_ix sim_var (sim_c (.int _))) sim_nil))))) sim_nil))) (by decide))
      (sim_seq (sim_ifS (sim_test (sim_op s_ne (sim_call0 (sim_cons (sim_c (.int _)) (sim_cons sim_var (sim_cons sim_var sim_nil))) (by intro h; cases h)) (sim_if (sim_test (sim_op s_eq sim_var (sim_c (.int _)))) (sim_c (.str _)) (sim_c (.str _))))) (sim_ret (sim_c (.bl _))) sim_next)
      (sim_seq (sim_asg (sim_callM (mask := [true]) (sim_cons sim_var (sim_cons sim_var sim_nil))) (by decide))
      (sim_seq (sim_asg (sim_tup (sim_cons (sim_op s_mod (sim_cb s_int (sim_cons (sim_op s_add sim_var (sim_c (.int _))) sim_nil)) (sim_c (.int _))) (sim_cons (sim_tup (sim_cons (sim_tup (sim_cons (sim_tup sim_nil) (sim_cons (sim_op s_repA (sim_tup (sim_cons (sim_un s_neg (sim_c (.int _))) sim_nil)) (sim_op s_mod (sim_cb s_int (sim_cons (sim_op s_add sim_var (sim_c (.int _))) sim_nil)) (sim_c (.int _)))) sim_nil))) sim_nil)) sim_nil))) (by decide))
      (sim_seq (sim_for (sim_rng1 (sim_cons (sim_c (.int _)) sim_nil)) (simg_name (by decide)) (sim_ifS (sim_or (sim_test (sim_op s_ne (sim_call0 (sim_cons sim_var (sim_cons sim_var (sim_cons sim_var sim_nil))) (by intro h; cases h)) (sim_c (.str _)))) (sim_and (sim_test (sim_op s_gt sim_var (sim_c (.int _)))) (sim_test (sim_op s_ne (sim_call0 (sim_cons sim_var (sim_cons sim_var (sim_cons sim_var sim_nil))) (by intro h; cases h)) (sim_c (.str _)))))) (sim_ret (sim_c (.bl _))) sim_next))
      (sim_seq (sim_for (sim_rng2 (sim_cons (sim_c (.int _)) (sim_cons (sim_c (.int _)) sim_nil))) (simg_name (by decide)) (sim_ifS (sim_or (sim_test (sim_op s_ne (sim_call0 (sim_cons sim_var (sim_cons sim_var (sim_cons sim_var sim_nil))) (by intro h; cases h)) (sim_c (.str _)))) (sim_test (sim_op s_ne (sim_call0 (sim_cons sim_var (sim_cons sim_var (sim_cons sim_var sim_nil))) (by intro h; cases h)) (sim_c (.str _))))) (sim_ret (sim_c (.bl _))) sim_next))
      (sim_ret (sim_op s_eq (sim_call0 (sim_cons (sim_c (.int _)) (sim_cons sim_var (sim_cons sim_var sim_nil))) (by intro h; cases h)) (sim_c (.str _)))))))))))))))
end
set_option maxHeartbeats 0 in
theorem all_mk {l : PySem.W.OpenLaw} {w : World} {K : PySem.W.Frag} {h : Heap} {mg : Str → Option Value} {fa : Addr} (X : K.In h) (G : h.Ns mainGlobals mg) (hfa : mg "law" = some (.ref fa))
    {od0 an0 : Option Addr} {sl0 : Array (Option Value)} {oc0 kV0 dc0 pm0 cd0 ct0 : Value} {f0 : Addr}
    (a0 : PySem.W.nsIn K mainGlobals "_law_box" = some (some (.ref f0))) (l0 : K.lookup f0 = some ⟨oc0, od0, .func (PySem.W.fnOf "_law_box" "_law_box" (defArgs s__law_box) (defBody s__law_box) (defScope s__law_box) .none kV0 dc0 pm0 an0 cd0 ct0), sl0⟩) (c0 : PySem.W.codeIn K cd0 "_law_box" = true) (k0 : PySem.W.keepIn K (.ref f0) = true)
    {od1 an1 : Option Addr} {sl1 : Array (Option Value)} {oc1 kV1 dc1 pm1 cd1 ct1 : Value} {f1 : Addr}
    (a1 : PySem.W.nsIn K mainGlobals "_law_take" = some (some (.ref f1))) (l1 : K.lookup f1 = some ⟨oc1, od1, .func (PySem.W.fnOf "_law_take" "_law_take" (defArgs s__law_take) (defBody s__law_take) (defScope s__law_take) .none kV1 dc1 pm1 an1 cd1 ct1), sl1⟩) (c1 : PySem.W.codeIn K cd1 "_law_take" = true) (k1 : PySem.W.keepIn K (.ref f1) = true)
    {od2 an2 : Option Addr} {sl2 : Array (Option Value)} {oc2 kV2 dc2 pm2 cd2 ct2 : Value} {f2 : Addr}
    (a2 : PySem.W.nsIn K mainGlobals "_law_pick" = some (some (.ref f2))) (l2 : K.lookup f2 = some ⟨oc2, od2, .func (PySem.W.fnOf "_law_pick" "_law_pick" (defArgs s__law_pick) (defBody s__law_pick) (defScope s__law_pick) .none kV2 dc2 pm2 an2 cd2 ct2), sl2⟩) (c2 : PySem.W.codeIn K cd2 "_law_pick" = true) (k2 : PySem.W.keepIn K (.ref f2) = true)
    {od3 an3 : Option Addr} {sl3 : Array (Option Value)} {oc3 kV3 dc3 pm3 cd3 ct3 : Value} {f3 : Addr}
    (a3 : PySem.W.nsIn K mainGlobals "_law_demand" = some (some (.ref f3))) (l3 : K.lookup f3 = some ⟨oc3, od3, .func (PySem.W.fnOf "_law_demand" "_law_demand" (defArgs s__law_demand) (defBody s__law_demand) (defScope s__law_demand) .none kV3 dc3 pm3 an3 cd3 ct3), sl3⟩) (c3 : PySem.W.codeIn K cd3 "_law_demand" = true) (k3 : PySem.W.keepIn K (.ref f3) = true)
    {od4 an4 : Option Addr} {sl4 : Array (Option Value)} {oc4 kV4 dc4 pm4 cd4 ct4 : Value} {f4 : Addr}
    (a4 : PySem.W.nsIn K mainGlobals "_law_class" = some (some (.ref f4))) (l4 : K.lookup f4 = some ⟨oc4, od4, .func (PySem.W.fnOf "_law_class" "_law_class" (defArgs s__law_class) (defBody s__law_class) (defScope s__law_class) .none kV4 dc4 pm4 an4 cd4 ct4), sl4⟩) (c4 : PySem.W.codeIn K cd4 "_law_class" = true) (k4 : PySem.W.keepIn K (.ref f4) = true)
    {od5 an5 : Option Addr} {sl5 : Array (Option Value)} {oc5 kV5 dc5 pm5 cd5 ct5 : Value} {f5 : Addr}
    (a5 : PySem.W.nsIn K mainGlobals "is_number" = some (some (.ref f5))) (l5 : K.lookup f5 = some ⟨oc5, od5, .func (PySem.W.fnOf "is_number" "is_number" (defArgs s_is_number) (defBody s_is_number) (defScope s_is_number) .none kV5 dc5 pm5 an5 cd5 ct5), sl5⟩) (c5 : PySem.W.codeIn K cd5 "is_number" = true) (k5 : PySem.W.keepIn K (.ref f5) = true)
    {od6 an6 : Option Addr} {sl6 : Array (Option Value)} {oc6 kV6 dc6 pm6 cd6 ct6 : Value} {f6 : Addr}
    (a6 : PySem.W.nsIn K mainGlobals "is_below" = some (some (.ref f6))) (l6 : K.lookup f6 = some ⟨oc6, od6, .func (PySem.W.fnOf "is_below" "is_below" (defArgs s_is_below) (defBody s_is_below) (defScope s_is_below) .none kV6 dc6 pm6 an6 cd6 ct6), sl6⟩) (c6 : PySem.W.codeIn K cd6 "is_below" = true) (k6 : PySem.W.keepIn K (.ref f6) = true)
    {od7 an7 : Option Addr} {sl7 : Array (Option Value)} {oc7 kV7 dc7 pm7 cd7 ct7 : Value} {f7 : Addr}
    (a7 : PySem.W.nsIn K mainGlobals "is_letter_count" = some (some (.ref f7))) (l7 : K.lookup f7 = some ⟨oc7, od7, .func (PySem.W.fnOf "is_letter_count" "is_letter_count" (defArgs s_is_letter_count) (defBody s_is_letter_count) (defScope s_is_letter_count) .none kV7 dc7 pm7 an7 cd7 ct7), sl7⟩) (c7 : PySem.W.codeIn K cd7 "is_letter_count" = true) (k7 : PySem.W.keepIn K (.ref f7) = true)
    {od8 an8 : Option Addr} {sl8 : Array (Option Value)} {oc8 kV8 dc8 pm8 cd8 ct8 : Value} {f8 : Addr}
    (a8 : PySem.W.nsIn K mainGlobals "bits_of" = some (some (.ref f8))) (l8 : K.lookup f8 = some ⟨oc8, od8, .func (PySem.W.fnOf "bits_of" "bits_of" (defArgs s_bits_of) (defBody s_bits_of) (defScope s_bits_of) .none kV8 dc8 pm8 an8 cd8 ct8), sl8⟩) (c8 : PySem.W.codeIn K cd8 "bits_of" = true) (k8 : PySem.W.keepIn K (.ref f8) = true)
    {od9 an9 : Option Addr} {sl9 : Array (Option Value)} {oc9 kV9 dc9 pm9 cd9 ct9 : Value} {f9 : Addr}
    (a9 : PySem.W.nsIn K mainGlobals "full_set" = some (some (.ref f9))) (l9 : K.lookup f9 = some ⟨oc9, od9, .func (PySem.W.fnOf "full_set" "full_set" (defArgs s_full_set) (defBody s_full_set) (defScope s_full_set) .none kV9 dc9 pm9 an9 cd9 ct9), sl9⟩) (c9 : PySem.W.codeIn K cd9 "full_set" = true) (k9 : PySem.W.keepIn K (.ref f9) = true)
    {od10 an10 : Option Addr} {sl10 : Array (Option Value)} {oc10 kV10 dc10 pm10 cd10 ct10 : Value} {f10 : Addr}
    (a10 : PySem.W.nsIn K mainGlobals "is_set" = some (some (.ref f10))) (l10 : K.lookup f10 = some ⟨oc10, od10, .func (PySem.W.fnOf "is_set" "is_set" (defArgs s_is_set) (defBody s_is_set) (defScope s_is_set) .none kV10 dc10 pm10 an10 cd10 ct10), sl10⟩) (c10 : PySem.W.codeIn K cd10 "is_set" = true) (k10 : PySem.W.keepIn K (.ref f10) = true)
    {od11 an11 : Option Addr} {sl11 : Array (Option Value)} {oc11 kV11 dc11 pm11 cd11 ct11 : Value} {f11 : Addr}
    (a11 : PySem.W.nsIn K mainGlobals "_is_accepts" = some (some (.ref f11))) (l11 : K.lookup f11 = some ⟨oc11, od11, .func (PySem.W.fnOf "_is_accepts" "_is_accepts" (defArgs s__is_accepts) (defBody s__is_accepts) (defScope s__is_accepts) .none kV11 dc11 pm11 an11 cd11 ct11), sl11⟩) (c11 : PySem.W.codeIn K cd11 "_is_accepts" = true) (k11 : PySem.W.keepIn K (.ref f11) = true)
    {od12 an12 : Option Addr} {sl12 : Array (Option Value)} {oc12 kV12 dc12 pm12 cd12 ct12 : Value} {f12 : Addr}
    (a12 : PySem.W.nsIn K mainGlobals "_is_ahead" = some (some (.ref f12))) (l12 : K.lookup f12 = some ⟨oc12, od12, .func (PySem.W.fnOf "_is_ahead" "_is_ahead" (defArgs s__is_ahead) (defBody s__is_ahead) (defScope s__is_ahead) .none kV12 dc12 pm12 an12 cd12 ct12), sl12⟩) (c12 : PySem.W.codeIn K cd12 "_is_ahead" = true) (k12 : PySem.W.keepIn K (.ref f12) = true)
    {od13 an13 : Option Addr} {sl13 : Array (Option Value)} {oc13 kV13 dc13 pm13 cd13 ct13 : Value} {f13 : Addr}
    (a13 : PySem.W.nsIn K mainGlobals "members" = some (some (.ref f13))) (l13 : K.lookup f13 = some ⟨oc13, od13, .func (PySem.W.fnOf "members" "members" (defArgs s_members) (defBody s_members) (defScope s_members) .none kV13 dc13 pm13 an13 cd13 ct13), sl13⟩) (c13 : PySem.W.codeIn K cd13 "members" = true) (k13 : PySem.W.keepIn K (.ref f13) = true)
    {od14 an14 : Option Addr} {sl14 : Array (Option Value)} {oc14 kV14 dc14 pm14 cd14 ct14 : Value} {f14 : Addr}
    (a14 : PySem.W.nsIn K mainGlobals "_is_state" = some (some (.ref f14))) (l14 : K.lookup f14 = some ⟨oc14, od14, .func (PySem.W.fnOf "_is_state" "_is_state" (defArgs s__is_state) (defBody s__is_state) (defScope s__is_state) .none kV14 dc14 pm14 an14 cd14 ct14), sl14⟩) (c14 : PySem.W.codeIn K cd14 "_is_state" = true) (k14 : PySem.W.keepIn K (.ref f14) = true)
    {od15 an15 : Option Addr} {sl15 : Array (Option Value)} {oc15 kV15 dc15 pm15 cd15 ct15 : Value} {f15 : Addr}
    (a15 : PySem.W.nsIn K mainGlobals "_is_demand" = some (some (.ref f15))) (l15 : K.lookup f15 = some ⟨oc15, od15, .func (PySem.W.fnOf "_is_demand" "_is_demand" (defArgs s__is_demand) (defBody s__is_demand) (defScope s__is_demand) .none kV15 dc15 pm15 an15 cd15 ct15), sl15⟩) (c15 : PySem.W.codeIn K cd15 "_is_demand" = true) (k15 : PySem.W.keepIn K (.ref f15) = true)
    {od16 an16 : Option Addr} {sl16 : Array (Option Value)} {oc16 kV16 dc16 pm16 cd16 ct16 : Value} {f16 : Addr}
    (a16 : PySem.W.nsIn K mainGlobals "check_demand" = some (some (.ref f16))) (l16 : K.lookup f16 = some ⟨oc16, od16, .func (PySem.W.fnOf "check_demand" "check_demand" (defArgs s_check_demand) (defBody s_check_demand) (defScope s_check_demand) .none kV16 dc16 pm16 an16 cd16 ct16), sl16⟩) (c16 : PySem.W.codeIn K cd16 "check_demand" = true) (k16 : PySem.W.keepIn K (.ref f16) = true)
    {od17 an17 : Option Addr} {sl17 : Array (Option Value)} {oc17 kV17 dc17 pm17 cd17 ct17 : Value} {f17 : Addr}
    (a17 : PySem.W.nsIn K mainGlobals "hollow" = some (some (.ref f17))) (l17 : K.lookup f17 = some ⟨oc17, od17, .func (PySem.W.fnOf "hollow" "hollow" (defArgs s_hollow) (defBody s_hollow) (defScope s_hollow) .none kV17 dc17 pm17 an17 cd17 ct17), sl17⟩) (c17 : PySem.W.codeIn K cd17 "hollow" = true) (k17 : PySem.W.keepIn K (.ref f17) = true)
    {od18 an18 : Option Addr} {sl18 : Array (Option Value)} {oc18 kV18 dc18 pm18 cd18 ct18 : Value} {f18 : Addr}
    (a18 : PySem.W.nsIn K mainGlobals "least" = some (some (.ref f18))) (l18 : K.lookup f18 = some ⟨oc18, od18, .func (PySem.W.fnOf "least" "least" (defArgs s_least) (defBody s_least) (defScope s_least) .none kV18 dc18 pm18 an18 cd18 ct18), sl18⟩) (c18 : PySem.W.codeIn K cd18 "least" = true) (k18 : PySem.W.keepIn K (.ref f18) = true)
    {od19 an19 : Option Addr} {sl19 : Array (Option Value)} {oc19 kV19 dc19 pm19 cd19 ct19 : Value} {f19 : Addr}
    (a19 : PySem.W.nsIn K mainGlobals "trimmed" = some (some (.ref f19))) (l19 : K.lookup f19 = some ⟨oc19, od19, .func (PySem.W.fnOf "trimmed" "trimmed" (defArgs s_trimmed) (defBody s_trimmed) (defScope s_trimmed) .none kV19 dc19 pm19 an19 cd19 ct19), sl19⟩) (c19 : PySem.W.codeIn K cd19 "trimmed" = true) (k19 : PySem.W.keepIn K (.ref f19) = true)
    {od20 an20 : Option Addr} {sl20 : Array (Option Value)} {oc20 kV20 dc20 pm20 cd20 ct20 : Value} {f20 : Addr}
    (a20 : PySem.W.nsIn K mainGlobals "some" = some (some (.ref f20))) (l20 : K.lookup f20 = some ⟨oc20, od20, .func (PySem.W.fnOf "some" "some" (defArgs s_some) (defBody s_some) (defScope s_some) .none kV20 dc20 pm20 an20 cd20 ct20), sl20⟩) (c20 : PySem.W.codeIn K cd20 "some" = true) (k20 : PySem.W.keepIn K (.ref f20) = true)
    {od21 an21 : Option Addr} {sl21 : Array (Option Value)} {oc21 kV21 dc21 pm21 cd21 ct21 : Value} {f21 : Addr}
    (a21 : PySem.W.nsIn K mainGlobals "with_word" = some (some (.ref f21))) (l21 : K.lookup f21 = some ⟨oc21, od21, .func (PySem.W.fnOf "with_word" "with_word" (defArgs s_with_word) (defBody s_with_word) (defScope s_with_word) .none kV21 dc21 pm21 an21 cd21 ct21), sl21⟩) (c21 : PySem.W.codeIn K cd21 "with_word" = true) (k21 : PySem.W.keepIn K (.ref f21) = true)
    {od22 an22 : Option Addr} {sl22 : Array (Option Value)} {oc22 kV22 dc22 pm22 cd22 ct22 : Value} {f22 : Addr}
    (a22 : PySem.W.nsIn K mainGlobals "ladder" = some (some (.ref f22))) (l22 : K.lookup f22 = some ⟨oc22, od22, .func (PySem.W.fnOf "ladder" "ladder" (defArgs s_ladder) (defBody s_ladder) (defScope s_ladder) .none kV22 dc22 pm22 an22 cd22 ct22), sl22⟩) (c22 : PySem.W.codeIn K cd22 "ladder" = true) (k22 : PySem.W.keepIn K (.ref f22) = true)
    {od23 an23 : Option Addr} {sl23 : Array (Option Value)} {oc23 kV23 dc23 pm23 cd23 ct23 : Value} {f23 : Addr}
    (a23 : PySem.W.nsIn K mainGlobals "is_ladder" = some (some (.ref f23))) (l23 : K.lookup f23 = some ⟨oc23, od23, .func (PySem.W.fnOf "is_ladder" "is_ladder" (defArgs s_is_ladder) (defBody s_is_ladder) (defScope s_is_ladder) .none kV23 dc23 pm23 an23 cd23 ct23), sl23⟩) (c23 : PySem.W.codeIn K cd23 "is_ladder" = true) (k23 : PySem.W.keepIn K (.ref f23) = true)
    {od24 an24 : Option Addr} {sl24 : Array (Option Value)} {oc24 kV24 dc24 pm24 cd24 ct24 : Value} {f24 : Addr}
    (a24 : PySem.W.nsIn K mainGlobals "written_demand" = some (some (.ref f24))) (l24 : K.lookup f24 = some ⟨oc24, od24, .func (PySem.W.fnOf "written_demand" "written_demand" (defArgs s_written_demand) (defBody s_written_demand) (defScope s_written_demand) .none kV24 dc24 pm24 an24 cd24 ct24), sl24⟩) (c24 : PySem.W.codeIn K cd24 "written_demand" = true) (k24 : PySem.W.keepIn K (.ref f24) = true)
    {od25 an25 : Option Addr} {sl25 : Array (Option Value)} {oc25 kV25 dc25 pm25 cd25 ct25 : Value} {f25 : Addr}
    (a25 : PySem.W.nsIn K mainGlobals "led_to" = some (some (.ref f25))) (l25 : K.lookup f25 = some ⟨oc25, od25, .func (PySem.W.fnOf "led_to" "led_to" (defArgs s_led_to) (defBody s_led_to) (defScope s_led_to) .none kV25 dc25 pm25 an25 cd25 ct25), sl25⟩) (c25 : PySem.W.codeIn K cd25 "led_to" = true) (k25 : PySem.W.keepIn K (.ref f25) = true)
    {od26 an26 : Option Addr} {sl26 : Array (Option Value)} {oc26 kV26 dc26 pm26 cd26 ct26 : Value} {f26 : Addr}
    (a26 : PySem.W.nsIn K mainGlobals "_law_one" = some (some (.ref f26))) (l26 : K.lookup f26 = some ⟨oc26, od26, .func (PySem.W.fnOf "_law_one" "_law_one" (defArgs s__law_one) (defBody s__law_one) (defScope s__law_one) .none kV26 dc26 pm26 an26 cd26 ct26), sl26⟩) (c26 : PySem.W.codeIn K cd26 "_law_one" = true) (k26 : PySem.W.keepIn K (.ref f26) = true)
    {od27 an27 : Option Addr} {sl27 : Array (Option Value)} {oc27 kV27 dc27 pm27 cd27 ct27 : Value} {f27 : Addr}
    (a27 : PySem.W.nsIn K mainGlobals "check_same_letters" = some (some (.ref f27))) (l27 : K.lookup f27 = some ⟨oc27, od27, .func (PySem.W.fnOf "check_same_letters" "check_same_letters" (defArgs s_check_same_letters) (defBody s_check_same_letters) (defScope s_check_same_letters) .none kV27 dc27 pm27 an27 cd27 ct27), sl27⟩) (c27 : PySem.W.codeIn K cd27 "check_same_letters" = true) (k27 : PySem.W.keepIn K (.ref f27) = true)
    {od28 an28 : Option Addr} {sl28 : Array (Option Value)} {oc28 kV28 dc28 pm28 cd28 ct28 : Value} {f28 : Addr}
    (a28 : PySem.W.nsIn K mainGlobals "check_two_demands" = some (some (.ref f28))) (l28 : K.lookup f28 = some ⟨oc28, od28, .func (PySem.W.fnOf "check_two_demands" "check_two_demands" (defArgs s_check_two_demands) (defBody s_check_two_demands) (defScope s_check_two_demands) .none kV28 dc28 pm28 an28 cd28 ct28), sl28⟩) (c28 : PySem.W.codeIn K cd28 "check_two_demands" = true) (k28 : PySem.W.keepIn K (.ref f28) = true)
    {od29 an29 : Option Addr} {sl29 : Array (Option Value)} {oc29 kV29 dc29 pm29 cd29 ct29 : Value} {f29 : Addr}
    (a29 : PySem.W.nsIn K mainGlobals "_joined" = some (some (.ref f29))) (l29 : K.lookup f29 = some ⟨oc29, od29, .func (PySem.W.fnOf "_joined" "_joined" (defArgs s__joined) (defBody s__joined) (defScope s__joined) .none kV29 dc29 pm29 an29 cd29 ct29), sl29⟩) (c29 : PySem.W.codeIn K cd29 "_joined" = true) (k29 : PySem.W.keepIn K (.ref f29) = true)
    {od30 an30 : Option Addr} {sl30 : Array (Option Value)} {oc30 kV30 dc30 pm30 cd30 ct30 : Value} {f30 : Addr}
    (a30 : PySem.W.nsIn K mainGlobals "_common_sets" = some (some (.ref f30))) (l30 : K.lookup f30 = some ⟨oc30, od30, .func (PySem.W.fnOf "_common_sets" "_common_sets" (defArgs s__common_sets) (defBody s__common_sets) (defScope s__common_sets) .none kV30 dc30 pm30 an30 cd30 ct30), sl30⟩) (c30 : PySem.W.codeIn K cd30 "_common_sets" = true) (k30 : PySem.W.keepIn K (.ref f30) = true)
    {od31 an31 : Option Addr} {sl31 : Array (Option Value)} {oc31 kV31 dc31 pm31 cd31 ct31 : Value} {f31 : Addr}
    (a31 : PySem.W.nsIn K mainGlobals "meet" = some (some (.ref f31))) (l31 : K.lookup f31 = some ⟨oc31, od31, .func (PySem.W.fnOf "meet" "meet" (defArgs s_meet) (defBody s_meet) (defScope s_meet) .none kV31 dc31 pm31 an31 cd31 ct31), sl31⟩) (c31 : PySem.W.codeIn K cd31 "meet" = true) (k31 : PySem.W.keepIn K (.ref f31) = true)
    {od32 an32 : Option Addr} {sl32 : Array (Option Value)} {oc32 kV32 dc32 pm32 cd32 ct32 : Value} {f32 : Addr}
    (a32 : PySem.W.nsIn K mainGlobals "_all_sets" = some (some (.ref f32))) (l32 : K.lookup f32 = some ⟨oc32, od32, .func (PySem.W.fnOf "_all_sets" "_all_sets" (defArgs s__all_sets) (defBody s__all_sets) (defScope s__all_sets) .none kV32 dc32 pm32 an32 cd32 ct32), sl32⟩) (c32 : PySem.W.codeIn K cd32 "_all_sets" = true) (k32 : PySem.W.keepIn K (.ref f32) = true)
    {od33 an33 : Option Addr} {sl33 : Array (Option Value)} {oc33 kV33 dc33 pm33 cd33 ct33 : Value} {f33 : Addr}
    (a33 : PySem.W.nsIn K mainGlobals "either" = some (some (.ref f33))) (l33 : K.lookup f33 = some ⟨oc33, od33, .func (PySem.W.fnOf "either" "either" (defArgs s_either) (defBody s_either) (defScope s_either) .none kV33 dc33 pm33 an33 cd33 ct33), sl33⟩) (c33 : PySem.W.codeIn K cd33 "either" = true) (k33 : PySem.W.keepIn K (.ref f33) = true)
    {od34 an34 : Option Addr} {sl34 : Array (Option Value)} {oc34 kV34 dc34 pm34 cd34 ct34 : Value} {f34 : Addr}
    (a34 : PySem.W.nsIn K mainGlobals "_overlaps" = some (some (.ref f34))) (l34 : K.lookup f34 = some ⟨oc34, od34, .func (PySem.W.fnOf "_overlaps" "_overlaps" (defArgs s__overlaps) (defBody s__overlaps) (defScope s__overlaps) .none kV34 dc34 pm34 an34 cd34 ct34), sl34⟩) (c34 : PySem.W.codeIn K cd34 "_overlaps" = true) (k34 : PySem.W.keepIn K (.ref f34) = true)
    {od35 an35 : Option Addr} {sl35 : Array (Option Value)} {oc35 kV35 dc35 pm35 cd35 ct35 : Value} {f35 : Addr}
    (a35 : PySem.W.nsIn K mainGlobals "beside" = some (some (.ref f35))) (l35 : K.lookup f35 = some ⟨oc35, od35, .func (PySem.W.fnOf "beside" "beside" (defArgs s_beside) (defBody s_beside) (defScope s_beside) .none kV35 dc35 pm35 an35 cd35 ct35), sl35⟩) (c35 : PySem.W.codeIn K cd35 "beside" = true) (k35 : PySem.W.keepIn K (.ref f35) = true)
    {od36 an36 : Option Addr} {sl36 : Array (Option Value)} {oc36 kV36 dc36 pm36 cd36 ct36 : Value} {f36 : Addr}
    (a36 : PySem.W.nsIn K mainGlobals "parts" = some (some (.ref f36))) (l36 : K.lookup f36 = some ⟨oc36, od36, .func (PySem.W.fnOf "parts" "parts" (defArgs s_parts) (defBody s_parts) (defScope s_parts) .none kV36 dc36 pm36 an36 cd36 ct36), sl36⟩) (c36 : PySem.W.codeIn K cd36 "parts" = true) (k36 : PySem.W.keepIn K (.ref f36) = true)
    {od37 an37 : Option Addr} {sl37 : Array (Option Value)} {oc37 kV37 dc37 pm37 cd37 ct37 : Value} {f37 : Addr}
    (a37 : PySem.W.nsIn K mainGlobals "refines" = some (some (.ref f37))) (l37 : K.lookup f37 = some ⟨oc37, od37, .func (PySem.W.fnOf "refines" "refines" (defArgs s_refines) (defBody s_refines) (defScope s_refines) .none kV37 dc37 pm37 an37 cd37 ct37), sl37⟩) (c37 : PySem.W.codeIn K cd37 "refines" = true) (k37 : PySem.W.keepIn K (.ref f37) = true)
    {od38 an38 : Option Addr} {sl38 : Array (Option Value)} {oc38 kV38 dc38 pm38 cd38 ct38 : Value} {f38 : Addr}
    (a38 : PySem.W.nsIn K mainGlobals "takes" = some (some (.ref f38))) (l38 : K.lookup f38 = some ⟨oc38, od38, .func (PySem.W.fnOf "takes" "takes" (defArgs s_takes) (defBody s_takes) (defScope s_takes) .none kV38 dc38 pm38 an38 cd38 ct38), sl38⟩) (c38 : PySem.W.codeIn K cd38 "takes" = true) (k38 : PySem.W.keepIn K (.ref f38) = true)
    {od39 an39 : Option Addr} {sl39 : Array (Option Value)} {oc39 kV39 dc39 pm39 cd39 ct39 : Value} {f39 : Addr}
    (a39 : PySem.W.nsIn K mainGlobals "equal" = some (some (.ref f39))) (l39 : K.lookup f39 = some ⟨oc39, od39, .func (PySem.W.fnOf "equal" "equal" (defArgs s_equal) (defBody s_equal) (defScope s_equal) .none kV39 dc39 pm39 an39 cd39 ct39), sl39⟩) (c39 : PySem.W.codeIn K cd39 "equal" = true) (k39 : PySem.W.keepIn K (.ref f39) = true)
    {od40 an40 : Option Addr} {sl40 : Array (Option Value)} {oc40 kV40 dc40 pm40 cd40 ct40 : Value} {f40 : Addr}
    (a40 : PySem.W.nsIn K mainGlobals "divided" = some (some (.ref f40))) (l40 : K.lookup f40 = some ⟨oc40, od40, .func (PySem.W.fnOf "divided" "divided" (defArgs s_divided) (defBody s_divided) (defScope s_divided) .none kV40 dc40 pm40 an40 cd40 ct40), sl40⟩) (c40 : PySem.W.codeIn K cd40 "divided" = true) (k40 : PySem.W.keepIn K (.ref f40) = true)
    {od41 an41 : Option Addr} {sl41 : Array (Option Value)} {oc41 kV41 dc41 pm41 cd41 ct41 : Value} {f41 : Addr}
    (a41 : PySem.W.nsIn K mainGlobals "missing" = some (some (.ref f41))) (l41 : K.lookup f41 = some ⟨oc41, od41, .func (PySem.W.fnOf "missing" "missing" (defArgs s_missing) (defBody s_missing) (defScope s_missing) .none kV41 dc41 pm41 an41 cd41 ct41), sl41⟩) (c41 : PySem.W.codeIn K cd41 "missing" = true) (k41 : PySem.W.keepIn K (.ref f41) = true)
    {od42 an42 : Option Addr} {sl42 : Array (Option Value)} {oc42 kV42 dc42 pm42 cd42 ct42 : Value} {f42 : Addr}
    (a42 : PySem.W.nsIn K mainGlobals "_law_both" = some (some (.ref f42))) (l42 : K.lookup f42 = some ⟨oc42, od42, .func (PySem.W.fnOf "_law_both" "_law_both" (defArgs s__law_both) (defBody s__law_both) (defScope s__law_both) .none kV42 dc42 pm42 an42 cd42 ct42), sl42⟩) (c42 : PySem.W.codeIn K cd42 "_law_both" = true) (k42 : PySem.W.keepIn K (.ref f42) = true)
    {od43 an43 : Option Addr} {sl43 : Array (Option Value)} {oc43 kV43 dc43 pm43 cd43 ct43 : Value} {f43 : Addr}
    (a43 : PySem.W.nsIn K mainGlobals "_is_edge" = some (some (.ref f43))) (l43 : K.lookup f43 = some ⟨oc43, od43, .func (PySem.W.fnOf "_is_edge" "_is_edge" (defArgs s__is_edge) (defBody s__is_edge) (defScope s__is_edge) .none kV43 dc43 pm43 an43 cd43 ct43), sl43⟩) (c43 : PySem.W.codeIn K cd43 "_is_edge" = true) (k43 : PySem.W.keepIn K (.ref f43) = true)
    {od44 an44 : Option Addr} {sl44 : Array (Option Value)} {oc44 kV44 dc44 pm44 cd44 ct44 : Value} {f44 : Addr}
    (a44 : PySem.W.nsIn K mainGlobals "_is_row" = some (some (.ref f44))) (l44 : K.lookup f44 = some ⟨oc44, od44, .func (PySem.W.fnOf "_is_row" "_is_row" (defArgs s__is_row) (defBody s__is_row) (defScope s__is_row) .none kV44 dc44 pm44 an44 cd44 ct44), sl44⟩) (c44 : PySem.W.codeIn K cd44 "_is_row" = true) (k44 : PySem.W.keepIn K (.ref f44) = true)
    {od45 an45 : Option Addr} {sl45 : Array (Option Value)} {oc45 kV45 dc45 pm45 cd45 ct45 : Value} {f45 : Addr}
    (a45 : PySem.W.nsIn K mainGlobals "_is_machine" = some (some (.ref f45))) (l45 : K.lookup f45 = some ⟨oc45, od45, .func (PySem.W.fnOf "_is_machine" "_is_machine" (defArgs s__is_machine) (defBody s__is_machine) (defScope s__is_machine) .none kV45 dc45 pm45 an45 cd45 ct45), sl45⟩) (c45 : PySem.W.codeIn K cd45 "_is_machine" = true) (k45 : PySem.W.keepIn K (.ref f45) = true)
    {od46 an46 : Option Addr} {sl46 : Array (Option Value)} {oc46 kV46 dc46 pm46 cd46 ct46 : Value} {f46 : Addr}
    (a46 : PySem.W.nsIn K mainGlobals "check_machine" = some (some (.ref f46))) (l46 : K.lookup f46 = some ⟨oc46, od46, .func (PySem.W.fnOf "check_machine" "check_machine" (defArgs s_check_machine) (defBody s_check_machine) (defScope s_check_machine) .none kV46 dc46 pm46 an46 cd46 ct46), sl46⟩) (c46 : PySem.W.codeIn K cd46 "check_machine" = true) (k46 : PySem.W.keepIn K (.ref f46) = true)
    {od47 an47 : Option Addr} {sl47 : Array (Option Value)} {oc47 kV47 dc47 pm47 cd47 ct47 : Value} {f47 : Addr}
    (a47 : PySem.W.nsIn K mainGlobals "_check_both" = some (some (.ref f47))) (l47 : K.lookup f47 = some ⟨oc47, od47, .func (PySem.W.fnOf "_check_both" "_check_both" (defArgs s__check_both) (defBody s__check_both) (defScope s__check_both) .none kV47 dc47 pm47 an47 cd47 ct47), sl47⟩) (c47 : PySem.W.codeIn K cd47 "_check_both" = true) (k47 : PySem.W.keepIn K (.ref f47) = true)
    {od48 an48 : Option Addr} {sl48 : Array (Option Value)} {oc48 kV48 dc48 pm48 cd48 ct48 : Value} {f48 : Addr}
    (a48 : PySem.W.nsIn K mainGlobals "keeps" = some (some (.ref f48))) (l48 : K.lookup f48 = some ⟨oc48, od48, .func (PySem.W.fnOf "keeps" "keeps" (defArgs s_keeps) (defBody s_keeps) (defScope s_keeps) .none kV48 dc48 pm48 an48 cd48 ct48), sl48⟩) (c48 : PySem.W.codeIn K cd48 "keeps" = true) (k48 : PySem.W.keepIn K (.ref f48) = true)
    {od49 an49 : Option Addr} {sl49 : Array (Option Value)} {oc49 kV49 dc49 pm49 cd49 ct49 : Value} {f49 : Addr}
    (a49 : PySem.W.nsIn K mainGlobals "is_kept" = some (some (.ref f49))) (l49 : K.lookup f49 = some ⟨oc49, od49, .func (PySem.W.fnOf "is_kept" "is_kept" (defArgs s_is_kept) (defBody s_is_kept) (defScope s_is_kept) .none kV49 dc49 pm49 an49 cd49 ct49), sl49⟩) (c49 : PySem.W.codeIn K cd49 "is_kept" = true) (k49 : PySem.W.keepIn K (.ref f49) = true)
    {od50 an50 : Option Addr} {sl50 : Array (Option Value)} {oc50 kV50 dc50 pm50 cd50 ct50 : Value} {f50 : Addr}
    (a50 : PySem.W.nsIn K mainGlobals "_check_three" = some (some (.ref f50))) (l50 : K.lookup f50 = some ⟨oc50, od50, .func (PySem.W.fnOf "_check_three" "_check_three" (defArgs s__check_three) (defBody s__check_three) (defScope s__check_three) .none kV50 dc50 pm50 an50 cd50 ct50), sl50⟩) (c50 : PySem.W.codeIn K cd50 "_check_three" = true) (k50 : PySem.W.keepIn K (.ref f50) = true)
    {od51 an51 : Option Addr} {sl51 : Array (Option Value)} {oc51 kV51 dc51 pm51 cd51 ct51 : Value} {f51 : Addr}
    (a51 : PySem.W.nsIn K mainGlobals "completes" = some (some (.ref f51))) (l51 : K.lookup f51 = some ⟨oc51, od51, .func (PySem.W.fnOf "completes" "completes" (defArgs s_completes) (defBody s_completes) (defScope s_completes) .none kV51 dc51 pm51 an51 cd51 ct51), sl51⟩) (c51 : PySem.W.codeIn K cd51 "completes" = true) (k51 : PySem.W.keepIn K (.ref f51) = true)
    {od52 an52 : Option Addr} {sl52 : Array (Option Value)} {oc52 kV52 dc52 pm52 cd52 ct52 : Value} {f52 : Addr}
    (a52 : PySem.W.nsIn K mainGlobals "accepts" = some (some (.ref f52))) (l52 : K.lookup f52 = some ⟨oc52, od52, .func (PySem.W.fnOf "accepts" "accepts" (defArgs s_accepts) (defBody s_accepts) (defScope s_accepts) .none kV52 dc52 pm52 an52 cd52 ct52), sl52⟩) (c52 : PySem.W.codeIn K cd52 "accepts" = true) (k52 : PySem.W.keepIn K (.ref f52) = true)
    {od53 an53 : Option Addr} {sl53 : Array (Option Value)} {oc53 kV53 dc53 pm53 cd53 ct53 : Value} {f53 : Addr}
    (a53 : PySem.W.nsIn K mainGlobals "_law_third" = some (some (.ref f53))) (l53 : K.lookup f53 = some ⟨oc53, od53, .func (PySem.W.fnOf "_law_third" "_law_third" (defArgs s__law_third) (defBody s__law_third) (defScope s__law_third) .none kV53 dc53 pm53 an53 cd53 ct53), sl53⟩) (c53 : PySem.W.codeIn K cd53 "_law_third" = true) (k53 : PySem.W.keepIn K (.ref f53) = true)
    {od54 an54 : Option Addr} {sl54 : Array (Option Value)} {oc54 kV54 dc54 pm54 cd54 ct54 : Value} {f54 : Addr}
    (a54 : PySem.W.nsIn K mainGlobals "_law_refused" = some (some (.ref f54))) (l54 : K.lookup f54 = some ⟨oc54, od54, .func (PySem.W.fnOf "_law_refused" "_law_refused" (defArgs s__law_refused) (defBody s__law_refused) (defScope s__law_refused) .none kV54 dc54 pm54 an54 cd54 ct54), sl54⟩) (c54 : PySem.W.codeIn K cd54 "_law_refused" = true) (k54 : PySem.W.keepIn K (.ref f54) = true)
    {od55 an55 : Option Addr} {sl55 : Array (Option Value)} {oc55 kV55 dc55 pm55 cd55 ct55 : Value} {f55 : Addr}
    (a55 : PySem.W.nsIn K mainGlobals "_law_sets" = some (some (.ref f55))) (l55 : K.lookup f55 = some ⟨oc55, od55, .func (PySem.W.fnOf "_law_sets" "_law_sets" (defArgs s__law_sets) (defBody s__law_sets) (defScope s__law_sets) .none kV55 dc55 pm55 an55 cd55 ct55), sl55⟩) (c55 : PySem.W.codeIn K cd55 "_law_sets" = true) (k55 : PySem.W.keepIn K (.ref f55) = true)
    {od56 an56 : Option Addr} {sl56 : Array (Option Value)} {oc56 kV56 dc56 pm56 cd56 ct56 : Value} {f56 : Addr}
    (a56 : PySem.W.nsIn K mainGlobals "_law_after" = some (some (.ref f56))) (l56 : K.lookup f56 = some ⟨oc56, od56, .func (PySem.W.fnOf "_law_after" "_law_after" (defArgs s__law_after) (defBody s__law_after) (defScope s__law_after) .none kV56 dc56 pm56 an56 cd56 ct56), sl56⟩) (c56 : PySem.W.codeIn K cd56 "_law_after" = true) (k56 : PySem.W.keepIn K (.ref f56) = true)
    {od57 an57 : Option Addr} {sl57 : Array (Option Value)} {oc57 kV57 dc57 pm57 cd57 ct57 : Value} {f57 : Addr}
    (a57 : PySem.W.nsIn K mainGlobals "_law_spoilt" = some (some (.ref f57))) (l57 : K.lookup f57 = some ⟨oc57, od57, .func (PySem.W.fnOf "_law_spoilt" "_law_spoilt" (defArgs s__law_spoilt) (defBody s__law_spoilt) (defScope s__law_spoilt) .none kV57 dc57 pm57 an57 cd57 ct57), sl57⟩) (c57 : PySem.W.codeIn K cd57 "_law_spoilt" = true) (k57 : PySem.W.keepIn K (.ref f57) = true)
    {od58 an58 : Option Addr} {sl58 : Array (Option Value)} {oc58 kV58 dc58 pm58 cd58 ct58 : Value} {f58 : Addr}
    (a58 : PySem.W.nsIn K mainGlobals "law" = some (some (.ref f58))) (l58 : K.lookup f58 = some ⟨oc58, od58, .func (PySem.W.fnOf "law" "law" (defArgs s_law) (defBody s_law) (defScope s_law) .none kV58 dc58 pm58 an58 cd58 ct58), sl58⟩) (c58 : PySem.W.codeIn K cd58 "law" = true) (k58 : PySem.W.keepIn K (.ref f58) = true)
    (z_ValueError : PySem.W.nsIn K mainGlobals "ValueError" = some none)
    (z_abs : PySem.W.nsIn K mainGlobals "abs" = some none)
    (z_all : PySem.W.nsIn K mainGlobals "all" = some none)
    (z_bool : PySem.W.nsIn K mainGlobals "bool" = some none)
    (z_int : PySem.W.nsIn K mainGlobals "int" = some none)
    (z_isinstance : PySem.W.nsIn K mainGlobals "isinstance" = some none)
    (z_len : PySem.W.nsIn K mainGlobals "len" = some none)
    (z_list : PySem.W.nsIn K mainGlobals "list" = some none)
    (z_range : PySem.W.nsIn K mainGlobals "range" = some none)
    (z_set : PySem.W.nsIn K mainGlobals "set" = some none)
    (z_sorted : PySem.W.nsIn K mainGlobals "sorted" = some none)
    (z_sum : PySem.W.nsIn K mainGlobals "sum" = some none)
    (z_tuple : PySem.W.nsIn K mainGlobals "tuple" = some none)
    {t_LONGEST_WORD : Tok} (c_LONGEST_WORD : PySem.W.nsIn K mainGlobals "LONGEST_WORD" = some (some (.int 200 t_LONGEST_WORD)))
    {t_MOST_DEMAND_STATES : Tok} (c_MOST_DEMAND_STATES : PySem.W.nsIn K mainGlobals "MOST_DEMAND_STATES" = some (some (.int 40 t_MOST_DEMAND_STATES)))
    {t_MOST_EDGES : Tok} (c_MOST_EDGES : PySem.W.nsIn K mainGlobals "MOST_EDGES" = some (some (.int 6000 t_MOST_EDGES)))
    {t_MOST_LETTERS : Tok} (c_MOST_LETTERS : PySem.W.nsIn K mainGlobals "MOST_LETTERS" = some (some (.int 5 t_MOST_LETTERS)))
    {t_MOST_STATES : Tok} (c_MOST_STATES : PySem.W.nsIn K mainGlobals "MOST_STATES" = some (some (.int 400 t_MOST_STATES)))
    (hn : PySem.W.specialIn K (.builtin "object.__class__") "__get__" = some (some (.builtin "getset_descriptor.__get__"))) (ht : PySem.W.takesIn K (.builtin "object.__class__") = some true)
    {C_BadMachine : Addr} (g_BadMachine : PySem.W.nsIn K mainGlobals "BadMachine" = some (some (.ref C_BadMachine))) (hg_BadMachine : PySem.W.findIn K (.ref C_BadMachine) "__getattribute__" = some (some (.builtin "BaseException.__getattribute__"))) (hk_BadMachine : PySem.W.findIn K (.ref C_BadMachine) "__getattr__" = some none) (hs_BadMachine : PySem.W.subIn K (.ref C_BadMachine) (.type "BaseException") = some true) (hd_BadMachine : PySem.W.hasDictIn K C_BadMachine = true) (ha_BadMachine : PySem.W.findIn K (.ref C_BadMachine) "__class__" = some (some (.builtin "object.__class__"))) (hm_BadMachine : PySem.W.mroIn K C_BadMachine (.type "object") = some true) (ty_BadMachine : PySem.W.typeIn K (.ref C_BadMachine) = some (.type "type")) (me_BadMachine : PySem.W.subIn K (.ref C_BadMachine) (.ref C_BadMachine) = some true)
    {C_BadDemand : Addr} (g_BadDemand : PySem.W.nsIn K mainGlobals "BadDemand" = some (some (.ref C_BadDemand))) (hg_BadDemand : PySem.W.findIn K (.ref C_BadDemand) "__getattribute__" = some (some (.builtin "BaseException.__getattribute__"))) (hk_BadDemand : PySem.W.findIn K (.ref C_BadDemand) "__getattr__" = some none) (hs_BadDemand : PySem.W.subIn K (.ref C_BadDemand) (.type "BaseException") = some true) (hd_BadDemand : PySem.W.hasDictIn K C_BadDemand = true) (ha_BadDemand : PySem.W.findIn K (.ref C_BadDemand) "__class__" = some (some (.builtin "object.__class__"))) (hm_BadDemand : PySem.W.mroIn K C_BadDemand (.type "object") = some true) (ty_BadDemand : PySem.W.typeIn K (.ref C_BadDemand) = some (.type "type")) (me_BadDemand : PySem.W.subIn K (.ref C_BadDemand) (.ref C_BadDemand) = some true)
    {C_BadLetters : Addr} (g_BadLetters : PySem.W.nsIn K mainGlobals "BadLetters" = some (some (.ref C_BadLetters))) (hg_BadLetters : PySem.W.findIn K (.ref C_BadLetters) "__getattribute__" = some (some (.builtin "BaseException.__getattribute__"))) (hk_BadLetters : PySem.W.findIn K (.ref C_BadLetters) "__getattr__" = some none) (hs_BadLetters : PySem.W.subIn K (.ref C_BadLetters) (.type "BaseException") = some true) (hd_BadLetters : PySem.W.hasDictIn K C_BadLetters = true) (ha_BadLetters : PySem.W.findIn K (.ref C_BadLetters) "__class__" = some (some (.builtin "object.__class__"))) (hm_BadLetters : PySem.W.mroIn K C_BadLetters (.type "object") = some true) (ty_BadLetters : PySem.W.typeIn K (.ref C_BadLetters) = some (.type "type")) (me_BadLetters : PySem.W.subIn K (.ref C_BadLetters) (.ref C_BadLetters) = some true)
    {C_BadWord : Addr} (g_BadWord : PySem.W.nsIn K mainGlobals "BadWord" = some (some (.ref C_BadWord))) (hg_BadWord : PySem.W.findIn K (.ref C_BadWord) "__getattribute__" = some (some (.builtin "BaseException.__getattribute__"))) (hk_BadWord : PySem.W.findIn K (.ref C_BadWord) "__getattr__" = some none) (hs_BadWord : PySem.W.subIn K (.ref C_BadWord) (.type "BaseException") = some true) (hd_BadWord : PySem.W.hasDictIn K C_BadWord = true) (ha_BadWord : PySem.W.findIn K (.ref C_BadWord) "__class__" = some (some (.builtin "object.__class__"))) (hm_BadWord : PySem.W.mroIn K C_BadWord (.type "object") = some true) (ty_BadWord : PySem.W.typeIn K (.ref C_BadWord) = some (.type "type")) (me_BadWord : PySem.W.subIn K (.ref C_BadWord) (.ref C_BadWord) = some true)
    {C_BadSet : Addr} (g_BadSet : PySem.W.nsIn K mainGlobals "BadSet" = some (some (.ref C_BadSet))) (hg_BadSet : PySem.W.findIn K (.ref C_BadSet) "__getattribute__" = some (some (.builtin "BaseException.__getattribute__"))) (hk_BadSet : PySem.W.findIn K (.ref C_BadSet) "__getattr__" = some none) (hs_BadSet : PySem.W.subIn K (.ref C_BadSet) (.type "BaseException") = some true) (hd_BadSet : PySem.W.hasDictIn K C_BadSet = true) (ha_BadSet : PySem.W.findIn K (.ref C_BadSet) "__class__" = some (some (.builtin "object.__class__"))) (hm_BadSet : PySem.W.mroIn K C_BadSet (.type "object") = some true) (ty_BadSet : PySem.W.typeIn K (.ref C_BadSet) = some (.type "type")) (me_BadSet : PySem.W.subIn K (.ref C_BadSet) (.ref C_BadSet) = some true)
    {C_BadState : Addr} (g_BadState : PySem.W.nsIn K mainGlobals "BadState" = some (some (.ref C_BadState))) (hg_BadState : PySem.W.findIn K (.ref C_BadState) "__getattribute__" = some (some (.builtin "BaseException.__getattribute__"))) (hk_BadState : PySem.W.findIn K (.ref C_BadState) "__getattr__" = some none) (hs_BadState : PySem.W.subIn K (.ref C_BadState) (.type "BaseException") = some true) (hd_BadState : PySem.W.hasDictIn K C_BadState = true) (ha_BadState : PySem.W.findIn K (.ref C_BadState) "__class__" = some (some (.builtin "object.__class__"))) (hm_BadState : PySem.W.mroIn K C_BadState (.type "object") = some true) (ty_BadState : PySem.W.typeIn K (.ref C_BadState) = some (.type "type")) (me_BadState : PySem.W.subIn K (.ref C_BadState) (.ref C_BadState) = some true)
    {C_BadText : Addr} (g_BadText : PySem.W.nsIn K mainGlobals "BadText" = some (some (.ref C_BadText))) (hg_BadText : PySem.W.findIn K (.ref C_BadText) "__getattribute__" = some (some (.builtin "BaseException.__getattribute__"))) (hk_BadText : PySem.W.findIn K (.ref C_BadText) "__getattr__" = some none) (hs_BadText : PySem.W.subIn K (.ref C_BadText) (.type "BaseException") = some true) (hd_BadText : PySem.W.hasDictIn K C_BadText = true) (ha_BadText : PySem.W.findIn K (.ref C_BadText) "__class__" = some (some (.builtin "object.__class__"))) (hm_BadText : PySem.W.mroIn K C_BadText (.type "object") = some true) (ty_BadText : PySem.W.typeIn K (.ref C_BadText) = some (.type "type")) (me_BadText : PySem.W.subIn K (.ref C_BadText) (.ref C_BadText) = some true)
    {C_TooMuch : Addr} (g_TooMuch : PySem.W.nsIn K mainGlobals "TooMuch" = some (some (.ref C_TooMuch))) (hg_TooMuch : PySem.W.findIn K (.ref C_TooMuch) "__getattribute__" = some (some (.builtin "BaseException.__getattribute__"))) (hk_TooMuch : PySem.W.findIn K (.ref C_TooMuch) "__getattr__" = some none) (hs_TooMuch : PySem.W.subIn K (.ref C_TooMuch) (.type "BaseException") = some true) (hd_TooMuch : PySem.W.hasDictIn K C_TooMuch = true) (ha_TooMuch : PySem.W.findIn K (.ref C_TooMuch) "__class__" = some (some (.builtin "object.__class__"))) (hm_TooMuch : PySem.W.mroIn K C_TooMuch (.type "object") = some true) (ty_TooMuch : PySem.W.typeIn K (.ref C_TooMuch) = some (.type "type")) (me_TooMuch : PySem.W.subIn K (.ref C_TooMuch) (.ref C_TooMuch) = some true)
    {C_SpandrelError : Addr} (g_SpandrelError : PySem.W.nsIn K mainGlobals "SpandrelError" = some (some (.ref C_SpandrelError))) (hg_SpandrelError : PySem.W.findIn K (.ref C_SpandrelError) "__getattribute__" = some (some (.builtin "BaseException.__getattribute__"))) (hk_SpandrelError : PySem.W.findIn K (.ref C_SpandrelError) "__getattr__" = some none) (hs_SpandrelError : PySem.W.subIn K (.ref C_SpandrelError) (.type "BaseException") = some true) (hd_SpandrelError : PySem.W.hasDictIn K C_SpandrelError = true) (ha_SpandrelError : PySem.W.findIn K (.ref C_SpandrelError) "__class__" = some (some (.builtin "object.__class__"))) (hm_SpandrelError : PySem.W.mroIn K C_SpandrelError (.type "object") = some true) (ty_SpandrelError : PySem.W.typeIn K (.ref C_SpandrelError) = some (.type "type")) (me_SpandrelError : PySem.W.subIn K (.ref C_SpandrelError) (.ref C_SpandrelError) = some true)
    (kp_BadWord : PySem.W.keepIn K (.ref C_BadWord) = true) (q_BadWord : PySem.W.excIn K C_BadWord [.type "ValueError", .type "Exception", .type "BaseException", .type "object"] "ValueError.__new__" = true) (v_BadWord : PySem.W.subIn K (.ref C_BadWord) (.type "ValueError") = some true) (w_BadWord : PySem.W.subIn K (.ref C_BadWord) (.ref C_SpandrelError) = some true)
    (s_BadWord_BadMachine : PySem.W.subIn K (.ref C_BadWord) (.ref C_BadMachine) = some false)
    (s_BadWord_BadDemand : PySem.W.subIn K (.ref C_BadWord) (.ref C_BadDemand) = some false)
    (s_BadWord_BadLetters : PySem.W.subIn K (.ref C_BadWord) (.ref C_BadLetters) = some false)
    (s_BadWord_BadWord : PySem.W.subIn K (.ref C_BadWord) (.ref C_BadWord) = some true)
    (s_BadWord_BadSet : PySem.W.subIn K (.ref C_BadWord) (.ref C_BadSet) = some false)
    (s_BadWord_BadState : PySem.W.subIn K (.ref C_BadWord) (.ref C_BadState) = some false)
    (s_BadWord_BadText : PySem.W.subIn K (.ref C_BadWord) (.ref C_BadText) = some false)
    (s_BadWord_TooMuch : PySem.W.subIn K (.ref C_BadWord) (.ref C_TooMuch) = some false)
    (kp_BadSet : PySem.W.keepIn K (.ref C_BadSet) = true) (q_BadSet : PySem.W.excIn K C_BadSet [.type "ValueError", .type "Exception", .type "BaseException", .type "object"] "ValueError.__new__" = true) (v_BadSet : PySem.W.subIn K (.ref C_BadSet) (.type "ValueError") = some true) (w_BadSet : PySem.W.subIn K (.ref C_BadSet) (.ref C_SpandrelError) = some true)
    (s_BadSet_BadMachine : PySem.W.subIn K (.ref C_BadSet) (.ref C_BadMachine) = some false)
    (s_BadSet_BadDemand : PySem.W.subIn K (.ref C_BadSet) (.ref C_BadDemand) = some false)
    (s_BadSet_BadLetters : PySem.W.subIn K (.ref C_BadSet) (.ref C_BadLetters) = some false)
    (s_BadSet_BadWord : PySem.W.subIn K (.ref C_BadSet) (.ref C_BadWord) = some false)
    (s_BadSet_BadSet : PySem.W.subIn K (.ref C_BadSet) (.ref C_BadSet) = some true)
    (s_BadSet_BadState : PySem.W.subIn K (.ref C_BadSet) (.ref C_BadState) = some false)
    (s_BadSet_BadText : PySem.W.subIn K (.ref C_BadSet) (.ref C_BadText) = some false)
    (s_BadSet_TooMuch : PySem.W.subIn K (.ref C_BadSet) (.ref C_TooMuch) = some false)
    (kp_BadLetters : PySem.W.keepIn K (.ref C_BadLetters) = true) (q_BadLetters : PySem.W.excIn K C_BadLetters [.type "ValueError", .type "Exception", .type "BaseException", .type "object"] "ValueError.__new__" = true) (v_BadLetters : PySem.W.subIn K (.ref C_BadLetters) (.type "ValueError") = some true) (w_BadLetters : PySem.W.subIn K (.ref C_BadLetters) (.ref C_SpandrelError) = some true)
    (s_BadLetters_BadMachine : PySem.W.subIn K (.ref C_BadLetters) (.ref C_BadMachine) = some false)
    (s_BadLetters_BadDemand : PySem.W.subIn K (.ref C_BadLetters) (.ref C_BadDemand) = some false)
    (s_BadLetters_BadLetters : PySem.W.subIn K (.ref C_BadLetters) (.ref C_BadLetters) = some true)
    (s_BadLetters_BadWord : PySem.W.subIn K (.ref C_BadLetters) (.ref C_BadWord) = some false)
    (s_BadLetters_BadSet : PySem.W.subIn K (.ref C_BadLetters) (.ref C_BadSet) = some false)
    (s_BadLetters_BadState : PySem.W.subIn K (.ref C_BadLetters) (.ref C_BadState) = some false)
    (s_BadLetters_BadText : PySem.W.subIn K (.ref C_BadLetters) (.ref C_BadText) = some false)
    (s_BadLetters_TooMuch : PySem.W.subIn K (.ref C_BadLetters) (.ref C_TooMuch) = some false)
    (kp_BadMachine : PySem.W.keepIn K (.ref C_BadMachine) = true) (q_BadMachine : PySem.W.excIn K C_BadMachine [.type "ValueError", .type "Exception", .type "BaseException", .type "object"] "ValueError.__new__" = true) (v_BadMachine : PySem.W.subIn K (.ref C_BadMachine) (.type "ValueError") = some true) (w_BadMachine : PySem.W.subIn K (.ref C_BadMachine) (.ref C_SpandrelError) = some true)
    (s_BadMachine_BadMachine : PySem.W.subIn K (.ref C_BadMachine) (.ref C_BadMachine) = some true)
    (s_BadMachine_BadDemand : PySem.W.subIn K (.ref C_BadMachine) (.ref C_BadDemand) = some false)
    (s_BadMachine_BadLetters : PySem.W.subIn K (.ref C_BadMachine) (.ref C_BadLetters) = some false)
    (s_BadMachine_BadWord : PySem.W.subIn K (.ref C_BadMachine) (.ref C_BadWord) = some false)
    (s_BadMachine_BadSet : PySem.W.subIn K (.ref C_BadMachine) (.ref C_BadSet) = some false)
    (s_BadMachine_BadState : PySem.W.subIn K (.ref C_BadMachine) (.ref C_BadState) = some false)
    (s_BadMachine_BadText : PySem.W.subIn K (.ref C_BadMachine) (.ref C_BadText) = some false)
    (s_BadMachine_TooMuch : PySem.W.subIn K (.ref C_BadMachine) (.ref C_TooMuch) = some false)
    (kp_BadDemand : PySem.W.keepIn K (.ref C_BadDemand) = true) (q_BadDemand : PySem.W.excIn K C_BadDemand [.type "ValueError", .type "Exception", .type "BaseException", .type "object"] "ValueError.__new__" = true) (v_BadDemand : PySem.W.subIn K (.ref C_BadDemand) (.type "ValueError") = some true) (w_BadDemand : PySem.W.subIn K (.ref C_BadDemand) (.ref C_SpandrelError) = some true)
    (s_BadDemand_BadMachine : PySem.W.subIn K (.ref C_BadDemand) (.ref C_BadMachine) = some false)
    (s_BadDemand_BadDemand : PySem.W.subIn K (.ref C_BadDemand) (.ref C_BadDemand) = some true)
    (s_BadDemand_BadLetters : PySem.W.subIn K (.ref C_BadDemand) (.ref C_BadLetters) = some false)
    (s_BadDemand_BadWord : PySem.W.subIn K (.ref C_BadDemand) (.ref C_BadWord) = some false)
    (s_BadDemand_BadSet : PySem.W.subIn K (.ref C_BadDemand) (.ref C_BadSet) = some false)
    (s_BadDemand_BadState : PySem.W.subIn K (.ref C_BadDemand) (.ref C_BadState) = some false)
    (s_BadDemand_BadText : PySem.W.subIn K (.ref C_BadDemand) (.ref C_BadText) = some false)
    (s_BadDemand_TooMuch : PySem.W.subIn K (.ref C_BadDemand) (.ref C_TooMuch) = some false) :
    ∃ fd : FuncData, (∀ (s : Shared) (v : Value), BindsTo s fd ⟨[v], []⟩ [("script", v)]) ∧ ∀ base : Heap, K.In base → base.Ns mainGlobals mg → FnOk l.prog w K mg base CX0 13 fa fd ["script"] (spM K 0 1 9 W0 m_law) := by
  have e := hfa.symm.trans (PySem.W.mg_of X G a58)
  cases e
  refine ⟨PySem.W.fnOf "law" "law" (defArgs s_law) (defBody s_law) (defScope s_law) .none kV58 dc58 pm58 an58 cd58 ct58, fun s v => .of_eq rfl, fun base _ _ => ok_law (P := l.prog) (w := w) (base := base) ({
    t_LONGEST_WORD := _
    c_LONGEST_WORD := PySem.W.mg_of X G c_LONGEST_WORD
    t_MOST_DEMAND_STATES := _
    c_MOST_DEMAND_STATES := PySem.W.mg_of X G c_MOST_DEMAND_STATES
    t_MOST_EDGES := _
    c_MOST_EDGES := PySem.W.mg_of X G c_MOST_EDGES
    t_MOST_LETTERS := _
    c_MOST_LETTERS := PySem.W.mg_of X G c_MOST_LETTERS
    t_MOST_STATES := _
    c_MOST_STATES := PySem.W.mg_of X G c_MOST_STATES
    C_BadMachine := _
    mg_BadMachine := PySem.W.mg_of X G g_BadMachine
    f_BadMachine := ⟨⟨hg_BadMachine, hk_BadMachine, hs_BadMachine, hd_BadMachine, ha_BadMachine, hn, ht, hm_BadMachine⟩, ty_BadMachine, me_BadMachine⟩
    C_BadDemand := _
    mg_BadDemand := PySem.W.mg_of X G g_BadDemand
    f_BadDemand := ⟨⟨hg_BadDemand, hk_BadDemand, hs_BadDemand, hd_BadDemand, ha_BadDemand, hn, ht, hm_BadDemand⟩, ty_BadDemand, me_BadDemand⟩
    C_BadLetters := _
    mg_BadLetters := PySem.W.mg_of X G g_BadLetters
    f_BadLetters := ⟨⟨hg_BadLetters, hk_BadLetters, hs_BadLetters, hd_BadLetters, ha_BadLetters, hn, ht, hm_BadLetters⟩, ty_BadLetters, me_BadLetters⟩
    C_BadWord := _
    mg_BadWord := PySem.W.mg_of X G g_BadWord
    f_BadWord := ⟨⟨hg_BadWord, hk_BadWord, hs_BadWord, hd_BadWord, ha_BadWord, hn, ht, hm_BadWord⟩, ty_BadWord, me_BadWord⟩
    C_BadSet := _
    mg_BadSet := PySem.W.mg_of X G g_BadSet
    f_BadSet := ⟨⟨hg_BadSet, hk_BadSet, hs_BadSet, hd_BadSet, ha_BadSet, hn, ht, hm_BadSet⟩, ty_BadSet, me_BadSet⟩
    C_BadState := _
    mg_BadState := PySem.W.mg_of X G g_BadState
    f_BadState := ⟨⟨hg_BadState, hk_BadState, hs_BadState, hd_BadState, ha_BadState, hn, ht, hm_BadState⟩, ty_BadState, me_BadState⟩
    C_BadText := _
    mg_BadText := PySem.W.mg_of X G g_BadText
    f_BadText := ⟨⟨hg_BadText, hk_BadText, hs_BadText, hd_BadText, ha_BadText, hn, ht, hm_BadText⟩, ty_BadText, me_BadText⟩
    C_TooMuch := _
    mg_TooMuch := PySem.W.mg_of X G g_TooMuch
    f_TooMuch := ⟨⟨hg_TooMuch, hk_TooMuch, hs_TooMuch, hd_TooMuch, ha_TooMuch, hn, ht, hm_TooMuch⟩, ty_TooMuch, me_TooMuch⟩
    C_SpandrelError := _
    mg_SpandrelError := PySem.W.mg_of X G g_SpandrelError
    f_SpandrelError := ⟨⟨hg_SpandrelError, hk_SpandrelError, hs_SpandrelError, hd_SpandrelError, ha_SpandrelError, hn, ht, hm_SpandrelError⟩, ty_SpandrelError, me_SpandrelError⟩
    kp_BadWord := kp_BadWord
    q_BadWord := q_BadWord
    v_BadWord := v_BadWord
    w_BadWord := w_BadWord
    s_BadWord_BadMachine := s_BadWord_BadMachine
    s_BadWord_BadDemand := s_BadWord_BadDemand
    s_BadWord_BadLetters := s_BadWord_BadLetters
    s_BadWord_BadWord := s_BadWord_BadWord
    s_BadWord_BadSet := s_BadWord_BadSet
    s_BadWord_BadState := s_BadWord_BadState
    s_BadWord_BadText := s_BadWord_BadText
    s_BadWord_TooMuch := s_BadWord_TooMuch
    kp_BadSet := kp_BadSet
    q_BadSet := q_BadSet
    v_BadSet := v_BadSet
    w_BadSet := w_BadSet
    s_BadSet_BadMachine := s_BadSet_BadMachine
    s_BadSet_BadDemand := s_BadSet_BadDemand
    s_BadSet_BadLetters := s_BadSet_BadLetters
    s_BadSet_BadWord := s_BadSet_BadWord
    s_BadSet_BadSet := s_BadSet_BadSet
    s_BadSet_BadState := s_BadSet_BadState
    s_BadSet_BadText := s_BadSet_BadText
    s_BadSet_TooMuch := s_BadSet_TooMuch
    kp_BadLetters := kp_BadLetters
    q_BadLetters := q_BadLetters
    v_BadLetters := v_BadLetters
    w_BadLetters := w_BadLetters
    s_BadLetters_BadMachine := s_BadLetters_BadMachine
    s_BadLetters_BadDemand := s_BadLetters_BadDemand
    s_BadLetters_BadLetters := s_BadLetters_BadLetters
    s_BadLetters_BadWord := s_BadLetters_BadWord
    s_BadLetters_BadSet := s_BadLetters_BadSet
    s_BadLetters_BadState := s_BadLetters_BadState
    s_BadLetters_BadText := s_BadLetters_BadText
    s_BadLetters_TooMuch := s_BadLetters_TooMuch
    kp_BadMachine := kp_BadMachine
    q_BadMachine := q_BadMachine
    v_BadMachine := v_BadMachine
    w_BadMachine := w_BadMachine
    s_BadMachine_BadMachine := s_BadMachine_BadMachine
    s_BadMachine_BadDemand := s_BadMachine_BadDemand
    s_BadMachine_BadLetters := s_BadMachine_BadLetters
    s_BadMachine_BadWord := s_BadMachine_BadWord
    s_BadMachine_BadSet := s_BadMachine_BadSet
    s_BadMachine_BadState := s_BadMachine_BadState
    s_BadMachine_BadText := s_BadMachine_BadText
    s_BadMachine_TooMuch := s_BadMachine_TooMuch
    kp_BadDemand := kp_BadDemand
    q_BadDemand := q_BadDemand
    v_BadDemand := v_BadDemand
    w_BadDemand := w_BadDemand
    s_BadDemand_BadMachine := s_BadDemand_BadMachine
    s_BadDemand_BadDemand := s_BadDemand_BadDemand
    s_BadDemand_BadLetters := s_BadDemand_BadLetters
    s_BadDemand_BadWord := s_BadDemand_BadWord
    s_BadDemand_BadSet := s_BadDemand_BadSet
    s_BadDemand_BadState := s_BadDemand_BadState
    s_BadDemand_BadText := s_BadDemand_BadText
    s_BadDemand_TooMuch := s_BadDemand_TooMuch
    a__law_box := _
    fd__law_box := _
    F__law_box := fun_mk (st := s__law_box) l0 c0 k0
    mg__law_box := PySem.W.mg_of X G a0
    b__law_box := (fun_mk (st := s__law_box) l0 c0 k0).binds (ps := ["script"]) fun _ _ _ _ _ _ us hl => match us, hl with | [_], _ => rfl
    a__law_take := _
    fd__law_take := _
    F__law_take := fun_mk (st := s__law_take) l1 c1 k1
    mg__law_take := PySem.W.mg_of X G a1
    b__law_take := (fun_mk (st := s__law_take) l1 c1 k1).binds (ps := ["box", "m"]) fun _ _ _ _ _ _ us hl => match us, hl with | [_, _], _ => rfl
    a__law_pick := _
    fd__law_pick := _
    F__law_pick := fun_mk (st := s__law_pick) l2 c2 k2
    mg__law_pick := PySem.W.mg_of X G a2
    b__law_pick := (fun_mk (st := s__law_pick) l2 c2 k2).binds (ps := ["box", "menu"]) fun _ _ _ _ _ _ us hl => match us, hl with | [_, _], _ => rfl
    a__law_demand := _
    fd__law_demand := _
    F__law_demand := fun_mk (st := s__law_demand) l3 c3 k3
    mg__law_demand := PySem.W.mg_of X G a3
    b__law_demand := (fun_mk (st := s__law_demand) l3 c3 k3).binds (ps := ["box", "n", "most"]) fun _ _ _ _ _ _ us hl => match us, hl with | [_, _, _], _ => rfl
    a__law_class := _
    fd__law_class := _
    F__law_class := fun_mk (st := s__law_class) l4 c4 k4
    mg__law_class := PySem.W.mg_of X G a4
    b__law_class := (fun_mk (st := s__law_class) l4 c4 k4).binds (ps := ["e"]) fun _ _ _ _ _ _ us hl => match us, hl with | [_], _ => rfl
    a_is_number := _
    fd_is_number := _
    F_is_number := fun_mk (st := s_is_number) l5 c5 k5
    mg_is_number := PySem.W.mg_of X G a5
    b_is_number := (fun_mk (st := s_is_number) l5 c5 k5).binds (ps := ["thing"]) fun _ _ _ _ _ _ us hl => match us, hl with | [_], _ => rfl
    a_is_below := _
    fd_is_below := _
    F_is_below := fun_mk (st := s_is_below) l6 c6 k6
    mg_is_below := PySem.W.mg_of X G a6
    b_is_below := (fun_mk (st := s_is_below) l6 c6 k6).binds (ps := ["thing", "many"]) fun _ _ _ _ _ _ us hl => match us, hl with | [_, _], _ => rfl
    a_is_letter_count := _
    fd_is_letter_count := _
    F_is_letter_count := fun_mk (st := s_is_letter_count) l7 c7 k7
    mg_is_letter_count := PySem.W.mg_of X G a7
    b_is_letter_count := (fun_mk (st := s_is_letter_count) l7 c7 k7).binds (ps := ["thing"]) fun _ _ _ _ _ _ us hl => match us, hl with | [_], _ => rfl
    a_bits_of := _
    fd_bits_of := _
    F_bits_of := fun_mk (st := s_bits_of) l8 c8 k8
    mg_bits_of := PySem.W.mg_of X G a8
    b_bits_of := (fun_mk (st := s_bits_of) l8 c8 k8).binds (ps := ["letters"]) fun _ _ _ _ _ _ us hl => match us, hl with | [_], _ => rfl
    a_full_set := _
    fd_full_set := _
    F_full_set := fun_mk (st := s_full_set) l9 c9 k9
    mg_full_set := PySem.W.mg_of X G a9
    b_full_set := (fun_mk (st := s_full_set) l9 c9 k9).binds (ps := ["n"]) fun _ _ _ _ _ _ us hl => match us, hl with | [_], _ => rfl
    a_is_set := _
    fd_is_set := _
    F_is_set := fun_mk (st := s_is_set) l10 c10 k10
    mg_is_set := PySem.W.mg_of X G a10
    b_is_set := (fun_mk (st := s_is_set) l10 c10 k10).binds (ps := ["n", "thing"]) fun _ _ _ _ _ _ us hl => match us, hl with | [_, _], _ => rfl
    a__is_accepts := _
    fd__is_accepts := _
    F__is_accepts := fun_mk (st := s__is_accepts) l11 c11 k11
    mg__is_accepts := PySem.W.mg_of X G a11
    b__is_accepts := (fun_mk (st := s__is_accepts) l11 c11 k11).binds (ps := ["n", "accepts"]) fun _ _ _ _ _ _ us hl => match us, hl with | [_, _], _ => rfl
    a__is_ahead := _
    fd__is_ahead := _
    F__is_ahead := fun_mk (st := s__is_ahead) l12 c12 k12
    mg__is_ahead := PySem.W.mg_of X G a12
    b__is_ahead := (fun_mk (st := s__is_ahead) l12 c12 k12).binds (ps := ["n", "many", "ahead"]) fun _ _ _ _ _ _ us hl => match us, hl with | [_, _, _], _ => rfl
    a_members := _
    fd_members := _
    F_members := fun_mk (st := s_members) l13 c13 k13
    mg_members := PySem.W.mg_of X G a13
    b_members := (fun_mk (st := s_members) l13 c13 k13).binds (ps := ["n", "bits"]) fun _ _ _ _ _ _ us hl => match us, hl with | [_, _], _ => rfl
    a__is_state := _
    fd__is_state := _
    F__is_state := fun_mk (st := s__is_state) l14 c14 k14
    mg__is_state := PySem.W.mg_of X G a14
    b__is_state := (fun_mk (st := s__is_state) l14 c14 k14).binds (ps := ["n", "many", "state"]) fun _ _ _ _ _ _ us hl => match us, hl with | [_, _, _], _ => rfl
    a__is_demand := _
    fd__is_demand := _
    F__is_demand := fun_mk (st := s__is_demand) l15 c15 k15
    mg__is_demand := PySem.W.mg_of X G a15
    b__is_demand := (fun_mk (st := s__is_demand) l15 c15 k15).binds (ps := ["d"]) fun _ _ _ _ _ _ us hl => match us, hl with | [_], _ => rfl
    a_check_demand := _
    fd_check_demand := _
    F_check_demand := fun_mk (st := s_check_demand) l16 c16 k16
    mg_check_demand := PySem.W.mg_of X G a16
    b_check_demand := (fun_mk (st := s_check_demand) l16 c16 k16).binds (ps := ["d"]) fun _ _ _ _ _ _ us hl => match us, hl with | [_], _ => rfl
    a_hollow := _
    fd_hollow := _
    F_hollow := fun_mk (st := s_hollow) l17 c17 k17
    mg_hollow := PySem.W.mg_of X G a17
    b_hollow := (fun_mk (st := s_hollow) l17 c17 k17).binds (ps := ["d"]) fun _ _ _ _ _ _ us hl => match us, hl with | [_], _ => rfl
    a_least := _
    fd_least := _
    F_least := fun_mk (st := s_least) l18 c18 k18
    mg_least := PySem.W.mg_of X G a18
    b_least := (fun_mk (st := s_least) l18 c18 k18).binds (ps := ["d"]) fun _ _ _ _ _ _ us hl => match us, hl with | [_], _ => rfl
    a_trimmed := _
    fd_trimmed := _
    F_trimmed := fun_mk (st := s_trimmed) l19 c19 k19
    mg_trimmed := PySem.W.mg_of X G a19
    b_trimmed := (fun_mk (st := s_trimmed) l19 c19 k19).binds (ps := ["d"]) fun _ _ _ _ _ _ us hl => match us, hl with | [_], _ => rfl
    a_some := _
    fd_some := _
    F_some := fun_mk (st := s_some) l20 c20 k20
    mg_some := PySem.W.mg_of X G a20
    b_some := (fun_mk (st := s_some) l20 c20 k20).binds (ps := ["d"]) fun _ _ _ _ _ _ us hl => match us, hl with | [_], _ => rfl
    a_with_word := _
    fd_with_word := _
    F_with_word := fun_mk (st := s_with_word) l21 c21 k21
    mg_with_word := PySem.W.mg_of X G a21
    b_with_word := (fun_mk (st := s_with_word) l21 c21 k21).binds (ps := ["d", "word", "bits"]) fun _ _ _ _ _ _ us hl => match us, hl with | [_, _, _], _ => rfl
    a_ladder := _
    fd_ladder := _
    F_ladder := fun_mk (st := s_ladder) l22 c22 k22
    mg_ladder := PySem.W.mg_of X G a22
    b_ladder := (fun_mk (st := s_ladder) l22 c22 k22).binds (ps := ["d"]) fun _ _ _ _ _ _ us hl => match us, hl with | [_], _ => rfl
    a_is_ladder := _
    fd_is_ladder := _
    F_is_ladder := fun_mk (st := s_is_ladder) l23 c23 k23
    mg_is_ladder := PySem.W.mg_of X G a23
    b_is_ladder := (fun_mk (st := s_is_ladder) l23 c23 k23).binds (ps := ["d", "states"]) fun _ _ _ _ _ _ us hl => match us, hl with | [_, _], _ => rfl
    a_written_demand := _
    fd_written_demand := _
    F_written_demand := fun_mk (st := s_written_demand) l24 c24 k24
    mg_written_demand := PySem.W.mg_of X G a24
    b_written_demand := (fun_mk (st := s_written_demand) l24 c24 k24).binds (ps := ["d"]) fun _ _ _ _ _ _ us hl => match us, hl with | [_], _ => rfl
    a_led_to := _
    fd_led_to := _
    F_led_to := fun_mk (st := s_led_to) l25 c25 k25
    mg_led_to := PySem.W.mg_of X G a25
    b_led_to := (fun_mk (st := s_led_to) l25 c25 k25).binds (ps := ["d", "word"]) fun _ _ _ _ _ _ us hl => match us, hl with | [_, _], _ => rfl
    a__law_one := _
    fd__law_one := _
    F__law_one := fun_mk (st := s__law_one) l26 c26 k26
    mg__law_one := PySem.W.mg_of X G a26
    b__law_one := (fun_mk (st := s__law_one) l26 c26 k26).binds (ps := ["way", "one"]) fun _ _ _ _ _ _ us hl => match us, hl with | [_, _], _ => rfl
    a_check_same_letters := _
    fd_check_same_letters := _
    F_check_same_letters := fun_mk (st := s_check_same_letters) l27 c27 k27
    mg_check_same_letters := PySem.W.mg_of X G a27
    b_check_same_letters := (fun_mk (st := s_check_same_letters) l27 c27 k27).binds (ps := ["a", "b"]) fun _ _ _ _ _ _ us hl => match us, hl with | [_, _], _ => rfl
    a_check_two_demands := _
    fd_check_two_demands := _
    F_check_two_demands := fun_mk (st := s_check_two_demands) l28 c28 k28
    mg_check_two_demands := PySem.W.mg_of X G a28
    b_check_two_demands := (fun_mk (st := s_check_two_demands) l28 c28 k28).binds (ps := ["a", "b"]) fun _ _ _ _ _ _ us hl => match us, hl with | [_, _], _ => rfl
    a__joined := _
    fd__joined := _
    F__joined := fun_mk (st := s__joined) l29 c29 k29
    mg__joined := PySem.W.mg_of X G a29
    b__joined := (fun_mk (st := s__joined) l29 c29 k29).binds (ps := ["a", "b", "sets_of_both"]) fun _ _ _ _ _ _ us hl => match us, hl with | [_, _, _], _ => rfl
    a__common_sets := _
    fd__common_sets := _
    F__common_sets := fun_mk (st := s__common_sets) l30 c30 k30
    mg__common_sets := PySem.W.mg_of X G a30
    b__common_sets := (fun_mk (st := s__common_sets) l30 c30 k30).binds (ps := ["sets", "others"]) fun _ _ _ _ _ _ us hl => match us, hl with | [_, _], _ => rfl
    a_meet := _
    fd_meet := _
    F_meet := fun_mk (st := s_meet) l31 c31 k31
    mg_meet := PySem.W.mg_of X G a31
    b_meet := (fun_mk (st := s_meet) l31 c31 k31).binds (ps := ["a", "b"]) fun _ _ _ _ _ _ us hl => match us, hl with | [_, _], _ => rfl
    a__all_sets := _
    fd__all_sets := _
    F__all_sets := fun_mk (st := s__all_sets) l32 c32 k32
    mg__all_sets := PySem.W.mg_of X G a32
    b__all_sets := (fun_mk (st := s__all_sets) l32 c32 k32).binds (ps := ["sets", "others"]) fun _ _ _ _ _ _ us hl => match us, hl with | [_, _], _ => rfl
    a_either := _
    fd_either := _
    F_either := fun_mk (st := s_either) l33 c33 k33
    mg_either := PySem.W.mg_of X G a33
    b_either := (fun_mk (st := s_either) l33 c33 k33).binds (ps := ["a", "b"]) fun _ _ _ _ _ _ us hl => match us, hl with | [_, _], _ => rfl
    a__overlaps := _
    fd__overlaps := _
    F__overlaps := fun_mk (st := s__overlaps) l34 c34 k34
    mg__overlaps := PySem.W.mg_of X G a34
    b__overlaps := (fun_mk (st := s__overlaps) l34 c34 k34).binds (ps := ["sets", "others"]) fun _ _ _ _ _ _ us hl => match us, hl with | [_, _], _ => rfl
    a_beside := _
    fd_beside := _
    F_beside := fun_mk (st := s_beside) l35 c35 k35
    mg_beside := PySem.W.mg_of X G a35
    b_beside := (fun_mk (st := s_beside) l35 c35 k35).binds (ps := ["a", "b"]) fun _ _ _ _ _ _ us hl => match us, hl with | [_, _], _ => rfl
    a_parts := _
    fd_parts := _
    F_parts := fun_mk (st := s_parts) l36 c36 k36
    mg_parts := PySem.W.mg_of X G a36
    b_parts := (fun_mk (st := s_parts) l36 c36 k36).binds (ps := ["a", "b", "word", "bits"]) fun _ _ _ _ _ _ us hl => match us, hl with | [_, _, _, _], _ => rfl
    a_refines := _
    fd_refines := _
    F_refines := fun_mk (st := s_refines) l37 c37 k37
    mg_refines := PySem.W.mg_of X G a37
    b_refines := (fun_mk (st := s_refines) l37 c37 k37).binds (ps := ["s", "t"]) fun _ _ _ _ _ _ us hl => match us, hl with | [_, _], _ => rfl
    a_takes := _
    fd_takes := _
    F_takes := fun_mk (st := s_takes) l38 c38 k38
    mg_takes := PySem.W.mg_of X G a38
    b_takes := (fun_mk (st := s_takes) l38 c38 k38).binds (ps := ["s", "t", "paper"]) fun _ _ _ _ _ _ us hl => match us, hl with | [_, _, _], _ => rfl
    a_equal := _
    fd_equal := _
    F_equal := fun_mk (st := s_equal) l39 c39 k39
    mg_equal := PySem.W.mg_of X G a39
    b_equal := (fun_mk (st := s_equal) l39 c39 k39).binds (ps := ["s", "t"]) fun _ _ _ _ _ _ us hl => match us, hl with | [_, _], _ => rfl
    a_divided := _
    fd_divided := _
    F_divided := fun_mk (st := s_divided) l40 c40 k40
    mg_divided := PySem.W.mg_of X G a40
    b_divided := (fun_mk (st := s_divided) l40 c40 k40).binds (ps := ["t", "s"]) fun _ _ _ _ _ _ us hl => match us, hl with | [_, _], _ => rfl
    a_missing := _
    fd_missing := _
    F_missing := fun_mk (st := s_missing) l41 c41 k41
    mg_missing := PySem.W.mg_of X G a41
    b_missing := (fun_mk (st := s_missing) l41 c41 k41).binds (ps := ["t", "s"]) fun _ _ _ _ _ _ us hl => match us, hl with | [_, _], _ => rfl
    a__law_both := _
    fd__law_both := _
    F__law_both := fun_mk (st := s__law_both) l42 c42 k42
    mg__law_both := PySem.W.mg_of X G a42
    b__law_both := (fun_mk (st := s__law_both) l42 c42 k42).binds (ps := ["way", "one", "other"]) fun _ _ _ _ _ _ us hl => match us, hl with | [_, _, _], _ => rfl
    a__is_edge := _
    fd__is_edge := _
    F__is_edge := fun_mk (st := s__is_edge) l43 c43 k43
    mg__is_edge := PySem.W.mg_of X G a43
    b__is_edge := (fun_mk (st := s__is_edge) l43 c43 k43).binds (ps := ["n", "many", "edge"]) fun _ _ _ _ _ _ us hl => match us, hl with | [_, _, _], _ => rfl
    a__is_row := _
    fd__is_row := _
    F__is_row := fun_mk (st := s__is_row) l44 c44 k44
    mg__is_row := PySem.W.mg_of X G a44
    b__is_row := (fun_mk (st := s__is_row) l44 c44 k44).binds (ps := ["n", "many", "row"]) fun _ _ _ _ _ _ us hl => match us, hl with | [_, _, _], _ => rfl
    a__is_machine := _
    fd__is_machine := _
    F__is_machine := fun_mk (st := s__is_machine) l45 c45 k45
    mg__is_machine := PySem.W.mg_of X G a45
    b__is_machine := (fun_mk (st := s__is_machine) l45 c45 k45).binds (ps := ["m"]) fun _ _ _ _ _ _ us hl => match us, hl with | [_], _ => rfl
    a_check_machine := _
    fd_check_machine := _
    F_check_machine := fun_mk (st := s_check_machine) l46 c46 k46
    mg_check_machine := PySem.W.mg_of X G a46
    b_check_machine := (fun_mk (st := s_check_machine) l46 c46 k46).binds (ps := ["m"]) fun _ _ _ _ _ _ us hl => match us, hl with | [_], _ => rfl
    a__check_both := _
    fd__check_both := _
    F__check_both := fun_mk (st := s__check_both) l47 c47 k47
    mg__check_both := PySem.W.mg_of X G a47
    b__check_both := (fun_mk (st := s__check_both) l47 c47 k47).binds (ps := ["m", "d"]) fun _ _ _ _ _ _ us hl => match us, hl with | [_, _], _ => rfl
    a_keeps := _
    fd_keeps := _
    F_keeps := fun_mk (st := s_keeps) l48 c48 k48
    mg_keeps := PySem.W.mg_of X G a48
    b_keeps := (fun_mk (st := s_keeps) l48 c48 k48).binds (ps := ["m", "d"]) fun _ _ _ _ _ _ us hl => match us, hl with | [_, _], _ => rfl
    a_is_kept := _
    fd_is_kept := _
    F_is_kept := fun_mk (st := s_is_kept) l49 c49 k49
    mg_is_kept := PySem.W.mg_of X G a49
    b_is_kept := (fun_mk (st := s_is_kept) l49 c49 k49).binds (ps := ["m", "d", "paper"]) fun _ _ _ _ _ _ us hl => match us, hl with | [_, _, _], _ => rfl
    a__check_three := _
    fd__check_three := _
    F__check_three := fun_mk (st := s__check_three) l50 c50 k50
    mg__check_three := PySem.W.mg_of X G a50
    b__check_three := (fun_mk (st := s__check_three) l50 c50 k50).binds (ps := ["x", "s", "t"]) fun _ _ _ _ _ _ us hl => match us, hl with | [_, _, _], _ => rfl
    a_completes := _
    fd_completes := _
    F_completes := fun_mk (st := s_completes) l51 c51 k51
    mg_completes := PySem.W.mg_of X G a51
    b_completes := (fun_mk (st := s_completes) l51 c51 k51).binds (ps := ["x", "s", "t"]) fun _ _ _ _ _ _ us hl => match us, hl with | [_, _, _], _ => rfl
    a_accepts := _
    fd_accepts := _
    F_accepts := fun_mk (st := s_accepts) l52 c52 k52
    mg_accepts := PySem.W.mg_of X G a52
    b_accepts := (fun_mk (st := s_accepts) l52 c52 k52).binds (ps := ["x", "s", "t", "paper"]) fun _ _ _ _ _ _ us hl => match us, hl with | [_, _, _, _], _ => rfl
    a__law_third := _
    fd__law_third := _
    F__law_third := fun_mk (st := s__law_third) l53 c53 k53
    mg__law_third := PySem.W.mg_of X G a53
    b__law_third := (fun_mk (st := s__law_third) l53 c53 k53).binds (ps := ["way", "one", "other"]) fun _ _ _ _ _ _ us hl => match us, hl with | [_, _, _], _ => rfl
    a__law_refused := _
    fd__law_refused := _
    F__law_refused := fun_mk (st := s__law_refused) l54 c54 k54
    mg__law_refused := PySem.W.mg_of X G a54
    b__law_refused := (fun_mk (st := s__law_refused) l54 c54 k54).binds (ps := ["way", "one", "other"]) fun _ _ _ _ _ _ us hl => match us, hl with | [_, _, _], _ => rfl
    a__law_sets := _
    fd__law_sets := _
    F__law_sets := fun_mk (st := s__law_sets) l55 c55 k55
    mg__law_sets := PySem.W.mg_of X G a55
    b__law_sets := (fun_mk (st := s__law_sets) l55 c55 k55).binds (ps := ["box", "n", "sets"]) fun _ _ _ _ _ _ us hl => match us, hl with | [_, _, _], _ => rfl
    a__law_after := _
    fd__law_after := _
    F__law_after := fun_mk (st := s__law_after) l56 c56 k56
    mg__law_after := PySem.W.mg_of X G a56
    b__law_after := (fun_mk (st := s__law_after) l56 c56 k56).binds (ps := ["box", "d", "at"]) fun _ _ _ _ _ _ us hl => match us, hl with | [_, _, _], _ => rfl
    a__law_spoilt := _
    fd__law_spoilt := _
    F__law_spoilt := fun_mk (st := s__law_spoilt) l57 c57 k57
    mg__law_spoilt := PySem.W.mg_of X G a57
    b__law_spoilt := (fun_mk (st := s__law_spoilt) l57 c57 k57).binds (ps := ["box", "d"]) fun _ _ _ _ _ _ us hl => match us, hl with | [_, _], _ => rfl
    a_law := _
    fd_law := _
    F_law := fun_mk (st := s_law) l58 c58 k58
    mg_law := PySem.W.mg_of X G a58
    b_law := (fun_mk (st := s_law) l58 c58 k58).binds (ps := ["script"]) fun _ _ _ _ _ _ us hl => match us, hl with | [_], _ => rfl
    z_ValueError := PySem.W.mg_none_of X G z_ValueError
    z_abs := PySem.W.mg_none_of X G z_abs
    z_all := PySem.W.mg_none_of X G z_all
    z_bool := PySem.W.mg_none_of X G z_bool
    z_int := PySem.W.mg_none_of X G z_int
    z_isinstance := PySem.W.mg_none_of X G z_isinstance
    z_len := PySem.W.mg_none_of X G z_len
    z_list := PySem.W.mg_none_of X G z_list
    z_range := PySem.W.mg_none_of X G z_range
    z_set := PySem.W.mg_none_of X G z_set
    z_sorted := PySem.W.mg_none_of X G z_sorted
    z_sum := PySem.W.mg_none_of X G z_sum
    z_tuple := PySem.W.mg_none_of X G z_tuple
  } : Tx K mg)⟩


end K03
open PySem PySem.W PyProof.Rows
set_option maxHeartbeats 0 in
theorem PySem.Challenge.cw_spandrel_k03_what_is_a_demand_holds : PySem.Challenge.rw_spandrel_k03_what_is_a_demand.Holds := by
  w_on; o_law; k_head; (case hw => w_witness2)
  k_fill
  refine L2.walk_ofK (l := PySem.Challenge.rw_spandrel_k03_what_is_a_demand) (n := 63) (k := 13) (x := "script") (CX := L2.CX0) (sp := fun K => Z.spM K 0 1 9 Z.W0 K03.m_law) rfl (by decide) rfl ⟨rfl, by decide, by decide⟩ (fun w h Y => by first | exact PySem.W.kIn_of Y | exact PySem.W.km_in_of Y) ?F (fun K H a ns hl _ hS => Z.law_sp K03.law_true H a ns hl hS) (fun _ _ _ _ h => h)
  case F =>
    intro w mg fa h KX G hmg
    refine' K03.all_mk KX G hmg ?a0 ?l0 ?c0 ?k0 ?a1 ?l1 ?c1 ?k1 ?a2 ?l2 ?c2 ?k2 ?a3 ?l3 ?c3 ?k3 ?a4 ?l4 ?c4 ?k4 ?a5 ?l5 ?c5 ?k5 ?a6 ?l6 ?c6 ?k6 ?a7 ?l7 ?c7 ?k7 ?a8 ?l8 ?c8 ?k8 ?a9 ?l9 ?c9 ?k9 ?a10 ?l10 ?c10 ?k10 ?a11 ?l11 ?c11 ?k11 ?a12 ?l12 ?c12 ?k12 ?a13 ?l13 ?c13 ?k13 ?a14 ?l14 ?c14 ?k14 ?a15 ?l15 ?c15 ?k15 ?a16 ?l16 ?c16 ?k16 ?a17 ?l17 ?c17 ?k17 ?a18 ?l18 ?c18 ?k18 ?a19 ?l19 ?c19 ?k19 ?a20 ?l20 ?c20 ?k20 ?a21 ?l21 ?c21 ?k21 ?a22 ?l22 ?c22 ?k22 ?a23 ?l23 ?c23 ?k23 ?a24 ?l24 ?c24 ?k24 ?a25 ?l25 ?c25 ?k25 ?a26 ?l26 ?c26 ?k26 ?a27 ?l27 ?c27 ?k27 ?a28 ?l28 ?c28 ?k28 ?a29 ?l29 ?c29 ?k29 ?a30 ?l30 ?c30 ?k30 ?a31 ?l31 ?c31 ?k31 ?a32 ?l32 ?c32 ?k32 ?a33 ?l33 ?c33 ?k33 ?a34 ?l34 ?c34 ?k34 ?a35 ?l35 ?c35 ?k35 ?a36 ?l36 ?c36 ?k36 ?a37 ?l37 ?c37 ?k37 ?a38 ?l38 ?c38 ?k38 ?a39 ?l39 ?c39 ?k39 ?a40 ?l40 ?c40 ?k40 ?a41 ?l41 ?c41 ?k41 ?a42 ?l42 ?c42 ?k42 ?a43 ?l43 ?c43 ?k43 ?a44 ?l44 ?c44 ?k44 ?a45 ?l45 ?c45 ?k45 ?a46 ?l46 ?c46 ?k46 ?a47 ?l47 ?c47 ?k47 ?a48 ?l48 ?c48 ?k48 ?a49 ?l49 ?c49 ?k49 ?a50 ?l50 ?c50 ?k50 ?a51 ?l51 ?c51 ?k51 ?a52 ?l52 ?c52 ?k52 ?a53 ?l53 ?c53 ?k53 ?a54 ?l54 ?c54 ?k54 ?a55 ?l55 ?c55 ?k55 ?a56 ?l56 ?c56 ?k56 ?a57 ?l57 ?c57 ?k57 ?a58 ?l58 ?c58 ?k58 ?z_ValueError ?z_abs ?z_all ?z_bool ?z_int ?z_isinstance ?z_len ?z_list ?z_range ?z_set ?z_sorted ?z_sum ?z_tuple ?c_LONGEST_WORD ?c_MOST_DEMAND_STATES ?c_MOST_EDGES ?c_MOST_LETTERS ?c_MOST_STATES ?hn ?ht ?g_BadMachine ?hg_BadMachine ?hk_BadMachine ?hs_BadMachine ?hd_BadMachine ?ha_BadMachine ?hm_BadMachine ?ty_BadMachine ?me_BadMachine ?g_BadDemand ?hg_BadDemand ?hk_BadDemand ?hs_BadDemand ?hd_BadDemand ?ha_BadDemand ?hm_BadDemand ?ty_BadDemand ?me_BadDemand ?g_BadLetters ?hg_BadLetters ?hk_BadLetters ?hs_BadLetters ?hd_BadLetters ?ha_BadLetters ?hm_BadLetters ?ty_BadLetters ?me_BadLetters ?g_BadWord ?hg_BadWord ?hk_BadWord ?hs_BadWord ?hd_BadWord ?ha_BadWord ?hm_BadWord ?ty_BadWord ?me_BadWord ?g_BadSet ?hg_BadSet ?hk_BadSet ?hs_BadSet ?hd_BadSet ?ha_BadSet ?hm_BadSet ?ty_BadSet ?me_BadSet ?g_BadState ?hg_BadState ?hk_BadState ?hs_BadState ?hd_BadState ?ha_BadState ?hm_BadState ?ty_BadState ?me_BadState ?g_BadText ?hg_BadText ?hk_BadText ?hs_BadText ?hd_BadText ?ha_BadText ?hm_BadText ?ty_BadText ?me_BadText ?g_TooMuch ?hg_TooMuch ?hk_TooMuch ?hs_TooMuch ?hd_TooMuch ?ha_TooMuch ?hm_TooMuch ?ty_TooMuch ?me_TooMuch ?g_SpandrelError ?hg_SpandrelError ?hk_SpandrelError ?hs_SpandrelError ?hd_SpandrelError ?ha_SpandrelError ?hm_SpandrelError ?ty_SpandrelError ?me_SpandrelError ?kp_BadWord ?q_BadWord ?v_BadWord ?w_BadWord ?s_BadWord_BadMachine ?s_BadWord_BadDemand ?s_BadWord_BadLetters ?s_BadWord_BadWord ?s_BadWord_BadSet ?s_BadWord_BadState ?s_BadWord_BadText ?s_BadWord_TooMuch ?kp_BadSet ?q_BadSet ?v_BadSet ?w_BadSet ?s_BadSet_BadMachine ?s_BadSet_BadDemand ?s_BadSet_BadLetters ?s_BadSet_BadWord ?s_BadSet_BadSet ?s_BadSet_BadState ?s_BadSet_BadText ?s_BadSet_TooMuch ?kp_BadLetters ?q_BadLetters ?v_BadLetters ?w_BadLetters ?s_BadLetters_BadMachine ?s_BadLetters_BadDemand ?s_BadLetters_BadLetters ?s_BadLetters_BadWord ?s_BadLetters_BadSet ?s_BadLetters_BadState ?s_BadLetters_BadText ?s_BadLetters_TooMuch ?kp_BadMachine ?q_BadMachine ?v_BadMachine ?w_BadMachine ?s_BadMachine_BadMachine ?s_BadMachine_BadDemand ?s_BadMachine_BadLetters ?s_BadMachine_BadWord ?s_BadMachine_BadSet ?s_BadMachine_BadState ?s_BadMachine_BadText ?s_BadMachine_TooMuch ?kp_BadDemand ?q_BadDemand ?v_BadDemand ?w_BadDemand ?s_BadDemand_BadMachine ?s_BadDemand_BadDemand ?s_BadDemand_BadLetters ?s_BadDemand_BadWord ?s_BadDemand_BadSet ?s_BadDemand_BadState ?s_BadDemand_BadText ?s_BadDemand_TooMuch
    (case a0 => k_is); (case l0 => k_is); (case c0 => k_is); (case k0 => k_is); (case a1 => k_is); (case l1 => k_is); (case c1 => k_is); (case k1 => k_is); (case a2 => k_is); (case l2 => k_is); (case c2 => k_is); (case k2 => k_is); (case a3 => k_is); (case l3 => k_is); (case c3 => k_is); (case k3 => k_is); (case a4 => k_is); (case l4 => k_is); (case c4 => k_is); (case k4 => k_is); (case a5 => k_is); (case l5 => k_is); (case c5 => k_is); (case k5 => k_is); (case a6 => k_is); (case l6 => k_is); (case c6 => k_is); (case k6 => k_is); (case a7 => k_is); (case l7 => k_is); (case c7 => k_is); (case k7 => k_is); (case a8 => k_is); (case l8 => k_is); (case c8 => k_is); (case k8 => k_is); (case a9 => k_is); (case l9 => k_is); (case c9 => k_is); (case k9 => k_is); (case a10 => k_is); (case l10 => k_is); (case c10 => k_is); (case k10 => k_is); (case a11 => k_is); (case l11 => k_is); (case c11 => k_is); (case k11 => k_is); (case a12 => k_is); (case l12 => k_is); (case c12 => k_is); (case k12 => k_is); (case a13 => k_is); (case l13 => k_is); (case c13 => k_is); (case k13 => k_is); (case a14 => k_is); (case l14 => k_is); (case c14 => k_is); (case k14 => k_is); (case a15 => k_is); (case l15 => k_is); (case c15 => k_is); (case k15 => k_is); (case a16 => k_is); (case l16 => k_is); (case c16 => k_is); (case k16 => k_is); (case a17 => k_is); (case l17 => k_is); (case c17 => k_is); (case k17 => k_is); (case a18 => k_is); (case l18 => k_is); (case c18 => k_is); (case k18 => k_is); (case a19 => k_is); (case l19 => k_is); (case c19 => k_is); (case k19 => k_is); (case a20 => k_is); (case l20 => k_is); (case c20 => k_is); (case k20 => k_is); (case a21 => k_is); (case l21 => k_is); (case c21 => k_is); (case k21 => k_is); (case a22 => k_is); (case l22 => k_is); (case c22 => k_is); (case k22 => k_is); (case a23 => k_is); (case l23 => k_is); (case c23 => k_is); (case k23 => k_is); (case a24 => k_is); (case l24 => k_is); (case c24 => k_is); (case k24 => k_is); (case a25 => k_is); (case l25 => k_is); (case c25 => k_is); (case k25 => k_is); (case a26 => k_is); (case l26 => k_is); (case c26 => k_is); (case k26 => k_is); (case a27 => k_is); (case l27 => k_is); (case c27 => k_is); (case k27 => k_is); (case a28 => k_is); (case l28 => k_is); (case c28 => k_is); (case k28 => k_is); (case a29 => k_is); (case l29 => k_is); (case c29 => k_is); (case k29 => k_is); (case a30 => k_is); (case l30 => k_is); (case c30 => k_is); (case k30 => k_is); (case a31 => k_is); (case l31 => k_is); (case c31 => k_is); (case k31 => k_is); (case a32 => k_is); (case l32 => k_is); (case c32 => k_is); (case k32 => k_is); (case a33 => k_is); (case l33 => k_is); (case c33 => k_is); (case k33 => k_is); (case a34 => k_is); (case l34 => k_is); (case c34 => k_is); (case k34 => k_is); (case a35 => k_is); (case l35 => k_is); (case c35 => k_is); (case k35 => k_is); (case a36 => k_is); (case l36 => k_is); (case c36 => k_is); (case k36 => k_is); (case a37 => k_is); (case l37 => k_is); (case c37 => k_is); (case k37 => k_is); (case a38 => k_is); (case l38 => k_is); (case c38 => k_is); (case k38 => k_is); (case a39 => k_is); (case l39 => k_is); (case c39 => k_is); (case k39 => k_is); (case a40 => k_is); (case l40 => k_is); (case c40 => k_is); (case k40 => k_is); (case a41 => k_is); (case l41 => k_is); (case c41 => k_is); (case k41 => k_is); (case a42 => k_is); (case l42 => k_is); (case c42 => k_is); (case k42 => k_is); (case a43 => k_is); (case l43 => k_is); (case c43 => k_is); (case k43 => k_is); (case a44 => k_is); (case l44 => k_is); (case c44 => k_is); (case k44 => k_is); (case a45 => k_is); (case l45 => k_is); (case c45 => k_is); (case k45 => k_is); (case a46 => k_is); (case l46 => k_is); (case c46 => k_is); (case k46 => k_is); (case a47 => k_is); (case l47 => k_is); (case c47 => k_is); (case k47 => k_is); (case a48 => k_is); (case l48 => k_is); (case c48 => k_is); (case k48 => k_is); (case a49 => k_is); (case l49 => k_is); (case c49 => k_is); (case k49 => k_is); (case a50 => k_is); (case l50 => k_is); (case c50 => k_is); (case k50 => k_is); (case a51 => k_is); (case l51 => k_is); (case c51 => k_is); (case k51 => k_is); (case a52 => k_is); (case l52 => k_is); (case c52 => k_is); (case k52 => k_is); (case a53 => k_is); (case l53 => k_is); (case c53 => k_is); (case k53 => k_is); (case a54 => k_is); (case l54 => k_is); (case c54 => k_is); (case k54 => k_is); (case a55 => k_is); (case l55 => k_is); (case c55 => k_is); (case k55 => k_is); (case a56 => k_is); (case l56 => k_is); (case c56 => k_is); (case k56 => k_is); (case a57 => k_is); (case l57 => k_is); (case c57 => k_is); (case k57 => k_is); (case a58 => k_is); (case l58 => k_is); (case c58 => k_is); (case k58 => k_is); (case z_ValueError => k_is); (case z_abs => k_is); (case z_all => k_is); (case z_bool => k_is); (case z_int => k_is); (case z_isinstance => k_is); (case z_len => k_is); (case z_list => k_is); (case z_range => k_is); (case z_set => k_is); (case z_sorted => k_is); (case z_sum => k_is); (case z_tuple => k_is); (case c_LONGEST_WORD => k_is); (case c_MOST_DEMAND_STATES => k_is); (case c_MOST_EDGES => k_is); (case c_MOST_LETTERS => k_is); (case c_MOST_STATES => k_is); (case hn => k_is); (case ht => k_is); (case g_BadMachine => k_is); (case hg_BadMachine => k_is); (case hk_BadMachine => k_is); (case hs_BadMachine => k_is); (case hd_BadMachine => k_is); (case ha_BadMachine => k_is); (case hm_BadMachine => k_is); (case ty_BadMachine => k_is); (case me_BadMachine => k_is); (case g_BadDemand => k_is); (case hg_BadDemand => k_is); (case hk_BadDemand => k_is); (case hs_BadDemand => k_is); (case hd_BadDemand => k_is); (case ha_BadDemand => k_is); (case hm_BadDemand => k_is); (case ty_BadDemand => k_is); (case me_BadDemand => k_is); (case g_BadLetters => k_is); (case hg_BadLetters => k_is); (case hk_BadLetters => k_is); (case hs_BadLetters => k_is); (case hd_BadLetters => k_is); (case ha_BadLetters => k_is); (case hm_BadLetters => k_is); (case ty_BadLetters => k_is); (case me_BadLetters => k_is); (case g_BadWord => k_is); (case hg_BadWord => k_is); (case hk_BadWord => k_is); (case hs_BadWord => k_is); (case hd_BadWord => k_is); (case ha_BadWord => k_is); (case hm_BadWord => k_is); (case ty_BadWord => k_is); (case me_BadWord => k_is); (case g_BadSet => k_is); (case hg_BadSet => k_is); (case hk_BadSet => k_is); (case hs_BadSet => k_is); (case hd_BadSet => k_is); (case ha_BadSet => k_is); (case hm_BadSet => k_is); (case ty_BadSet => k_is); (case me_BadSet => k_is); (case g_BadState => k_is); (case hg_BadState => k_is); (case hk_BadState => k_is); (case hs_BadState => k_is); (case hd_BadState => k_is); (case ha_BadState => k_is); (case hm_BadState => k_is); (case ty_BadState => k_is); (case me_BadState => k_is); (case g_BadText => k_is); (case hg_BadText => k_is); (case hk_BadText => k_is); (case hs_BadText => k_is); (case hd_BadText => k_is); (case ha_BadText => k_is); (case hm_BadText => k_is); (case ty_BadText => k_is); (case me_BadText => k_is); (case g_TooMuch => k_is); (case hg_TooMuch => k_is); (case hk_TooMuch => k_is); (case hs_TooMuch => k_is); (case hd_TooMuch => k_is); (case ha_TooMuch => k_is); (case hm_TooMuch => k_is); (case ty_TooMuch => k_is); (case me_TooMuch => k_is); (case g_SpandrelError => k_is); (case hg_SpandrelError => k_is); (case hk_SpandrelError => k_is); (case hs_SpandrelError => k_is); (case hd_SpandrelError => k_is); (case ha_SpandrelError => k_is); (case hm_SpandrelError => k_is); (case ty_SpandrelError => k_is); (case me_SpandrelError => k_is); (case kp_BadWord => k_is); (case q_BadWord => k_exc); (case v_BadWord => k_is); (case w_BadWord => k_is); (case s_BadWord_BadMachine => k_is); (case s_BadWord_BadDemand => k_is); (case s_BadWord_BadLetters => k_is); (case s_BadWord_BadWord => k_is); (case s_BadWord_BadSet => k_is); (case s_BadWord_BadState => k_is); (case s_BadWord_BadText => k_is); (case s_BadWord_TooMuch => k_is); (case kp_BadSet => k_is); (case q_BadSet => k_exc); (case v_BadSet => k_is); (case w_BadSet => k_is); (case s_BadSet_BadMachine => k_is); (case s_BadSet_BadDemand => k_is); (case s_BadSet_BadLetters => k_is); (case s_BadSet_BadWord => k_is); (case s_BadSet_BadSet => k_is); (case s_BadSet_BadState => k_is); (case s_BadSet_BadText => k_is); (case s_BadSet_TooMuch => k_is); (case kp_BadLetters => k_is); (case q_BadLetters => k_exc); (case v_BadLetters => k_is); (case w_BadLetters => k_is); (case s_BadLetters_BadMachine => k_is); (case s_BadLetters_BadDemand => k_is); (case s_BadLetters_BadLetters => k_is); (case s_BadLetters_BadWord => k_is); (case s_BadLetters_BadSet => k_is); (case s_BadLetters_BadState => k_is); (case s_BadLetters_BadText => k_is); (case s_BadLetters_TooMuch => k_is); (case kp_BadMachine => k_is); (case q_BadMachine => k_exc); (case v_BadMachine => k_is); (case w_BadMachine => k_is); (case s_BadMachine_BadMachine => k_is); (case s_BadMachine_BadDemand => k_is); (case s_BadMachine_BadLetters => k_is); (case s_BadMachine_BadWord => k_is); (case s_BadMachine_BadSet => k_is); (case s_BadMachine_BadState => k_is); (case s_BadMachine_BadText => k_is); (case s_BadMachine_TooMuch => k_is); (case kp_BadDemand => k_is); (case q_BadDemand => k_exc); (case v_BadDemand => k_is); (case w_BadDemand => k_is); (case s_BadDemand_BadMachine => k_is); (case s_BadDemand_BadDemand => k_is); (case s_BadDemand_BadLetters => k_is); (case s_BadDemand_BadWord => k_is); (case s_BadDemand_BadSet => k_is); (case s_BadDemand_BadState => k_is); (case s_BadDemand_BadText => k_is); (case s_BadDemand_TooMuch => k_is)


