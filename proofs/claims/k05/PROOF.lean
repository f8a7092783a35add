import PyProof.Rows.All
import Wide.All
import OpenK.AllK
import Wide.FinOn
import HandS.ForMost
import HandS.Deep
import HandS.Wide
import KE.KeyNested
import KE.KDictKeyed
import HandS.IsInst
import HandS.SetFor
import HandS.Strs
import HandS.Style
import HandS.ForExc
import HandS.ExcCtx
import HandS.HotCalls
import HandS.ExcIs
import HandS.TupMul
import HandS.TupAny
import HandS.SortRule
import HandS.SetBool
import HandS.Conv
import HandS.Steps
import HandS.SortInts
import HandS.Small
import HandS.More
import HandS.DictComp
import KE.GoesMore
import PyProof.EnumMake
import PyProof.EnumFor
import PyProof.Draws
import HandS.Ends
import HandS.SortOrd
import KE.KDictWalk
import KE.KDictSum
import KE.KDictDisplayH
import HandS.SetKeys
import KE.KIndexOf
import PyProof.Rows.ReprOcc
import PyProof.ReprBulk
import PySem.Challenge.RW_spandrel_k05_products_of_machines
set_option Elab.async false
set_option linter.all false
set_option maxRecDepth 100000
set_option autoImplicit false
namespace Z
open PySem L2

abbrev D := PySem.PyData
inductive S where
  | d (x : D)
  | o (xs : List D)
  /-- a dict of one's own: whether its keys are tuples (else ints); keys and values, in their order -/
  | m (tk : Bool) (kvs : List (D × D))
def S.own : S → Bool
  | .d _ => false
  | .o _ => true
  | .m _ _ => true
abbrev Env := List (Option S)
inductive R where
  | d (x : D)
  | o (xs : List D)
  | b (i : Nat)
inductive Res (α : Type) where
  | no
  | ok (a : α) (ρ : Env)
  | exc (c : Nat) (ρ : Env)
inductive Out where
  | no
  | nx (ρ : Env)
  | rt (s : S) (ρ : Env)
  | bk (ρ : Env)
  | ct (ρ : Env)
  | exc (c : Nat) (ρ : Env)
def Res.bind {α β : Type} (r : Res α) (k : α → Env → Res β) : Res β :=
  match r with
  | .no => .no
  | .ok a ρ => k a ρ
  | .exc c ρ => .exc c ρ

section
variable {K : PySem.W.Frag} {G H G' H' : Hp} {a : Addr} {xs : List V} {v : V}
theorem sqT_same (e : Same H H') (h : SqT K H a xs) : SqT K H' a xs := by
  rcases h with (h | ⟨o, h⟩) | h
  · exact .inl (.inl (e _ _ h))
  · exact .inl (.inr ⟨o, e _ _ h⟩)
  · exact .inr h
mutual
theorem dp_same (e : Same H H') : ∀ (d : D) (v : V), Dp K H v d → Dp K H' v d
  | .none, _, h => by cases h; exact .non
  | .bool _, _, h => by cases h; exact .bl _
  | .int _, _, h => by cases h; exact .int _
  | .str _, _, h => by cases h; exact .str _
  | .list ds, _, h => by
    cases h with
    | lst h1 h2 => exact .lst (e.seq h1) (dpAll_same e ds _ h2)
  | .tuple ds, _, h => by
    cases h with
    | tup h1 h2 => exact .tup (sqT_same e h1) (dpAll_same e ds _ h2)
  | .dict _, _, h => by cases h
theorem dpAll_same (e : Same H H') : ∀ (ds : List D) (vs : List V), DpAll K H vs ds → DpAll K H' vs ds
  | [], _, h => by cases h; exact .nil
  | d :: ds, _, h => by
    cases h with
    | cons h1 h2 => exact .cons (dp_same e d _ h1) (dpAll_same e ds _ h2)
end
theorem dpAll_len : ∀ {ds : List D} {vs : List V}, DpAll K H vs ds → vs.length = ds.length
  | [], _, h => by cases h; rfl
  | d :: ds, _, h => by
    cases h with
    | cons h1 h2 => simp [dpAll_len h2]
theorem dpAll_get : ∀ {ds : List D} {vs : List V} {i : Nat} {d : D}, DpAll K H vs ds → ds[i]? = some d → ∃ v, vs[i]? = some v ∧ Dp K H v d
  | [], _, i, d, h, e => by simp at e
  | x :: ds, _, 0, d, h, e => by
    cases h with
    | cons h1 h2 =>
      simp at e
      subst e
      exact ⟨_, rfl, h1⟩
  | x :: ds, _, i + 1, d, h, e => by
    cases h with
    | cons h1 h2 =>
      obtain ⟨v, q1, q2⟩ := dpAll_get (i := i) h2 (by simpa using e)
      exact ⟨v, by simpa using q1, q2⟩
theorem dpAll_append : ∀ {ds es : List D} {vs ws : List V}, DpAll K H vs ds → DpAll K H ws es → DpAll K H (vs ++ ws) (ds ++ es)
  | [], _, _, _, h, q => by cases h; exact q
  | d :: ds, _, _, _, h, q => by
    cases h with
    | cons h1 h2 => exact .cons h1 (dpAll_append h2 q)
theorem dpAll_set : ∀ {ds : List D} {vs : List V} (i : Nat) {v : V} {d : D}, DpAll K H vs ds → Dp K H v d → DpAll K H (vs.set i v) (ds.set i d)
  | [], _, _, _, _, h, _ => by cases h; exact .nil
  | x :: ds, _, 0, _, _, h, q => by
    cases h with
    | cons h1 h2 => exact .cons q h2
  | x :: ds, _, i + 1, _, _, h, q => by
    cases h with
    | cons h1 h2 => exact .cons h1 (dpAll_set i h2 q)
theorem dpAll_take : ∀ {ds : List D} {vs : List V} (n : Nat), DpAll K H vs ds → DpAll K H (vs.take n) (ds.take n)
  | _, _, 0, h => .nil
  | [], _, n + 1, h => by cases h; exact .nil
  | d :: ds, _, n + 1, h => by
    cases h with
    | cons h1 h2 => exact .cons h1 (dpAll_take n h2)
theorem dpAll_drop : ∀ {ds : List D} {vs : List V} (n : Nat), DpAll K H vs ds → DpAll K H (vs.drop n) (ds.drop n)
  | _, _, 0, h => h
  | [], _, n + 1, h => by cases h; exact .nil
  | d :: ds, _, n + 1, h => by
    cases h with
    | cons h1 h2 => exact dpAll_drop n h2
theorem dp_int {i : Int} {v : V} (h : Dp K H v (.int i)) : v = .int i := by cases h; rfl
theorem dp_bool {b : Bool} {v : V} (h : Dp K H v (.bool b)) : v = .bl b := by cases h; rfl
theorem dp_none {v : V} (h : Dp K H v .none) : v = .non := by cases h; rfl
theorem dp_str {x : Str} {v : V} (h : Dp K H v (.str x)) : v = .str x := by cases h; rfl
theorem dp_tup {ds : List D} {v : V} (h : Dp K H v (.tuple ds)) : ∃ a xs, v = .ref a ∧ SqT K H a xs ∧ DpAll K H xs ds := by
  cases h with
  | tup h1 h2 => exact ⟨_, _, rfl, h1, h2⟩
theorem dp_lst {ds : List D} {v : V} (h : Dp K H v (.list ds)) : ∃ a xs, v = .ref a ∧ SqL K H a xs ∧ DpAll K H xs ds := by
  cases h with
  | lst h1 h2 => exact ⟨_, _, rfl, h1, h2⟩
theorem dpAll_ints : ∀ {ns : List Int} {vs : List V}, DpAll K H vs (ns.map PyData.int) → vs = ns.map V.int
  | [], _, h => by cases h; rfl
  | n :: ns, _, h => by
    cases h with
    | cons h1 h2 => rw [dp_int h1, dpAll_ints h2]; rfl
theorem dpAll_ofInts : ∀ (ns : List Int), DpAll K H (ns.map V.int) (ns.map PyData.int)
  | [] => .nil
  | n :: ns => .cons (.int n) (dpAll_ofInts ns)
end

theorem ne_none_of {α : Type} {x : Option α} {y : α} (h : x = some y) : x ≠ none := by rw [h]; exact fun e => nomatch e

/-! ### dicts of one's own -/
/-- a key that is a tuple (of whole numbers and such tuples) -/
def toNK : D → Option NestedKey
  | .int i => some (.num i)
  | .tuple ds => (toNKs ds).map .tup
  | _ => none
where toNKs : List D → Option (List NestedKey)
  | [] => some []
  | d :: ds => (match toNK d, toNKs ds with
    | some k, some ks => some (k :: ks)
    | _, _ => none)
inductive KvI (K : PySem.W.Frag) (G : Hp) : List (Int × V) → List (D × D) → Prop
  | nil : KvI K G [] []
  | cons {i : Int} {v : V} {d : D} {ks : List (Int × V)} {kvs : List (D × D)} : Dp K G v d → KvI K G ks kvs → KvI K G ((i, v) :: ks) ((.int i, d) :: kvs)
inductive KvN (K : PySem.W.Frag) (G : Hp) : List (NestedKey × Addr × V) → List (D × D) → Prop
  | nil : KvN K G [] []
  | cons {n : NestedKey} {b : Addr} {v : V} {k d : D} {ks : List (NestedKey × Addr × V)} {kvs : List (D × D)} : toNK k = some n → n.depth ≤ 8 → Dp K G (.ref b) k → Dp K G v d → KvN K G ks kvs → KvN K G ((n, b, v) :: ks) ((k, d) :: kvs)
/-- what is known of the one object of a dict with tuples as keys (no texts in them: the hash asks nothing of the world) -/
def rawN (a : Addr) (L : List (NestedKey × Addr × V)) : Heap → Prop := fun h => L.length ≤ sizeLine ∧ (a == sysModules) = false ∧ ∃ xs : List (NestedKey × Addr × Value),
  Paired (fun (p : NestedKey × Addr × V) (q : NestedKey × Addr × Value) => p.1 = q.1 ∧ p.2.1 = q.2.1 ∧ RelV p.2.2 q.2.2) L xs ∧
  (∃ o es ep, h.get? a = some o ∧ o.ExactDict ∧ o.data = .dict es ep ∧ ∀ w : World, es.toList = xs.map fun x => (⟨x.1.hash w, .ref x.2.1, x.2.2⟩ : DictEntry)) ∧ (xs.map (·.1)).Nodup
def NestO (a : Addr) (L : List (NestedKey × Addr × V)) : HO := .ext (rawN a L)
inductive OwnR (K : PySem.W.Frag) (G : Hp) (p : Addr) : HO → S → Prop
  | o {vs : List V} {xs : List D} : DpAll K G vs xs → OwnR K G p (.lst vs) (.o xs)
  | i {ks : List (Int × V)} {kvs : List (D × D)} : KvI K G ks kvs → OwnR K G p (.dK (ks.map fun q => (Sum.inl q.1, q.2))) (.m false kvs)
  | n {L : List (NestedKey × Addr × V)} {kvs : List (D × D)} : KvN K G L kvs → OwnR K G p (NestO p L) (.m true kvs)
theorem kvI_same {K : PySem.W.Frag} {G H : Hp} (e : Same G H) {ks : List (Int × V)} {kvs : List (D × D)} (h : KvI K G ks kvs) : KvI K H ks kvs := by
  induction h with
  | nil => exact .nil
  | cons h1 _ ih => exact .cons (dp_same e _ _ h1) ih
theorem kvN_same {K : PySem.W.Frag} {G H : Hp} (e : Same G H) {ks : List (NestedKey × Addr × V)} {kvs : List (D × D)} (h : KvN K G ks kvs) : KvN K H ks kvs := by
  induction h with
  | nil => exact .nil
  | cons h1 h0 h2 h3 _ ih => exact .cons h1 h0 (dp_same e _ _ h2) (dp_same e _ _ h3) ih
theorem OwnR.same {K : PySem.W.Frag} {G H : Hp} (e : Same G H) {p : Addr} {o : HO} {s : S} (h : OwnR K G p o s) : OwnR K H p o s := by
  cases h with
  | o h => exact .o (dpAll_same e _ _ h)
  | i h => exact .i (kvI_same e h)
  | n h => exact .n (kvN_same e h)
structure Fx where
  F : Hp
  G0 : Hp
  pins : List (Option Addr)

structure Rel (K : PySem.W.Frag) (f : Fx) (G H : Hp) (σ : L2.St) (ρ : Env) : Prop where
  len : σ.length = ρ.length
  gh : Same G H
  fh : Same f.F H
  g0 : Same f.G0 G
  gf : ∀ a, f.F a ≠ none → G a ≠ none → f.G0 a ≠ none
  pin : ∀ (i : Nat) (b : Addr), f.pins[i]? = some (some b) → σ[i]? = some (some (V.ref b)) ∧ ∃ s, ρ[i]? = some (some s) ∧ s.own = true
  dat : ∀ (i : Nat) (d : D), ρ[i]? = some (some (S.d d)) → ∃ v, σ[i]? = some (some v) ∧ Dp K G v d
  ow : ∀ (i : Nat) (s : S), ρ[i]? = some (some s) → s.own = true → ∃ p o, σ[i]? = some (some (V.ref p)) ∧ H p = some o ∧ OwnR K G p o s ∧ G p = none ∧ f.F p = none
  injS : ∀ (i j : Nat) (p : Addr) (s t : S), ρ[i]? = some (some s) → ρ[j]? = some (some t) → s.own = true → t.own = true → σ[i]? = some (some (V.ref p)) → σ[j]? = some (some (V.ref p)) → i = j
theorem Rel.own {K : PySem.W.Frag} {f : Fx} {G H : Hp} {σ : L2.St} {ρ : Env} (r : Rel K f G H σ ρ) (i : Nat) (xs : List D) (e : ρ[i]? = some (some (S.o xs))) :
    ∃ p vs, σ[i]? = some (some (V.ref p)) ∧ H p = some (HO.lst vs) ∧ DpAll K G vs xs ∧ G p = none ∧ f.F p = none := by
  obtain ⟨p, o, h1, h2, h3, h4, h5⟩ := r.ow i _ e rfl
  cases h3 with
  | o h3 => exact ⟨p, _, h1, h2, h3, h4, h5⟩
theorem Rel.inj {K : PySem.W.Frag} {f : Fx} {G H : Hp} {σ : L2.St} {ρ : Env} (r : Rel K f G H σ ρ) (i j : Nat) (p : Addr) (xs ys : List D) (e1 : ρ[i]? = some (some (S.o xs))) (e2 : ρ[j]? = some (some (S.o ys))) (e3 : σ[i]? = some (some (V.ref p))) (e4 : σ[j]? = some (some (V.ref p))) : i = j :=
  r.injS i j p _ _ e1 e2 rfl rfl e3 e4

def Grow (G H G' H' : Hp) : Prop := Same G G' ∧ Same H H' ∧ Same G' H' ∧ ∀ a, G' a ≠ none → G a ≠ none ∨ H a = none

section
variable {K : PySem.W.Frag} {f : Fx} {G H G' H' G'' H'' : Hp} {σ : L2.St} {ρ : Env}
theorem Grow.refl (e : Same G H) : Grow G H G H := ⟨.refl _, .refl _, e, fun _ h => .inl h⟩
theorem Grow.trans (x : Grow G H G' H') (y : Grow G' H' G'' H'') : Grow G H G'' H'' :=
  ⟨x.1.trans y.1, x.2.1.trans y.2.1, y.2.2.1, fun a h => by
    rcases y.2.2.2 a h with h | h
    · exact x.2.2.2 a h
    · exact .inr (x.2.1.free h)⟩
theorem same_new {H : Hp} {p : Addr} {o : HO} (h : H p = none) : Same H (upd H p o) := fun b x e => by
  rw [upd_ne (ne_of_none e h)]
  exact e
/-- a new object that is data from its birth -/
theorem Grow.data {p : Addr} {o : HO} (e : Same G H) (h : H p = none) : Grow G H (upd G p o) (upd H p o) := by
  have hg : G p = none := e.free h
  refine ⟨same_new hg, same_new h, fun b x q => ?_, fun b q => ?_⟩
  · by_cases hb : b = p
    · subst hb
      rw [upd_same] at q ⊢
      exact q
    · rw [upd_ne hb] at q ⊢
      exact e _ _ q
  · by_cases hb : b = p
    · subst hb
      exact .inr h
    · rw [upd_ne hb] at q
      exact .inl q
/-- a new object that is owned -/
theorem Grow.fresh {p : Addr} {o : HO} (e : Same G H) (h : H p = none) : Grow G H G (upd H p o) :=
  ⟨.refl _, same_new h, fun b x q => by
    rw [upd_ne (fun z => by subst z; rw [e.free h] at q; cases q)]
    exact e _ _ q, fun b q => .inl q⟩
theorem Rel.grow (r : Rel K f G H σ ρ) (g : Grow G H G' H') : Rel K f G' H' σ ρ where
  len := r.len
  gh := g.2.2.1
  fh := r.fh.trans g.2.1
  g0 := r.g0.trans g.1
  gf := fun a h1 h2 => by
    rcases g.2.2.2 a h2 with h | h
    · exact r.gf a h1 h
    · cases e : f.F a with
      | none => exact absurd e h1
      | some o =>
        rw [r.fh a o e] at h
        cases h
  pin := r.pin
  dat := fun i d h => by
    obtain ⟨v, h1, h2⟩ := r.dat i d h
    exact ⟨v, h1, dp_same g.1 _ _ h2⟩
  ow := fun i xs h hs => by
    obtain ⟨p, vs, h1, h2, h3, h4, h5⟩ := r.ow i xs h hs
    refine ⟨p, vs, h1, g.2.1 _ _ h2, h3.same g.1, ?_, h5⟩
    cases e : G' p with
    | none => rfl
    | some o =>
      rcases g.2.2.2 p (ne_none_of e) with h | h
      · exact absurd h4 h
      · rw [h2] at h
        cases h
  injS := r.injS
end

def cont (ρ : Env) (i : Nat) : Option D :=
  match ρ[i]? with
  | some (some (S.d x)) => some x
  | some (some (S.o xs)) => some (.list xs)
  | _ => none
def opd (ρ : Env) : R → Option D
  | .d x => some x
  | .o xs => some (.list xs)
  | .b i => cont ρ i
def Got (K : PySem.W.Frag) (G H : Hp) (v : V) (d : D) : Prop :=
  Dp K G v d ∨ ∃ p vs xs, v = .ref p ∧ d = .list xs ∧ H p = some (HO.lst vs) ∧ DpAll K G vs xs
def Hold (K : PySem.W.Frag) (G : Hp) (σ : L2.St) (v : V) : R → Prop
  | .d x => Dp K G v x
  | .o xs => Dp K G v (.list xs)
  | .b i => σ[i]? = some (some v)
def VRep (K : PySem.W.Frag) (f : Fx) (G H : Hp) (σ : L2.St) (ρ : Env) (v : V) : R → Prop
  | .d x => Dp K G v x
  | .b i => σ[i]? = some (some v)
  | .o xs => ∃ p vs, v = .ref p ∧ H p = some (HO.lst vs) ∧ DpAll K G vs xs ∧ G p = none ∧ f.F p = none ∧ ∀ (i : Nat) (s : S), ρ[i]? = some (some s) → s.own = true → σ[i]? ≠ some (some (V.ref p))
def NewV (K : PySem.W.Frag) (H G' H' : Hp) (v : V) : R → Prop
  | .d x => Dp K G' v x
  | .o xs => ∃ p vs, v = .ref p ∧ H p = none ∧ H' p = some (HO.lst vs) ∧ DpAll K G' vs xs ∧ G' p = none
  | .b _ => False

section
variable {K : PySem.W.Frag} {f : Fx} {G H G' H' : Hp} {σ : L2.St} {ρ : Env} {v : V} {r : R} {d : D}
theorem Got.dp (e : Same G H) (h : Got K G H v d) : Dp K H v d := by
  rcases h with h | ⟨p, vs, xs, rfl, rfl, h1, h2⟩
  · exact dp_same e _ _ h
  · exact .lst (.inl (.inl h1)) (dpAll_same e _ _ h2)
theorem Got.lst {ds : List D} (e : Same G H) (h : Got K G H v (.list ds)) : ∃ a xs, v = .ref a ∧ SqL K H a xs ∧ DpAll K G xs ds := by
  rcases h with h | ⟨p, vs, xs, rfl, q, h1, h2⟩
  · obtain ⟨a, xs, rfl, h1, h2⟩ := dp_lst h
    exact ⟨a, xs, rfl, e.seq h1, h2⟩
  · cases q
    exact ⟨p, vs, rfl, .inl (.inl h1), h2⟩
theorem Got.tup {ds : List D} (e : Same G H) (h : Got K G H v (.tuple ds)) : ∃ a xs, v = .ref a ∧ SqT K H a xs ∧ DpAll K G xs ds := by
  rcases h with h | ⟨p, vs, xs, _, q, _⟩
  · obtain ⟨a, xs, rfl, h1, h2⟩ := dp_tup h
    exact ⟨a, xs, rfl, sqT_same e h1, h2⟩
  · cases q
theorem Got.int {i : Int} (h : Got K G H v (.int i)) : v = .int i := by
  rcases h with h | ⟨p, vs, xs, _, q, _⟩
  · exact dp_int h
  · cases q
theorem Got.bool {i : Bool} (h : Got K G H v (.bool i)) : v = .bl i := by
  rcases h with h | ⟨p, vs, xs, _, q, _⟩
  · exact dp_bool h
  · cases q
theorem Got.none (h : Got K G H v .none) : v = .non := by
  rcases h with h | ⟨p, vs, xs, _, q, _⟩
  · exact dp_none h
  · cases q
theorem Got.str {x : Str} (h : Got K G H v (.str x)) : v = .str x := by
  rcases h with h | ⟨p, vs, xs, _, q, _⟩
  · exact dp_str h
  · cases q
theorem Rel.got (r : Rel K f G H σ ρ) {i : Nat} (h : cont ρ i = some d) : ∃ v, σ[i]? = some (some v) ∧ Got K G H v d := by
  unfold cont at h
  split at h
  · next x e =>
    cases h
    obtain ⟨v, h1, h2⟩ := r.dat i _ e
    exact ⟨v, h1, .inl h2⟩
  · next xs e =>
    cases h
    obtain ⟨p, vs, h1, h2, h3, h4, h5⟩ := r.own i _ e
    exact ⟨_, h1, .inr ⟨p, vs, xs, rfl, rfl, h2, h3⟩⟩
  · cases h
theorem Hold.got (rl : Rel K f G H σ ρ) (h : Hold K G σ v r) (e : opd ρ r = some d) : Got K G H v d := by
  cases r with
  | d x => cases e; exact .inl h
  | o xs => cases e; exact .inl h
  | b i =>
    obtain ⟨u, h1, h2⟩ := rl.got (show cont ρ i = some d from e)
    have h3 : σ[i]? = some (some v) := h
    rw [h3] at h1
    cases h1
    exact h2
theorem Hold.same (e : Same G G') (h : Hold K G σ v r) : Hold K G' σ v r := by
  cases r with
  | d x => exact dp_same e _ _ h
  | o xs => exact dp_same e _ _ h
  | b i => exact h
/-- a fresh list becomes data -/
theorem VRep.hold (rl : Rel K f G H σ ρ) (h : VRep K f G H σ ρ v r) : ∃ G', Same G G' ∧ Rel K f G' H σ ρ ∧ Hold K G' σ v r := by
  cases r with
  | d x => exact ⟨G, .refl _, rl, h⟩
  | b i => exact ⟨G, .refl _, rl, h⟩
  | o xs =>
    obtain ⟨p, vs, rfl, h1, h2, h3, h4, h5⟩ := h
    have sm : Same G (upd G p (.lst vs)) := same_new h3
    refine ⟨upd G p (.lst vs), sm, ⟨rl.len, fun b x q => ?_, rl.fh, rl.g0.trans sm, fun a q1 q2 => ?_, rl.pin, fun i d q => ?_, fun i ys q hs => ?_, rl.injS⟩, ?_⟩
    · by_cases hb : b = p
      · subst hb
        rw [upd_same] at q
        cases q
        exact h1
      · rw [upd_ne hb] at q
        exact rl.gh _ _ q
    · by_cases hb : a = p
      · subst hb
        exact absurd h4 q1
      · rw [upd_ne hb] at q2
        exact rl.gf a q1 q2
    · obtain ⟨v, q1, q2⟩ := rl.dat i d q
      exact ⟨v, q1, dp_same sm _ _ q2⟩
    · obtain ⟨p', vs', q1, q2, q3, q4, q5⟩ := rl.ow i ys q hs
      refine ⟨p', vs', q1, q2, q3.same sm, ?_, q5⟩
      rw [upd_ne]
      · exact q4
      · intro z
        subst z
        exact h5 i ys q hs q1
    · exact .lst (.inl (.inl upd_same)) (dpAll_same sm _ _ h2)
theorem NewV.vrep (rl : Rel K f G H σ ρ) (g : Grow G H G' H') (h : NewV K H G' H' v r) : VRep K f G' H' σ ρ v r := by
  cases r with
  | d x => exact h
  | b i => exact h.elim
  | o xs =>
    obtain ⟨p, vs, rfl, h1, h2, h3, h4⟩ := h
    refine ⟨p, vs, rfl, h2, h3, h4, rl.fh.free h1, fun i ys q hs z => ?_⟩
    obtain ⟨p', vs', q1, q2, _⟩ := rl.ow i ys q hs
    rw [z] at q1
    cases q1
    rw [h1] at q2
    cases q2
end

/-! ### judgements -/
abbrev Wish := L2.St → Nat → Hp → Prop
section
variable (K : PySem.W.Frag) (P : Nat) (W : Wish)
def CE (f : Fx) (G : Hp) (σ : L2.St) (Q : VK) : Res R → Prop
  | .no => False
  | .ok r ρ => ∀ v G' H', Same G G' → Rel K f G' H' σ ρ → VRep K f G' H' σ ρ v r → Q v H'
  | .exc c ρ => ∀ G' H', Same G G' → Rel K f G' H' σ ρ → W σ c H'
def CO (f : Fx) (G : Hp) (σ : L2.St) (Q : VK) : Res R → Prop
  | .no => False
  | .ok r ρ => ∀ v G' H', Same G G' → Rel K f G' H' σ ρ → Hold K G' σ v r → Q v H'
  | .exc c ρ => ∀ G' H', Same G G' → Rel K f G' H' σ ρ → W σ c H'
def CT (f : Fx) (G : Hp) (σ : L2.St) (Q : Bool → Hp → Prop) : Res Bool → Prop
  | .no => False
  | .ok b ρ => ∀ G' H', Same G G' → Rel K f G' H' σ ρ → Q b H'
  | .exc c ρ => ∀ G' H', Same G G' → Rel K f G' H' σ ρ → W σ c H'
inductive HoldAll (G : Hp) (σ : L2.St) : List V → List R → Prop
  | nil : HoldAll G σ [] []
  | cons {v : V} {vs : List V} {r : R} {rs : List R} : Hold K G σ v r → HoldAll G σ vs rs → HoldAll G σ (v :: vs) (r :: rs)
def CA (f : Fx) (G : Hp) (σ : L2.St) (Q : List V → Hp → Prop) : Res (List R) → Prop
  | .no => False
  | .ok rs ρ => ∀ vs G' H', Same G G' → Rel K f G' H' σ ρ → HoldAll K G' σ vs rs → Q vs H'
  | .exc c ρ => ∀ G' H', Same G G' → Rel K f G' H' σ ρ → W σ c H'
def SimE (t : TE) (m : Env → Res R) : Prop := ∀ (f : Fx) (G H : Hp) (σ : L2.St) (ρ : Env) (Q : VK), f.pins.length = P → Rel K f G H σ ρ → CE K W f G σ Q (m ρ) → t σ H Q
def SimT (t : TT) (m : Env → Res Bool) : Prop := ∀ (f : Fx) (G H : Hp) (σ : L2.St) (ρ : Env) (Q : Bool → Hp → Prop), f.pins.length = P → Rel K f G H σ ρ → CT K W f G σ Q (m ρ) → t σ H Q
def SimA (t : TA) (m : Env → Res (List R)) : Prop := ∀ (f : Fx) (G H : Hp) (σ : L2.St) (ρ : Env) (Q : List V → Hp → Prop), f.pins.length = P → Rel K f G H σ ρ → CA K W f G σ Q (m ρ) → t σ H Q
end

section
variable {K : PySem.W.Frag} {P : Nat} {W : Wish} {f : Fx} {G H G' H' : Hp} {σ : L2.St} {ρ : Env} {ta tb te : TE} {ma mb me : Env → Res R}
theorem CE.same {Q : VK} {r : Res R} (e : Same G G') (h : CE K W f G σ Q r) : CE K W f G' σ Q r := by
  cases r with
  | no => exact h
  | ok x ρ => exact fun v G1 H1 s => h v G1 H1 (e.trans s)
  | exc c ρ => exact fun G1 H1 s => h G1 H1 (e.trans s)
theorem CO.same {Q : VK} {r : Res R} (e : Same G G') (h : CO K W f G σ Q r) : CO K W f G' σ Q r := by
  cases r with
  | no => exact h
  | ok x ρ => exact fun v G1 H1 s => h v G1 H1 (e.trans s)
  | exc c ρ => exact fun G1 H1 s => h G1 H1 (e.trans s)
theorem CT.same {Q : Bool → Hp → Prop} {r : Res Bool} (e : Same G G') (h : CT K W f G σ Q r) : CT K W f G' σ Q r := by
  cases r with
  | no => exact h
  | ok x ρ => exact fun G1 H1 s => h G1 H1 (e.trans s)
  | exc c ρ => exact fun G1 H1 s => h G1 H1 (e.trans s)
theorem CA.same {Q : List V → Hp → Prop} {r : Res (List R)} (e : Same G G') (h : CA K W f G σ Q r) : CA K W f G' σ Q r := by
  cases r with
  | no => exact h
  | ok x ρ => exact fun v G1 H1 s => h v G1 H1 (e.trans s)
  | exc c ρ => exact fun G1 H1 s => h G1 H1 (e.trans s)
/-- as an operand -/
theorem SimE.op (h : SimE K P W te me) {Q : VK} (hp : f.pins.length = P) (rl : Rel K f G H σ ρ) (hq : CO K W f G σ Q (me ρ)) : te σ H Q := by
  refine h f G H σ ρ Q hp rl ?_
  cases e : me ρ with
  | no => rw [e] at hq; exact hq
  | exc c ρ' => rw [e] at hq; exact hq
  | ok r ρ' =>
    rw [e] at hq
    intro v G1 H1 s1 r1 v1
    obtain ⟨G2, s2, r2, v2⟩ := v1.hold r1
    exact hq v G2 H1 (s1.trans s2) r2 v2
end

/-! ### names, constants -/
def mVar (i : Nat) : Env → Res R := fun ρ => match ρ[i]? with
  | some (some (S.d x)) => .ok (.d x) ρ
  | some (some (S.o _)) => .ok (.b i) ρ
  | some (some (S.m _ _)) => .ok (.b i) ρ
  | _ => .no
def mC (x : D) : Env → Res R := fun ρ => .ok (.d x) ρ
inductive CV : V → D → Prop
  | non : CV .non .none
  | bl (b : Bool) : CV (.bl b) (.bool b)
  | int (i : Int) : CV (.int i) (.int i)
  | str (x : Str) : CV (.str x) (.str x)
theorem CV.dp {K : PySem.W.Frag} {G : Hp} {v : V} {d : D} (h : CV v d) : Dp K G v d := by
  cases h with
  | non => exact .non
  | bl b => exact .bl b
  | int i => exact .int i
  | str x => exact .str x
section
variable {K : PySem.W.Frag} {P : Nat} {W : Wish}
theorem sim_var {i : Nat} : SimE K P W (tVar i) (mVar i) := by
  intro f G H σ ρ Q hp rl hq
  unfold mVar at hq
  split at hq
  · next x e =>
    obtain ⟨v, h1, h2⟩ := rl.dat i _ e
    exact ⟨v, h1, hq v G H (.refl _) rl h2⟩
  · next xs e =>
    obtain ⟨p, vs, h1, h2, _⟩ := rl.own i _ e
    exact ⟨_, h1, hq _ G H (.refl _) rl h1⟩
  · next xs e =>
    obtain ⟨p, o, h1, h2, _⟩ := rl.ow i _ e rfl
    exact ⟨_, h1, hq _ G H (.refl _) rl h1⟩
  · exact hq.elim
theorem sim_c {v : V} {x : D} (h : CV v x) : SimE K P W (tC v) (mC x) := fun f G H σ ρ Q hp rl hq => hq v G H (.refl _) rl h.dp
end

/-! ### operators -/
def mUn (g : D → Option R) (ma : Env → Res R) : Env → Res R := fun ρ => (ma ρ).bind fun r1 ρ1 => match opd ρ1 r1 with
  | some x => (match g x with
    | some z => .ok z ρ1
    | none => .no)
  | none => .no
def mBin (g : D → D → Option R) (ma mb : Env → Res R) : Env → Res R := fun ρ => (ma ρ).bind fun r1 ρ1 => (mb ρ1).bind fun r2 ρ2 => match opd ρ2 r1, opd ρ2 r2 with
  | some x, some y => (match g x y with
    | some z => .ok z ρ2
    | none => .no)
  | _, _ => .no
def OpS (K : PySem.W.Frag) (r : R2) (g : D → D → Option R) : Prop := ∀ (G H : Hp) (x y : V) (d e : D) (z : R) (Q : VK), Same G H → Got K G H x d → Got K G H y e → g d e = some z →
  (∀ v G' H', Grow G H G' H' → NewV K H G' H' v z → Q v H') → r x y H Q
def UnS (K : PySem.W.Frag) (r : V → Hp → VK → Prop) (g : D → Option R) : Prop := ∀ (G H : Hp) (x : V) (d : D) (z : R) (Q : VK), Same G H → Got K G H x d → g d = some z →
  (∀ v G' H', Grow G H G' H' → NewV K H G' H' v z → Q v H') → r x H Q
section
variable {K : PySem.W.Frag} {P : Nat} {W : Wish} {ta tb : TE} {ma mb : Env → Res R}
theorem sim_op {r : R2} {g : D → D → Option R} (h : OpS K r g) (ha : SimE K P W ta ma) (hb : SimE K P W tb mb) : SimE K P W (tOp r ta tb) (mBin g ma mb) := by
  intro f G H σ ρ Q hp rl hq
  refine ha.op hp rl ?_
  unfold mBin at hq
  cases e1 : ma ρ with
  | no => rw [e1] at hq; exact hq
  | exc c ρ1 => rw [e1] at hq; exact hq
  | ok r1 ρ1 =>
    rw [e1] at hq
    intro v1 G1 H1 s1 rl1 h1
    refine hb.op hp rl1 ?_
    have hq : CE K W f G σ Q ((mb ρ1).bind fun r2 ρ2 => match opd ρ2 r1, opd ρ2 r2 with
      | some x, some y => (match g x y with
        | some z => .ok z ρ2
        | none => .no)
      | _, _ => .no) := hq
    cases e2 : mb ρ1 with
    | no => rw [e2] at hq; exact hq
    | exc c ρ2 => rw [e2] at hq; exact CE.same s1 hq
    | ok r2 ρ2 =>
      rw [e2] at hq
      intro v2 G2 H2 s2 rl2 h2
      have hq : CE K W f G σ Q (match opd ρ2 r1, opd ρ2 r2 with
        | some x, some y => (match g x y with
          | some z => .ok z ρ2
          | none => .no)
        | _, _ => .no) := hq
      split at hq
      · next x y ex ey =>
        split at hq
        · next z ez =>
          refine h G2 H2 v1 v2 x y z Q rl2.gh ((h1.same s2).got rl2 ex) (h2.got rl2 ey) ez fun v G3 H3 gr nv => ?_
          exact hq v G3 H3 ((s1.trans s2).trans gr.1) (rl2.grow gr) (nv.vrep rl2 gr)
        · exact hq.elim
      · exact hq.elim
theorem sim_un {r : V → Hp → VK → Prop} {g : D → Option R} (h : UnS K r g) (ha : SimE K P W ta ma) : SimE K P W (tUn r ta) (mUn g ma) := by
  intro f G H σ ρ Q hp rl hq
  refine ha.op hp rl ?_
  unfold mUn at hq
  cases e1 : ma ρ with
  | no => rw [e1] at hq; exact hq
  | exc c ρ1 => rw [e1] at hq; exact hq
  | ok r1 ρ1 =>
    rw [e1] at hq
    intro v1 G1 H1 s1 rl1 h1
    have hq : CE K W f G σ Q (match opd ρ1 r1 with
      | some x => (match g x with
        | some z => .ok z ρ1
        | none => .no)
      | none => .no) := hq
    split at hq
    · next x ex =>
      split at hq
      · next z ez =>
        refine h G1 H1 v1 x z Q rl1.gh (h1.got rl1 ex) ez fun v G3 H3 gr nv => ?_
        exact hq v G3 H3 (s1.trans gr.1) (rl1.grow gr) (nv.vrep rl1 gr)
      · exact hq.elim
    · exact hq.elim
end
end Z
namespace Z
open PySem L2

/-! ### tests -/
def mTest (me : Env → Res R) : Env → Res Bool := fun ρ => (me ρ).bind fun r ρ1 => match r with
  | .d (.bool k) => .ok k ρ1
  | _ => .no
def tru : D → Option Bool
  | .none => some false
  | .bool b => some b
  | .int i => some (i != 0)
  | .list xs => some (!xs.isEmpty)
  | .tuple xs => some (!xs.isEmpty)
  | _ => none
def mTru (me : Env → Res R) : Env → Res Bool := fun ρ => (me ρ).bind fun r ρ1 => match opd ρ1 r with
  | some x => (match tru x with
    | some b => .ok b ρ1
    | none => .no)
  | none => .no
def mNot (mt : Env → Res Bool) : Env → Res Bool := fun ρ => (mt ρ).bind fun b ρ1 => .ok (!b) ρ1
def mAnd (mt mu : Env → Res Bool) : Env → Res Bool := fun ρ => (mt ρ).bind fun b ρ1 => if b = true then mu ρ1 else .ok false ρ1
def mOr (mt mu : Env → Res Bool) : Env → Res Bool := fun ρ => (mt ρ).bind fun b ρ1 => if b = true then .ok true ρ1 else mu ρ1
def mYes : Env → Res Bool := fun ρ => .ok true ρ
def mNotV (ma : Env → Res R) : Env → Res R := fun ρ => (ma ρ).bind fun r ρ1 => match r with
  | .d (.bool k) => .ok (.d (.bool (!k))) ρ1
  | _ => .no
def mAndV (ma mb : Env → Res R) : Env → Res R := fun ρ => (ma ρ).bind fun r ρ1 => match r with
  | .d (.bool k) => if k = true then mb ρ1 else .ok (.d (.bool false)) ρ1
  | _ => .no
def mOrV (ma mb : Env → Res R) : Env → Res R := fun ρ => (ma ρ).bind fun r ρ1 => match r with
  | .d (.bool k) => if k = true then .ok (.d (.bool true)) ρ1 else mb ρ1
  | _ => .no
def mIf (mt : Env → Res Bool) (ma mb : Env → Res R) : Env → Res R := fun ρ => (mt ρ).bind fun b ρ1 => if b = true then ma ρ1 else mb ρ1
def zTru (K : PySem.W.Frag) (te : TE) : TT := fun σ H Q => te σ H fun x H' => ∃ k, TruV K x H' k ∧ Q k H'
theorem zpt_tru {X : Cx} {a : Expr} {ta : TE} (K : PySem.W.Frag) (ha : PE X a ta) (hK : X.K = K := by rfl) (he : ∀ whole, isTrue a X.env whole = (do let v ← whole; standAt a.pos; holding [v] (truthy v)) := by intro _; rfl) : PT X a (zTru K ta) := by
  subst hK
  exact pt_truth ha he

section
variable {K : PySem.W.Frag} {P : Nat} {W : Wish} {te ta tb : TE} {me ma mb : Env → Res R} {t u : TT} {mt mu : Env → Res Bool}
theorem dpAll_empty {G : Hp} {vs : List V} {ds : List D} (h : DpAll K G vs ds) : (!vs.isEmpty) = (!ds.isEmpty) := by
  cases h <;> rfl
theorem tru_got {G H : Hp} {v : V} {x : D} {b : Bool} (e : Same G H) (h : Got K G H v x) (ht : tru x = some b) : TruV K v H b := by
  cases x with
  | none => rw [h.none]; cases ht; exact rfl
  | bool k => rw [h.bool]; cases ht; exact rfl
  | int i => rw [h.int]; cases ht; exact rfl
  | str s => cases ht
  | list xs =>
    cases ht
    obtain ⟨a, vs, rfl, h1, h2⟩ := h.lst e
    exact .inl ⟨vs, h1, (dpAll_empty h2).symm⟩
  | tuple xs =>
    cases ht
    obtain ⟨a, vs, rfl, h1, h2⟩ := h.tup e
    exact .inr (.inl ⟨vs, h1, (dpAll_empty h2).symm⟩)
  | dict _ => cases ht
theorem sim_test (h : SimE K P W te me) : SimT K P W (tTest te) (mTest me) := by
  intro f G H σ ρ Q hp rl hq
  refine h.op hp rl ?_
  unfold mTest at hq
  cases e1 : me ρ with
  | no => rw [e1] at hq; exact hq
  | exc c ρ1 => rw [e1] at hq; exact hq
  | ok r1 ρ1 =>
    rw [e1] at hq
    intro v1 G1 H1 s1 rl1 h1
    cases r1 with
    | o xs => exact hq.elim
    | b i => exact hq.elim
    | d x =>
      cases x with
      | bool k =>
        have e : v1 = .bl k := dp_bool h1
        subst e
        exact ⟨k, rfl, hq G1 H1 s1 rl1⟩
      | _ => exact hq.elim
theorem sim_tru (h : SimE K P W te me) : SimT K P W (zTru K te) (mTru me) := by
  intro f G H σ ρ Q hp rl hq
  refine h.op hp rl ?_
  unfold mTru at hq
  cases e1 : me ρ with
  | no => rw [e1] at hq; exact hq
  | exc c ρ1 => rw [e1] at hq; exact hq
  | ok r1 ρ1 =>
    rw [e1] at hq
    intro v1 G1 H1 s1 rl1 h1
    have hq : CT K W f G σ Q (match opd ρ1 r1 with
      | some x => (match tru x with
        | some b => .ok b ρ1
        | none => .no)
      | none => .no) := hq
    split at hq
    · next x ex =>
      split at hq
      · next b eb => exact ⟨b, tru_got rl1.gh (h1.got rl1 ex) eb, hq G1 H1 s1 rl1⟩
      · exact hq.elim
    · exact hq.elim
theorem sim_yes : SimT K P W tYes mYes := fun f G H σ ρ Q hp rl hq => hq G H (.refl _) rl
theorem sim_not (h : SimT K P W t mt) : SimT K P W (tNot t) (mNot mt) := by
  intro f G H σ ρ Q hp rl hq
  refine h f G H σ ρ _ hp rl ?_
  unfold mNot at hq
  cases e1 : mt ρ with
  | no => rw [e1] at hq; exact hq
  | exc c ρ1 => rw [e1] at hq; exact hq
  | ok b ρ1 => rw [e1] at hq; exact hq
theorem sim_and (h : SimT K P W t mt) (h2 : SimT K P W u mu) : SimT K P W (tAnd t u) (mAnd mt mu) := by
  intro f G H σ ρ Q hp rl hq
  refine h f G H σ ρ _ hp rl ?_
  unfold mAnd at hq
  cases e1 : mt ρ with
  | no => rw [e1] at hq; exact hq
  | exc c ρ1 => rw [e1] at hq; exact hq
  | ok b ρ1 =>
    rw [e1] at hq
    intro G1 H1 s1 rl1
    cases b with
    | true =>
      rw [if_pos rfl]
      exact h2 f G1 H1 σ ρ1 Q hp rl1 (CT.same s1 hq)
    | false =>
      rw [if_neg Bool.false_ne_true]
      exact hq G1 H1 s1 rl1
theorem sim_or (h : SimT K P W t mt) (h2 : SimT K P W u mu) : SimT K P W (tOr t u) (mOr mt mu) := by
  intro f G H σ ρ Q hp rl hq
  refine h f G H σ ρ _ hp rl ?_
  unfold mOr at hq
  cases e1 : mt ρ with
  | no => rw [e1] at hq; exact hq
  | exc c ρ1 => rw [e1] at hq; exact hq
  | ok b ρ1 =>
    rw [e1] at hq
    intro G1 H1 s1 rl1
    cases b with
    | true =>
      rw [if_pos rfl]
      exact hq G1 H1 s1 rl1
    | false =>
      rw [if_neg Bool.false_ne_true]
      exact h2 f G1 H1 σ ρ1 Q hp rl1 (CT.same s1 hq)
theorem sim_if (h : SimT K P W t mt) (h1 : SimE K P W ta ma) (h2 : SimE K P W tb mb) : SimE K P W (tIf t ta tb) (mIf mt ma mb) := by
  intro f G H σ ρ Q hp rl hq
  refine h f G H σ ρ _ hp rl ?_
  unfold mIf at hq
  cases e1 : mt ρ with
  | no => rw [e1] at hq; exact hq
  | exc c ρ1 => rw [e1] at hq; exact hq
  | ok b ρ1 =>
    rw [e1] at hq
    intro G1 H1 s1 rl1
    cases b with
    | true =>
      rw [if_pos rfl]
      exact h1 f G1 H1 σ ρ1 Q hp rl1 (CE.same s1 hq)
    | false =>
      rw [if_neg Bool.false_ne_true]
      exact h2 f G1 H1 σ ρ1 Q hp rl1 (CE.same s1 hq)
theorem sim_notV (h : SimE K P W te me) : SimE K P W (tNotV te) (mNotV me) := by
  intro f G H σ ρ Q hp rl hq
  refine h.op hp rl ?_
  unfold mNotV at hq
  cases e1 : me ρ with
  | no => rw [e1] at hq; exact hq
  | exc c ρ1 => rw [e1] at hq; exact hq
  | ok r1 ρ1 =>
    rw [e1] at hq
    intro v1 G1 H1 s1 rl1 h1
    cases r1 with
    | o xs => exact hq.elim
    | b i => exact hq.elim
    | d x =>
      cases x with
      | bool k =>
        have e : v1 = .bl k := dp_bool h1
        subst e
        exact ⟨k, rfl, hq _ G1 H1 s1 rl1 (.bl _)⟩
      | _ => exact hq.elim
theorem sim_andV (h : SimE K P W ta ma) (h2 : SimE K P W tb mb) : SimE K P W (tAndV ta tb) (mAndV ma mb) := by
  intro f G H σ ρ Q hp rl hq
  refine h.op hp rl ?_
  unfold mAndV at hq
  cases e1 : ma ρ with
  | no => rw [e1] at hq; exact hq
  | exc c ρ1 => rw [e1] at hq; exact hq
  | ok r1 ρ1 =>
    rw [e1] at hq
    intro v1 G1 H1 s1 rl1 h1
    cases r1 with
    | o xs => exact hq.elim
    | b i => exact hq.elim
    | d x =>
      cases x with
      | bool k =>
        have e : v1 = .bl k := dp_bool h1
        subst e
        refine ⟨k, rfl, ?_⟩
        cases k with
        | true =>
          rw [if_pos rfl]
          exact h2 f G1 H1 σ ρ1 Q hp rl1 (CE.same s1 hq)
        | false =>
          rw [if_neg Bool.false_ne_true]
          exact hq _ G1 H1 s1 rl1 (.bl _)
      | _ => exact hq.elim
theorem sim_orV (h : SimE K P W ta ma) (h2 : SimE K P W tb mb) : SimE K P W (tOrV ta tb) (mOrV ma mb) := by
  intro f G H σ ρ Q hp rl hq
  refine h.op hp rl ?_
  unfold mOrV at hq
  cases e1 : ma ρ with
  | no => rw [e1] at hq; exact hq
  | exc c ρ1 => rw [e1] at hq; exact hq
  | ok r1 ρ1 =>
    rw [e1] at hq
    intro v1 G1 H1 s1 rl1 h1
    cases r1 with
    | o xs => exact hq.elim
    | b i => exact hq.elim
    | d x =>
      cases x with
      | bool k =>
        have e : v1 = .bl k := dp_bool h1
        subst e
        refine ⟨k, rfl, ?_⟩
        cases k with
        | true =>
          rw [if_pos rfl]
          exact hq _ G1 H1 s1 rl1 (.bl _)
        | false =>
          rw [if_neg Bool.false_ne_true]
          exact h2 f G1 H1 σ ρ1 Q hp rl1 (CE.same s1 hq)
      | _ => exact hq.elim
end

/-! ### making slots data; lists of operands -/
def frz1 (P : Nat) (ρ : Env) : R → Option Env
  | .b i => (match ρ[i]? with
    | some (some (S.o xs)) => if P ≤ i then some (ρ.set i (some (S.d (.list xs)))) else none
    | _ => some ρ)
  | _ => some ρ
def frzA (P : Nat) : List R → Env → Option Env
  | [], ρ => some ρ
  | r :: rs, ρ => (match frz1 P ρ r with
    | some ρ1 => frzA P rs ρ1
    | none => none)
def dopd (ρ : Env) : R → Option D
  | .d x => some x
  | .o xs => some (.list xs)
  | .b i => (match ρ[i]? with
    | some (some (S.d x)) => some x
    | _ => none)
def opds (ρ : Env) : List R → Option (List D)
  | [] => some []
  | r :: rs => (match opd ρ r, opds ρ rs with
    | some x, some xs => some (x :: xs)
    | _, _ => none)
def dopds (ρ : Env) : List R → Option (List D)
  | [] => some []
  | r :: rs => (match dopd ρ r, dopds ρ rs with
    | some x, some xs => some (x :: xs)
    | _, _ => none)
inductive GotAll (K : PySem.W.Frag) (G H : Hp) : List V → List D → Prop
  | nil : GotAll K G H [] []
  | cons {v : V} {vs : List V} {d : D} {ds : List D} : Got K G H v d → GotAll K G H vs ds → GotAll K G H (v :: vs) (d :: ds)
section
variable {K : PySem.W.Frag} {P : Nat} {W : Wish} {f : Fx} {G H G' H' : Hp} {σ : L2.St} {ρ ρ' : Env} {v : V} {r : R} {d : D} {vs : List V} {rs : List R} {ds : List D}
theorem Rel.freeze {i : Nat} {xs : List D} (rl : Rel K f G H σ ρ) (hp : f.pins.length = P) (hi : P ≤ i) (e : ρ[i]? = some (some (S.o xs))) : ∃ G', Same G G' ∧ Rel K f G' H σ (ρ.set i (some (S.d (.list xs)))) := by
  obtain ⟨p, vs, h1, h2, h3, h4, h5⟩ := rl.own i xs e
  have hil : i < ρ.length := (List.getElem?_eq_some_iff.mp e).1
  have sm : Same G (upd G p (.lst vs)) := same_new h4
  have own' : ∀ (j : Nat) (s : S), (ρ.set i (some (S.d (.list xs))))[j]? = some (some s) → s.own = true → j ≠ i ∧ ρ[j]? = some (some s) := by
    intro j ys q hs
    by_cases hj : i = j
    · subst hj
      rw [List.getElem?_set_self hil] at q
      cases q
      cases hs
    · rw [List.getElem?_set_ne hj] at q
      exact ⟨fun z => hj z.symm, q⟩
  refine ⟨upd G p (.lst vs), sm, ⟨by rw [List.length_set]; exact rl.len, fun b x q => ?_, rl.fh, rl.g0.trans sm, fun a q1 q2 => ?_, fun j b q => ?_, fun j d q => ?_, fun j ys q hs => ?_, fun j k p' ys zs q1 q2 hs1 hs2 q3 q4 => ?_⟩⟩
  · by_cases hb : b = p
    · subst hb
      rw [upd_same] at q
      cases q
      exact h2
    · rw [upd_ne hb] at q
      exact rl.gh _ _ q
  · by_cases hb : a = p
    · subst hb
      exact absurd h5 q1
    · rw [upd_ne hb] at q2
      exact rl.gf a q1 q2
  · have hj : j < P := by
      have := (List.getElem?_eq_some_iff.mp q).1
      omega
    obtain ⟨q1, ys, q2⟩ := rl.pin j b q
    exact ⟨q1, ys, by rw [List.getElem?_set_ne (by omega)]; exact q2⟩
  · by_cases hj : i = j
    · subst hj
      rw [List.getElem?_set_self hil] at q
      cases q
      exact ⟨_, h1, .lst (.inl (.inl upd_same)) (dpAll_same sm _ _ h3)⟩
    · rw [List.getElem?_set_ne hj] at q
      obtain ⟨v, q1, q2⟩ := rl.dat j d q
      exact ⟨v, q1, dp_same sm _ _ q2⟩
  · obtain ⟨hj, q⟩ := own' j ys q hs
    obtain ⟨p', vs', q1, q2, q3, q4, q5⟩ := rl.ow j ys q hs
    refine ⟨p', vs', q1, q2, q3.same sm, ?_, q5⟩
    rw [upd_ne]
    · exact q4
    · intro z
      subst z
      exact hj (rl.injS j i p' ys (.o xs) q e hs rfl q1 h1)
  · exact rl.injS j k p' ys zs (own' j ys q1 hs1).2 (own' k zs q2 hs2).2 hs1 hs2 q3 q4
theorem Rel.frz1 (rl : Rel K f G H σ ρ) (hp : f.pins.length = P) (e : frz1 P ρ r = some ρ') : ∃ G', Same G G' ∧ Rel K f G' H σ ρ' := by
  cases r with
  | d x => cases e; exact ⟨G, .refl _, rl⟩
  | o xs => cases e; exact ⟨G, .refl _, rl⟩
  | b i =>
    simp only [Z.frz1] at e
    split at e
    · next xs q =>
      split at e
      · next hi =>
        cases e
        exact rl.freeze hp hi q
      · cases e
    · cases e
      exact ⟨G, .refl _, rl⟩
theorem Rel.frzA (rl : Rel K f G H σ ρ) (hp : f.pins.length = P) (e : frzA P rs ρ = some ρ') : ∃ G', Same G G' ∧ Rel K f G' H σ ρ' := by
  induction rs generalizing ρ G with
  | nil => cases e; exact ⟨G, .refl _, rl⟩
  | cons r rs ih =>
    unfold Z.frzA at e
    split at e
    · next ρ1 q =>
      obtain ⟨G1, s1, rl1⟩ := rl.frz1 hp q
      obtain ⟨G2, s2, rl2⟩ := ih rl1 e
      exact ⟨G2, s1.trans s2, rl2⟩
    · cases e
theorem Hold.dat (rl : Rel K f G H σ ρ) (h : Hold K G σ v r) (e : dopd ρ r = some d) : Dp K G v d := by
  cases r with
  | d x => cases e; exact h
  | o xs => cases e; exact h
  | b i =>
    simp only [dopd] at e
    split at e
    · next x q =>
      cases e
      obtain ⟨u, q1, q2⟩ := rl.dat i _ q
      have h3 : σ[i]? = some (some v) := h
      rw [h3] at q1
      cases q1
      exact q2
    · cases e
theorem HoldAll.same (e : Same G G') (h : HoldAll K G σ vs rs) : HoldAll K G' σ vs rs := by
  induction h with
  | nil => exact .nil
  | cons h1 _ ih => exact .cons (h1.same e) ih
theorem HoldAll.got (rl : Rel K f G H σ ρ) (h : HoldAll K G σ vs rs) : ∀ {ds : List D}, opds ρ rs = some ds → GotAll K G H vs ds := by
  induction h with
  | nil => intro ds e; cases e; exact .nil
  | cons h1 _ ih =>
    intro ds e
    unfold opds at e
    split at e
    · next x xs q1 q2 =>
      cases e
      exact .cons (h1.got rl q1) (ih q2)
    · cases e
theorem HoldAll.dat (rl : Rel K f G H σ ρ) (h : HoldAll K G σ vs rs) : ∀ {ds : List D}, dopds ρ rs = some ds → DpAll K G vs ds := by
  induction h with
  | nil => intro ds e; cases e; exact .nil
  | cons h1 _ ih =>
    intro ds e
    unfold dopds at e
    split at e
    · next x xs q1 q2 =>
      cases e
      exact .cons (h1.dat rl q1) (ih q2)
    · cases e
theorem GotAll.dp (e : Same G H) (h : GotAll K G H vs ds) : DpAll K H vs ds := by
  induction h with
  | nil => exact .nil
  | cons h1 _ ih => exact .cons (h1.dp e) ih
end

/-! ### argument lists, displays -/
def mNil : Env → Res (List R) := fun ρ => .ok [] ρ
def mCons (ma : Env → Res R) (ms : Env → Res (List R)) : Env → Res (List R) := fun ρ => (ma ρ).bind fun r ρ1 => (ms ρ1).bind fun rs ρ2 => .ok (r :: rs) ρ2
def mTup (P : Nat) (ms : Env → Res (List R)) : Env → Res R := fun ρ => (ms ρ).bind fun rs ρ1 => match frzA P rs ρ1 with
  | some ρ2 => (match dopds ρ2 rs with
    | some ds => if ds.length ≤ 1000 then .ok (.d (.tuple ds)) ρ2 else .no
    | none => .no)
  | none => .no
def mLst (P : Nat) (ms : Env → Res (List R)) : Env → Res R := fun ρ => (ms ρ).bind fun rs ρ1 => match frzA P rs ρ1 with
  | some ρ2 => (match dopds ρ2 rs with
    | some ds => if ds.length ≤ 1000 then .ok (.o ds) ρ2 else .no
    | none => .no)
  | none => .no
theorem line1000 {n : Nat} (h : n ≤ 1000) : n ≤ sizeLine := Nat.le_trans h (by decide)
section
variable {K : PySem.W.Frag} {P : Nat} {W : Wish} {ta te : TE} {ts : TA} {ma me : Env → Res R} {ms : Env → Res (List R)}
theorem sim_nil : SimA K P W tNil mNil := fun f G H σ ρ Q hp rl hq => hq [] G H (.refl _) rl .nil
theorem sim_cons (ha : SimE K P W ta ma) (hs : SimA K P W ts ms) : SimA K P W (tCons ta ts) (mCons ma ms) := by
  intro f G H σ ρ Q hp rl hq
  refine ha.op hp rl ?_
  unfold mCons at hq
  cases e1 : ma ρ with
  | no => rw [e1] at hq; exact hq
  | exc c ρ1 => rw [e1] at hq; exact hq
  | ok r1 ρ1 =>
    rw [e1] at hq
    intro v1 G1 H1 s1 rl1 h1
    refine hs f G1 H1 σ ρ1 _ hp rl1 ?_
    have hq : CA K W f G σ Q ((ms ρ1).bind fun rs ρ2 => .ok (r1 :: rs) ρ2) := hq
    cases e2 : ms ρ1 with
    | no => rw [e2] at hq; exact hq
    | exc c ρ2 => rw [e2] at hq; exact CA.same s1 hq
    | ok rs ρ2 =>
      rw [e2] at hq
      intro vs G2 H2 s2 rl2 h2
      exact hq (v1 :: vs) G2 H2 (s1.trans s2) rl2 (.cons (h1.same s2) h2)
theorem sim_tup (h : SimA K P W ts ms) : SimE K P W (tTup ts) (mTup P ms) := by
  intro f G H σ ρ Q hp rl hq
  refine h f G H σ ρ _ hp rl ?_
  unfold mTup at hq
  cases e1 : ms ρ with
  | no => rw [e1] at hq; exact hq
  | exc c ρ1 => rw [e1] at hq; exact hq
  | ok rs ρ1 =>
    rw [e1] at hq
    intro vs G1 H1 s1 rl1 h1
    have hq : CE K W f G σ Q (match frzA P rs ρ1 with
      | some ρ2 => (match dopds ρ2 rs with
        | some ds => if ds.length ≤ 1000 then .ok (.d (.tuple ds)) ρ2 else .no
        | none => .no)
      | none => .no) := hq
    split at hq
    · next ρ2 e2 =>
      split at hq
      · next ds e3 =>
        split at hq
        · next hl =>
          obtain ⟨G2, s2, rl2⟩ := rl1.frzA hp e2
          have hd : DpAll K G2 vs ds := (h1.same s2).dat rl2 e3
          refine ⟨line1000 (by rw [dpAll_len hd]; exact hl), fun p np => ?_⟩
          have gr := Grow.data (o := HO.tup vs) rl2.gh np
          exact hq _ _ _ ((s1.trans s2).trans gr.1) (rl2.grow gr) (.tup (.inl (.inl upd_same)) (dpAll_same gr.1 _ _ hd))
        · exact hq.elim
      · exact hq.elim
    · exact hq.elim
theorem sim_lst (h : SimA K P W ts ms) : SimE K P W (tLst ts) (mLst P ms) := by
  intro f G H σ ρ Q hp rl hq
  refine h f G H σ ρ _ hp rl ?_
  unfold mLst at hq
  cases e1 : ms ρ with
  | no => rw [e1] at hq; exact hq
  | exc c ρ1 => rw [e1] at hq; exact hq
  | ok rs ρ1 =>
    rw [e1] at hq
    intro vs G1 H1 s1 rl1 h1
    have hq : CE K W f G σ Q (match frzA P rs ρ1 with
      | some ρ2 => (match dopds ρ2 rs with
        | some ds => if ds.length ≤ 1000 then .ok (.o ds) ρ2 else .no
        | none => .no)
      | none => .no) := hq
    split at hq
    · next ρ2 e2 =>
      split at hq
      · next ds e3 =>
        split at hq
        · next hl =>
          obtain ⟨G2, s2, rl2⟩ := rl1.frzA hp e2
          have hd : DpAll K G2 vs ds := (h1.same s2).dat rl2 e3
          refine ⟨line1000 (by rw [dpAll_len hd]; exact hl), fun p np => ?_⟩
          have gr := Grow.fresh (o := HO.lst vs) rl2.gh np
          have nv : NewV K H1 G2 (upd H1 p (.lst vs)) (.ref p) (.o ds) := ⟨p, vs, rfl, np, upd_same, hd, rl2.gh.free np⟩
          exact hq _ _ _ (s1.trans s2) (rl2.grow gr) (nv.vrep rl2 gr)
        · exact hq.elim
      · exact hq.elim
    · exact hq.elim
end

/-! ### calls of what is built in -/
def mCB (g : List D → Option R) (ms : Env → Res (List R)) : Env → Res R := fun ρ => (ms ρ).bind fun rs ρ1 => match opds ρ1 rs with
  | some ds => (match g ds with
    | some z => .ok z ρ1
    | none => .no)
  | none => .no
def CallS (K : PySem.W.Frag) (r : List V → Hp → VK → Prop) (g : List D → Option R) : Prop := ∀ (G H : Hp) (xs : List V) (ds : List D) (z : R) (Q : VK), Same G H → GotAll K G H xs ds → g ds = some z →
  (∀ v G' H', Grow G H G' H' → NewV K H G' H' v z → Q v H') → r xs H Q
theorem sim_cb {K : PySem.W.Frag} {P : Nat} {W : Wish} {r : List V → Hp → VK → Prop} {g : List D → Option R} {ts : TA} {ms : Env → Res (List R)} (hr : CallS K r g) (h : SimA K P W ts ms) : SimE K P W (tCB r ts) (mCB g ms) := by
  intro f G H σ ρ Q hp rl hq
  refine h f G H σ ρ _ hp rl ?_
  unfold mCB at hq
  cases e1 : ms ρ with
  | no => rw [e1] at hq; exact hq
  | exc c ρ1 => rw [e1] at hq; exact hq
  | ok rs ρ1 =>
    rw [e1] at hq
    intro vs G1 H1 s1 rl1 h1
    have hq : CE K W f G σ Q (match opds ρ1 rs with
      | some ds => (match g ds with
        | some z => .ok z ρ1
        | none => .no)
      | none => .no) := hq
    split at hq
    · next ds e2 =>
      split at hq
      · next z ez =>
        refine hr G1 H1 vs ds z Q rl1.gh (h1.got rl1 e2) ez fun v G3 H3 gr nv => ?_
        exact hq v G3 H3 (s1.trans gr.1) (rl1.grow gr) (nv.vrep rl1 gr)
      · exact hq.elim
    · exact hq.elim
/-- a chain of two comparisons -/
def mChain (g g' : D → D → Option R) (ma mb mc : Env → Res R) : Env → Res R := fun ρ => (ma ρ).bind fun r1 ρ1 => (mb ρ1).bind fun r2 ρ2 => match opd ρ2 r1, opd ρ2 r2 with
  | some x, some y => (match g x y with
    | some (.d (.bool k)) => if k = true then (mc ρ2).bind fun r3 ρ3 => (match opd ρ3 r2, opd ρ3 r3 with
        | some y', some z => (match g' y' z with
          | some w => .ok w ρ3
          | none => .no)
        | _, _ => .no) else .ok (.d (.bool false)) ρ2
    | _ => .no)
  | _, _ => .no
theorem sim_chain {K : PySem.W.Frag} {P : Nat} {W : Wish} {ta tb tc : TE} {ma mb mc : Env → Res R} {r r' : R2} {g g' : D → D → Option R} (h : OpS K r g) (h' : OpS K r' g') (ha : SimE K P W ta ma) (hb : SimE K P W tb mb) (hc : SimE K P W tc mc) :
    SimE K P W (tChain r r' ta tb tc) (mChain g g' ma mb mc) := by
  intro f G H σ ρ Q hp rl hq
  refine ha.op hp rl ?_
  unfold mChain at hq
  cases e1 : ma ρ with
  | no => rw [e1] at hq; exact hq
  | exc c ρ1 => rw [e1] at hq; exact hq
  | ok r1 ρ1 =>
    rw [e1] at hq
    intro v1 G1 H1 s1 rl1 h1
    refine hb.op hp rl1 ?_
    simp only [Res.bind] at hq
    cases e2 : mb ρ1 with
    | no => rw [e2] at hq; exact hq
    | exc c ρ2 => rw [e2] at hq; exact CE.same s1 hq
    | ok r2 ρ2 =>
      rw [e2] at hq
      intro v2 G2 H2 s2 rl2 h2
      simp only at hq
      split at hq
      · next x y ex ey =>
        split at hq
        · next k ek =>
          refine h G2 H2 v1 v2 x y _ _ rl2.gh ((h1.same s2).got rl2 ex) (h2.got rl2 ey) ek fun v G3 H3 gr nv => ?_
          have ev : v = .bl k := dp_bool nv
          subst ev
          refine ⟨k, rfl, ?_⟩
          have rl3 := rl2.grow gr
          cases k with
          | false =>
            rw [if_neg Bool.false_ne_true]
            exact hq _ G3 H3 ((s1.trans s2).trans gr.1) rl3 (.bl _)
          | true =>
            rw [if_pos rfl]
            rw [if_pos rfl] at hq
            refine hc.op hp rl3 ?_
            have s3 := (s1.trans s2).trans gr.1
            cases e3 : mc ρ2 with
            | no => rw [e3] at hq; exact hq
            | exc c ρ3 => rw [e3] at hq; exact CE.same s3 hq
            | ok r3 ρ3 =>
              rw [e3] at hq
              intro v3 G4 H4 s4 rl4 h4
              simp only at hq
              split at hq
              · next y' z ey' ez =>
                split at hq
                · next w ew =>
                  refine h' G4 H4 v2 v3 y' z w Q rl4.gh ((h2.same (gr.1.trans s4)).got rl4 ey') (h4.got rl4 ez) ew fun v G5 H5 gr5 nv5 => ?_
                  exact hq v G5 H5 ((s3.trans s4).trans gr5.1) (rl4.grow gr5) (nv5.vrep rl4 gr5)
                · exact hq.elim
              · exact hq.elim
        · exact hq.elim
      · exact hq.elim
end Z
namespace Z
open PySem L2

/-! ### statements -/
def RRep (K : PySem.W.Frag) (f : Fx) (G H : Hp) (v : V) : S → Prop
  | .d x => Dp K G v x
  | .m _ _ => False
  | .o xs => ∃ p vs, v = .ref p ∧ H p = some (HO.lst vs) ∧ DpAll K G vs xs ∧ G p = none ∧ f.F p = none ∧ ∀ (i : Nat) (b : Addr), f.pins[i]? = some (some b) → p ≠ b
def CS (K : PySem.W.Frag) (W : Wish) (f : Fx) (G : Hp) (D : Ends) : Out → Prop
  | .no => False
  | .nx ρ => ∀ G' H' σ', Same G G' → Rel K f G' H' σ' ρ → D.nx σ' H'
  | .rt s ρ => ∀ v G' H' σ', Same G G' → Rel K f G' H' σ' ρ → RRep K f G' H' v s → D.rt v H'
  | .bk ρ => ∀ G' H' σ', Same G G' → Rel K f G' H' σ' ρ → D.bk σ' H'
  | .ct ρ => ∀ G' H' σ', Same G G' → Rel K f G' H' σ' ρ → D.ct σ' H'
  | .exc c ρ => ∀ G' H' σ', Same G G' → Rel K f G' H' σ' ρ → W σ' c H'
def SimS (K : PySem.W.Frag) (P : Nat) (W : Wish) (t : TS) (m : Env → Out) : Prop := ∀ (f : Fx) (G H : Hp) (σ : L2.St) (ρ : Env) (D : Ends), f.pins.length = P → Rel K f G H σ ρ → CS K W f G D (m ρ) → t D σ H

def mSeq (ms mt : Env → Out) : Env → Out := fun ρ => match ms ρ with
  | .nx ρ1 => mt ρ1
  | o => o
def mNext : Env → Out := fun ρ => .nx ρ
def mBrk : Env → Out := fun ρ => .bk ρ
def mCt : Env → Out := fun ρ => .ct ρ
def mDrop (me : Env → Res R) : Env → Out := fun ρ => match me ρ with
  | .ok _ ρ1 => .nx ρ1
  | .exc c ρ1 => .exc c ρ1
  | .no => .no
def mRet (P : Nat) (me : Env → Res R) : Env → Out := fun ρ => match me ρ with
  | .ok (.d x) ρ1 => .rt (.d x) ρ1
  | .ok (.o xs) ρ1 => .rt (.o xs) ρ1
  | .ok (.b i) ρ1 => (match ρ1[i]? with
    | some (some (S.d x)) => .rt (.d x) ρ1
    | some (some (S.o xs)) => if P ≤ i then .rt (.o xs) (ρ1.set i none) else .no
    | _ => .no)
  | .exc c ρ1 => .exc c ρ1
  | .no => .no
def mIfS (mt : Env → Res Bool) (m1 m2 : Env → Out) : Env → Out := fun ρ => match mt ρ with
  | .ok b ρ1 => if b = true then m1 ρ1 else m2 ρ1
  | .exc c ρ1 => .exc c ρ1
  | .no => .no
def mAsg (P i : Nat) (me : Env → Res R) : Env → Out := fun ρ => match me ρ with
  | .ok (.d x) ρ1 => .nx (ρ1.set i (some (.d x)))
  | .ok (.o xs) ρ1 => .nx (ρ1.set i (some (.o xs)))
  | .ok (.b j) ρ1 => (match frz1 P ρ1 (.b j) with
    | some ρ2 => (match dopd ρ2 (.b j) with
      | some x => .nx (ρ2.set i (some (.d x)))
      | none => .no)
    | none => .no)
  | .exc c ρ1 => .exc c ρ1
  | .no => .no
def mAug (i : Nat) (g : D → D → Option R) (me : Env → Res R) : Env → Out := fun ρ => match ρ[i]? with
  | some (some (S.d x)) => (match me ρ with
    | .ok r ρ1 => (match opd ρ1 r with
      | some y => (match g x y with
        | some (.d z) => .nx (ρ1.set i (some (.d z)))
        | some (.o zs) => .nx (ρ1.set i (some (.o zs)))
        | _ => .no)
      | none => .no)
    | .exc c ρ1 => .exc c ρ1
    | .no => .no)
  | _ => .no
/-- a method that changes the list of a slot -/
def mMut (P j : Nat) (g : List D → List D → Option (List D)) (ms : Env → Res (List R)) : Env → Out := fun ρ => match ρ[j]? with
  | some (some (S.o _)) => (match ms ρ with
    | .ok rs ρ1 => (match frzA P rs ρ1 with
      | some ρ2 => (match dopds ρ2 rs, ρ2[j]? with
        | some ds, some (some (S.o xs)) => (match g xs ds with
          | some ys => .nx (ρ2.set j (some (S.o ys)))
          | none => .no)
        | _, _ => .no)
      | none => .no)
    | .exc c ρ1 => .exc c ρ1
    | .no => .no)
  | _ => .no
/-- xs[i] = e of a slot's list -/
def mSetI (P j : Nat) (me mi : Env → Res R) : Env → Out := fun ρ => match me ρ with
  | .ok r ρ1 => (match frz1 P ρ1 r with
    | some ρ2 => (match ρ2[j]? with
      | some (some (S.o _)) => (match mi ρ2 with
        | .ok (.d (.int k)) ρ3 => (match dopd ρ3 r, ρ3[j]? with
          | some x, some (some (S.o xs)) => (match ixN xs.length k with
            | some n => .nx (ρ3.set j (some (S.o (xs.set n x))))
            | none => .no)
          | _, _ => .no)
        | .exc c ρ3 => .exc c ρ3
        | _ => .no)
      | _ => .no)
    | none => .no)
  | .exc c ρ1 => .exc c ρ1
  | .no => .no

section
variable {K : PySem.W.Frag} {P : Nat} {W : Wish} {f : Fx} {G H G' H' : Hp} {σ : L2.St} {ρ ρ' : Env} {v : V} {r : R} {d : D} {vs : List V} {rs : List R} {ds : List D}
theorem CS.same {D : Ends} {o : Out} (e : Same G G') (h : CS K W f G D o) : CS K W f G' D o := by
  cases o with
  | no => exact h
  | nx ρ => exact fun G1 H1 σ1 s => h G1 H1 σ1 (e.trans s)
  | rt s ρ => exact fun v G1 H1 σ1 s => h v G1 H1 σ1 (e.trans s)
  | bk ρ => exact fun G1 H1 σ1 s => h G1 H1 σ1 (e.trans s)
  | ct ρ => exact fun G1 H1 σ1 s => h G1 H1 σ1 (e.trans s)
  | exc c ρ => exact fun G1 H1 σ1 s => h G1 H1 σ1 (e.trans s)
/-- a slot is forgotten -/
theorem Rel.forget (rl : Rel K f G H σ ρ) (hp : f.pins.length = P) {i : Nat} (hi : P ≤ i) : Rel K f G H σ (ρ.set i none) := by
  have out : ∀ (j : Nat) (s : S), (ρ.set i none)[j]? = some (some s) → ρ[j]? = some (some s) := by
    intro j s q
    by_cases hj : i = j
    · subst hj
      by_cases hil : i < ρ.length
      · rw [List.getElem?_set_self hil] at q
        cases q
      · rw [List.getElem?_eq_none (by rw [List.length_set]; omega)] at q
        cases q
    · rw [List.getElem?_set_ne hj] at q
      exact q
  refine ⟨by rw [List.length_set]; exact rl.len, rl.gh, rl.fh, rl.g0, rl.gf, fun j b q => ?_, fun j d q => rl.dat j d (out _ _ q), fun j s q => rl.ow j s (out _ _ q), fun j k p xs ys q1 q2 => rl.injS j k p xs ys (out _ _ q1) (out _ _ q2)⟩
  have hj : j < P := by
    have := (List.getElem?_eq_some_iff.mp q).1
    omega
  obtain ⟨q1, ys, q2⟩ := rl.pin j b q
  exact ⟨q1, ys, by rw [List.getElem?_set_ne (by omega)]; exact q2⟩
/-- a name gets data -/
theorem Rel.putD (rl : Rel K f G H σ ρ) (hp : f.pins.length = P) {i : Nat} (hi : P ≤ i) (h : Dp K G v d) : Rel K f G H (σ.set i (some v)) (ρ.set i (some (.d d))) := by
  by_cases hil : i < ρ.length
  · have his : i < σ.length := by rw [rl.len]; exact hil
    have out : ∀ (j : Nat) (s : S), (ρ.set i (some (.d d)))[j]? = some (some s) → s.own = true → i ≠ j ∧ ρ[j]? = some (some s) := by
      intro j s q hs
      by_cases hj : i = j
      · subst hj
        rw [List.getElem?_set_self hil] at q
        cases q
        cases hs
      · rw [List.getElem?_set_ne hj] at q
        exact ⟨hj, q⟩
    refine ⟨by rw [List.length_set, List.length_set]; exact rl.len, rl.gh, rl.fh, rl.g0, rl.gf, fun j b q => ?_, fun j x q => ?_, fun j xs q hs => ?_, fun j k p xs ys q1 q2 hs1 hs2 q3 q4 => ?_⟩
    · have hj : j < P := by
        have := (List.getElem?_eq_some_iff.mp q).1
        omega
      obtain ⟨q1, ys, q2⟩ := rl.pin j b q
      exact ⟨by rw [List.getElem?_set_ne (by omega)]; exact q1, ys, by rw [List.getElem?_set_ne (by omega)]; exact q2⟩
    · by_cases hj : i = j
      · subst hj
        rw [List.getElem?_set_self hil] at q
        cases q
        exact ⟨v, List.getElem?_set_self his, h⟩
      · rw [List.getElem?_set_ne hj] at q ⊢
        exact rl.dat j x q
    · obtain ⟨hj, q⟩ := out j xs q hs
      rw [List.getElem?_set_ne hj]
      exact rl.ow j xs q hs
    · obtain ⟨h1, q1⟩ := out j xs q1 hs1
      obtain ⟨h2, q2⟩ := out k ys q2 hs2
      rw [List.getElem?_set_ne h1] at q3
      rw [List.getElem?_set_ne h2] at q4
      exact rl.injS j k p xs ys q1 q2 hs1 hs2 q3 q4
  · rw [List.set_eq_of_length_le (by rw [rl.len]; omega), List.set_eq_of_length_le (by omega)]
    exact rl
/-- a name gets a list that nobody else has -/
theorem Rel.putS (rl : Rel K f G H σ ρ) (hp : f.pins.length = P) {i : Nat} (hi : P ≤ i) {p : Addr} {o : HO} {xs : S} (hx : xs.own = true) (h1 : H p = some o) (h2 : OwnR K G p o xs) (h3 : G p = none) (h4 : f.F p = none)
    (h5 : ∀ (i : Nat) (ys : S), ρ[i]? = some (some ys) → ys.own = true → σ[i]? ≠ some (some (V.ref p))) : Rel K f G H (σ.set i (some (.ref p))) (ρ.set i (some xs)) := by
  by_cases hil : i < ρ.length
  · have his : i < σ.length := by rw [rl.len]; exact hil
    have out : ∀ (j : Nat) (ys : S), (ρ.set i (some xs))[j]? = some (some ys) → (i = j ∧ xs = ys) ∨ (i ≠ j ∧ ρ[j]? = some (some ys)) := by
      intro j s q
      by_cases hj : i = j
      · subst hj
        rw [List.getElem?_set_self hil] at q
        cases q
        exact .inl ⟨rfl, rfl⟩
      · rw [List.getElem?_set_ne hj] at q
        exact .inr ⟨hj, q⟩
    refine ⟨by rw [List.length_set, List.length_set]; exact rl.len, rl.gh, rl.fh, rl.g0, rl.gf, fun j b q => ?_, fun j x q => ?_, fun j ys q hs => ?_, fun j k p' ys zs q1 q2 hs1 hs2 q3 q4 => ?_⟩
    · have hj : j < P := by
        have := (List.getElem?_eq_some_iff.mp q).1
        omega
      obtain ⟨q1, ys, q2⟩ := rl.pin j b q
      exact ⟨by rw [List.getElem?_set_ne (by omega)]; exact q1, ys, by rw [List.getElem?_set_ne (by omega)]; exact q2⟩
    · by_cases hj : i = j
      · subst hj
        rw [List.getElem?_set_self hil] at q
        cases q
        cases hx
      · rw [List.getElem?_set_ne hj] at q ⊢
        exact rl.dat j x q
    · rcases out j ys q with ⟨hj, e⟩ | ⟨hj, q⟩
      · subst hj
        subst e
        exact ⟨p, o, List.getElem?_set_self his, h1, h2, h3, h4⟩
      · rw [List.getElem?_set_ne hj]
        exact rl.ow j ys q hs
    · rcases out j ys q1 with ⟨h1, _⟩ | ⟨h1, q1⟩
      · subst h1
        rw [List.getElem?_set_self his] at q3
        cases q3
        rcases out k zs q2 with ⟨h2, _⟩ | ⟨h2, q2⟩
        · exact h2
        · rw [List.getElem?_set_ne h2] at q4
          exact absurd q4 (h5 k zs q2 hs2)
      · rw [List.getElem?_set_ne h1] at q3
        rcases out k zs q2 with ⟨h2, _⟩ | ⟨h2, q2⟩
        · subst h2
          rw [List.getElem?_set_self his] at q4
          cases q4
          exact absurd q3 (h5 j ys q1 hs1)
        · rw [List.getElem?_set_ne h2] at q4
          exact rl.injS j k p' ys zs q1 q2 hs1 hs2 q3 q4
  · rw [List.set_eq_of_length_le (by rw [rl.len]; omega), List.set_eq_of_length_le (by omega)]
    exact rl
theorem Rel.putO (rl : Rel K f G H σ ρ) (hp : f.pins.length = P) {i : Nat} (hi : P ≤ i) {p : Addr} {xs : List D} (h1 : H p = some (.lst vs)) (h2 : DpAll K G vs xs) (h3 : G p = none) (h4 : f.F p = none)
    (h5 : ∀ (i : Nat) (ys : S), ρ[i]? = some (some ys) → ys.own = true → σ[i]? ≠ some (some (V.ref p))) : Rel K f G H (σ.set i (some (.ref p))) (ρ.set i (some (.o xs))) :=
  rl.putS hp hi rfl h1 (.o h2) h3 h4 h5
/-- what a slot owns is changed -/
theorem Rel.changeS (rl : Rel K f G H σ ρ) {j : Nat} {p : Addr} {o' : HO} {xs ys : S} (e1 : ρ[j]? = some (some xs)) (hx : xs.own = true) (hy : ys.own = true) (e2 : σ[j]? = some (some (V.ref p))) (hG : G p = none) (hF : f.F p = none) (h : OwnR K G p o' ys) :
    Rel K f G (upd H p o') σ (ρ.set j (some ys)) := by
  have hjl : j < ρ.length := (List.getElem?_eq_some_iff.mp e1).1
  have out : ∀ (k : Nat) (zs : S), (ρ.set j (some ys))[k]? = some (some zs) → (j = k ∧ ys = zs) ∨ (j ≠ k ∧ ρ[k]? = some (some zs)) := by
    intro k s q
    by_cases hj : j = k
    · subst hj
      rw [List.getElem?_set_self hjl] at q
      cases q
      exact .inl ⟨rfl, rfl⟩
    · rw [List.getElem?_set_ne hj] at q
      exact .inr ⟨hj, q⟩
  have was : ∀ (k : Nat) (zs : S), (ρ.set j (some ys))[k]? = some (some zs) → zs.own = true → ∃ zs', ρ[k]? = some (some zs') ∧ S.own zs' = true := by
    intro k zs q hs
    rcases out k zs q with ⟨h1, _⟩ | ⟨_, q⟩
    · subst h1
      exact ⟨_, e1, hx⟩
    · exact ⟨_, q, hs⟩
  refine ⟨by rw [List.length_set]; exact rl.len, fun b x q => ?_, fun b x q => ?_, rl.g0, rl.gf, fun i b q => ?_, fun i x q => ?_, fun k zs q hs => ?_, fun k l p' zs zs' q1 q2 hs1 hs2 q3 q4 => ?_⟩
  · rw [upd_ne (fun z => by subst z; rw [hG] at q; cases q)]
    exact rl.gh _ _ q
  · rw [upd_ne (fun z => by subst z; rw [hF] at q; cases q)]
    exact rl.fh _ _ q
  · obtain ⟨q1, zs, q2, q3⟩ := rl.pin i b q
    refine ⟨q1, ?_⟩
    by_cases hj : j = i
    · subst hj
      exact ⟨ys, List.getElem?_set_self hjl, hy⟩
    · exact ⟨zs, by rw [List.getElem?_set_ne hj]; exact q2, q3⟩
  · by_cases hj : j = i
    · subst hj
      rw [List.getElem?_set_self hjl] at q
      cases q
      cases hy
    · rw [List.getElem?_set_ne hj] at q
      exact rl.dat i x q
  · rcases out k zs q with ⟨h1, h2⟩ | ⟨h1, q⟩
    · subst h1
      subst h2
      exact ⟨p, o', e2, upd_same, h, hG, hF⟩
    · obtain ⟨p', vs', q1, q2, q3, q4, q5⟩ := rl.ow k zs q hs
      refine ⟨p', vs', q1, ?_, q3, q4, q5⟩
      rw [upd_ne]
      · exact q2
      · intro z
        subst z
        exact h1 (rl.injS j k p' xs zs e1 q hx hs e2 q1)
  · obtain ⟨z1, w1, w3⟩ := was k zs q1 hs1
    obtain ⟨z2, w2, w4⟩ := was l zs' q2 hs2
    exact rl.injS k l p' z1 z2 w1 w2 w3 w4 q3 q4

theorem Rel.change (rl : Rel K f G H σ ρ) {j : Nat} {p : Addr} {us ws : List V} {xs ys : List D} (e1 : ρ[j]? = some (some (S.o xs))) (e2 : σ[j]? = some (some (V.ref p))) (hG : G p = none) (hF : f.F p = none) (h : DpAll K G ws ys) :
    Rel K f G (upd H p (.lst ws)) σ (ρ.set j (some (.o ys))) := rl.changeS e1 rfl rfl e2 hG hF (.o h)

variable {t u : TS} {ms mt : Env → Out} {te : TE} {me : Env → Res R}
theorem sim_seq (h1 : SimS K P W t ms) (h2 : SimS K P W u mt) : SimS K P W (tSeq t u) (mSeq ms mt) := by
  intro f G H σ ρ D hp rl hq
  refine h1 f G H σ ρ _ hp rl ?_
  unfold mSeq at hq
  cases e : ms ρ with
  | nx ρ1 =>
    rw [e] at hq
    exact fun G1 H1 σ1 s1 rl1 => h2 f G1 H1 σ1 ρ1 D hp rl1 (CS.same s1 hq)
  | _ => rw [e] at hq; exact hq
theorem sim_next : SimS K P W tNext mNext := fun f G H σ ρ D hp rl hq => hq G H σ (.refl _) rl
theorem sim_brk : SimS K P W tBreak mBrk := fun f G H σ ρ D hp rl hq => hq G H σ (.refl _) rl
theorem sim_ct : SimS K P W tCont mCt := fun f G H σ ρ D hp rl hq => hq G H σ (.refl _) rl
theorem sim_drop (h : SimE K P W te me) : SimS K P W (tDrop te) (mDrop me) := by
  intro f G H σ ρ D hp rl hq
  refine h f G H σ ρ _ hp rl ?_
  unfold mDrop at hq
  cases e : me ρ with
  | no => rw [e] at hq; exact hq
  | exc c ρ1 => rw [e] at hq; exact fun G1 H1 s1 rl1 => hq G1 H1 σ s1 rl1
  | ok r ρ1 => rw [e] at hq; exact fun v G1 H1 s1 rl1 _ => hq G1 H1 σ s1 rl1
theorem sim_ret (h : SimE K P W te me) : SimS K P W (tRet te) (mRet P me) := by
  intro f G H σ ρ D hp rl hq
  refine h f G H σ ρ _ hp rl ?_
  unfold mRet at hq
  cases e : me ρ with
  | no => rw [e] at hq; exact hq
  | exc c ρ1 => rw [e] at hq; exact fun G1 H1 s1 rl1 => hq G1 H1 σ s1 rl1
  | ok r ρ1 =>
    rw [e] at hq
    intro v G1 H1 s1 rl1 h1
    cases r with
    | d x => exact hq v G1 H1 σ s1 rl1 h1
    | o xs =>
      obtain ⟨p, vs, rfl, q1, q2, q3, q4, q5⟩ := h1
      refine hq _ G1 H1 σ s1 rl1 ⟨p, vs, rfl, q1, q2, q3, q4, fun i b eb z => ?_⟩
      subst z
      obtain ⟨z1, zs, z2, z3⟩ := rl1.pin i _ eb
      exact q5 i zs z2 z3 z1
    | b i =>
      simp only at hq
      split at hq
      · next x ex =>
        obtain ⟨u, q1, q2⟩ := rl1.dat i _ ex
        have h3 : σ[i]? = some (some v) := h1
        rw [h3] at q1
        cases q1
        exact hq v G1 H1 σ s1 rl1 q2
      · next xs ex =>
        split at hq
        · next hi =>
          obtain ⟨p, vs, q1, q2, q3, q4, q5⟩ := rl1.own i _ ex
          have h3 : σ[i]? = some (some v) := h1
          rw [h3] at q1
          cases q1
          refine hq _ G1 H1 σ s1 (rl1.forget hp hi) ⟨p, vs, rfl, q2, q3, q4, q5, fun k b eb z => ?_⟩
          subst z
          obtain ⟨z1, zs, z2, z4⟩ := rl1.pin k _ eb
          have hk : k < P := by
            have := (List.getElem?_eq_some_iff.mp eb).1
            omega
          have := rl1.injS i k p (.o xs) zs ex z2 rfl z4 h3 z1
          omega
        · exact hq.elim
      · exact hq.elim
theorem sim_retN : SimS K P W tRetN (fun ρ => .rt (.d .none) ρ) := fun f G H σ ρ D hp rl hq => hq .non G H σ (.refl _) rl .non
theorem sim_ifS {c : TT} {mc : Env → Res Bool} (hc : SimT K P W c mc) (h1 : SimS K P W t ms) (h2 : SimS K P W u mt) : SimS K P W (tIfS c t u) (mIfS mc ms mt) := by
  intro f G H σ ρ D hp rl hq
  refine hc f G H σ ρ _ hp rl ?_
  unfold mIfS at hq
  cases e : mc ρ with
  | no => rw [e] at hq; exact hq
  | exc c ρ1 => rw [e] at hq; exact fun G1 H1 s1 rl1 => hq G1 H1 σ s1 rl1
  | ok b ρ1 =>
    rw [e] at hq
    intro G1 H1 s1 rl1
    cases b with
    | true =>
      rw [if_pos rfl]
      exact h1 f G1 H1 σ ρ1 D hp rl1 (CS.same s1 hq)
    | false =>
      rw [if_neg Bool.false_ne_true]
      exact h2 f G1 H1 σ ρ1 D hp rl1 (CS.same s1 hq)
theorem sim_asg {i : Nat} (h : SimE K P W te me) (hi : P ≤ i) : SimS K P W (tAsg te (gName i)) (mAsg P i me) := by
  intro f G H σ ρ D hp rl hq
  refine h f G H σ ρ _ hp rl ?_
  unfold mAsg at hq
  cases e : me ρ with
  | no => rw [e] at hq; exact hq
  | exc c ρ1 => rw [e] at hq; exact fun G1 H1 s1 rl1 => hq G1 H1 σ s1 rl1
  | ok r ρ1 =>
    rw [e] at hq
    intro v G1 H1 s1 rl1 h1
    cases r with
    | d x => exact hq G1 H1 _ s1 (rl1.putD hp hi h1)
    | o xs =>
      obtain ⟨p, vs, rfl, q1, q2, q3, q4, q5⟩ := h1
      exact hq G1 H1 _ s1 (rl1.putO hp hi q1 q2 q3 q4 q5)
    | b j =>
      simp only at hq
      split at hq
      · next ρ2 e2 =>
        split at hq
        · next x e3 =>
          obtain ⟨G2, s2, rl2⟩ := rl1.frz1 hp e2
          have h3 : Hold K G2 σ v (.b j) := h1
          exact hq G2 H1 _ (s1.trans s2) (rl2.putD hp hi (h3.dat rl2 e3))
        · exact hq.elim
      · exact hq.elim
theorem sim_aug {i : Nat} {ti : R2} {g : D → D → Option R} (hr : OpS K ti g) (h : SimE K P W te me) (hi : P ≤ i) : SimS K P W (tAug i te ti) (mAug i g me) := by
  intro f G H σ ρ D hp rl hq
  unfold mAug at hq
  split at hq
  · next x ex =>
    obtain ⟨v0, q1, q2⟩ := rl.dat i _ ex
    refine ⟨v0, q1, h.op hp rl ?_⟩
    cases e : me ρ with
    | no => rw [e] at hq; exact hq
    | exc c ρ1 => rw [e] at hq; exact fun G1 H1 s1 rl1 => hq G1 H1 σ s1 rl1
    | ok r ρ1 =>
      rw [e] at hq
      intro v G1 H1 s1 rl1 h1
      simp only at hq
      split at hq
      · next y ey =>
        split at hq
        · next z ez =>
          refine hr G1 H1 v0 v x y _ _ rl1.gh (.inl (dp_same s1 _ _ q2)) (h1.got rl1 ey) ez fun w G2 H2 gr nv => ?_
          exact hq G2 H2 _ (s1.trans gr.1) ((rl1.grow gr).putD hp hi nv)
        · next zs ez =>
          refine hr G1 H1 v0 v x y _ _ rl1.gh (.inl (dp_same s1 _ _ q2)) (h1.got rl1 ey) ez fun w G2 H2 gr nv => ?_
          obtain ⟨p, vs, rfl, w1, w2, w3, w4, w5⟩ := nv.vrep rl1 gr
          exact hq G2 H2 _ (s1.trans gr.1) ((rl1.grow gr).putO hp hi w1 w2 w3 w4 w5)
        · exact hq.elim
      · exact hq.elim
  · exact hq.elim
/-- a method of a list that changes it: by values -/
def MutS (K : PySem.W.Frag) (r : V → List V → Hp → VK → Prop) (g : List D → List D → Option (List D)) : Prop := ∀ (G H : Hp) (p : Addr) (vs args : List V) (xs ds ys : List D), Same G H → H p = some (.lst vs) → DpAll K G vs xs → DpAll K G args ds → g xs ds = some ys →
  ∃ ws, DpAll K G ws ys ∧ ∀ Q : VK, Q .non (upd H p (.lst ws)) → r (.ref p) args H Q
theorem sim_mut {j : Nat} {r : V → List V → Hp → VK → Prop} {g : List D → List D → Option (List D)} {ta : TA} {ma : Env → Res (List R)} (hr : MutS K r g) (h : SimA K P W ta ma) : SimS K P W (tDrop (tBM K "list" r (tVar j) ta)) (mMut P j g ma) := by
  intro f G H σ ρ D hp rl hq
  unfold mMut at hq
  split at hq
  · next xs0 ex =>
    obtain ⟨p, vs0, q1, q2, q3, q4, q5⟩ := rl.own j _ ex
    refine ⟨.ref p, q1, .inl ⟨rfl, vs0, .inl (.inl q2)⟩, ?_⟩
    refine h f G H σ ρ _ hp rl ?_
    cases e : ma ρ with
    | no => rw [e] at hq; exact hq
    | exc c ρ1 => rw [e] at hq; exact fun G1 H1 s1 rl1 => hq G1 H1 σ s1 rl1
    | ok rs ρ1 =>
      rw [e] at hq
      intro args G1 H1 s1 rl1 h1
      simp only at hq
      split at hq
      · next ρ2 e2 =>
        split at hq
        · next ds xs e3 e4 =>
          split at hq
          · next ys e5 =>
            obtain ⟨G2, s2, rl2⟩ := rl1.frzA hp e2
            obtain ⟨p', vs, w1, w2, w3, w4, w5⟩ := rl2.own j _ e4
            rw [q1] at w1
            cases w1
            obtain ⟨ws, z1, z2⟩ := hr G2 H1 p vs args xs ds ys rl2.gh w2 w3 ((h1.same s2).dat rl2 e3) e5
            exact z2 _ (hq G2 _ σ (s1.trans s2) (rl2.change (us := vs) e4 q1 w4 w5 z1))
          · exact hq.elim
        · exact hq.elim
      · exact hq.elim
  · exact hq.elim
theorem sim_setI {j : Nat} {ti : TE} {mi : Env → Res R} (h : SimE K P W te me) (h2 : SimE K P W ti mi) : SimS K P W (tAsg te (gSub (tVar j) ti rSetL)) (mSetI P j me mi) := by
  intro f G H σ ρ D hp rl hq
  refine h.op hp rl ?_
  unfold mSetI at hq
  cases e : me ρ with
  | no => rw [e] at hq; exact hq
  | exc c ρ1 => rw [e] at hq; exact fun G1 H1 s1 rl1 => hq G1 H1 σ s1 rl1
  | ok r ρ1 =>
    rw [e] at hq
    intro v G1 H1 s1 rl1 h1
    simp only at hq
    split at hq
    · next ρ2 e2 =>
      obtain ⟨G2, s2, rl2⟩ := rl1.frz1 hp e2
      split at hq
      · next xs0 e0 =>
        obtain ⟨p, vs0, q1, _⟩ := rl2.own j _ e0
        refine ⟨_, q1, h2.op hp rl2 ?_⟩
        cases e3 : mi ρ2 with
        | no => rw [e3] at hq; exact hq.elim
        | exc c ρ3 => rw [e3] at hq; exact fun G3 H3 s3 rl3 => hq G3 H3 σ ((s1.trans s2).trans s3) rl3
        | ok r3 ρ3 =>
          rw [e3] at hq
          intro w G3 H3 s3 rl3 h3
          cases r3 with
          | o _ => exact hq.elim
          | b _ => exact hq.elim
          | d y =>
            cases y with
            | int k =>
              simp only at hq
              split at hq
              · next x xs e4 e5 =>
                split at hq
                · next n e6 =>
                  obtain ⟨p', vs, w1, w2, w3, w4, w5⟩ := rl3.own j _ e5
                  rw [q1] at w1
                  cases w1
                  have hd : Dp K G3 v x := ((h1.same s2).same s3).dat rl3 e4
                  refine ⟨p, vs, k, n, rfl, dp_int h3, w2, by rw [dpAll_len w3]; exact e6, ?_⟩
                  exact hq G3 _ σ ((s1.trans s2).trans s3) (rl3.change (us := vs) e5 q1 w4 w5 (dpAll_set n w3 hd))
                · exact hq.elim
              · exact hq.elim
            | _ => exact hq.elim
      · exact hq.elim
    · exact hq.elim
end
end Z
namespace Z
open PySem L2

/-! ### targets -/
def SimG (K : PySem.W.Frag) (P : Nat) (g : TG) (b : D → Env → Option Env) (ts : List Nat) : Prop := ∀ (f : Fx) (G H : Hp) (σ : L2.St) (ρ ρ' : Env) (v : V) (d : D) (Q : L2.St → Hp → Prop), f.pins.length = P → Rel K f G H σ ρ → Dp K G v d → b d ρ = some ρ' →
  (∀ σ', Rel K f G H σ' ρ' → σ'.length = σ.length → (∀ j, j ∉ ts → σ'[j]? = σ[j]?) → Q σ' H) → g v σ H Q
def SimGs (K : PySem.W.Frag) (P : Nat) (g : TGs) (b : List D → Env → Option Env) (ts : List Nat) : Prop := ∀ (f : Fx) (G H : Hp) (σ : L2.St) (ρ ρ' : Env) (vs : List V) (ds : List D) (Q : L2.St → Hp → Prop), f.pins.length = P → Rel K f G H σ ρ → DpAll K G vs ds → b ds ρ = some ρ' →
  (∀ σ', Rel K f G H σ' ρ' → σ'.length = σ.length → (∀ j, j ∉ ts → σ'[j]? = σ[j]?) → Q σ' H) → g vs σ H Q
def bName (i : Nat) : D → Env → Option Env := fun d ρ => some (ρ.set i (some (.d d)))
def bNil : List D → Env → Option Env := fun ds ρ => match ds with
  | [] => some ρ
  | _ => none
def bCons (b : D → Env → Option Env) (bs : List D → Env → Option Env) : List D → Env → Option Env := fun ds ρ => match ds with
  | [] => none
  | d :: r => (match b d ρ with
    | some ρ1 => bs r ρ1
    | none => none)
def bTup (n : Nat) (bs : List D → Env → Option Env) : D → Env → Option Env := fun d ρ => match d with
  | .tuple ds => if ds.length = n then bs ds ρ else none
  | _ => none
section
variable {K : PySem.W.Frag} {P : Nat} {W : Wish}
theorem simg_name {i : Nat} (hi : P ≤ i) : SimG K P (gName i) (bName i) [i] := by
  intro f G H σ ρ ρ' v d Q hp rl hd e hq
  cases e
  refine hq _ (rl.putD hp hi hd) (List.length_set ..) fun j hj => ?_
  exact List.getElem?_set_ne (fun z => hj (by simp [z]))
theorem simgs_nil : SimGs K P gNil bNil [] := by
  intro f G H σ ρ ρ' vs ds Q hp rl hd e hq
  cases ds with
  | cons _ _ => cases e
  | nil =>
    cases e
    cases hd
    exact ⟨rfl, hq σ rl rfl fun _ _ => rfl⟩
theorem simgs_cons {g : TG} {b : D → Env → Option Env} {ts : List Nat} {gs : TGs} {bs : List D → Env → Option Env} {us : List Nat} (h : SimG K P g b ts) (h2 : SimGs K P gs bs us) : SimGs K P (gCons g gs) (bCons b bs) (ts ++ us) := by
  intro f G H σ ρ ρ' vs ds Q hp rl hd e hq
  cases ds with
  | nil => cases e
  | cons d r =>
    simp only [bCons] at e
    split at e
    · next ρ1 e1 =>
      cases hd with
      | cons h1 hr =>
        refine ⟨_, _, rfl, ?_⟩
        refine h f G H σ ρ ρ1 _ d _ hp rl h1 e1 fun σ' rl' l1 k1 => ?_
        refine h2 f G H σ' ρ1 ρ' _ r Q hp rl' hr e fun σ2 rl2 l2 k2 => ?_
        refine hq σ2 rl2 (l2.trans l1) fun j hj => ?_
        rw [List.mem_append, not_or] at hj
        rw [k2 j hj.2, k1 j hj.1]
    · cases e
theorem simg_tup {n : Nat} {gs : TGs} {bs : List D → Env → Option Env} {us : List Nat} (h : SimGs K P gs bs us) : SimG K P (gTup K n gs) (bTup n bs) us := by
  intro f G H σ ρ ρ' v d Q hp rl hd e hq
  cases d with
  | tuple ds =>
    simp only [bTup] at e
    split at e
    · next hl =>
      obtain ⟨a, xs, rfl, h1, h2⟩ := dp_tup hd
      exact ⟨a, xs, rfl, sqT_same rl.gh h1, by rw [dpAll_len h2]; exact hl, h f G H σ ρ ρ' xs ds Q hp rl h2 e hq⟩
    · cases e
  | _ => cases e
end
/-- targets of any form -/
def mAsgG (P : Nat) (b : D → Env → Option Env) (me : Env → Res R) : Env → Out := fun ρ => match me ρ with
  | .ok r ρ1 => (match frz1 P ρ1 r with
    | some ρ2 => (match dopd ρ2 r with
      | some d => (match b d ρ2 with
        | some ρ3 => .nx ρ3
        | none => .no)
      | none => .no)
    | none => .no)
  | .exc c ρ1 => .exc c ρ1
  | .no => .no
theorem sim_asgG {K : PySem.W.Frag} {P : Nat} {W : Wish} {te : TE} {me : Env → Res R} {g : TG} {b : D → Env → Option Env} {ts : List Nat} (h : SimE K P W te me) (hg : SimG K P g b ts) : SimS K P W (tAsg te g) (mAsgG P b me) := by
  intro f G H σ ρ D hp rl hq
  refine h.op hp rl ?_
  unfold mAsgG at hq
  cases e : me ρ with
  | no => rw [e] at hq; exact hq
  | exc c ρ1 => rw [e] at hq; exact fun G1 H1 s1 rl1 => hq G1 H1 σ s1 rl1
  | ok r ρ1 =>
    rw [e] at hq
    intro v G1 H1 s1 rl1 h1
    simp only at hq
    split at hq
    · next ρ2 e2 =>
      split at hq
      · next d e3 =>
        split at hq
        · next ρ3 e4 =>
          obtain ⟨G2, s2, rl2⟩ := rl1.frz1 hp e2
          exact hg f G2 H1 σ ρ2 ρ3 v d _ hp rl2 ((h1.same s2).dat rl2 e3) e4 fun σ' rl' _ _ => hq G2 H1 σ' (s1.trans s2) rl'
        · exact hq.elim
      · exact hq.elim
    · exact hq.elim

/-! ### what is walked -/
def Walk (K : PySem.W.Frag) (F G : Hp) (J : It) (ds : List D) : Prop := ∀ (G1 H1 : Hp), Same G G1 → Same G1 H1 → Same F H1 →
  (∀ (i : Nat) (d : D), ds[i]? = some d → J.go i H1 ∧ ∀ x H2, J.yld i H1 x H2 → ∃ G2, Grow G1 H1 G2 H2 ∧ Dp K G2 x d) ∧ ∀ i, ds.length ≤ i → J.stop i H1
def CI (K : PySem.W.Frag) (W : Wish) (f : Fx) (G : Hp) (σ : L2.St) (Q : It → Hp → Prop) : Res (List D) → Prop
  | .no => False
  | .ok ds ρ => ∀ J G' H', Same G G' → Rel K f G' H' σ ρ → Walk K f.F G' J ds → Q J H'
  | .exc c ρ => ∀ G' H', Same G G' → Rel K f G' H' σ ρ → W σ c H'
def SimI (K : PySem.W.Frag) (P : Nat) (W : Wish) (wi : TI) (m : Env → Res (List D)) : Prop := ∀ (f : Fx) (G H : Hp) (σ : L2.St) (ρ : Env) (Q : It → Hp → Prop), f.pins.length = P → Rel K f G H σ ρ → CI K W f G σ Q (m ρ) → wi σ H Q
def mIter (P : Nat) (me : Env → Res R) : Env → Res (List D) := fun ρ => (me ρ).bind fun r ρ1 => match frz1 P ρ1 r with
  | some ρ2 => (match dopd ρ2 r with
    | some (.list ds) => .ok ds ρ2
    | some (.tuple ds) => .ok ds ρ2
    | _ => .no)
  | none => .no
def big62 : Int := 4611686018427387904
def mRng1 (ma : Env → Res (List R)) : Env → Res (List D) := fun ρ => (ma ρ).bind fun rs ρ1 => match rs with
  | [.d (.int j)] => if -big62 ≤ j ∧ j < big62 then .ok ((List.range j.toNat).map fun (k : Nat) => .int (k : Int)) ρ1 else .no
  | _ => .no
def mRng2 (ma : Env → Res (List R)) : Env → Res (List D) := fun ρ => (ma ρ).bind fun rs ρ1 => match rs with
  | [.d (.int i), .d (.int j)] => if -big62 ≤ i ∧ i < big62 ∧ -big62 ≤ j ∧ j < big62 then .ok ((List.range (j - i).toNat).map fun (k : Nat) => .int (i + (k : Int))) ρ1 else .no
  | _ => .no
/-- a list or a tuple -/
def iSeq (K : PySem.W.Frag) (tl : TE) : TI := fun σ H Q => tl σ H fun x H1 => ∃ a, x = .ref a ∧ (((∃ xs, SqL K H1 a xs) ∧ Q (Itl K a) H1) ∨ ((∃ xs, SqT K H1 a xs) ∧ Q (Itt K a) H1))
theorem zpi_seq {X : Cx} {tg l : Expr} {tl : TE} (hl : PE X l tl) : PI X tg l (iSeq X.K tl) := by
  constructor
  intro pins s σ H Q I h
  refine thn (hl.run pins s σ H _ I h) fun v s1 hv => ?_
  obtain ⟨x, H1, I1, r1, a, rfl, q1⟩ := hv
  cases r1
  have sz : ∀ (b : Addr), b ∈ [s1.heap.objs.size] → FpOk X pins H1 b := by
    intro b hb
    obtain rfl : b = s1.heap.objs.size := by simpa using hb
    exact I1.fpOk (Nat.le_refl _) (I1.hok.fresh (Nat.le_refl _))
  rcases q1 with ⟨⟨xs, hx⟩, q⟩ | ⟨⟨xs, hx⟩, q⟩
  · obtain ⟨items, rvs, pl, len⟩ := I1.list hx
    apply wpAny_pyIter_list pl.isList
    have kept := I1.kept (h' := s1.heap.push { cls := .type "list_iterator", data := .fields #[.ref a, rawInt 0] }) (t' := s1.toks) fun b u e => Heap.get?_push_of_some _ e
    exact ⟨_, [s1.heap.objs.size], _, _, H1, rfl, kept, turn_list a _, ⟨_, Heap.get?_push_size _ rfl, rfl, rfl⟩, sz, q⟩
  · obtain ⟨items, rvs, pl, len⟩ := I1.tuple hx
    apply wpAny_pyIter_tuple (show s1.heap.IsTuple a items.toArray from pl)
    have kept := fun o : Obj => I1.kept (h' := s1.heap.push o) (t' := s1.toks) fun b u e => Heap.get?_push_of_some _ e
    exact ⟨_, [s1.heap.objs.size], _, _, H1, rfl, kept _, turn_tuple a _, ⟨_, Heap.get?_push_size _ rfl, rfl, rfl⟩, sz, q⟩
section
variable {K : PySem.W.Frag} {P : Nat} {W : Wish} {te : TE} {me : Env → Res R} {ta : TA} {ma : Env → Res (List R)}
theorem walk_list {F G : Hp} {a : Addr} {vs : List V} {ds : List D} (h : SqL K G a vs) (hd : DpAll K G vs ds) : Walk K F G (Itl K a) ds := by
  intro G1 H1 s1 s2 _
  have hs : SqL K H1 a vs := (s1.trans s2).seq h
  refine ⟨fun i d e => ?_, fun i hi => ⟨vs, hs, by rw [dpAll_len hd]; exact hi⟩⟩
  obtain ⟨v, q1, q2⟩ := dpAll_get hd e
  refine ⟨⟨vs, v, hs, q1⟩, fun x H2 hy => ?_⟩
  obtain ⟨rfl, fv⟩ := hy
  have ex : x = v := Option.some.inj ((fv _ hs).symm.trans q1)
  subst ex
  exact ⟨G1, .refl s2, dp_same s1 _ _ q2⟩
theorem walk_tup {F G : Hp} {a : Addr} {vs : List V} {ds : List D} (h : SqT K G a vs) (hd : DpAll K G vs ds) : Walk K F G (Itt K a) ds := by
  intro G1 H1 s1 s2 _
  have hs : SqT K H1 a vs := sqT_same (s1.trans s2) h
  refine ⟨fun i d e => ?_, fun i hi => ⟨vs, hs, by rw [dpAll_len hd]; exact hi⟩⟩
  obtain ⟨v, q1, q2⟩ := dpAll_get hd e
  refine ⟨⟨vs, v, hs, q1⟩, fun x H2 hy => ?_⟩
  obtain ⟨rfl, fv⟩ := hy
  have ex : x = v := Option.some.inj ((fv _ hs).symm.trans q1)
  subst ex
  exact ⟨G1, .refl s2, dp_same s1 _ _ q2⟩
theorem walk_rng {F G : Hp} {lo : Int} {n : Nat} : Walk K F G (Itr lo n) ((List.range n).map fun (k : Nat) => PyData.int (lo + (k : Int))) := by
  intro G1 H1 s1 s2 _
  refine ⟨fun i d e => ?_, fun i hi => ?_⟩
  · rw [List.getElem?_map] at e
    have hi : i < n := by
      by_cases hi : i < n
      · exact hi
      · rw [List.getElem?_eq_none (by rw [List.length_range]; omega)] at e
        cases e
    rw [List.getElem?_range hi] at e
    cases e
    refine ⟨hi, fun x H2 hy => ?_⟩
    obtain ⟨rfl, rfl⟩ := hy
    exact ⟨G1, .refl s2, .int _⟩
  · rw [List.length_map, List.length_range] at hi
    exact hi
theorem sim_iter (h : SimE K P W te me) : SimI K P W (iSeq K te) (mIter P me) := by
  intro f G H σ ρ Q hp rl hq
  refine h.op hp rl ?_
  unfold mIter at hq
  cases e : me ρ with
  | no => rw [e] at hq; exact hq
  | exc c ρ1 => rw [e] at hq; exact hq
  | ok r ρ1 =>
    rw [e] at hq
    intro v G1 H1 s1 rl1 h1
    simp only [Res.bind] at hq
    split at hq
    · next ρ2 e2 =>
      obtain ⟨G2, s2, rl2⟩ := rl1.frz1 hp e2
      split at hq
      · next ds e3 =>
        obtain ⟨a, xs, rfl, q1, q2⟩ := dp_lst ((h1.same s2).dat rl2 e3)
        exact ⟨a, rfl, .inl ⟨⟨xs, rl2.gh.seq q1⟩, hq _ G2 H1 (s1.trans s2) rl2 (walk_list q1 q2)⟩⟩
      · next ds e3 =>
        obtain ⟨a, xs, rfl, q1, q2⟩ := dp_tup ((h1.same s2).dat rl2 e3)
        exact ⟨a, rfl, .inr ⟨⟨xs, sqT_same rl2.gh q1⟩, hq _ G2 H1 (s1.trans s2) rl2 (walk_tup q1 q2)⟩⟩
      · exact hq.elim
    · exact hq.elim
theorem sim_rng1 (h : SimA K P W ta ma) : SimI K P W (iRng1 ta) (mRng1 ma) := by
  intro f G H σ ρ Q hp rl hq
  refine h f G H σ ρ _ hp rl ?_
  unfold mRng1 at hq
  cases e : ma ρ with
  | no => rw [e] at hq; exact hq
  | exc c ρ1 => rw [e] at hq; exact hq
  | ok rs ρ1 =>
    rw [e] at hq
    intro vs G1 H1 s1 rl1 h1
    simp only [Res.bind] at hq
    split at hq
    · next j =>
      split at hq
      · next hj =>
        cases h1 with
        | cons a1 a2 =>
          cases a2
          have ev := dp_int a1
          subst ev
          refine ⟨j, rfl, by have := hj.1; unfold big62 at this; omega, by have := hj.2; unfold big62 at this; omega, hq _ G1 H1 s1 rl1 ?_⟩
          have := walk_rng (K := K) (F := f.F) (G := G1) (lo := 0) (n := j.toNat)
          simp only [Int.zero_add] at this
          exact this
      · exact hq.elim
    · exact hq.elim
theorem sim_rng2 (h : SimA K P W ta ma) : SimI K P W (iRng2 ta) (mRng2 ma) := by
  intro f G H σ ρ Q hp rl hq
  refine h f G H σ ρ _ hp rl ?_
  unfold mRng2 at hq
  cases e : ma ρ with
  | no => rw [e] at hq; exact hq
  | exc c ρ1 => rw [e] at hq; exact hq
  | ok rs ρ1 =>
    rw [e] at hq
    intro vs G1 H1 s1 rl1 h1
    simp only [Res.bind] at hq
    split at hq
    · next i j =>
      split at hq
      · next hj =>
        cases h1 with
        | cons a1 a2 =>
          cases a2 with
          | cons a2 a3 =>
            cases a3
            have ev := dp_int a1
            have ew := dp_int a2
            subst ev
            subst ew
            unfold big62 at hj
            exact ⟨i, j, rfl, ⟨by omega, by omega, by omega, by omega⟩, hq _ G1 H1 s1 rl1 walk_rng⟩
      · exact hq.elim
    · exact hq.elim
end

/-! ### for -/
def forL (b : D → Env → Option Env) (body : Env → Out) : List D → Env → Out
  | [], ρ => .nx ρ
  | d :: ds, ρ => match b d ρ with
    | none => .no
    | some ρ1 => (match body ρ1 with
      | .nx ρ2 => forL b body ds ρ2
      | .ct ρ2 => forL b body ds ρ2
      | .bk ρ2 => .nx ρ2
      | o => o)
def mFor (mi : Env → Res (List D)) (b : D → Env → Option Env) (body : Env → Out) : Env → Out := fun ρ => match mi ρ with
  | .ok ds ρ1 => forL b body ds ρ1
  | .exc c ρ1 => .exc c ρ1
  | .no => .no
theorem sim_for {K : PySem.W.Frag} {P : Nat} {W : Wish} {wi : TI} {mi : Env → Res (List D)} {g : TG} {b : D → Env → Option Env} {ts : List Nat} {tb : TS} {mb : Env → Out} (hi : SimI K P W wi mi) (hg : SimG K P g b ts) (hb : SimS K P W tb mb) :
    SimS K P W (tFor wi g tb) (mFor mi b mb) := by
  intro f G H σ ρ D hp rl hq
  refine hi f G H σ ρ _ hp rl ?_
  unfold mFor at hq
  cases e : mi ρ with
  | no => rw [e] at hq; exact hq
  | exc c ρ1 => rw [e] at hq; exact fun G1 H1 s1 rl1 => hq G1 H1 σ s1 rl1
  | ok ds ρ1 =>
    rw [e] at hq
    intro J G1 H1 s1 rl1 wk
    have hq1 : CS K W f G1 D (forL b mb ds ρ1) := CS.same s1 hq
    refine ⟨fun i m σ' H' => ∃ G' ρ', Same G1 G' ∧ Rel K f G' H' σ' ρ' ∧ i + m = ds.length ∧ CS K W f G' D (forL b mb (ds.drop i) ρ'), ⟨ds.length, G1, ρ1, .refl _, rl1, by omega, hq1⟩, fun i m σ' H' hW => ?_⟩
    obtain ⟨G2, ρ2, s2, rl2, em, hc⟩ := hW
    obtain ⟨wk1, wk2⟩ := wk G2 H' s2 rl2.gh rl2.fh
    by_cases hlt : i < ds.length
    · have ed : ds.drop i = ds[i] :: ds.drop (i + 1) := List.drop_eq_getElem_cons hlt
      obtain ⟨go, yl⟩ := wk1 i ds[i] (List.getElem?_eq_getElem hlt)
      refine .inr ⟨go, fun σ3 H3 => ∃ G' ρ', Same G1 G' ∧ Rel K f G' H3 σ3 ρ' ∧ CS K W f G' D (forL b mb (ds.drop (i + 1)) ρ'), fun σ3 H3 hN => ?_, fun x H3 hy => ?_⟩
      · obtain ⟨G', ρ', a1, a2, a3⟩ := hN
        exact ⟨m - 1, by omega, G', ρ', a1, a2, by omega, a3⟩
      · obtain ⟨G3, gr, hd⟩ := yl x H3 hy
        have rl3 := rl2.grow gr
        have hc3 := CS.same gr.1 hc
        rw [ed] at hc3
        simp only [forL] at hc3
        split at hc3
        · exact hc3.elim
        · next ρ3 e3 =>
          refine hg f G3 H3 σ' ρ2 ρ3 x ds[i] _ hp rl3 hd e3 fun σ4 rl4 _ _ => ?_
          refine hb f G3 H3 σ4 ρ3 _ hp rl4 ?_
          have s3 := s2.trans gr.1
          cases e4 : mb ρ3 with
          | no => rw [e4] at hc3; exact hc3.elim
          | nx ρ4 => rw [e4] at hc3; exact fun G5 H5 σ5 s5 rl5 => ⟨G5, ρ4, s3.trans s5, rl5, CS.same s5 hc3⟩
          | ct ρ4 => rw [e4] at hc3; exact fun G5 H5 σ5 s5 rl5 => ⟨G5, ρ4, s3.trans s5, rl5, CS.same s5 hc3⟩
          | bk ρ4 => rw [e4] at hc3; exact hc3
          | rt s ρ4 => rw [e4] at hc3; exact hc3
          | exc c ρ4 => rw [e4] at hc3; exact hc3
    · have ed : ds.drop i = [] := List.drop_of_length_le (by omega)
      rw [ed] at hc
      exact .inl ⟨wk2 i (by omega), hc G2 H' σ' (.refl _) rl2⟩
/-! ### while, with fuel -/
def whileN (mc : Env → Res Bool) (body : Env → Out) : Nat → Env → Out
  | 0, _ => .no
  | n + 1, ρ => match mc ρ with
    | .ok true ρ1 => (match body ρ1 with
      | .nx ρ2 => whileN mc body n ρ2
      | .ct ρ2 => whileN mc body n ρ2
      | .bk ρ2 => .nx ρ2
      | o => o)
    | .ok false ρ1 => .nx ρ1
    | .exc c ρ1 => .exc c ρ1
    | .no => .no
theorem sim_while {K : PySem.W.Frag} {P : Nat} {W : Wish} {tc : TT} {mc : Env → Res Bool} {tb : TS} {mb : Env → Out} (n : Nat) (hc : SimT K P W tc mc) (hb : SimS K P W tb mb) : SimS K P W (tWhile tc tb) (whileN mc mb n) := by
  intro f G H σ ρ D hp rl hq
  refine ⟨fun m σ' H' => ∃ G' ρ', Same G G' ∧ Rel K f G' H' σ' ρ' ∧ CS K W f G' D (whileN mc mb m ρ'), ⟨n, G, ρ, .refl _, rl, hq⟩, fun m σ' H' hW => ?_⟩
  obtain ⟨G2, ρ2, s2, rl2, hc2⟩ := hW
  refine hc f G2 H' σ' ρ2 _ hp rl2 ?_
  cases m with
  | zero => exact hc2.elim
  | succ m =>
    simp only [whileN] at hc2
    cases e : mc ρ2 with
    | no => rw [e] at hc2; exact hc2
    | exc c ρ3 => rw [e] at hc2; exact fun G1 H1 s1 rl1 => hc2 G1 H1 σ' s1 rl1
    | ok k ρ3 =>
      rw [e] at hc2
      intro G3 H3 s3 rl3
      cases k with
      | false =>
        rw [if_neg Bool.false_ne_true]
        exact hc2 G3 H3 σ' s3 rl3
      | true =>
        rw [if_pos rfl]
        simp only at hc2
        refine ⟨fun σ4 H4 => ∃ G' ρ', Same G G' ∧ Rel K f G' H4 σ4 ρ' ∧ CS K W f G' D (whileN mc mb m ρ'), fun σ4 H4 hN => ⟨m, Nat.lt_succ_self m, hN⟩, ?_⟩
        refine hb f G3 H3 σ' ρ3 _ hp rl3 ?_
        cases e4 : mb ρ3 with
        | no => rw [e4] at hc2; exact hc2.elim
        | nx ρ4 => rw [e4] at hc2; exact fun G5 H5 σ5 s5 rl5 => ⟨G5, ρ4, (s2.trans s3).trans s5, rl5, CS.same (s3.trans s5) hc2⟩
        | ct ρ4 => rw [e4] at hc2; exact fun G5 H5 σ5 s5 rl5 => ⟨G5, ρ4, (s2.trans s3).trans s5, rl5, CS.same (s3.trans s5) hc2⟩
        | bk ρ4 => rw [e4] at hc2; exact CS.same (o := .nx ρ4) s3 hc2
        | rt s ρ4 => rw [e4] at hc2; exact CS.same (o := .rt s ρ4) s3 hc2
        | exc c ρ4 => rw [e4] at hc2; exact CS.same (o := .exc c ρ4) s3 hc2
end Z
namespace Z
open PySem L2

/-! ### comprehensions -/
def wipeE (ρ : Env) : List Nat → Env
  | [] => ρ
  | v :: vs => (wipeE ρ vs).set v none
def back (ρ1 : Env) : List Nat → Env → Env
  | [], ρw => ρw
  | v :: vs, ρw => (back ρ1 vs ρw).set v (match ρ1[v]? with
    | some (some (S.d x)) => some (S.d x)
    | _ => none)
section
variable {K : PySem.W.Frag} {P : Nat} {W : Wish} {f : Fx} {G H G' H' : Hp} {σ σ' : L2.St} {ρ ρ' : Env}
theorem Rel.drop1 (rl : Rel K f G H σ ρ) (hp : f.pins.length = P) {i : Nat} (hi : P ≤ i) : Rel K f G H (σ.set i none) (ρ.set i none) := by
  have out : ∀ (j : Nat) (s : S), (ρ.set i none)[j]? = some (some s) → i ≠ j ∧ ρ[j]? = some (some s) := by
    intro j s q
    by_cases hj : i = j
    · subst hj
      by_cases hil : i < ρ.length
      · rw [List.getElem?_set_self hil] at q
        cases q
      · rw [List.getElem?_eq_none (by rw [List.length_set]; omega)] at q
        cases q
    · rw [List.getElem?_set_ne hj] at q
      exact ⟨hj, q⟩
  refine ⟨by rw [List.length_set, List.length_set]; exact rl.len, rl.gh, rl.fh, rl.g0, rl.gf, fun j b q => ?_, fun j d q => ?_, fun j xs q hs => ?_, fun j k p xs ys q1 q2 hs1 hs2 q3 q4 => ?_⟩
  · have hj : j < P := by
      have := (List.getElem?_eq_some_iff.mp q).1
      omega
    obtain ⟨q1, ys, q2⟩ := rl.pin j b q
    exact ⟨by rw [List.getElem?_set_ne (by omega)]; exact q1, ys, by rw [List.getElem?_set_ne (by omega)]; exact q2⟩
  · obtain ⟨hj, q⟩ := out _ _ q
    rw [List.getElem?_set_ne hj]
    exact rl.dat j d q
  · obtain ⟨hj, q⟩ := out _ _ q
    rw [List.getElem?_set_ne hj]
    exact rl.ow j xs q hs
  · obtain ⟨h1, q1⟩ := out _ _ q1
    obtain ⟨h2, q2⟩ := out _ _ q2
    rw [List.getElem?_set_ne h1] at q3
    rw [List.getElem?_set_ne h2] at q4
    exact rl.injS j k p xs ys q1 q2 hs1 hs2 q3 q4
theorem Rel.wiped (rl : Rel K f G H σ ρ) (hp : f.pins.length = P) : ∀ {vs : List Nat}, (∀ i ∈ vs, P ≤ i) → Rel K f G H (wipe σ vs) (wipeE ρ vs)
  | [], _ => rl
  | v :: vs, h => (Rel.wiped rl hp fun i hi => h i (List.mem_cons_of_mem _ hi)).drop1 hp (h v List.mem_cons_self)
theorem wipe_out' : ∀ {vs : List Nat} {j : Nat}, j ∉ vs → (wipe σ vs)[j]? = σ[j]?
  | [], _, _ => rfl
  | v :: vs, j, h => by
    rw [List.mem_cons, not_or] at h
    show ((wipe σ vs).set v none)[j]? = σ[j]?
    rw [List.getElem?_set_ne (fun e => h.1 e.symm), wipe_out' h.2]
theorem wipe_same {vs ts : List Nat} (hl : σ'.length = (wipe σ vs).length) (hk : ∀ j, j ∉ ts → σ'[j]? = (wipe σ vs)[j]?) (hs : ∀ i ∈ ts, i ∈ vs) : wipe σ' vs = wipe σ vs := by
  have key : ∀ (us : List Nat) (τ : L2.St) (j : Nat), j ∈ us → (wipe τ us)[j]? = if j < τ.length then some none else none := by
    intro us
    induction us with
    | nil => intro τ j h; cases h
    | cons u us ih =>
      intro τ j h
      show ((wipe τ us).set u none)[j]? = _
      by_cases hj : u = j
      · subst hj
        by_cases hl : u < τ.length
        · rw [List.getElem?_set_self (by rw [wipe_length]; exact hl), if_pos hl]
        · rw [List.getElem?_eq_none (by rw [List.length_set, wipe_length]; omega), if_neg hl]
      · rw [List.getElem?_set_ne hj]
        rcases List.mem_cons.mp h with e | h
        · exact absurd e.symm hj
        · exact ih τ j h
  refine List.ext_getElem? fun j => ?_
  by_cases hj : j ∈ vs
  · rw [key vs σ' j hj, key vs σ j hj, hl, wipe_length]
  · rw [wipe_out' hj, wipe_out' hj, hk j fun z => hj (hs j z), wipe_out' hj]
theorem back_len (ρ1 : Env) : ∀ (vs : List Nat) (ρw : Env), (back ρ1 vs ρw).length = ρw.length
  | [], _ => rfl
  | v :: vs, ρw => by
    show ((back ρ1 vs ρw).set v _).length = _
    rw [List.length_set, back_len ρ1 vs ρw]
theorem back_out (ρ1 : Env) : ∀ {vs : List Nat} {ρw : Env} {j : Nat}, j ∉ vs → (back ρ1 vs ρw)[j]? = ρw[j]?
  | [], _, _, _ => rfl
  | v :: vs, ρw, j, h => by
    rw [List.mem_cons, not_or] at h
    show ((back ρ1 vs ρw).set v _)[j]? = _
    rw [List.getElem?_set_ne (fun e => h.1 e.symm), back_out ρ1 h.2]
theorem back_in (ρ1 : Env) : ∀ {vs : List Nat} {ρw : Env} {j : Nat} {s : S}, j ∈ vs → (back ρ1 vs ρw)[j]? = some (some s) → ∃ x, s = .d x ∧ ρ1[j]? = some (some (S.d x))
  | [], _, _, _, h, _ => by cases h
  | v :: vs, ρw, j, s, h, e => by
    have e : ((back ρ1 vs ρw).set v (match ρ1[v]? with
      | some (some (S.d x)) => some (S.d x)
      | _ => none))[j]? = some (some s) := e
    by_cases hj : v = j
    · subst hj
      by_cases hl : v < (back ρ1 vs ρw).length
      · rw [List.getElem?_set_self hl] at e
        split at e
        · next x ex =>
          cases e
          exact ⟨x, rfl, ex⟩
        · cases e
      · rw [List.getElem?_eq_none (by rw [List.length_set]; omega)] at e
        cases e
    · rw [List.getElem?_set_ne hj] at e
      rcases List.mem_cons.mp h with z | h
      · exact absurd z.symm hj
      · exact back_in ρ1 h e
/-- one more object that is to stay -/
def Fx.add (f : Fx) (a : Addr) (o : HO) : Fx := ⟨upd f.F a o, f.G0, f.pins⟩
theorem Rel.addF (rl : Rel K f G H σ ρ) {a : Addr} {o : HO} (h : H a = none) : Rel K (f.add a o) G (upd H a o) σ ρ := by
  have gr : Grow G H G (upd H a o) := Grow.fresh rl.gh h
  have r := rl.grow gr
  refine ⟨r.len, r.gh, fun b x q => ?_, r.g0, fun b q1 q2 => ?_, r.pin, r.dat, fun i xs q hs => ?_, r.injS⟩
  · by_cases hb : b = a
    · subst hb
      have q : upd f.F b o b = some x := q
      rw [upd_same] at q ⊢
      exact q
    · have q : upd f.F a o b = some x := q
      rw [upd_ne hb] at q
      exact r.fh _ _ q
  · by_cases hb : b = a
    · subst hb
      exact absurd (rl.gh.free h) q2
    · refine r.gf b (fun z => q1 ?_) q2
      show upd f.F a o b = none
      rw [upd_ne hb]
      exact z
  · obtain ⟨p, vs, q1, q2, q3, q4, q5⟩ := rl.ow i xs q hs
    have hpa : p ≠ a := ne_of_none q2 h
    refine ⟨p, vs, q1, ?_, q3, q4, ?_⟩
    · rw [upd_ne hpa]
      exact q2
    · show upd f.F a o p = none
      rw [upd_ne hpa]
      exact q5
theorem Rel.noG {a : Addr} {o : HO} (rl : Rel K (f.add a o) G H σ ρ) (h : f.G0 a = none) : G a = none := by
  cases e : G a with
  | none => rfl
  | some x =>
    refine absurd h (rl.gf a ?_ (ne_none_of e))
    show upd f.F a o a ≠ none
    rw [upd_same]
    exact fun z => nomatch z
theorem Rel.atF {a : Addr} {o : HO} (rl : Rel K (f.add a o) G H σ ρ) : H a = some o := rl.fh a o upd_same
theorem Rel.swapF {a : Addr} {o o' : HO} (rl : Rel K (f.add a o) G H σ ρ) (h : f.G0 a = none) : Rel K (f.add a o') G (upd H a o') σ ρ := by
  have hG := rl.noG h
  refine ⟨rl.len, fun b x q => ?_, fun b x q => ?_, rl.g0, fun b q1 q2 => ?_, rl.pin, rl.dat, fun i xs q hs => ?_, rl.injS⟩
  · rw [upd_ne (fun z => by subst z; rw [hG] at q; cases q)]
    exact rl.gh _ _ q
  · have q : upd f.F a o' b = some x := q
    by_cases hb : b = a
    · subst hb
      rw [upd_same] at q ⊢
      exact q
    · rw [upd_ne hb] at q ⊢
      refine rl.fh b x ?_
      show upd f.F a o b = some x
      rw [upd_ne hb]
      exact q
  · by_cases hb : b = a
    · subst hb
      exact absurd hG q2
    · refine rl.gf b (fun z => q1 ?_) q2
      have z : upd f.F a o b = none := z
      show upd f.F a o' b = none
      rw [upd_ne hb] at z ⊢
      exact z
  · obtain ⟨p, vs, q1, q2, q3, q4, q5⟩ := rl.ow i xs q hs
    have q5 : upd f.F a o p = none := q5
    have hpa : p ≠ a := fun z => by
      subst z
      rw [upd_same] at q5
      cases q5
    refine ⟨p, vs, q1, ?_, q3, q4, ?_⟩
    · rw [upd_ne hpa]
      exact q2
    · show upd f.F a o' p = none
      rw [upd_ne hpa] at q5 ⊢
      exact q5
/-- behind a comprehension: the frame's own slots -/
theorem Rel.restore {a : Addr} {o : HO} {G1 H1 : Hp} {ρ1 ρw : Env} {vs : List Nat} (rl1 : Rel K f G1 H1 σ ρ1) (hp : f.pins.length = P) (hv : ∀ i ∈ vs, P ≤ i) (s : Same G1 G) (rl : Rel K (f.add a o) G H (wipe σ vs) ρw) (hF : f.F a = none) : Rel K f G H σ (back ρ1 vs ρw) := by
  have sub : ∀ b, f.F b ≠ none → (f.add a o).F b = f.F b := fun b hb => upd_ne (fun z => by subst z; exact hb hF)
  have osl : ∀ (j : Nat) (s : S), (back ρ1 vs ρw)[j]? = some (some s) → s.own = true → j ∉ vs ∧ ρw[j]? = some (some s) := by
    intro j xs q hs
    by_cases hj : j ∈ vs
    · obtain ⟨x, e, _⟩ := back_in ρ1 hj q
      subst e
      cases hs
    · rw [back_out ρ1 hj] at q
      exact ⟨hj, q⟩
  refine ⟨?_, rl.gh, fun b x q => ?_, rl.g0, fun b q1 q2 => ?_, fun i b q => ?_, fun j d q => ?_, fun j xs q hs => ?_, fun j k p xs ys q1 q2 hs1 hs2 q3 q4 => ?_⟩
  · rw [back_len, ← rl.len, wipe_length]
  · refine rl.fh b x ?_
    rw [sub b (ne_none_of q)]
    exact q
  · exact rl.gf b (by rw [sub b q1]; exact q1) q2
  · have hi : i < P := by
      have := (List.getElem?_eq_some_iff.mp q).1
      omega
    have hj : i ∉ vs := fun z => by
      have := hv i z
      omega
    obtain ⟨q1, xs, q2⟩ := rl.pin i b q
    exact ⟨by rw [← wipe_out' (σ := σ) hj]; exact q1, xs, by rw [back_out ρ1 hj]; exact q2⟩
  · by_cases hj : j ∈ vs
    · obtain ⟨x, e, q2⟩ := back_in ρ1 hj q
      cases e
      obtain ⟨v, w1, w2⟩ := rl1.dat j _ q2
      exact ⟨v, w1, dp_same s _ _ w2⟩
    · rw [back_out ρ1 hj] at q
      obtain ⟨v, w1, w2⟩ := rl.dat j _ q
      exact ⟨v, by rw [← wipe_out' (σ := σ) hj]; exact w1, w2⟩
  · obtain ⟨hj, q⟩ := osl j xs q hs
    obtain ⟨p, us, q1, q2, q3, q4, q5⟩ := rl.ow j xs q hs
    refine ⟨p, us, by rw [← wipe_out' (σ := σ) hj]; exact q1, q2, q3, q4, ?_⟩
    have q5 : upd f.F a o p = none := q5
    by_cases hpa : p = a
    · subst hpa
      exact hF
    · rw [upd_ne hpa] at q5
      exact q5
  · obtain ⟨h1, q1⟩ := osl j xs q1 hs1
    obtain ⟨h2, q2⟩ := osl k ys q2 hs2
    exact rl.injS j k p xs ys q1 q2 hs1 hs2 (by rw [wipe_out' h1]; exact q3) (by rw [wipe_out' h2]; exact q4)
end
def lcL (P : Nat) (b : D → Env → Option Env) (mt : Env → Res Bool) (me : Env → Res R) (vs : List Nat) : List D → List D → Env → Res (List D)
  | [], acc, ρ => .ok acc ρ
  | d :: ds, acc, ρ => match b d ρ with
    | none => .no
    | some ρ1 => (match mt ρ1 with
      | .ok true ρ2 => (match me ρ2 with
        | .ok r ρ3 => (match frz1 P ρ3 r with
          | some ρ4 => (match dopd ρ4 r with
            | some y => if acc.length < 1000000 then lcL P b mt me vs ds (acc ++ [y]) (wipeE ρ4 vs) else .no
            | none => .no)
          | none => .no)
        | _ => .no)
      | .ok false ρ2 => lcL P b mt me vs ds acc (wipeE ρ2 vs)
      | _ => .no)
def mLc (P : Nat) (mi : Env → Res (List D)) (b : D → Env → Option Env) (mt : Env → Res Bool) (me : Env → Res R) (vs : List Nat) : Env → Res R := fun ρ => (mi ρ).bind fun ds ρ1 => match lcL P b mt me vs ds [] (wipeE ρ1 vs) with
  | .ok acc ρw => .ok (.o acc) (back ρ1 vs ρw)
  | _ => .no
theorem lc_go {K : PySem.W.Frag} {P : Nat} {W : Wish} {g : TG} {b : D → Env → Option Env} {ts vs : List Nat} {tt : TT} {mt : Env → Res Bool} {te : TE} {me : Env → Res R}
    (hg : SimG K P g b ts) (ht : SimT K P W tt mt) (he : SimE K P W te me) (hts : ∀ i ∈ ts, i ∈ vs) (hvs : ∀ i ∈ vs, P ≤ i)
    {f : Fx} {G1 H1 : Hp} {σ : L2.St} {ρ1 : Env} {J : It} {ds : List D} {Q : VK} {accF : List D} {ρF : Env} (hp : f.pins.length = P) (rl1 : Rel K f G1 H1 σ ρ1) (wk : Walk K f.F G1 J ds)
    (hres : lcL P b mt me vs ds [] (wipeE ρ1 vs) = .ok accF ρF)
    (hq : ∀ v G' H', Same G1 G' → Rel K f G' H' σ (back ρ1 vs ρF) → VRep K f G' H' σ (back ρ1 vs ρF) v (.o accF) → Q v H') :
    ∀ A, H1 A = none → ∃ Wv : Nat → Nat → Hp → Prop, (∃ m, Wv 0 m (upd H1 A (.lst []))) ∧ ∀ i m H, Wv i m H →
  (J.stop i H ∧ Q (.ref A) H) ∨ (J.go i H ∧ ∃ Nx : Hp → Prop, (∀ H', Nx H' → ∃ m', m' < m ∧ Wv (i + 1) m' H') ∧ ∀ x H', J.yld i H x H' → g x (wipe σ vs) H' fun σ2 H2 => wipe σ2 vs = wipe σ vs ∧ tt σ2 H2 fun b H3 =>
    if b = true then te σ2 H3 fun y H4 => ∃ acc, H4 A = some (.lst acc) ∧ acc.length < sizeLine ∧ Nx (upd H4 A (.lst (acc ++ [y]))) else Nx H3) := by
  intro A nA
  have gA : G1 A = none := rl1.gh.free nA
  have fA : f.F A = none := rl1.fh.free nA
  have g0A : f.G0 A = none := rl1.g0.free gA
  refine ⟨fun i m H' => ∃ G' ρ' acc avs, Same G1 G' ∧ Rel K (f.add A (.lst avs)) G' H' (wipe σ vs) ρ' ∧ DpAll K G' avs acc ∧ i + m = ds.length ∧ lcL P b mt me vs (ds.drop i) acc ρ' = .ok accF ρF,
    ⟨ds.length, G1, wipeE ρ1 vs, [], [], .refl _, (rl1.wiped hp hvs).addF nA, .nil, by omega, hres⟩, fun i m H' hW => ?_⟩
  obtain ⟨G2, ρ2, acc, avs, s2, rl2, hacc, em, hc⟩ := hW
  have sF : Same f.F H' := fun b o q => rl2.fh b o (by
    show upd f.F A _ b = some o
    rw [upd_ne (fun z => by subst z; rw [fA] at q; cases q)]
    exact q)
  obtain ⟨wk1, wk2⟩ := wk G2 H' s2 rl2.gh sF
  by_cases hlt : i < ds.length
  · have ed : ds.drop i = ds[i] :: ds.drop (i + 1) := List.drop_eq_getElem_cons hlt
    obtain ⟨go, yl⟩ := wk1 i ds[i] (List.getElem?_eq_getElem hlt)
    refine .inr ⟨go, fun H3 => ∃ G' ρ' acc avs, Same G1 G' ∧ Rel K (f.add A (.lst avs)) G' H3 (wipe σ vs) ρ' ∧ DpAll K G' avs acc ∧ lcL P b mt me vs (ds.drop (i + 1)) acc ρ' = .ok accF ρF,
      fun H3 hN => ?_, fun x H3 hy => ?_⟩
    · obtain ⟨G', ρ', acc', avs', a1, a2, a3, a4⟩ := hN
      exact ⟨m - 1, by omega, G', ρ', acc', avs', a1, a2, a3, by omega, a4⟩
    · obtain ⟨G3, gr, hd⟩ := yl x H3 hy
      have rl3 := rl2.grow gr
      have s3 := s2.trans gr.1
      rw [ed] at hc
      simp only [lcL] at hc
      split at hc
      · cases hc
      · next ρ3 e3 =>
        refine hg (f.add A (.lst avs)) G3 H3 (wipe σ vs) ρ2 ρ3 x ds[i] _ hp rl3 hd e3 fun σ4 rl4 l4 k4 => ?_
        have ew := wipe_same l4 k4 hts
        refine ⟨ew, ht (f.add A (.lst avs)) G3 H3 σ4 ρ3 _ hp rl4 ?_⟩
        cases e4 : mt ρ3 with
        | no => rw [e4] at hc; cases hc
        | exc c ρ4 => rw [e4] at hc; cases hc
        | ok k ρ4 =>
          rw [e4] at hc
          intro G5 H5 s5 rl5
          cases k with
          | false =>
            rw [if_neg Bool.false_ne_true]
            have r6 := rl5.wiped hp hvs
            rw [ew] at r6
            exact ⟨G5, _, acc, avs, s3.trans s5, r6, dpAll_same (gr.1.trans s5) _ _ hacc, hc⟩
          | true =>
            rw [if_pos rfl]
            simp only at hc
            refine SimE.op (f := f.add A (.lst avs)) he hp rl5 ?_
            cases e5 : me ρ4 with
            | no => rw [e5] at hc; cases hc
            | exc c ρ5 => rw [e5] at hc; cases hc
            | ok r ρ5 =>
              rw [e5] at hc
              intro v G6 H6 s6 rl6 h6
              simp only at hc
              split at hc
              · next ρ6 e6 =>
                obtain ⟨G7, s7, rl7⟩ := rl6.frz1 hp e6
                split at hc
                · next y e7 =>
                  split at hc
                  · next hlen =>
                    have s27 := ((gr.1.trans s5).trans s6).trans s7
                    have hv : Dp K G7 v y := (h6.same s7).dat rl7 e7
                    have hacc' : DpAll K G7 avs acc := dpAll_same s27 _ _ hacc
                    refine ⟨avs, rl7.atF, ?_, ?_⟩
                    · rw [dpAll_len hacc]
                      exact Nat.lt_of_lt_of_le hlen (by decide)
                    · have r8 := (rl7.swapF (o' := .lst (avs ++ [v])) g0A).wiped hp hvs
                      rw [ew] at r8
                      exact ⟨G7, _, acc ++ [y], avs ++ [v], s2.trans s27, r8, dpAll_append hacc' (.cons hv .nil), hc⟩
                  · cases hc
                · cases hc
              · cases hc
  · have ed : ds.drop i = [] := List.drop_of_length_le (by omega)
    rw [ed] at hc
    simp only [lcL] at hc
    cases hc
    refine .inl ⟨wk2 i (by omega), ?_⟩
    have rl' := rl1.restore hp hvs s2 rl2 fA
    refine hq (.ref A) G2 H' s2 rl' ⟨A, avs, rfl, rl2.atF, hacc, rl2.noG g0A, fA, fun i ys q hs z => ?_⟩
    by_cases hj : i ∈ vs
    · obtain ⟨x, e, _⟩ := back_in ρ1 hj q
      subst e
      cases hs
    · rw [back_out ρ1 hj] at q
      obtain ⟨p, us, q1, q2, q3, q4, q5⟩ := rl2.ow i ys q hs
      rw [wipe_out' hj, z] at q1
      cases q1
      have q5 : upd f.F A (HO.lst avs) A = none := q5
      rw [upd_same] at q5
      cases q5
theorem sim_lc {K : PySem.W.Frag} {P : Nat} {W : Wish} {wi : TI} {mi : Env → Res (List D)} {g : TG} {b : D → Env → Option Env} {ts vs : List Nat} {tt : TT} {mt : Env → Res Bool} {te : TE} {me : Env → Res R}
    (hi : SimI K P W wi mi) (hg : SimG K P g b ts) (ht : SimT K P W tt mt) (he : SimE K P W te me) (hts : ∀ i ∈ ts, i ∈ vs) (hvs : ∀ i ∈ vs, P ≤ i) : SimE K P W (tLc wi g tt te vs) (mLc P mi b mt me vs) := by
  intro f G H σ ρ Q hp rl hq
  refine hi f G H σ ρ _ hp rl ?_
  unfold mLc at hq
  cases e : mi ρ with
  | no => rw [e] at hq; exact hq
  | exc c ρ1 => rw [e] at hq; exact hq
  | ok ds ρ1 =>
    rw [e] at hq
    simp only [Res.bind] at hq
    intro J G1 H1 s1 rl1 wk
    split at hq
    · next acc ρw hr => exact lc_go hg ht he hts hvs hp rl1 wk hr fun v G' H' s => hq v G' H' (s1.trans s)
    · exact hq.elim
/-- the same over a slot's own list, which the comprehension's parts do not name -/
def mLcH (P j : Nat) (b : D → Env → Option Env) (mt : Env → Res Bool) (me : Env → Res R) (vs : List Nat) : Env → Res R := fun ρ => match ρ[j]? with
  | some (some (S.d (.list ds))) => (match lcL P b mt me vs ds [] (wipeE ρ vs) with
    | .ok acc ρw => .ok (.o acc) (back ρ vs ρw)
    | _ => .no)
  | some (some (S.d (.tuple ds))) => (match lcL P b mt me vs ds [] (wipeE ρ vs) with
    | .ok acc ρw => .ok (.o acc) (back ρ vs ρw)
    | _ => .no)
  | some (some (S.o ds)) => (match lcL P b mt me vs ds [] (wipeE (ρ.set j none) vs) with
    | .ok acc ρw => .ok (.o acc) ((back (ρ.set j none) vs ρw).set j (some (S.o ds)))
    | _ => .no)
  | _ => .no
section
variable {K : PySem.W.Frag} {P : Nat} {W : Wish} {f : Fx} {G H G' H' : Hp} {σ : L2.St} {ρ : Env}
theorem Rel.hide {j : Nat} {p : Addr} {us : List V} {xs : List D} (rl : Rel K f G H σ ρ) (hp : f.pins.length = P) (hj : P ≤ j) (e : ρ[j]? = some (some (S.o xs))) (e2 : σ[j]? = some (some (V.ref p))) (hH : H p = some (.lst us)) (hG : G p = none) :
    Rel K (f.add p (.lst us)) G H σ (ρ.set j none) := by
  have r := rl.forget hp hj
  have out : ∀ (i : Nat) (ys : S), (ρ.set j none)[i]? = some (some ys) → j ≠ i ∧ ρ[i]? = some (some ys) := by
    intro i ys q
    by_cases h : j = i
    · subst h
      rw [List.getElem?_set_self (List.getElem?_eq_some_iff.mp e).1] at q
      cases q
    · rw [List.getElem?_set_ne h] at q
      exact ⟨h, q⟩
  refine ⟨r.len, r.gh, fun b o q => ?_, r.g0, fun b q1 q2 => ?_, r.pin, r.dat, fun i ys q hs => ?_, r.injS⟩
  · have q : upd f.F p (.lst us) b = some o := q
    by_cases hb : b = p
    · subst hb
      rw [upd_same] at q
      cases q
      exact hH
    · rw [upd_ne hb] at q
      exact rl.fh b o q
  · have q1 : upd f.F p (.lst us) b ≠ none := q1
    by_cases hb : b = p
    · subst hb
      exact absurd hG q2
    · rw [upd_ne hb] at q1
      exact rl.gf b q1 q2
  · obtain ⟨hne, q⟩ := out i ys q
    obtain ⟨p', vs', w1, w2, w3, w4, w5⟩ := rl.ow i ys q hs
    refine ⟨p', vs', w1, w2, w3, w4, ?_⟩
    show upd f.F p (.lst us) p' = none
    rw [upd_ne]
    · exact w5
    · intro z
      subst z
      exact hne (rl.injS j i p' (.o xs) ys e q rfl hs e2 w1)
theorem Rel.unhide {j : Nat} {p : Addr} {us : List V} {xs : List D} (rl : Rel K (f.add p (.lst us)) G H σ ρ) (hF : f.F p = none) (h0 : f.G0 p = none) (e2 : σ[j]? = some (some (V.ref p))) (hx : DpAll K G us xs) :
    Rel K f G H σ (ρ.set j (some (S.o xs))) ∧ True := by
  have hG := rl.noG h0
  have hH := rl.atF
  have sub : ∀ b, b ≠ p → (f.add p (.lst us)).F b = f.F b := fun b hb => upd_ne hb
  by_cases hjl : j < ρ.length
  · have out : ∀ (k : Nat) (zs : S), (ρ.set j (some (S.o xs)))[k]? = some (some zs) → (j = k ∧ S.o xs = zs) ∨ (j ≠ k ∧ ρ[k]? = some (some zs)) := by
      intro k s q
      by_cases hj : j = k
      · subst hj
        rw [List.getElem?_set_self hjl] at q
        cases q
        exact .inl ⟨rfl, rfl⟩
      · rw [List.getElem?_set_ne hj] at q
        exact .inr ⟨hj, q⟩
    have far : ∀ (k : Nat) (zs : S), ρ[k]? = some (some zs) → zs.own = true → σ[k]? ≠ some (some (V.ref p)) := by
      intro k zs q hs z
      obtain ⟨p', vs', w1, w2, w3, w4, w5⟩ := rl.ow k zs q hs
      rw [z] at w1
      cases w1
      have w5 : upd f.F p (HO.lst us) p = none := w5
      rw [upd_same] at w5
      cases w5
    refine ⟨⟨by rw [List.length_set]; exact rl.len, rl.gh, fun b o q => ?_, rl.g0, fun b q1 q2 => ?_, fun i b q => ?_, fun i d q => ?_, fun i ys q hs => ?_, fun i k p' ys zs q1 q2 hs1 hs2 q3 q4 => ?_⟩, trivial⟩
    · have hb : b ≠ p := fun z => by
        subst z
        rw [hF] at q
        cases q
      exact rl.fh b o (by rw [sub b hb]; exact q)
    · have hb : b ≠ p := fun z => by
        subst z
        exact q1 hF
      exact rl.gf b (by rw [sub b hb]; exact q1) q2
    · obtain ⟨w1, ys, w2, w3⟩ := rl.pin i b q
      refine ⟨w1, ?_⟩
      by_cases hj : j = i
      · subst hj
        exact ⟨.o xs, List.getElem?_set_self hjl, rfl⟩
      · exact ⟨ys, by rw [List.getElem?_set_ne hj]; exact w2, w3⟩
    · by_cases hj : j = i
      · subst hj
        rw [List.getElem?_set_self hjl] at q
        cases q
      · rw [List.getElem?_set_ne hj] at q
        exact rl.dat i d q
    · rcases out i ys q with ⟨h1, h2⟩ | ⟨h1, q⟩
      · subst h1
        subst h2
        exact ⟨p, _, e2, hH, .o hx, hG, hF⟩
      · obtain ⟨p', vs', w1, w2, w3, w4, w5⟩ := rl.ow i ys q hs
        have hpp : p' ≠ p := fun z => by
          subst z
          exact far i ys q hs w1
        exact ⟨p', vs', w1, w2, w3, w4, by rw [← sub p' hpp]; exact w5⟩
    · rcases out i ys q1 with ⟨h1, _⟩ | ⟨h1, q1⟩
      · subst h1
        rw [e2] at q3
        cases q3
        rcases out k zs q2 with ⟨h2, _⟩ | ⟨h2, q2⟩
        · exact h2
        · exact absurd q4 (far k zs q2 hs2)
      · rcases out k zs q2 with ⟨h2, _⟩ | ⟨h2, q2⟩
        · subst h2
          rw [e2] at q4
          cases q4
          exact absurd q3 (far i ys q1 hs1)
        · exact rl.injS i k p' ys zs q1 q2 hs1 hs2 q3 q4
  · rw [← rl.len] at hjl
    rw [List.getElem?_eq_none (by omega)] at e2
    cases e2
theorem sim_lcH {j : Nat} {g : TG} {b : D → Env → Option Env} {ts vs : List Nat} {tt : TT} {mt : Env → Res Bool} {te : TE} {me : Env → Res R}
    (hg : SimG K P g b ts) (ht : SimT K P W tt mt) (he : SimE K P W te me) (hts : ∀ i ∈ ts, i ∈ vs) (hvs : ∀ i ∈ vs, P ≤ i) (hj : P ≤ j) : SimE K P W (tLc (iSeq K (tVar j)) g tt te vs) (mLcH P j b mt me vs) := by
  intro f G H σ ρ Q hp rl hq
  unfold mLcH at hq
  split at hq
  · next ds e =>
    split at hq
    · next acc ρw hr =>
      obtain ⟨v, w1, w2⟩ := rl.dat j _ e
      obtain ⟨a, xs, rfl, w3, w4⟩ := dp_lst w2
      exact ⟨_, w1, a, rfl, .inl ⟨⟨xs, rl.gh.seq w3⟩, lc_go hg ht he hts hvs hp rl (walk_list w3 w4) hr fun v G' H' s => hq v G' H' s⟩⟩
    · exact hq.elim
  · next ds e =>
    split at hq
    · next acc ρw hr =>
      obtain ⟨v, w1, w2⟩ := rl.dat j _ e
      obtain ⟨a, xs, rfl, w3, w4⟩ := dp_tup w2
      exact ⟨_, w1, a, rfl, .inr ⟨⟨xs, sqT_same rl.gh w3⟩, lc_go hg ht he hts hvs hp rl (walk_tup w3 w4) hr fun v G' H' s => hq v G' H' s⟩⟩
    · exact hq.elim
  · next ds e =>
    split at hq
    · next acc ρw hr =>
      obtain ⟨p, us, w1, w2, w3, w4, w5⟩ := rl.own j ds e
      refine ⟨_, w1, p, rfl, .inl ⟨⟨us, .inl (.inl w2)⟩, ?_⟩⟩
      have rh := rl.hide hp hj e w1 w2 w4
      have wk : Walk K (f.add p (.lst us)).F G (Itl K p) ds := by
        intro G1 H1 s1 s2 s3
        have hs : H1 p = some (.lst us) := s3 p _ upd_same
        have hq : SqL K H1 p us := .inl (.inl hs)
        refine ⟨fun i d e => ?_, fun i hi => ⟨us, hq, by rw [dpAll_len w3]; exact hi⟩⟩
        obtain ⟨v, q1, q2⟩ := dpAll_get w3 e
        refine ⟨⟨us, v, hq, q1⟩, fun x H2 hy => ?_⟩
        obtain ⟨rfl, fv⟩ := hy
        have ex : x = v := Option.some.inj ((fv _ hq).symm.trans q1)
        subst ex
        exact ⟨G1, .refl s2, dp_same s1 _ _ q2⟩
      refine lc_go (f := f.add p (.lst us)) hg ht he hts hvs hp rh wk hr fun v G' H' s rl' hv => ?_
      have g0p : f.G0 p = none := rl.g0.free w4
      have rl2 := (rl'.unhide w5 g0p w1 (dpAll_same s _ _ w3)).1
      obtain ⟨A, avs, rfl, q1, q2, q3, q4, q5⟩ := hv
      have hpA : A ≠ p := fun z => by
        subst z
        have q4 : upd f.F A (HO.lst us) A = none := q4
        rw [upd_same] at q4
        cases q4
      refine hq _ G' H' s rl2 ⟨A, avs, rfl, q1, q2, q3, ?_, fun i ys q hs z => ?_⟩
      · have q4 : upd f.F p (HO.lst us) A = none := q4
        rw [upd_ne hpA] at q4
        exact q4
      · by_cases hi : j = i
        · subst hi
          rw [w1] at z
          cases z
          exact hpA rfl
        · rw [List.getElem?_set_ne hi] at q
          exact q5 i ys q hs z
    · exact hq.elim
  · exact hq.elim
end
end Z
namespace Z
open PySem L2

/-! ### a def's promise: what its mirror says -/
def cut (H : Hp) (pins : List (Option Addr)) : Hp := fun a => if some a ∈ pins then none else H a
def env0 (n : Nat) (ss : List S) : Env := ss.map some ++ List.replicate (n - ss.length) none
def spM (K : PySem.W.Frag) (P k n : Nat) (WC : XK → Wish) (mb : Env → Out) : Sp := fun vs H Q E => vs.length = k ∧ ∃ (pins : List (Option Addr)) (G : Hp) (ss : List S), pins.length = P ∧ ss.length = k ∧
  Rel K ⟨cut H pins, G, pins⟩ G H (vs.map some ++ List.replicate (n - vs.length) none) (env0 n ss) ∧ CS K (WC E) ⟨cut H pins, G, pins⟩ G { nx := fun _ H' => Q .non H', rt := Q } (mb (env0 n ss))
def W0 : XK → Wish := fun _ _ _ _ => False
theorem env0_get {n : Nat} {ss : List S} {i : Nat} {s : S} (h : (env0 n ss)[i]? = some (some s)) : ss[i]? = some s := by
  unfold env0 at h
  by_cases hi : i < ss.length
  · rw [List.getElem?_append_left (by rw [List.length_map]; exact hi), List.getElem?_map] at h
    cases e : ss[i]? with
    | none => rw [e] at h; cases h
    | some x => rw [e] at h; cases h; rfl
  · rw [List.getElem?_append_right (by rw [List.length_map]; omega)] at h
    rw [List.getElem?_replicate] at h
    split at h <;> cases h
theorem start_get {n : Nat} {vs : List V} {i : Nat} {v : V} (h : vs[i]? = some v) : (vs.map some ++ List.replicate (n - vs.length) none)[i]? = some (some v) := by
  have hi : i < vs.length := (List.getElem?_eq_some_iff.mp h).1
  rw [List.getElem?_append_left (by rw [List.length_map]; exact hi), List.getElem?_map, h]
  rfl
section
variable {P : Program} {w : World} {K : PySem.W.Frag} {mg : Str → Option Value} {base : Heap}
theorem ok0 {x qual : Str} {st : Stmt} {f : Addr} {fd : FuncData} {N ps : List Str} {k np kk n : Nat} {mb : Env → Out} (F : Fun K x qual st f fd) (S : FnScope N ps (defScope st)) (hk : ps.length = kk) (hn : N.length = n)
    (body : ∀ (cdv : Value) (A : Around) (outer : List PySem.Env) (s : Shared) (H : Hp) (E : XK), Room k (A.deeper (PyProof.Rows.envOfC qual (defScope st) s.heap.objs.size f cdv)) →
      ∃ t, PSs (cxOf CX0 P w K mg base N qual (defScope st) f cdv A outer s H E).nox (defBody st) t ∧ SimS K np (W0 E) t mb) : FnOk P w K mg base CX0 (k + 1) f fd ps (spM K np kk n W0 mb) := by
  refine F.ok S (fun vs H Q E h => by rw [hk]; exact h.1) fun cdv A outer s H vs Q E hr h => ?_
  obtain ⟨t, h1, h2⟩ := body cdv A outer s H E hr
  refine ⟨t, h1, ?_⟩
  obtain ⟨hl, pins, G, ss, q1, q2, q3, q4⟩ := h
  subst hn
  exact h2 _ G H _ _ _ q1 q3 q4
end

/-! ### calls -/
def flatD : D → Bool
  | .none => true
  | .bool _ => true
  | .int _ => true
  | .str _ => true
  | _ => false
theorem flat_dp {K : PySem.W.Frag} {G G' : Hp} {v : V} {d : D} (h : Dp K G v d) (e : flatD d = true) : Dp K G' v d := by
  cases h with
  | non => exact .non
  | bl b => exact .bl b
  | int i => exact .int i
  | str x => exact .str x
  | lst _ _ => cases e
  | tup _ _ => cases e
def mCall0 (ex : Bool) (P k n : Nat) (mb : Env → Out) (ms : Env → Res (List R)) : Env → Res R := fun ρ => (ms ρ).bind fun rs ρ1 => match frzA P rs ρ1 with
  | none => .no
  | some ρ2 => (match dopds ρ2 rs with
    | none => .no
    | some ds => if ds.length = k then (match mb (env0 n (ds.map S.d)) with
        | .nx _ => .ok (.d .none) ρ1
        | .exc c _ => if ex = true then .exc c ρ1 else .no
        | .rt (.d x) _ => if flatD x = true then .ok (.d x) ρ1 else .ok (.d x) ρ2
        | .rt (.o xs) _ => .ok (.o xs) ρ2
        | _ => .no) else .no)
/-- what is lent to a callee: for each of its first places whether one's own object is lent there -/
def frzM (P : Nat) : List Bool → List R → Env → Option Env
  | _, [], ρ => some ρ
  | true :: ms, _ :: rs, ρ => frzM P ms rs ρ
  | false :: ms, r :: rs, ρ => (match Z.frz1 P ρ r with
    | some ρ1 => frzM P ms rs ρ1
    | none => none)
  | [], r :: rs, ρ => (match Z.frz1 P ρ r with
    | some ρ1 => frzM P [] rs ρ1
    | none => none)
def lendS (ρ : Env) : List Bool → List R → Option (List S × List (Option Nat))
  | _, [] => some ([], [])
  | true :: ms, .b j :: rs => (match ρ[j]? with
    | some (some (S.d x)) => (match lendS ρ ms rs with
      | some (ss, js) => some (.d x :: ss, none :: js)
      | none => none)
    | some (some s) => (match lendS ρ ms rs with
      | some (ss, js) => some (s :: ss, some j :: js)
      | none => none)
    | _ => none)
  | true :: ms, .d x :: rs => (match lendS ρ ms rs with
      | some (ss, js) => some (.d x :: ss, none :: js)
      | none => none)
  | true :: _, .o _ :: _ => none
  | false :: ms, r :: rs => (match Z.dopd ρ r, lendS ρ ms rs with
    | some x, some (ss, js) => some (.d x :: ss, none :: js)
    | _, _ => none)
  | [], r :: rs => (match Z.dopd ρ r, lendS ρ [] rs with
    | some x, some (ss, js) => some (.d x :: ss, none :: js)
    | _, _ => none)
/-- what was lent comes back -/
def takeB (ρ' : Env) : Nat → List (Option Nat) → Env → Option Env
  | _, [], ρ => some ρ
  | i, none :: js, ρ => takeB ρ' (i + 1) js ρ
  | i, some j :: js, ρ => (match ρ'[i]? with
    | some (some s) => if s.own = true then takeB ρ' (i + 1) js (ρ.set j (some s)) else none
    | _ => none)
def hasJ (j : Nat) : List (Option Nat) → Bool
  | [] => false
  | none :: js => hasJ j js
  | some k :: js => if k = j then true else hasJ j js
def ndJ : List (Option Nat) → Bool
  | [] => true
  | none :: js => ndJ js
  | some j :: js => if hasJ j js = true then false else ndJ js
theorem hasJ_no {j : Nat} : ∀ {js : List (Option Nat)}, hasJ j js = false → j ∉ js.filterMap id
  | [], _ => by simp
  | none :: js, h => by simpa using hasJ_no (js := js) h
  | some k :: js, h => by
    simp only [hasJ] at h
    split at h
    · cases h
    · next hk =>
      have := hasJ_no (js := js) h
      simp only [List.filterMap_cons, id, List.mem_cons, not_or]
      exact ⟨fun z => hk z.symm, by simpa using this⟩
theorem ndJ_ok : ∀ {js : List (Option Nat)}, ndJ js = true → (js.filterMap id).Nodup
  | [], _ => by simp
  | none :: js, h => by simpa using ndJ_ok (js := js) h
  | some j :: js, h => by
    simp only [ndJ] at h
    split at h
    · cases h
    · next hj =>
      have h1 := hasJ_no (eq_false_of_ne_true hj)
      have h2 := ndJ_ok (js := js) h
      simp only [List.filterMap_cons, id]
      exact List.nodup_cons.mpr ⟨by simpa using h1, by simpa using h2⟩
def mCallM (P : Nat) (mask : List Bool) (k n : Nat) (mb : Env → Out) (ms : Env → Res (List R)) : Env → Res R := fun ρ => (ms ρ).bind fun rs ρ1 => match frzM P mask rs ρ1 with
  | none => .no
  | some ρ2 => (match lendS ρ2 mask rs with
    | none => .no
    | some (ss, js) => if ss.length = k ∧ mask.length ≤ k ∧ ndJ js = true then (match mb (env0 n ss) with
        | .nx ρ' => (match takeB ρ' 0 js ρ2 with
          | some ρ3 => .ok (.d .none) ρ3
          | none => .no)
        | .rt (.d x) ρ' => (match takeB ρ' 0 js ρ2 with
          | some ρ3 => .ok (.d x) ρ3
          | none => .no)
        | .rt (.o zs) ρ' => (match takeB ρ' 0 js ρ2 with
          | some ρ3 => .ok (.o zs) ρ3
          | none => .no)
        | _ => .no) else .no)
def mCall1 (ex : Bool) (P k n : Nat) (mb : Env → Out) (ms : Env → Res (List R)) : Env → Res R := fun ρ => (ms ρ).bind fun rs ρ1 => match rs with
  | .b j :: rest => (match frzA P rest ρ1 with
    | none => .no
    | some ρ2 => (match dopds ρ2 rest, ρ2[j]? with
      | some ds, some (some (S.o xs)) => if ds.length + 1 = k then (match mb (env0 n (.o xs :: ds.map S.d)) with
          | .nx ρ' => (match ρ'[0]? with
            | some (some (S.o ys)) => .ok (.d .none) (ρ2.set j (some (S.o ys)))
            | _ => .no)
          | .rt (.d x) ρ' => (match ρ'[0]? with
            | some (some (S.o ys)) => .ok (.d x) (ρ2.set j (some (S.o ys)))
            | _ => .no)
          | .rt (.o zs) ρ' => (match ρ'[0]? with
            | some (some (S.o ys)) => .ok (.o zs) (ρ2.set j (some (S.o ys)))
            | _ => .no)
          | _ => .no) else .no
      | _, _ => .no))
  | _ => .no
section
variable {K : PySem.W.Frag} {P : Nat} {W : Wish} {f : Fx} {G H G' H' : Hp} {σ σ' : L2.St} {ρ ρ' : Env}
theorem cut_nil (H : Hp) : cut H [] = H := by
  funext a
  unfold cut
  rw [if_neg (by simp)]
theorem rel_args {n : Nat} {vs : List V} {ds : List D} (gh : Same G H) (h : DpAll K G vs ds) : Rel K ⟨cut H [], G, []⟩ G H (vs.map some ++ List.replicate (n - vs.length) none) (env0 n (ds.map S.d)) := by
  have hl := dpAll_len h
  have nown : ∀ (i : Nat) (s : S), s.own = true → (env0 n (ds.map S.d))[i]? ≠ some (some s) := by
    intro i xs hs q
    have q2 := env0_get q
    rw [List.getElem?_map] at q2
    cases e : ds[i]? with
    | none => rw [e] at q2; cases q2
    | some x => rw [e] at q2; cases q2; cases hs
  refine ⟨?_, gh, ?_, .refl _, fun _ _ z => z, fun i b q => ?_, fun i d q => ?_, fun i xs q hs => absurd q (nown i xs hs), fun i j p xs ys q _ hs => absurd q (nown i xs hs)⟩
  · unfold env0
    simp [hl]
  · rw [cut_nil]
    exact .refl _
  · simp at q
  · have q2 := env0_get q
    rw [List.getElem?_map] at q2
    cases e : ds[i]? with
    | none => rw [e] at q2; cases q2
    | some x =>
      rw [e] at q2
      cases q2
      obtain ⟨v, w1, w2⟩ := dpAll_get h e
      exact ⟨v, start_get w1, w2⟩
theorem grow_of_args {G3 H3 : Hp} (rl : Rel K ⟨cut H [], G, []⟩ G3 H3 σ' ρ') : Grow G H G3 H3 := by
  refine ⟨rl.g0, ?_, rl.gh, fun a h => ?_⟩
  · have := rl.fh
    rw [cut_nil] at this
    exact this
  · by_cases hH : H a = none
    · exact .inr hH
    · refine .inl (rl.gf a ?_ h)
      rw [cut_nil]
      exact hH
theorem sim_call0 {ex : Bool} {k n : Nat} {mb : Env → Out} {WC : XK → Wish} {E : XK} {ta : TA} {ms : Env → Res (List R)} (h : SimA K P W ta ms) (hx : ex = true → ∀ σ σ' c H, W σ c H → WC E σ' c H) :
    SimE K P W (tCall (spM K 0 k n WC mb) [] E ta) (mCall0 ex P k n mb ms) := by
  intro f G H σ ρ Q hp rl hq
  refine h f G H σ ρ _ hp rl ?_
  unfold mCall0 at hq
  cases e : ms ρ with
  | no => rw [e] at hq; exact hq
  | exc c ρ1 => rw [e] at hq; exact hq
  | ok rs ρ1 =>
    rw [e] at hq
    intro vs G1 H1 s1 rl1 h1
    simp only [Res.bind] at hq
    split at hq
    · exact hq.elim
    · next ρ2 e2 =>
      obtain ⟨G2, s2, rl2⟩ := rl1.frzA hp e2
      split at hq
      · exact hq.elim
      · next ds e3 =>
        split at hq
        · next hk =>
          have hd : DpAll K G2 vs ds := (h1.same s2).dat rl2 e3
          rw [List.append_nil]
          refine ⟨by rw [dpAll_len hd]; exact hk, [], G2, ds.map S.d, rfl, by rw [List.length_map]; exact hk, rel_args rl2.gh hd, ?_⟩
          have same1 : ∀ {G3 H3 : Hp} {σ' : L2.St} {ρ' : Env}, Rel K ⟨cut H1 [], G2, []⟩ G3 H3 σ' ρ' → Grow G1 H1 G1 H3 := fun rl3 => by
            have gr := grow_of_args rl3
            exact ⟨.refl _, gr.2.1, (s2.trans gr.1).trans gr.2.2.1, fun a z => .inl z⟩
          cases e4 : mb (env0 n (ds.map S.d)) with
          | no => rw [e4] at hq; exact hq.elim
          | bk _ => rw [e4] at hq; exact hq.elim
          | ct _ => rw [e4] at hq; exact hq.elim
          | nx ρ3 =>
            rw [e4] at hq
            intro G3 H3 σ3 s3 rl3
            exact hq .non G1 H3 s1 (rl1.grow (same1 rl3)) .non
          | exc c ρ3 =>
            rw [e4] at hq
            intro G3 H3 σ3 s3 rl3
            simp only at hq
            split at hq
            · next hex => exact hx hex σ σ3 c H3 (hq G1 H3 s1 (rl1.grow (same1 rl3)))
            · exact hq.elim
          | rt s ρ3 =>
            rw [e4] at hq
            intro v G3 H3 σ3 s3 rl3 hv
            have gr := grow_of_args rl3
            cases s with
            | d x =>
              simp only at hq
              split at hq
              · next hf => exact hq v G1 H3 s1 (rl1.grow (same1 rl3)) (flat_dp hv hf)
              · exact hq v G3 H3 ((s1.trans s2).trans gr.1) (rl2.grow gr) hv
            | m kvs => exact hq.elim
            | o xs =>
              obtain ⟨p, us, rfl, w1, w2, w3, w4, _⟩ := hv
              have w4 : cut H1 [] p = none := w4
              rw [cut_nil] at w4
              have nv : NewV K H1 G3 H3 (.ref p) (.o xs) := ⟨p, us, rfl, w4, w1, w2, w3⟩
              exact hq _ G3 H3 ((s1.trans s2).trans gr.1) (rl2.grow gr) (nv.vrep rl2 gr)
        · exact hq.elim

/-! lending -/
inductive Lent (K : PySem.W.Frag) (G : Hp) (σ : L2.St) (ρ : Env) : List V → List S → List (Option Nat) → Prop
  | nil : Lent K G σ ρ [] [] []
  | dat {v : V} {vs : List V} {d : D} {ss : List S} {js : List (Option Nat)} : Dp K G v d → Lent K G σ ρ vs ss js → Lent K G σ ρ (v :: vs) (.d d :: ss) (none :: js)
  | own {j : Nat} {v : V} {vs : List V} {s : S} {ss : List S} {js : List (Option Nat)} : σ[j]? = some (some v) → ρ[j]? = some (some s) → s.own = true → Lent K G σ ρ vs ss js → Lent K G σ ρ (v :: vs) (s :: ss) (some j :: js)
theorem Lent.len {vs : List V} {ss : List S} {js : List (Option Nat)} (h : Lent K G σ ρ vs ss js) : vs.length = ss.length ∧ js.length = ss.length := by
  induction h with
  | nil => exact ⟨rfl, rfl⟩
  | dat _ _ ih => exact ⟨by simp [ih.1], by simp [ih.2]⟩
  | own _ _ _ _ ih => exact ⟨by simp [ih.1], by simp [ih.2]⟩
theorem Lent.get {vs : List V} {ss : List S} {js : List (Option Nat)} (h : Lent K G σ ρ vs ss js) : ∀ {i : Nat} {s : S}, ss[i]? = some s →
    (∃ v d, s = .d d ∧ vs[i]? = some v ∧ Dp K G v d ∧ js[i]? = some none) ∨ (∃ v j, s.own = true ∧ vs[i]? = some v ∧ js[i]? = some (some j) ∧ σ[j]? = some (some v) ∧ ρ[j]? = some (some s)) := by
  induction h with
  | nil => intro i s e; simp at e
  | dat h1 _ ih =>
    intro i s e
    cases i with
    | zero => simp at e; subst e; exact .inl ⟨_, _, rfl, rfl, h1, rfl⟩
    | succ i => simpa using ih (i := i) (s := s) (by simpa using e)
  | own h1 h2 h3 _ ih =>
    intro i s e
    cases i with
    | zero => simp at e; subst e; exact .inr ⟨_, _, h3, rfl, rfl, h1, h2⟩
    | succ i => simpa using ih (i := i) (s := s) (by simpa using e)
theorem Lent.at {vs : List V} {ss : List S} {js : List (Option Nat)} (h : Lent K G σ ρ vs ss js) {i j : Nat} (e : js[i]? = some (some j)) : ∃ s v, ss[i]? = some s ∧ s.own = true ∧ vs[i]? = some v ∧ σ[j]? = some (some v) ∧ ρ[j]? = some (some s) := by
  have hl := h.len
  have hi : i < ss.length := by
    have := (List.getElem?_eq_some_iff.mp e).1
    omega
  rcases h.get (List.getElem?_eq_getElem hi) with ⟨v, d, _, _, _, q⟩ | ⟨v, j', h1, h2, h3, h4, h5⟩
  · rw [q] at e; cases e
  · rw [h3] at e
    cases e
    exact ⟨_, v, List.getElem?_eq_getElem hi, h1, h2, h4, h5⟩
/-- the addresses of what is lent, at the first places -/
def pinsOf : List (Option Nat) → List V → List (Option Addr)
  | some _ :: js, .ref b :: vs => some b :: pinsOf js vs
  | _ :: js, _ :: vs => none :: pinsOf js vs
  | _, _ => []
theorem pinsOf_len : ∀ {js : List (Option Nat)} {vs : List V}, js.length = vs.length → (pinsOf js vs).length = vs.length
  | [], [], _ => rfl
  | [], _ :: _, h => by simp at h
  | _ :: _, [], h => by simp at h
  | j :: js, v :: vs, h => by
    have ih := pinsOf_len (js := js) (vs := vs) (by simpa using h)
    cases j with
    | none => simp [pinsOf, ih]
    | some j => cases v <;> simp [pinsOf, ih]
theorem pinsOf_get : ∀ {js : List (Option Nat)} {vs : List V} {i : Nat} {b : Addr}, (pinsOf js vs)[i]? = some (some b) → ∃ j, js[i]? = some (some j) ∧ vs[i]? = some (V.ref b)
  | [], _, i, b, h => by simp [pinsOf] at h
  | j :: js, [], i, b, h => by cases j <;> simp [pinsOf] at h
  | j :: js, v :: vs, 0, b, h => by
    cases j with
    | none => simp [pinsOf] at h
    | some j =>
      cases v with
      | ref a => simp [pinsOf] at h; subst h; exact ⟨j, rfl, rfl⟩
      | _ => simp [pinsOf] at h
  | j :: js, v :: vs, i + 1, b, h => by
    have h' : (pinsOf js vs)[i]? = some (some b) := by
      cases j with
      | none => simpa [pinsOf] using h
      | some j => cases v <;> simpa [pinsOf] using h
    simpa using pinsOf_get h'
theorem pinsOf_at : ∀ {js : List (Option Nat)} {vs : List V} {i j : Nat} {b : Addr}, js[i]? = some (some j) → vs[i]? = some (V.ref b) → (pinsOf js vs)[i]? = some (some b)
  | [], _, i, j, b, h, _ => by simp at h
  | _ :: js, [], i, j, b, _, h => by simp at h
  | j0 :: js, v :: vs, 0, j, b, h1, h2 => by
    simp at h1 h2
    subst h1 h2
    rfl
  | j0 :: js, v :: vs, i + 1, j, b, h1, h2 => by
    have ih := pinsOf_at (js := js) (vs := vs) (i := i) (j := j) (b := b) (by simpa using h1) (by simpa using h2)
    cases j0 with
    | none => simpa [pinsOf] using ih
    | some j => cases v <;> simpa [pinsOf] using ih
theorem nodup_at {js : List (Option Nat)} (h : (js.filterMap id).Nodup) : ∀ {i l j : Nat}, js[i]? = some (some j) → js[l]? = some (some j) → i = l := by
  induction js with
  | nil => intro i l j e; simp at e
  | cons x js ih =>
    intro i l j e1 e2
    have mem : ∀ {i : Nat}, js[i]? = some (some j) → j ∈ js.filterMap id := fun {i} e => List.mem_filterMap.mpr ⟨some j, List.mem_of_getElem? e, rfl⟩
    cases x with
    | none =>
      have h' : (js.filterMap id).Nodup := by simpa using h
      cases i with
      | zero => simp at e1
      | succ i =>
        cases l with
        | zero => simp at e2
        | succ l => exact congrArg (· + 1) (ih h' (i := i) (l := l) (j := j) (by simpa using e1) (by simpa using e2))
    | some x =>
      have h' : x ∉ js.filterMap id ∧ (js.filterMap id).Nodup := by simpa using h
      cases i with
      | zero =>
        simp at e1
        subst e1
        cases l with
        | zero => rfl
        | succ l => exact absurd (mem (by simpa using e2)) h'.1
      | succ i =>
        cases l with
        | zero =>
          simp at e2
          subst e2
          exact absurd (mem (by simpa using e1)) h'.1
        | succ l => exact congrArg (· + 1) (ih h'.2 (i := i) (l := l) (j := j) (by simpa using e1) (by simpa using e2))
theorem takeB_len {ρ' : Env} : ∀ {js : List (Option Nat)} {i : Nat} {ρ ρ3 : Env}, takeB ρ' i js ρ = some ρ3 → ρ3.length = ρ.length
  | [], _, _, _, e => by cases e; rfl
  | none :: js, i, ρ, ρ3, e => takeB_len (js := js) e
  | some j :: js, i, ρ, ρ3, e => by
    simp only [takeB] at e
    split at e
    · split at e
      · rw [takeB_len e, List.length_set]
      · cases e
    · cases e
theorem takeB_out {ρ' : Env} : ∀ {js : List (Option Nat)} {i : Nat} {ρ ρ3 : Env} {k : Nat}, takeB ρ' i js ρ = some ρ3 → k ∉ js.filterMap id → ρ3[k]? = ρ[k]?
  | [], _, _, _, _, e, _ => by cases e; rfl
  | none :: js, i, ρ, ρ3, k, e, h => takeB_out (js := js) e (by simpa using h)
  | some j :: js, i, ρ, ρ3, k, e, h => by
    have h' : ¬ k = j ∧ k ∉ js.filterMap id := by simpa using h
    simp only [takeB] at e
    split at e
    · split at e
      · rw [takeB_out e h'.2, List.getElem?_set_ne (fun z => h'.1 z.symm)]
      · cases e
    · cases e
theorem takeB_in {ρ' : Env} : ∀ {js : List (Option Nat)} {i l : Nat} {ρ ρ3 : Env} {j : Nat}, takeB ρ' i js ρ = some ρ3 → (js.filterMap id).Nodup → js[l]? = some (some j) → j < ρ.length → ∃ s, ρ'[i + l]? = some (some s) ∧ s.own = true ∧ ρ3[j]? = some (some s)
  | [], _, _, _, _, _, _, _, e, _ => by simp at e
  | none :: js, i, l, ρ, ρ3, j, e, nd, h, hj => by
    cases l with
    | zero => simp at h
    | succ l =>
      have := takeB_in (js := js) (i := i + 1) (l := l) e (by simpa using nd) (by simpa using h) hj
      rw [show i + 1 + l = i + (l + 1) by omega] at this
      exact this
  | some j0 :: js, i, l, ρ, ρ3, j, e, nd, h, hj => by
    have nd' : j0 ∉ js.filterMap id ∧ (js.filterMap id).Nodup := by simpa using nd
    simp only [takeB] at e
    split at e
    · next s es =>
      split at e
      · next ho =>
        cases l with
        | zero =>
          simp at h
          subst h
          refine ⟨s, by simpa using es, ho, ?_⟩
          rw [takeB_out e nd'.1, List.getElem?_set_self hj]
        | succ l =>
          have := takeB_in (js := js) (i := i + 1) (l := l) e nd'.2 (by simpa using h) (by rw [List.length_set]; exact hj)
          rw [show i + 1 + l = i + (l + 1) by omega] at this
          exact this
      · cases e
    · cases e
theorem frzM_ok (hp : f.pins.length = P) : ∀ {rs : List R} {ms : List Bool} {G : Hp} {ρ ρ' : Env}, Rel K f G H σ ρ → frzM P ms rs ρ = some ρ' → ∃ G', Same G G' ∧ Rel K f G' H σ ρ'
  | [], _, G, ρ, ρ', rl, e => by
    have : ρ = ρ' := by cases ‹List Bool› with
      | nil => simpa [frzM] using e
      | cons m ms => simpa [frzM] using e
    subst this
    exact ⟨G, .refl _, rl⟩
  | r :: rs, [], G, ρ, ρ', rl, e => by
    simp only [frzM] at e
    split at e
    · next ρ1 q =>
      obtain ⟨G1, s1, rl1⟩ := rl.frz1 hp q
      obtain ⟨G2, s2, rl2⟩ := frzM_ok hp rl1 e
      exact ⟨G2, s1.trans s2, rl2⟩
    · cases e
  | r :: rs, true :: ms, G, ρ, ρ', rl, e => frzM_ok hp (rs := rs) (ms := ms) rl e
  | r :: rs, false :: ms, G, ρ, ρ', rl, e => by
    simp only [frzM] at e
    split at e
    · next ρ1 q =>
      obtain ⟨G1, s1, rl1⟩ := rl.frz1 hp q
      obtain ⟨G2, s2, rl2⟩ := frzM_ok hp rl1 e
      exact ⟨G2, s1.trans s2, rl2⟩
    · cases e
theorem lend_ok (rl : Rel K f G H σ ρ) : ∀ {rs : List R} {ms : List Bool} {vs : List V} {ss : List S} {js : List (Option Nat)}, HoldAll K G σ vs rs → lendS ρ ms rs = some (ss, js) → Lent K G σ ρ vs ss js ∧ ∀ i j, js[i]? = some (some j) → i < ms.length
  | [], ms, vs, ss, js, h, e => by
    cases h
    have : ss = [] ∧ js = [] := by cases ms <;> (simp only [lendS] at e; cases e; exact ⟨rfl, rfl⟩)
    obtain ⟨rfl, rfl⟩ := this
    exact ⟨.nil, fun i j e => by simp at e⟩
  | r :: rs, [], vs, ss, js, h, e => by
    cases h with
    | cons h1 h2 =>
      simp only [lendS] at e
      split at e
      · next x ss' js' e1 e2 =>
        cases e
        obtain ⟨l, m⟩ := lend_ok rl h2 e2
        refine ⟨.dat (h1.dat rl e1) l, fun i j q => ?_⟩
        cases i with
        | zero => simp at q
        | succ i => exact absurd (m i j (by simpa using q)) (by simp)
      · cases e
  | r :: rs, false :: ms, vs, ss, js, h, e => by
    cases h with
    | cons h1 h2 =>
      simp only [lendS] at e
      split at e
      · next x ss' js' e1 e2 =>
        cases e
        obtain ⟨l, m⟩ := lend_ok rl h2 e2
        refine ⟨.dat (h1.dat rl e1) l, fun i j q => ?_⟩
        cases i with
        | zero => simp at q
        | succ i => have := m i j (by simpa using q); simp; omega
      · cases e
  | .o xs :: rs, true :: ms, vs, ss, js, h, e => by simp [lendS] at e
  | .d x :: rs, true :: ms, vs, ss, js, h, e => by
    cases h with
    | cons h1 h2 =>
      simp only [lendS] at e
      split at e
      · next ss' js' e2 =>
        cases e
        obtain ⟨l, m⟩ := lend_ok rl h2 e2
        refine ⟨.dat h1 l, fun i j q => ?_⟩
        cases i with
        | zero => simp at q
        | succ i => have := m i j (by simpa using q); simp; omega
      · cases e
  | .b j0 :: rs, true :: ms, vs, ss, js, h, e => by
    cases h with
    | cons h1 h2 =>
      rename_i v vs
      have h1 : σ[j0]? = some (some v) := h1
      simp only [lendS] at e
      split at e
      · next x ex =>
        split at e
        · next ss' js' e2 =>
          cases e
          obtain ⟨l, m⟩ := lend_ok rl h2 e2
          obtain ⟨u, w1, w2⟩ := rl.dat j0 x ex
          rw [h1] at w1
          cases w1
          refine ⟨.dat w2 l, fun i j q => ?_⟩
          cases i with
          | zero => simp at q
          | succ i => have := m i j (by simpa using q); simp; omega
        · cases e
      · next s hn es =>
        split at e
        · next ss' js' e2 =>
          cases e
          obtain ⟨l, m⟩ := lend_ok rl h2 e2
          have ho : s.own = true := by
            cases s with
            | d x => exact absurd rfl (hn x)
            | o _ => rfl
            | m _ => rfl
          refine ⟨.own h1 es ho l, fun i j q => ?_⟩
          cases i with
          | zero => simp
          | succ i => have := m i j (by simpa using q); simp; omega
        · cases e
      · cases e
theorem start_at {n : Nat} {vs : List V} {i : Nat} {v : V} (h : vs[i]? = some v) : (vs.map some ++ List.replicate (n - vs.length) none)[i]? = some (some v) := start_get h
/-- at the callee's start -/
theorem rel_argsM {n np : Nat} {vs : List V} {ss : List S} {js : List (Option Nat)} (rl : Rel K f G H σ ρ) (L : Lent K G σ ρ vs ss js) (nd : (js.filterMap id).Nodup) (hm : ∀ i j, js[i]? = some (some j) → i < np) :
    Rel K ⟨cut H ((pinsOf js vs).take np), G, (pinsOf js vs).take np⟩ G H (vs.map some ++ List.replicate (n - vs.length) none) (env0 n ss) := by
  have hl := L.len
  have cutS : ∀ a o, cut H ((pinsOf js vs).take np) a = some o → H a = some o := fun a o q => by
    unfold cut at q
    split at q
    · cases q
    · exact q
  have atP : ∀ {i j : Nat} {b : Addr}, js[i]? = some (some j) → vs[i]? = some (V.ref b) → some b ∈ (pinsOf js vs).take np := fun {i j b} e1 e2 => by
    have := pinsOf_at e1 e2
    refine List.mem_of_getElem? (i := i) ?_
    rw [List.getElem?_take_of_lt (hm i j e1)]
    exact this
  refine ⟨?_, rl.gh, cutS, .refl _, fun _ _ z => z, fun i b q => ?_, fun i d q => ?_, fun i s q hs => ?_, fun i j p s t q1 q2 hs1 hs2 q3 q4 => ?_⟩
  · unfold env0
    simp [hl.1]
  · have q : (pinsOf js vs)[i]? = some (some b) := by
      by_cases hi : i < np
      · rw [← List.getElem?_take_of_lt hi]; exact q
      · rw [List.getElem?_eq_none (by rw [List.length_take]; omega)] at q
        cases q
    obtain ⟨j, e1, e2⟩ := pinsOf_get q
    obtain ⟨s, v, w1, w2, w3, _⟩ := L.at e1
    refine ⟨start_at e2, s, ?_, w2⟩
    unfold env0
    rw [List.getElem?_append_left (by rw [List.length_map]; exact (List.getElem?_eq_some_iff.mp w1).1), List.getElem?_map, w1]
    rfl
  · have q2 := env0_get q
    rcases L.get q2 with ⟨v, d', h1, h2, h3, _⟩ | ⟨v, j, h1, _⟩
    · cases h1
      exact ⟨v, start_at h2, h3⟩
    · cases h1
  · have q2 := env0_get q
    rcases L.get q2 with ⟨v, d', h1, h2, h3, _⟩ | ⟨v, j, h1, h2, h3, h4, h5⟩
    · subst h1
      cases hs
    · obtain ⟨p, o, w1, w2, w3, w4, w5⟩ := rl.ow j s h5 h1
      rw [h4] at w1
      cases w1
      refine ⟨p, o, start_at h2, w2, w3, w4, ?_⟩
      show cut H _ p = none
      unfold cut
      rw [if_pos (atP h3 h2)]
  · have q1 := env0_get q1
    have q2 := env0_get q2
    rcases L.get q1 with ⟨v, d', h1, _⟩ | ⟨v, i', h1, h2, h3, h4, h5⟩
    · subst h1; cases hs1
    rcases L.get q2 with ⟨v', d', h1', _⟩ | ⟨v', j', h1', h2', h3', h4', h5'⟩
    · subst h1'; cases hs2
    rw [start_at h2] at q3
    rw [start_at h2'] at q4
    cases q3
    cases q4
    have : i' = j' := rl.injS i' j' p s t h5 h5' h1 h1' h4 h4'
    subst this
    exact nodup_at nd h3 h3'
/-- behind the callee -/
theorem rel_backM {np : Nat} {vs : List V} {ss : List S} {js : List (Option Nat)} {G2 H1 G3 H3 : Hp} {ρ2 ρ3 : Env} (rl2 : Rel K f G2 H1 σ ρ2) (L : Lent K G2 σ ρ2 vs ss js) (nd : (js.filterMap id).Nodup) (hm : ∀ i j, js[i]? = some (some j) → i < np)
    (rl3 : Rel K ⟨cut H1 ((pinsOf js vs).take np), G2, (pinsOf js vs).take np⟩ G3 H3 σ' ρ') (tb : takeB ρ' 0 js ρ2 = some ρ3) :
    Rel K f G3 H3 σ ρ3 ∧ Same G2 G3 ∧ ∀ (i : Nat) (s : S), ρ3[i]? = some (some s) → s.own = true → ∃ s', ρ2[i]? = some (some s') ∧ s'.own = true := by
  have hlen : ρ3.length = ρ2.length := takeB_len tb
  -- the lent addresses
  have lent : ∀ {i j : Nat}, js[i]? = some (some j) → ∃ b s, vs[i]? = some (V.ref b) ∧ σ[j]? = some (some (V.ref b)) ∧ ρ2[j]? = some (some s) ∧ s.own = true := fun {i j} e => by
    obtain ⟨s, v, w1, w2, w3, w4, w5⟩ := L.at e
    obtain ⟨p, o, z1, z2, z3, z4, z5⟩ := rl2.ow j s w5 w2
    rw [w4] at z1
    cases z1
    exact ⟨p, s, w3, w4, w5, w2⟩
  have inP : ∀ {b : Addr}, some b ∈ (pinsOf js vs).take np → ∃ (i j : Nat), js[i]? = some (some j) ∧ vs[i]? = some (V.ref b) := fun {b} h => by
    obtain ⟨i, hi⟩ := List.getElem?_of_mem (List.mem_of_mem_take h)
    obtain ⟨j, e1, e2⟩ := pinsOf_get hi
    exact ⟨i, j, e1, e2⟩
  have isJ : ∀ {k : Nat}, k ∈ js.filterMap id → ∃ i, js[i]? = some (some k) := fun {k} h => by
    obtain ⟨o, h1, h2⟩ := List.mem_filterMap.mp h
    obtain ⟨i, hi⟩ := List.getElem?_of_mem h1
    have h2 : o = some k := h2
    subst h2
    exact ⟨i, hi⟩
  have cutK : ∀ a, some a ∉ (pinsOf js vs).take np → cut H1 ((pinsOf js vs).take np) a = H1 a := fun a h => by
    unfold cut
    rw [if_neg h]
  -- what a slot is, behind
  have was : ∀ (k : Nat) (s : S), ρ3[k]? = some (some s) → (∃ (i : Nat) (b : Addr), js[i]? = some (some k) ∧ vs[i]? = some (V.ref b) ∧ σ[k]? = some (some (V.ref b)) ∧ ρ'[i]? = some (some s) ∧ s.own = true) ∨ (k ∉ js.filterMap id ∧ ρ2[k]? = some (some s)) := by
    intro k s e
    by_cases hk : k ∈ js.filterMap id
    · obtain ⟨i, hi⟩ := isJ hk
      obtain ⟨b, s0, w1, w2, w3, w4⟩ := lent hi
      obtain ⟨t, z1, z2, z3⟩ := takeB_in tb nd hi (List.getElem?_eq_some_iff.mp w3).1
      rw [z3] at e
      cases e
      rw [Nat.zero_add] at z1
      exact .inl ⟨i, b, hi, w1, w2, z1, z2⟩
    · rw [takeB_out tb hk] at e
      exact .inr ⟨hk, e⟩
  have own2 : ∀ (i : Nat) (s : S), ρ3[i]? = some (some s) → s.own = true → ∃ s', ρ2[i]? = some (some s') ∧ s'.own = true := by
    intro i s e hs
    rcases was i s e with ⟨l, b, h1, h2, h3, h4, h5⟩ | ⟨h1, h2⟩
    · obtain ⟨b', s', w1, w2, w3, w4⟩ := lent h1
      exact ⟨s', w3, w4⟩
    · exact ⟨s, h2, hs⟩
  have fnb : ∀ a o, f.F a = some o → some a ∉ (pinsOf js vs).take np := fun a o q h => by
    obtain ⟨i, j, e1, e2⟩ := inP h
    obtain ⟨b, s, w1, w2, w3, w4⟩ := lent e1
    rw [e2] at w1
    cases w1
    obtain ⟨p, o', z1, z2, z3, z4, z5⟩ := rl2.ow j s w3 w4
    rw [w2] at z1
    cases z1
    rw [z5] at q
    cases q
  refine ⟨⟨hlen ▸ rl2.len, rl3.gh, fun a o q => ?_, rl2.g0.trans rl3.g0, fun a q1 q2 => ?_, fun i b q => ?_, fun i d q => ?_, fun k s q hs => ?_, fun k l p s t q1 q2 hs1 hs2 q3 q4 => ?_⟩, rl3.g0, own2⟩
  · refine rl3.fh a o ?_
    show cut H1 _ a = some o
    rw [cutK a (fnb a o q)]
    exact rl2.fh a o q
  · cases e : f.F a with
    | none => exact absurd e q1
    | some o =>
      refine rl2.gf a q1 (rl3.gf a ?_ q2)
      show cut H1 _ a ≠ none
      rw [cutK a (fnb a o e), rl2.fh a o e]
      exact fun z => nomatch z
  · obtain ⟨w1, s, w2, w3⟩ := rl2.pin i b q
    refine ⟨w1, ?_⟩
    by_cases hk : i ∈ js.filterMap id
    · obtain ⟨l, hl⟩ := isJ hk
      obtain ⟨t, z1, z2, z3⟩ := takeB_in tb nd hl (List.getElem?_eq_some_iff.mp w2).1
      exact ⟨t, z3, z2⟩
    · exact ⟨s, by rw [takeB_out tb hk]; exact w2, w3⟩
  · rcases was i _ q with ⟨l, b, h1, h2, h3, h4, h5⟩ | ⟨h1, h2⟩
    · cases h5
    · obtain ⟨v, y1, y2⟩ := rl2.dat i d h2
      exact ⟨v, y1, dp_same rl3.g0 _ _ y2⟩
  · rcases was k s q with ⟨i, b, h1, h2, h3, h4, h5⟩ | ⟨h1, h2⟩
    · have hp : ((pinsOf js vs).take np)[i]? = some (some b) := by
        rw [List.getElem?_take_of_lt (hm i k h1)]
        exact pinsOf_at h1 h2
      obtain ⟨p1, s1, p2, p3⟩ := rl3.pin i b hp
      obtain ⟨p, o, x1, x2, x3, x4, x5⟩ := rl3.ow i s h4 h5
      rw [p1] at x1
      cases x1
      obtain ⟨b', s', w1, w2, w3, w4⟩ := lent h1
      rw [h3] at w2
      cases w2
      obtain ⟨p', o', z1, z2, z3, z4, z5⟩ := rl2.ow k s' w3 w4
      rw [h3] at z1
      cases z1
      exact ⟨b, o, h3, x2, x3, x4, z5⟩
    · obtain ⟨p', o', y1, y2, y3, y4, y5⟩ := rl2.ow k s h2 hs
      have hpb : some p' ∉ (pinsOf js vs).take np := fun h => by
        obtain ⟨i, j, e1, e2⟩ := inP h
        obtain ⟨b, s0, w1, w2, w3, w4⟩ := lent e1
        rw [e2] at w1
        cases w1
        have : k = j := rl2.injS k j p' s s0 h2 w3 hs w4 y1 w2
        subst this
        exact h1 (List.mem_filterMap.mpr ⟨some k, List.mem_of_getElem? e1, rfl⟩)
      refine ⟨p', o', y1, rl3.fh p' o' ?_, y3.same rl3.g0, ?_, y5⟩
      · show cut H1 _ p' = some o'
        rw [cutK p' hpb]
        exact y2
      · cases e : G3 p' with
        | none => rfl
        | some x =>
          refine absurd y4 (rl3.gf p' ?_ (ne_none_of e))
          show cut H1 _ p' ≠ none
          rw [cutK p' hpb, y2]
          exact fun z => nomatch z
  · obtain ⟨s1, w1, w3⟩ := own2 k s q1 hs1
    obtain ⟨s2, w2, w4⟩ := own2 l t q2 hs2
    exact rl2.injS k l p s1 s2 w1 w2 w3 w4 q3 q4
theorem sim_callM {mask : List Bool} {k n : Nat} {mb : Env → Out} {WC : XK → Wish} {E : XK} {ta : TA} {ms : Env → Res (List R)} (h : SimA K P W ta ms) :
    SimE K P W (tCall (spM K mask.length k n WC mb) [] E ta) (mCallM P mask k n mb ms) := by
  intro f G H σ ρ Q hp rl hq
  refine h f G H σ ρ _ hp rl ?_
  unfold mCallM at hq
  cases e : ms ρ with
  | no => rw [e] at hq; exact hq
  | exc c ρ1 => rw [e] at hq; exact hq
  | ok rs ρ1 =>
    rw [e] at hq
    intro vs G1 H1 s1 rl1 h1
    simp only [Res.bind] at hq
    split at hq
    · exact hq.elim
    · next ρ2 e2 =>
      obtain ⟨G2, s2, rl2⟩ := frzM_ok hp rl1 e2
      split at hq
      · exact hq.elim
      · next ss js e3 =>
        have h2 : HoldAll K G2 σ vs rs := by
          clear e3 e2 e hq
          induction h1 with
          | nil => exact .nil
          | cons a _ ih => exact .cons (a.same s2) ih
        obtain ⟨L, hm⟩ := lend_ok rl2 h2 e3
        have hl := L.len
        split at hq
        · next hk =>
          obtain ⟨hk1, hk2, nd0⟩ := hk
          have nd := ndJ_ok nd0
          have pl : ((pinsOf js vs).take mask.length).length = mask.length := by
            rw [List.length_take, pinsOf_len (by rw [hl.1, hl.2]), hl.1, hk1]
            omega
          rw [List.append_nil]
          refine ⟨by rw [hl.1]; exact hk1, _, G2, ss, pl, hk1, rel_argsM rl2 L nd hm, ?_⟩
          cases e5 : mb (env0 n ss) with
          | no => rw [e5] at hq; exact hq.elim
          | bk _ => rw [e5] at hq; exact hq.elim
          | ct _ => rw [e5] at hq; exact hq.elim
          | exc c ρ3 => rw [e5] at hq; exact hq.elim
          | nx ρ' =>
            rw [e5] at hq
            intro G3 H3 σ3 s3 rl3
            simp only at hq
            split at hq
            · next ρ3 e6 =>
              obtain ⟨r3, s23, _⟩ := rel_backM rl2 L nd hm rl3 e6
              exact hq .non G3 H3 ((s1.trans s2).trans s23) r3 .non
            · exact hq.elim
          | rt s ρ' =>
            rw [e5] at hq
            intro v G3 H3 σ3 s3 rl3 hv
            cases s with
            | m kvs => exact hq.elim
            | d x =>
              simp only at hq
              split at hq
              · next ρ3 e6 =>
                obtain ⟨r3, s23, _⟩ := rel_backM rl2 L nd hm rl3 e6
                exact hq v G3 H3 ((s1.trans s2).trans s23) r3 hv
              · exact hq.elim
            | o zs =>
              simp only at hq
              split at hq
              · next ρ3 e6 =>
                obtain ⟨r3, s23, own2⟩ := rel_backM rl2 L nd hm rl3 e6
                obtain ⟨p, ts, rfl, y1, y2, y3, y4, y5⟩ := hv
                have hpb : some p ∉ (pinsOf js vs).take mask.length := fun h => by
                  obtain ⟨i, hi⟩ := List.getElem?_of_mem h
                  exact y5 i p hi rfl
                have hp1 : H1 p = none := by
                  have y4 : cut H1 ((pinsOf js vs).take mask.length) p = none := y4
                  unfold cut at y4
                  rw [if_neg hpb] at y4
                  exact y4
                refine hq _ G3 H3 ((s1.trans s2).trans s23) r3 ⟨p, ts, rfl, y1, y2, y3, rl2.fh.free hp1, fun i as q hs z => ?_⟩
                obtain ⟨s', q', hs'⟩ := own2 i as q hs
                obtain ⟨p', o', g1, g2, _⟩ := rl2.ow i s' q' hs'
                rw [z] at g1
                cases g1
                rw [hp1] at g2
                cases g2
              · exact hq.elim
        · exact hq.elim
end
end Z
namespace Z
open PySem L2

/-! ### operators by data -/
def gI (C : Int → Int → Bool) (g : Int → Int → D) : D → D → Option R
  | .int i, .int j => if C i j = true then some (.d (g i j)) else none
  | _, _ => none
def cAny : Int → Int → Bool := fun _ _ => true
def gAdd : D → D → Option R := gI cAny fun i j => .int (i + j)
def gSub : D → D → Option R := gI cAny fun i j => .int (i - j)
def cMul (i j : Int) : Bool := decide ((-(2 ^ 64) < i ∧ i < 2 ^ 64) ∨ (-(2 ^ 64) < j ∧ j < 2 ^ 64))
def gMul : D → D → Option R := gI cMul fun i j => .int (i * j)
def cDiv (_ j : Int) : Bool := decide (0 < j ∧ j < 1073741824)
def gDiv : D → D → Option R := gI cDiv fun i j => .int (i / j)
def cMod (_ j : Int) : Bool := decide (0 < j)
def gMod : D → D → Option R := gI cMod fun i j => .int (i % j)
def cPow (i j : Int) : Bool := decide (0 ≤ j ∧ j ≤ 1000000 ∧ i.natAbs < 2 ^ 64)
def gPow : D → D → Option R := gI cPow fun i j => .int (i ^ j.toNat)
def gShl : D → D → Option R := gI cPow fun i j => .int (i * 2 ^ j.toNat)
def cShr (_ j : Int) : Bool := decide (0 ≤ j)
def gShr : D → D → Option R := gI cShr fun i j => .int (i / 2 ^ j.toNat)
def gAnd : D → D → Option R := gI cAny fun i j => .int (Builtin.bitAnd i j)
def gOr : D → D → Option R := gI cAny fun i j => .int (Builtin.bitOr i j)
def gLt : D → D → Option R := gI cAny fun i j => .bool (decide (i < j))
def gLe : D → D → Option R := gI cAny fun i j => .bool (decide (i ≤ j))
def gGt : D → D → Option R := gI cAny fun i j => .bool (decide (j < i))
def gGe : D → D → Option R := gI cAny fun i j => .bool (decide (j ≤ i))
def gNeg : D → Option R
  | .int i => some (.d (.int (-i)))
  | _ => none
def gEq (d e : D) : Option R := if (SeqAt.shaped d && SeqAt.shaped e) = true then some (.d (.bool (PyData.eqv d e))) else none
def gNe (d e : D) : Option R := if (SeqAt.shaped d && SeqAt.shaped e) = true then some (.d (.bool (!PyData.eqv d e))) else none
def gIn (d : D) : D → Option R
  | .list es => if (SeqAt.shaped d && SeqAt.shaped (.list es)) = true then some (.d (.bool (es.any fun z => PyData.eqv z d))) else none
  | _ => none
def gNotIn (d : D) : D → Option R
  | .list es => if (SeqAt.shaped d && SeqAt.shaped (.list es)) = true then some (.d (.bool (!es.any fun z => PyData.eqv z d))) else none
  | _ => none
def gIx : D → D → Option R
  | .list xs, .int i => (match atI xs i with
    | some x => some (.d x)
    | none => none)
  | .tuple xs, .int i => (match atI xs i with
    | some x => some (.d x)
    | none => none)
  | _, _ => none
section
variable {K : PySem.W.Frag}
/-- what needs no heap -/
theorem ops_sc {r : R2} {g : D → D → Option R} (h : ∀ (G H : Hp) (x y : V) (d e : D) (z : R), Same G H → Got K G H x d → Got K G H y e → g d e = some z → ∃ v u, z = .d u ∧ CV v u ∧ ∀ Q : VK, Q v H → r x y H Q) : OpS K r g := by
  intro G H x y d e z Q s h1 h2 eg hq
  obtain ⟨v, u, rfl, hc, k⟩ := h G H x y d e z s h1 h2 eg
  exact k Q (hq v G H (.refl s) hc.dp)
theorem ops_I {C : Int → Int → Prop} {c : Int → Int → Bool} {f : Int → Int → V} {g : Int → Int → D} (hc : ∀ i j, c i j = true → C i j) (hf : ∀ i j, CV (f i j) (g i j)) : OpS K (rI C f) (gI c g) := by
  refine ops_sc fun G H x y d e z s h1 h2 eg => ?_
  unfold gI at eg
  split at eg
  · next i j =>
    split at eg
    · next hij =>
      cases eg
      exact ⟨f i j, g i j, rfl, hf i j, fun Q q => ⟨i, j, h1.int, h2.int, hc i j hij, q⟩⟩
    · cases eg
  · cases eg
theorem ops_I0 {f : Int → Int → V} {g : Int → Int → D} (hf : ∀ i j, CV (f i j) (g i j)) : OpS K (rI0 f) (gI cAny g) := by
  refine ops_sc fun G H x y d e z s h1 h2 eg => ?_
  unfold gI at eg
  split at eg
  · next i j =>
    split at eg
    · cases eg
      exact ⟨f i j, g i j, rfl, hf i j, fun Q q => ⟨i, j, h1.int, h2.int, q⟩⟩
    · cases eg
  · cases eg
theorem s_add : OpS K (rI0 fun i j => .int (i + j)) gAdd := ops_I0 fun i j => .int _
theorem s_sub : OpS K (rI0 fun i j => .int (i - j)) gSub := ops_I0 fun i j => .int _
theorem s_mul : OpS K (rI CMul fun i j => .int (i * j)) gMul := ops_I (fun i j h => of_decide_eq_true (p := (-(2 ^ 64) < i ∧ i < 2 ^ 64) ∨ (-(2 ^ 64) < j ∧ j < 2 ^ 64)) h) fun i j => .int _
theorem s_div : OpS K (rI CDiv fun i j => .int (i / j)) gDiv := ops_I (fun i j h => of_decide_eq_true (p := 0 < j ∧ j < 1073741824) h) fun i j => .int _
theorem s_mod : OpS K (rI (fun _ j => 0 < j) fun i j => .int (i % j)) gMod := ops_I (fun i j h => of_decide_eq_true (p := 0 < j) h) fun i j => .int _
theorem s_pow : OpS K (rI CPow fun i j => .int (i ^ j.toNat)) gPow := ops_I (fun i j h => of_decide_eq_true (p := 0 ≤ j ∧ j ≤ 1000000 ∧ i.natAbs < 2 ^ 64) h) fun i j => .int _
theorem s_shl : OpS K (rI CPow fun i j => .int (i * 2 ^ j.toNat)) gShl := ops_I (fun i j h => of_decide_eq_true (p := 0 ≤ j ∧ j ≤ 1000000 ∧ i.natAbs < 2 ^ 64) h) fun i j => .int _
theorem s_shr : OpS K (rI (fun _ j => 0 ≤ j) fun i j => .int (i / 2 ^ j.toNat)) gShr := ops_I (fun i j h => of_decide_eq_true (p := 0 ≤ j) h) fun i j => .int _
theorem s_and : OpS K (rI0 fun i j => .int (Builtin.bitAnd i j)) gAnd := ops_I0 fun i j => .int _
theorem s_or : OpS K (rI0 fun i j => .int (Builtin.bitOr i j)) gOr := ops_I0 fun i j => .int _
theorem s_lt : OpS K (rI0 fun i j => .bl (decide (i < j))) gLt := ops_I0 fun i j => .bl _
theorem s_le : OpS K (rI0 fun i j => .bl (decide (i ≤ j))) gLe := ops_I0 fun i j => .bl _
theorem s_gt : OpS K (rI0 fun i j => .bl (decide (j < i))) gGt := ops_I0 fun i j => .bl _
theorem s_ge : OpS K (rI0 fun i j => .bl (decide (j ≤ i))) gGe := ops_I0 fun i j => .bl _
theorem s_neg : UnS K (rU fun i => .int (-i)) gNeg := by
  intro G H x d z Q s h1 eg hq
  unfold gNeg at eg
  split at eg
  · next i =>
    cases eg
    exact ⟨i, h1.int, hq _ G H (.refl s) (.int _)⟩
  · cases eg
theorem s_eq : OpS K (rEqD K) gEq := by
  refine ops_sc fun G H x y d e z s h1 h2 eg => ?_
  unfold gEq at eg
  split at eg
  · next h =>
    cases eg
    rw [Bool.and_eq_true] at h
    exact ⟨_, _, rfl, .bl _, fun Q q => ⟨d, e, h1.dp s, h2.dp s, h.1, h.2, q⟩⟩
  · cases eg
theorem s_ne : OpS K (rNeD K) gNe := by
  refine ops_sc fun G H x y d e z s h1 h2 eg => ?_
  unfold gNe at eg
  split at eg
  · next h =>
    cases eg
    rw [Bool.and_eq_true] at h
    exact ⟨_, _, rfl, .bl _, fun Q q => ⟨d, e, h1.dp s, h2.dp s, h.1, h.2, q⟩⟩
  · cases eg
theorem s_in : OpS K (rInD K) gIn := by
  refine ops_sc fun G H x y d e z s h1 h2 eg => ?_
  unfold gIn at eg
  split at eg
  · next es =>
    split at eg
    · next h =>
      cases eg
      rw [Bool.and_eq_true] at h
      exact ⟨_, _, rfl, .bl _, fun Q q => ⟨d, es, h1.dp s, h2.dp s, h.1, h.2, q⟩⟩
    · cases eg
  · cases eg
theorem s_notIn : OpS K (rNotInD K) gNotIn := by
  refine ops_sc fun G H x y d e z s h1 h2 eg => ?_
  unfold gNotIn at eg
  split at eg
  · next es =>
    split at eg
    · next h =>
      cases eg
      rw [Bool.and_eq_true] at h
      exact ⟨_, _, rfl, .bl _, fun Q q => ⟨d, es, h1.dp s, h2.dp s, h.1, h.2, q⟩⟩
    · cases eg
  · cases eg
theorem atI_dp {G : Hp} {vs : List V} {ds : List D} {i : Int} {x : D} (h : DpAll K G vs ds) (e : atI ds i = some x) : ∃ v, atI vs i = some v ∧ Dp K G v x := by
  unfold atI at e ⊢
  rw [dpAll_len h]
  cases q : ixN ds.length i with
  | none => rw [q] at e; cases e
  | some j =>
    rw [q] at e
    exact dpAll_get h e
theorem s_ix : OpS K (rIx K) gIx := by
  intro G H x y d e z Q s h1 h2 eg hq
  unfold gIx at eg
  split at eg
  · next xs i =>
    split at eg
    · next u eu =>
      cases eg
      obtain ⟨a, vs, rfl, w1, w2⟩ := h1.lst s
      obtain ⟨v, w3, w4⟩ := atI_dp w2 eu
      exact .inl ⟨a, vs, i, v, rfl, h2.int, w1, w3, hq v G H (.refl s) w4⟩
    · cases eg
  · next xs i =>
    split at eg
    · next u eu =>
      cases eg
      obtain ⟨a, vs, rfl, w1, w2⟩ := h1.tup s
      obtain ⟨v, w3, w4⟩ := atI_dp w2 eu
      exact .inr (.inl ⟨a, vs, i, v, rfl, h2.int, w1, w3, hq v G H (.refl s) w4⟩)
    · cases eg
  · cases eg
end

/-! ### what is built in -/
section
variable {K : PySem.W.Frag}
def cLen : List D → Option R
  | [.list xs] => some (.d (.int xs.length))
  | [.tuple xs] => some (.d (.int xs.length))
  | _ => none
theorem s_len : CallS K (fun xs H Q => ∃ p ys, xs = [.ref p] ∧ (SqL K H p ys ∨ SqT K H p ys) ∧ Q (.int ys.length) H) cLen := by
  intro G H xs ds z Q s h eg hq
  unfold cLen at eg
  split at eg
  · next es =>
    cases eg
    cases h with
    | cons h1 h2 =>
      cases h2
      obtain ⟨a, vs, rfl, w1, w2⟩ := h1.lst s
      refine ⟨a, vs, rfl, .inl w1, ?_⟩
      rw [dpAll_len w2]
      exact hq _ G H (.refl s) (.int _)
  · next es =>
    cases eg
    cases h with
    | cons h1 h2 =>
      cases h2
      obtain ⟨a, vs, rfl, w1, w2⟩ := h1.tup s
      refine ⟨a, vs, rfl, .inr w1, ?_⟩
      rw [dpAll_len w2]
      exact hq _ G H (.refl s) (.int _)
  · cases eg
def cAbs : List D → Option R
  | [.int i] => some (.d (.int (if i < 0 then -i else i)))
  | _ => none
theorem s_abs : CallS K (fun xs H Q => ∃ i, xs = [.int i] ∧ Q (.int (if i < 0 then -i else i)) H) cAbs := by
  intro G H xs ds z Q s h eg hq
  unfold cAbs at eg
  split at eg
  · next i =>
    cases eg
    cases h with
    | cons h1 h2 =>
      cases h2
      exact ⟨i, by rw [h1.int], hq _ G H (.refl s) (.int _)⟩
  · cases eg
def cInt : List D → Option R
  | [.int i] => some (.d (.int i))
  | _ => none
theorem s_int : CallS K (fun xs H Q => (∃ i, xs = [.int i] ∧ Q (.int i) H) ∨ ∃ k, xs = [.bl k] ∧ Q (.int (if k then 1 else 0)) H) cInt := by
  intro G H xs ds z Q s h eg hq
  unfold cInt at eg
  split at eg
  · next i =>
    cases eg
    cases h with
    | cons h1 h2 =>
      cases h2
      exact .inl ⟨i, by rw [h1.int], hq _ G H (.refl s) (.int _)⟩
  · cases eg
def cMax2 : List D → Option R
  | [.int i, .int j] => some (.d (.int (if j > i then j else i)))
  | _ => none
def cMin2 : List D → Option R
  | [.int i, .int j] => some (.d (.int (if j < i then j else i)))
  | _ => none
theorem s_max2 : CallS K (fun xs H Q => ∃ i j, xs = [.int i, .int j] ∧ Q (.int (if j > i then j else i)) H) cMax2 := by
  intro G H xs ds z Q s h eg hq
  unfold cMax2 at eg
  split at eg
  · next i j =>
    cases eg
    cases h with
    | cons h1 h2 =>
      cases h2 with
      | cons h2 h3 =>
        cases h3
        exact ⟨i, j, by rw [h1.int, h2.int], hq _ G H (.refl s) (.int _)⟩
  · cases eg
theorem s_min2 : CallS K (fun xs H Q => ∃ i j, xs = [.int i, .int j] ∧ Q (.int (if j < i then j else i)) H) cMin2 := by
  intro G H xs ds z Q s h eg hq
  unfold cMin2 at eg
  split at eg
  · next i j =>
    cases eg
    cases h with
    | cons h1 h2 =>
      cases h2 with
      | cons h2 h3 =>
        cases h3
        exact ⟨i, j, by rw [h1.int, h2.int], hq _ G H (.refl s) (.int _)⟩
  · cases eg
def cList : List D → Option R
  | [.list xs] => some (.o xs)
  | [.tuple xs] => some (.o xs)
  | _ => none
theorem s_list : CallS K (fun xs H Q => ∃ p ys, xs = [.ref p] ∧ (SqL K H p ys ∨ SqT K H p ys) ∧ ∀ l, H l = none → Q (.ref l) (upd H l (.lst ys))) cList := by
  intro G H xs ds z Q s h eg hq
  unfold cList at eg
  split at eg
  · next es =>
    cases eg
    cases h with
    | cons h1 h2 =>
      cases h2
      obtain ⟨a, vs, rfl, w1, w2⟩ := h1.lst s
      exact ⟨a, vs, rfl, .inl w1, fun l nl => hq _ G _ (Grow.fresh s nl) ⟨l, vs, rfl, nl, upd_same, w2, s.free nl⟩⟩
  · next es =>
    cases eg
    cases h with
    | cons h1 h2 =>
      cases h2
      obtain ⟨a, vs, rfl, w1, w2⟩ := h1.tup s
      exact ⟨a, vs, rfl, .inr w1, fun l nl => hq _ G _ (Grow.fresh s nl) ⟨l, vs, rfl, nl, upd_same, w2, s.free nl⟩⟩
  · cases eg
/-! isinstance(x, T), T a built-in class -/
def tyN : D → String
  | .none => "NoneType"
  | .bool _ => "bool"
  | .int _ => "int"
  | .str _ => "str"
  | .list _ => "list"
  | .tuple _ => "tuple"
  | .dict _ => "dict"
theorem dp_ty {H : Hp} {v : V} {d : D} (h : Dp K H v d) : TyX K H v (.type (tyN d)) := by
  cases h with
  | non => exact .base .non
  | bl b => exact .base (.bl b)
  | int i => exact .base (.int i)
  | str x => exact .base (.str x)
  | lst h1 h2 =>
    rcases h1 with (h1 | ⟨o, h1⟩) | ⟨o, its, n, h1, h2, _⟩
    · exact .base (.lst h1)
    · exact .base (.frz h1)
    · exact .kList h1 h2
  | tup h1 h2 =>
    rcases h1 with (h1 | ⟨o, h1⟩) | ⟨o, its, n, h1, h2, _⟩
    · exact .base (.tup h1)
    · exact .fTuple h1
    · exact .kTuple h1 h2
end
def mIsi (T : String) (me : Env → Res R) : Env → Res R := fun ρ => (me ρ).bind fun r ρ1 => match opd ρ1 r with
  | some d => (match kitB (tyN d) T with
    | some b => .ok (.d (.bool b)) ρ1
    | none => .no)
  | none => .no
theorem sim_isi {K : PySem.W.Frag} {P : Nat} {W : Wish} {T : String} {te : TE} {me : Env → Res R} (h : SimE K P W te me) : SimE K P W (tCB (rIsi K) (tCons te (tCons (tC (.ty T)) tNil))) (mIsi T me) := by
  intro f G H σ ρ Q hp rl hq
  refine h.op hp rl ?_
  unfold mIsi at hq
  cases e1 : me ρ with
  | no => rw [e1] at hq; exact hq
  | exc c ρ1 => rw [e1] at hq; exact hq
  | ok r1 ρ1 =>
    rw [e1] at hq
    intro v G1 H1 s1 rl1 h1
    simp only [Res.bind] at hq
    split at hq
    · next d ed =>
      split at hq
      · next b eb =>
        have hd := (h1.got rl1 ed).dp rl1.gh
        exact ⟨v, .ty T, .type (tyN d), .type T, b, rfl, .ty T, dp_ty hd, kit_ty eb, hq _ G1 H1 s1 rl1 (.bl _)⟩
      · exact hq.elim
    · exact hq.elim
end Z
namespace Z
open PySem L2

/-! ### op= -/
theorem zip_or {X : Cx} : PIp X .BitOr (ipI fun i j => Builtin.bitOr i j) := by
  intro pins s σ H x y v u Q I r1 r2 h
  obtain ⟨i, j, rfl, rfl, q⟩ := h
  obtain ⟨ti, rfl⟩ := r1
  obtain ⟨tj, rfl⟩ := r2
  exact PyProof.Rows.ior_int ⟨V.int _, H, I.tok _, ⟨_, rfl⟩, q⟩
section
variable {K : PySem.W.Frag}
theorem s_ipI {f : Int → Int → Int} : OpS K (ipI f) (gI cAny fun i j => .int (f i j)) := by
  refine ops_sc fun G H x y d e z s h1 h2 eg => ?_
  unfold gI at eg
  split at eg
  · next i j =>
    split at eg
    · cases eg
      exact ⟨_, _, rfl, .int _, fun Q q => ⟨i, j, h1.int, h2.int, q⟩⟩
    · cases eg
  · cases eg
/-! ### methods that change a list -/
def uAppend : List D → List D → Option (List D) := fun xs ds => match ds with
  | [d] => if xs.length < 1000000 then some (xs ++ [d]) else none
  | _ => none
theorem s_append : MutS K rAppend uAppend := by
  intro G H p vs args xs ds ys s hp hx ha eg
  unfold uAppend at eg
  split at eg
  · next d =>
    split at eg
    · next hl =>
      cases eg
      cases ha with
      | cons h1 h2 =>
        cases h2
        refine ⟨_, dpAll_append hx (.cons h1 .nil), fun Q q => ⟨p, vs, _, rfl, rfl, hp, ?_, q⟩⟩
        rw [dpAll_len hx]
        exact Nat.lt_of_lt_of_le hl (by decide)
    · cases eg
  · cases eg
end

/-! ### sorted(set(xs)), ints -/
def insI (k : Int) : List Int → List Int
  | [] => [k]
  | x :: xs => if k < x then k :: x :: xs else if k = x then x :: xs else x :: insI k xs
def sset (ns : List Int) : List Int := ns.foldr insI []
theorem insI_mem (k j : Int) : ∀ xs : List Int, j ∈ insI k xs ↔ j = k ∨ j ∈ xs
  | [] => by simp [insI]
  | x :: xs => by
    unfold insI
    split
    · simp
    · split
      · next h => subst h; simp
      · rw [List.mem_cons, insI_mem k j xs, List.mem_cons]
        constructor <;> (intro h; rcases h with h | h | h <;> simp [h])
theorem insI_up (k : Int) : ∀ xs : List Int, xs.Pairwise (· < ·) → (insI k xs).Pairwise (· < ·)
  | [], _ => by simp [insI]
  | x :: xs, h => by
    unfold insI
    rw [List.pairwise_cons] at h
    split
    · next hk =>
      rw [List.pairwise_cons, List.pairwise_cons]
      refine ⟨fun y hy => ?_, h⟩
      rcases List.mem_cons.mp hy with e | hy
      · omega
      · have := h.1 y hy
        omega
    · split
      · rw [List.pairwise_cons]
        exact h
      · next h1 h2 =>
        rw [List.pairwise_cons]
        refine ⟨fun y hy => ?_, insI_up k xs h.2⟩
        rcases (insI_mem k y xs).mp hy with e | hy
        · omega
        · exact h.1 y hy
theorem sset_mem (j : Int) : ∀ ns : List Int, j ∈ sset ns ↔ j ∈ ns
  | [] => by simp [sset]
  | n :: ns => by
    show j ∈ insI n (sset ns) ↔ _
    rw [insI_mem, sset_mem j ns, List.mem_cons]
theorem sset_up : ∀ ns : List Int, (sset ns).Pairwise (· < ·)
  | [] => by simp [sset]
  | n :: ns => insI_up n _ (sset_up ns)
/-- two rising lists of the same members are one -/
theorem up_one : ∀ (xs ys : List Int), xs.Pairwise (· < ·) → ys.Pairwise (· < ·) → (∀ k : Int, k ∈ xs ↔ k ∈ ys) → xs = ys
  | [], [], _, _, _ => rfl
  | [], y :: ys, _, _, h => absurd ((h y).mpr List.mem_cons_self) (by simp)
  | x :: xs, [], _, _, h => absurd ((h x).mp List.mem_cons_self) (by simp)
  | x :: xs, y :: ys, h1, h2, h => by
    rw [List.pairwise_cons] at h1 h2
    have exy : x = y := by
      rcases List.mem_cons.mp ((h x).mp List.mem_cons_self) with e | hx
      · exact e
      · rcases List.mem_cons.mp ((h y).mpr List.mem_cons_self) with e | hy
        · exact e.symm
        · have := h1.1 y hy
          have := h2.1 x hx
          omega
    subst exy
    have nx : x ∉ xs := fun z => by have := h1.1 x z; omega
    have ny : x ∉ ys := fun z => by have := h2.1 x z; omega
    rw [up_one xs ys h1.2 h2.2 fun k => ?_]
    have hk := h k
    rw [List.mem_cons, List.mem_cons] at hk
    constructor
    · intro z
      rcases hk.mp (.inr z) with e | e
      · subst e; exact absurd z nx
      · exact e
    · intro z
      rcases hk.mpr (.inr z) with e | e
      · subst e; exact absurd z ny
      · exact e

section
open PySem.Spec PyProof.Rows
abbrev noSet (w : World) : Obj := { cls := .type "set", dict := none, data := .set #[] 0 (.fresh 0 0 (!w.params.followText "set-order")) }
variable {P : Program} {w : World} {A : Around} {E : Value → Shared → Prop} {s : Shared}
set_option maxHeartbeats 3200000 in
/-- set(xs) of a list of ints, with what sorted wants to know of it -/
theorem set_of_ints {l : Addr} {its : Array Value} (ns : List Int) {Q : Value → Shared → Prop} (calm : A.handled = none) (hl : s.heap.IsList l its) (hi : IntsAre its.toList ns) (few : ns.length + 1 < scanBound)
    (fin : ∀ (g : Heap) (tk c : Nat), SetR w g s.heap.objs.size (fun j => decide (j ∈ ns)) c → c ≤ ns.length → (∀ b o, s.heap.get? b = some o → g.get? b = some o) → Q (.ref s.heap.objs.size) { s with heap := g, toks := tk }) :
    wpAny (model P w) A (call (.type "set") [.ref l]) Q E s := by
  have size : its.size = ns.length := by rw [← hi.length, Array.length_toList]
  obtain ⟨_, _, hm⟩ := F.called_set.mro
  have f1 := F.called_set.made
  have f2 := F.called_set.sub
  have f3 := F.called_set.notType
  have f4 := F.called_set.canCreate
  have f5 := F.typeCall_set_1 (.ref l)
  apply wpAny_call
  apply codeAny_of_tree
  show wpAny _ _ (callAny (.type "set") _) _ _ _
  apply wpAny_pure
  refine ⟨Code.quiet_builtin _ (by decide +kernel), codeAny_builtin F.entry_type_call ?_⟩
  rw [Around.under_plain (weight_type_call_type "set" [.ref l] []) rfl]
  repeat (any_goals (first | assumption | wp_step))
  apply codeAny_mono (code_set_led1 (.ref l) (E := E) (Q₁ := fun v t => v = .ref s.heap.objs.size ∧ t = { s with heap := s.heap.push (noSet w) }) ⟨rfl, rfl⟩)
  intro r t hr
  match r, hr with
  | .error e, hr => exact hr
  | .ok .next, hr => exact hr.elim
  | .ok .brk, hr => exact hr.elim
  | .ok .cont, hr => exact hr.elim
  | .ok (.ret v), hr =>
    obtain ⟨rfl, rfl⟩ := hr
    have born : (s.heap.push (noSet w)).get? s.heap.objs.size = some (noSet w) := Heap.get?_push_size _ rfl
    have typ : Shared.TypeIs { s with heap := s.heap.push (noSet w) } (.ref s.heap.objs.size) "set" := ⟨_, born, rfl⟩
    have g1 := F.called_set.init.lookup
    have g2 := F.called_set.init.bind (.ref s.heap.objs.size)
    repeat (any_goals (first | assumption | wp_step))
    have was : ∀ (b : Addr) (o : Obj), s.heap.get? b = some o → (s.heap.push (noSet w)).get? b = some o := fun b o e => Heap.get?_push_of_some _ e
    refine codeAny_mono (codeAny_call_builtin (R := wants (fun v t => v = .none ∧ ∃ g tk c, t = { s with heap := g, toks := tk } ∧ SetR w g s.heap.objs.size (fun j => decide (j ∈ ns)) c ∧ c ≤ ns.length ∧ ∀ b o, s.heap.get? b = some o → g.get? b = some o) E)
      F.called_set.init.plain F.entry_set_init (check_set_init_1 typ ?inside)) fun r t hr => ?after
    case inside =>
      have hl1 : (s.heap.push (noSet w)).IsList l its := hl.push _
      have hlt : l < s.heap.objs.size := Heap.lt_size hl.choose_spec.1
      obtain ⟨⟨oc, od, oa, os⟩, ho, hc, nl, hd⟩ := hl
      simp only at hc hd
      subst hc hd
      have ho1 := was _ _ ho
      have b1 := F.sub_list_set
      have b2 := F.sub_list_frozenset
      have b3 : (Value.type "list" == Value.type "dict") = false := by decide
      unfold Builtin.«set.__init__» noKeywords Builtin.Frozenset.updateFrom
      generalize hPI : pyIter = PI
      wp_walk
      subst hPI
      apply wpAny_pyIter_list hl1
      apply wpAny_bind
      apply wpAny_runValue
      have calm3 : A.in1.in1.in1.handled = none := by simp [calm]
      have n1 : l ≠ (s.heap.push (noSet w)).objs.size := by rw [Heap.size_push]; exact Nat.ne_of_lt (Nat.lt_succ_of_lt hlt)
      have at_ : ∀ (i : Nat) (v : Value), its[i]? = some v → ∃ k t, ns[i]? = some k ∧ v = .int k t := by
        intro i v hv
        have hi' : i < ns.length := by rw [← size]; exact (Array.getElem?_eq_some_iff.mp hv).1
        obtain ⟨t, e⟩ := IntsAre.int_at hi i v (by rw [Array.getElem?_toList]; exact hv)
        refine ⟨ns[i], t, List.getElem?_eq_getElem hi', ?_⟩
        rw [e, List.getD_eq_getElem?_getD, List.getElem?_eq_getElem hi']
        rfl
      have n2 : s.heap.objs.size ∉ [(s.heap.push (noSet w)).objs.size, l] := by
        rw [Heap.size_push]
        intro z
        rcases List.mem_cons.mp z with z | z
        · exact Nat.ne_of_lt (Nat.lt_succ_self _) z
        · rw [List.mem_singleton] at z
          exact Nat.ne_of_gt hlt z
      refine set_update_ints ((Walks.list calm3 _ l n1 its).toS) _ n2 ns size few at_ its.size 0 _ rfl (Nat.zero_le _) ⟨⟨_, Heap.get?_push_size _ rfl, rfl, rfl⟩, hl1.push _⟩ ⟨0, Nat.le_refl 0, setR_new_at (Heap.get?_push_of_some _ born)⟩ fun t c mv hc hS => ?_
      obtain ⟨g, tg, td, tk, tos⟩ := t
      obtain rfl : tg = s.gens := mv.gens
      obtain rfl : td = s.drawn := mv.drawn
      obtain rfl : tos = s.os := mv.os
      show wpAny _ _ _ _ _ _
      apply wpAny_pure
      show wpAny _ _ (ret Value.none) _ _ _
      rw [size] at hc
      refine wpAny_pure ⟨rfl, g, tk, c, rfl, hS, hc, fun b o e => ?_⟩
      have hb := Heap.lt_size e
      refine mv.heap b o (fun z => ?_) (Heap.get?_push_of_some _ (was b o e))
      rcases List.mem_cons.mp z with z | z
      · exact Nat.ne_of_lt hb z
      · rw [List.mem_singleton, Heap.size_push] at z
        exact Nat.ne_of_lt (Nat.lt_succ_of_lt hb) z
    case after =>
     match r, hr with
     | .error e, hr => exact hr
     | .ok .next, hr => exact hr.elim
     | .ok .brk, hr => exact hr.elim
     | .ok .cont, hr => exact hr.elim
     | .ok (.ret v), hr =>
      obtain ⟨rfl, g, tk, c, rfl, z1, z2, z3⟩ := hr
      repeat (any_goals (first | assumption | wp_step))
      exact fin g tk c z1 z2 z3
end
end Z
namespace Z
open PySem L2

def rSetI (K : PySem.W.Frag) (w : World) : List V → Hp → VK → Prop := fun xs H Q => ∃ (l : Addr) (ns : List Int), xs = [V.ref l] ∧ SqL K H l (ns.map V.int) ∧ ns.length < 64 ∧
  ∀ a c, H a = none → c ≤ ns.length → Q (.ref a) (upd H a (SetO w a (fun j => decide (j ∈ ns)) c))
theorem zcr_setI {X : Cx} (hc : X.calm = true) : CallR X (.type "set") (rSetI X.K X.w) := by
  intro pins s σ H xs us Q I r h
  obtain ⟨l, ns, rfl, hl, few, q⟩ := h
  rw [Vals.ref1 r]
  obtain ⟨its, rv, pl, hz⟩ := I.list hl
  refine set_of_ints (P := X.prog) (w := X.w) ns (I.ok.hd hc) pl.isList (by simpa using rv.ints) (by have : (scanBound : Nat) = scanBound := rfl; unfold scanBound; omega) fun g tk c R hc' keep => ?_
  exact ⟨.ref _, _, I.laid (t' := tk) keep (Nat.le_refl _) (setO_new R), rfl, q _ c (I.hok.fresh (Nat.le_refl _)) hc'⟩
def intsOf : List D → Option (List Int)
  | [] => some []
  | .int i :: ds => (match intsOf ds with
    | some ns => some (i :: ns)
    | none => none)
  | _ => none
theorem intsOf_map : ∀ ns : List Int, intsOf (ns.map PyData.int) = some ns
  | [] => rfl
  | n :: ns => by
    show (match intsOf (ns.map PyData.int) with
      | some ns => some (n :: ns)
      | none => none) = _
    rw [intsOf_map ns]
theorem intsOf_eq : ∀ {ds : List D} {ns : List Int}, intsOf ds = some ns → ds = ns.map PyData.int
  | [], _, h => by cases h; rfl
  | .int i :: ds, ns, h => by
    have h : (match intsOf ds with
      | some ns => some (i :: ns)
      | none => none) = some ns := h
    cases e : intsOf ds with
    | none => rw [e] at h; cases h
    | some ms =>
      rw [e] at h
      cases h
      rw [intsOf_eq e]
      rfl
  | .none :: _, _, h => by cases h
  | .bool _ :: _, _, h => by cases h
  | .str _ :: _, _, h => by cases h
  | .list _ :: _, _, h => by cases h
  | .tuple _ :: _, _, h => by cases h
  | .dict _ :: _, _, h => by cases h
/-- sorted(set(xs)) -/
def mSortSet (ma : Env → Res R) : Env → Res R := fun ρ => (ma ρ).bind fun r ρ1 => match opd ρ1 r with
  | some (.list ds) => (match intsOf ds with
    | some ns => if ns.length < 64 then .ok (.o ((sset ns).map .int)) ρ1 else .no
    | none => .no)
  | _ => .no
theorem sim_sortSet {K : PySem.W.Frag} {w : World} {P : Nat} {W : Wish} {te : TE} {me : Env → Res R} (h : SimE K P W te me) : SimE K P W (tCB (rSortedSet w) (tCons (tCB (rSetI K w) (tCons te tNil)) tNil)) (mSortSet me) := by
  intro f G H σ ρ Q hp rl hq
  refine h.op hp rl ?_
  unfold mSortSet at hq
  cases e1 : me ρ with
  | no => rw [e1] at hq; exact hq
  | exc c ρ1 => rw [e1] at hq; exact hq
  | ok r1 ρ1 =>
    rw [e1] at hq
    intro v G1 H1 s1 rl1 h1
    simp only [Res.bind] at hq
    split at hq
    · next ds ed =>
      split at hq
      · next ns en =>
        split at hq
        · next few =>
          obtain ⟨l, vs, rfl, w1, w2⟩ := (h1.got rl1 ed).lst rl1.gh
          rw [intsOf_eq en] at w2
          rw [dpAll_ints w2] at w1
          refine ⟨l, ns, rfl, w1, few, fun a c na hc => ?_⟩
          refine ⟨a, _, c, rfl, upd_same, by omega, fun ms p up mem len np => ?_⟩
          have npa : p ≠ a := fun z => by
            subst z
            rw [upd_same] at np
            cases np
          have np1 : H1 p = none := by
            rw [upd_ne npa] at np
            exact np
          have em : ms = sset ns := up_one _ _ up (sset_up ns) fun k => by
            rw [mem k, sset_mem]
            exact decide_eq_true_iff
          subst em
          have g1 : Grow G1 H1 G1 (upd H1 a (SetO w a (fun j => decide (j ∈ ns)) c)) := Grow.fresh rl1.gh na
          have g2 := Grow.fresh (o := .lst ((sset ns).map V.int)) g1.2.2.1 np
          have gr := g1.trans g2
          refine hq _ G1 _ s1 (rl1.grow gr) (NewV.vrep rl1 gr ⟨p, _, rfl, np1, upd_same, dpAll_ofInts _, rl1.gh.free np1⟩)
        · exact hq.elim
      · exact hq.elim
    · exact hq.elim

/-! ### the law's end -/
theorem law_sp {K : PySem.W.Frag} {n : Nat} {mb : Env → Out} (h : ∀ ns : List Int, ns.length ≤ 63 → ∃ ρ', mb (env0 n [.d (.list (ns.map .int))]) = .rt (.d (.bool true)) ρ') (H : Hp) (a : Addr) (ns : List Int) (hl : ns.length ≤ 63) (hS : SqL K H a (ns.map V.int)) :
    spM K 0 1 n W0 mb [.ref a] H (fun v _ => v = .bl true) fun _ _ _ => False := by
  obtain ⟨ρ', e⟩ := h ns hl
  have hd : DpAll K H [V.ref a] [PyData.list (ns.map .int)] := .cons (.lst hS (dpAll_ofInts ns)) .nil
  refine ⟨rfl, [], H, [.d (.list (ns.map .int))], rfl, rfl, rel_args (.refl H) hd, ?_⟩
  rw [e]
  intro v G' H' σ' _ _ hv
  exact dp_bool hv
end Z
namespace Z
open PySem L2
section
variable {X : Cx} (K : PySem.W.Frag)
theorem zix (hK : X.K = K := by rfl) : IxR X (rIx K) := by subst hK; exact ix_seq
theorem zeq (hu : X.A.units + 64 < cLine) (hK : X.K = K := by rfl) : OpR X (compareOp .Eq) (rEqD K) := by subst hK; exact op_eqD hu
theorem zne (hu : X.A.units + 64 < cLine) (hK : X.K = K := by rfl) : OpR X (compareOp .NotEq) (rNeD K) := by subst hK; exact op_neD hu
theorem zin (hu : X.A.units + 65 < cLine) (hK : X.K = K := by rfl) : OpR X (compareOp .In) (rInD K) := by subst hK; exact op_inD hu
theorem znotIn (hu : X.A.units + 65 < cLine) (hK : X.K = K := by rfl) : OpR X (compareOp .NotIn) (rNotInD K) := by subst hK; exact op_notInD hu
theorem zlen (hK : X.K = K := by rfl) : CallR X (.builtin "len") (fun xs H Q => ∃ p ys, xs = [.ref p] ∧ (SqL K H p ys ∨ SqT K H p ys) ∧ Q (.int ys.length) H) := by subst hK; exact call_len_seq
theorem zlist (hK : X.K = K := by rfl) : CallR X (.type "list") (fun xs H Q => ∃ p ys, xs = [.ref p] ∧ (SqL K H p ys ∨ SqT K H p ys) ∧ ∀ l, H l = none → Q (.ref l) (upd H l (.lst ys))) := by subst hK; exact call_list_of
theorem zisi (hK : X.K = K := by rfl) : CallR X (.builtin "isinstance") (rIsi K) := by subst hK; exact call_isi
theorem zseq {tg l : Expr} {tl : TE} (hl : PE X l tl) (hK : X.K = K := by rfl) : PI X tg l (iSeq K tl) := by subst hK; exact zpi_seq hl
variable (w : World)
theorem zsortSet (hc : X.calm = true) (hw : X.w = w := by rfl) : CallR X (.builtin "sorted") (rSortedSet w) := by subst hw; exact cr_sortedSet hc
theorem zsetI (hc : X.calm = true) (hK : X.K = K := by rfl) (hw : X.w = w := by rfl) : CallR X (.type "set") (rSetI K w) := by subst hK; subst hw; exact zcr_setI hc
end
theorem hu64 {A : Around} {k : Nat} (hr : Room k A) : A.units + 64 < cLine := hr.units
theorem hu65 {A : Around} {k : Nat} (hr : Room k A) : A.units + 65 < cLine := by have := hr.un; omega
end Z
namespace Z
open PySem L2
/-! ### the mirrors' evaluation, as rows for simp -/
theorem sh_none : SeqAt.shaped .none = true := by rfl
theorem sh_int (i : Int) : SeqAt.shaped (.int i) = true := by rfl
theorem sh_bool (b : Bool) : SeqAt.shaped (.bool b) = true := by rfl
theorem eqv_int (i j : Int) : PyData.eqv (.int i) (.int j) = decide (i = j) := by
  by_cases h : i = j <;> simp [PyData.eqv, h]
theorem eqv_bool_int (b : Bool) (j : Int) : PyData.eqv (.bool b) (.int j) = decide ((if b then 1 else 0) = j) := by
  cases b <;> simp [PyData.eqv, Bool.beq_eq_decide_eq]
theorem eqv_int_bool (b : Bool) (j : Int) : PyData.eqv (.int j) (.bool b) = decide (j = (if b then 1 else 0)) := by
  cases b <;> simp [PyData.eqv, Bool.beq_eq_decide_eq]
/-! shapes: no dict in it, not too deep -/
def Sh (k : Nat) (d : D) : Prop := PyData.canLay0 d = true ∧ PyData.depth d ≤ k
theorem Sh.shaped {k : Nat} {d : D} (h : Sh k d) (hk : k ≤ 64) : SeqAt.shaped d = true := by
  unfold SeqAt.shaped
  rw [h.1, Bool.true_and]
  exact decide_eq_true (Nat.le_trans h.2 hk)
theorem Sh.mono {k l : Nat} {d : D} (h : Sh k d) (hk : k ≤ l) : Sh l d := ⟨h.1, Nat.le_trans h.2 hk⟩
theorem shs_all {k : Nat} : ∀ {xs : List D}, (∀ x ∈ xs, Sh k x) → PyData.canLayAll0 xs = true ∧ PyData.depthAll xs ≤ k
  | [], _ => ⟨rfl, Nat.zero_le _⟩
  | x :: xs, h => by
    have h1 := h x List.mem_cons_self
    have h2 := shs_all fun y hy => h y (List.mem_cons_of_mem _ hy)
    exact ⟨by simp [PyData.canLayAll0, h1.1, h2.1], by simp only [PyData.depthAll]; exact Nat.max_le.mpr ⟨h1.2, h2.2⟩⟩
theorem Sh.list {k : Nat} {xs : List D} (h : ∀ x ∈ xs, Sh k x) : Sh (k + 1) (.list xs) := by
  have := shs_all h
  exact ⟨by simp only [PyData.canLay0]; exact this.1, by simp only [PyData.depth]; omega⟩
theorem Sh.tuple {k : Nat} {xs : List D} (h : ∀ x ∈ xs, Sh k x) : Sh (k + 1) (.tuple xs) := by
  have := shs_all h
  exact ⟨by simp only [PyData.canLay0]; exact this.1, by simp only [PyData.depth]; omega⟩
theorem Sh.int (i : Int) : Sh 0 (.int i) := ⟨rfl, Nat.le_refl 0⟩
theorem Sh.bool (i : Bool) : Sh 0 (.bool i) := ⟨rfl, Nat.le_refl 0⟩
theorem Sh.none : Sh 0 .none := ⟨rfl, Nat.le_refl 0⟩
theorem Sh.ints (xs : List Int) : Sh 1 (.list (xs.map .int)) := Sh.list fun x hx => by
  obtain ⟨i, _, rfl⟩ := List.mem_map.mp hx
  exact .int i
theorem sh_ints (xs : List Int) : SeqAt.shaped (.list (xs.map .int)) = true := (Sh.ints xs).shaped (by decide)
theorem eqvAll_ints : ∀ xs ys : List Int, PyData.eqvAll (xs.map .int) (ys.map .int) = decide (xs = ys)
  | [], [] => by simp [PyData.eqvAll]
  | [], _ :: _ => by simp [PyData.eqvAll]
  | _ :: _, [] => by simp [PyData.eqvAll]
  | x :: xs, y :: ys => by
    simp only [List.map_cons, PyData.eqvAll, eqvAll_ints xs ys, eqv_int, List.cons.injEq]
    by_cases h : x = y <;> simp [h]
theorem eqv_ints (xs ys : List Int) : PyData.eqv (.list (xs.map .int)) (.list (ys.map .int)) = decide (xs = ys) := by
  simp only [PyData.eqv, eqvAll_ints]
theorem gEq_ints (xs ys : List Int) : gEq (.list (xs.map .int)) (.list (ys.map .int)) = some (.d (.bool (decide (xs = ys)))) := by simp [gEq, sh_ints, eqv_ints]
theorem gNe_ints (xs ys : List Int) : gNe (.list (xs.map .int)) (.list (ys.map .int)) = some (.d (.bool (!decide (xs = ys)))) := by simp [gNe, sh_ints, eqv_ints]
theorem gIn_ints (i : Int) (xs : List Int) : gIn (.int i) (.list (xs.map .int)) = some (.d (.bool (decide (i ∈ xs)))) := by
  have : (xs.map PyData.int).any (fun z => PyData.eqv z (.int i)) = decide (i ∈ xs) := by
    rw [List.any_map]
    induction xs with
    | nil => simp
    | cons x xs ih =>
      rw [List.any_cons, ih]
      simp only [Function.comp, eqv_int, List.mem_cons]
      by_cases h : x = i
      · simp [h]
      · have h' : ¬ i = x := fun e => h e.symm
        simp [h, h']
  unfold gIn
  simp only [sh_int, sh_ints, Bool.and_self, if_true]
  rw [this]
theorem kit_ll : kitB "list" "list" = some true := by decide +kernel
theorem kit_ii : kitB "int" "int" = some true := by decide +kernel
theorem kit_ib : kitB "int" "bool" = some false := by decide +kernel
theorem atI_nn {α : Type} (xs : List α) (i : Int) (h : 0 ≤ i) : atI xs i = xs[i.toNat]? := by
  unfold atI ixN
  rw [if_pos h]
  by_cases h2 : i < xs.length
  · rw [if_pos h2]; rfl
  · rw [if_neg h2]
    show none = _
    rw [List.getElem?_eq_none]
    omega
theorem atI_lit {α : Type} (xs : List α) (n : Nat) : atI xs (no_index (OfNat.ofNat n)) = xs[n]? := by
  rw [atI_nn _ _ (by exact Int.natCast_nonneg n)]
  rfl
theorem ixN_nn (n : Nat) (i : Int) (h : 0 ≤ i) (h2 : i < n) : ixN n i = some i.toNat := by
  unfold ixN
  rw [if_pos h, if_pos h2]
theorem ixN_lit (n k : Nat) : ixN n (no_index (OfNat.ofNat k)) = if k < n then some k else none := by
  show ixN n ((k : Nat) : Int) = _
  unfold ixN
  rw [if_pos (by omega)]
  by_cases h : k < n
  · rw [if_pos h, if_pos (by omega)]; rfl
  · rw [if_neg h, if_neg (by omega)]
theorem atI_map {α β : Type} (f : α → β) (xs : List α) (i : Int) (h : 0 ≤ i) : atI (xs.map f) i = (xs[i.toNat]?).map f := by
  rw [atI_nn _ _ h, List.getElem?_map]
theorem gEq_int (i j : Int) : gEq (.int i) (.int j) = some (.d (.bool (decide (i = j)))) := by simp [gEq, sh_int, eqv_int]
theorem gNe_int (i j : Int) : gNe (.int i) (.int j) = some (.d (.bool (!decide (i = j)))) := by simp [gNe, sh_int, eqv_int]
theorem gAdd_int (i j : Int) : gAdd (.int i) (.int j) = some (.d (.int (i + j))) := rfl
theorem gSub_int (i j : Int) : gSub (.int i) (.int j) = some (.d (.int (i - j))) := rfl
theorem gLt_int (i j : Int) : gLt (.int i) (.int j) = some (.d (.bool (decide (i < j)))) := rfl
theorem gLe_int (i j : Int) : gLe (.int i) (.int j) = some (.d (.bool (decide (i ≤ j)))) := rfl
theorem gGt_int (i j : Int) : gGt (.int i) (.int j) = some (.d (.bool (decide (j < i)))) := rfl
theorem gGe_int (i j : Int) : gGe (.int i) (.int j) = some (.d (.bool (decide (j ≤ i)))) := rfl
theorem gNeg_int (i : Int) : gNeg (.int i) = some (.d (.int (-i))) := rfl
theorem gMod_int (i j : Int) (h : 0 < j) : gMod (.int i) (.int j) = some (.d (.int (i % j))) := by simp [gMod, gI, cMod, h]
theorem gDiv_int (i j : Int) (h : 0 < j) (h2 : j < 1073741824) : gDiv (.int i) (.int j) = some (.d (.int (i / j))) := by simp [gDiv, gI, cDiv, h, h2]
theorem gMul_r (i j : Int) (h : -(18446744073709551616) < j) (h2 : j < 18446744073709551616) : gMul (.int i) (.int j) = some (.d (.int (i * j))) := by
  have : cMul i j = true := by
    unfold cMul
    exact decide_eq_true (.inr ⟨by omega, by omega⟩)
  simp [gMul, gI, this]
theorem gMul_l (i j : Int) (h : -(18446744073709551616) < i) (h2 : i < 18446744073709551616) : gMul (.int i) (.int j) = some (.d (.int (i * j))) := by
  have : cMul i j = true := by
    unfold cMul
    exact decide_eq_true (.inl ⟨by omega, by omega⟩)
  simp [gMul, gI, this]
theorem seq_nx {ms mt : Env → Out} {ρ ρ1 : Env} (h : ms ρ = .nx ρ1) : mSeq ms mt ρ = mt ρ1 := by unfold mSeq; rw [h]
theorem seq_rt {ms mt : Env → Out} {ρ ρ1 : Env} {x : S} (h : ms ρ = .rt x ρ1) : mSeq ms mt ρ = .rt x ρ1 := by unfold mSeq; rw [h]
section
variable {P : Nat} {ma : Env → Res (List R)} {mi : Env → Res (List D)} {b : D → Env → Option Env} {mt : Env → Res Bool} {me : Env → Res R} {vs : List Nat} {ρ ρ1 ρw : Env} {ds acc xs : List D} {m1 m2 body : Env → Out} {i : Nat} {x : D}
theorem mLc_ok (h1 : mi ρ = .ok ds ρ1) (h2 : lcL P b mt me vs ds [] (wipeE ρ1 vs) = .ok acc ρw) : mLc P mi b mt me vs ρ = .ok (.o acc) (back ρ1 vs ρw) := by
  unfold mLc; rw [h1]; simp only [Res.bind, h2]
theorem mLcH_o {j : Nat} (h1 : ρ[j]? = some (some (S.o ds))) (h2 : lcL P b mt me vs ds [] (wipeE (ρ.set j none) vs) = .ok acc ρw) : mLcH P j b mt me vs ρ = .ok (.o acc) ((back (ρ.set j none) vs ρw).set j (some (S.o ds))) := by
  unfold mLcH; rw [h1]; simp only [h2]
theorem mLcH_l {j : Nat} (h1 : ρ[j]? = some (some (S.d (.list ds)))) (h2 : lcL P b mt me vs ds [] (wipeE ρ vs) = .ok acc ρw) : mLcH P j b mt me vs ρ = .ok (.o acc) (back ρ vs ρw) := by
  unfold mLcH; rw [h1]; simp only [h2]
theorem mLcH_t {j : Nat} (h1 : ρ[j]? = some (some (S.d (.tuple ds)))) (h2 : lcL P b mt me vs ds [] (wipeE ρ vs) = .ok acc ρw) : mLcH P j b mt me vs ρ = .ok (.o acc) (back ρ vs ρw) := by
  unfold mLcH; rw [h1]; simp only [h2]
theorem big_nat (N : Nat) (h : N < 1000000) : -big62 ≤ (N : Int) ∧ (N : Int) < big62 := by
  have e : big62 = 4611686018427387904 := rfl
  rw [e]
  constructor <;> omega
theorem mRng1_eq {j : Int} (h : ma ρ = .ok [.d (.int j)] ρ1) : mRng1 ma ρ = if -big62 ≤ j ∧ j < big62 then .ok ((List.range j.toNat).map fun (k : Nat) => .int (k : Int)) ρ1 else .no := by
  unfold mRng1
  rw [h]
  rfl
theorem mRng1_ok (N : Nat) (h : ma ρ = .ok [.d (.int (N : Int))] ρ1) (hN : N < 1000000) : mRng1 ma ρ = .ok ((List.range N).map fun (k : Nat) => .int (k : Int)) ρ1 := by
  rw [mRng1_eq h, if_pos (big_nat N hN), Int.toNat_natCast]
theorem mAsg_d (h : me ρ = .ok (.d x) ρ1) : mAsg P i me ρ = .nx (ρ1.set i (some (.d x))) := by unfold mAsg; rw [h]
theorem mAsg_o (h : me ρ = .ok (.o xs) ρ1) : mAsg P i me ρ = .nx (ρ1.set i (some (.o xs))) := by unfold mAsg; rw [h]
theorem mFor_ok (h : mi ρ = .ok ds ρ1) : mFor mi b body ρ = forL b body ds ρ1 := by unfold mFor; rw [h]
theorem mCall0_o {ex : Bool} {k n : Nat} {mb : Env → Out} {rs : List R} {ρ2 r : Env} (h1 : ma ρ = .ok rs ρ1) (h2 : frzA P rs ρ1 = some ρ2) (h3 : dopds ρ2 rs = some ds) (h4 : ds.length = k) (h5 : mb (env0 n (ds.map S.d)) = .rt (.o xs) r) :
    mCall0 ex P k n mb ma ρ = .ok (.o xs) ρ2 := by
  unfold mCall0
  rw [h1]
  show (match frzA P rs ρ1 with
    | none => _
    | some ρ2 => _) = _
  rw [h2]
  show (match dopds ρ2 rs with
    | none => _
    | some ds => _) = _
  rw [h3]
  show (if ds.length = k then _ else _) = _
  rw [if_pos h4, h5]
theorem mCall0_d {ex : Bool} {k n : Nat} {mb : Env → Out} {rs : List R} {ρ2 r : Env} (h1 : ma ρ = .ok rs ρ1) (h2 : frzA P rs ρ1 = some ρ2) (h3 : dopds ρ2 rs = some ds) (h4 : ds.length = k) (h5 : mb (env0 n (ds.map S.d)) = .rt (.d x) r) :
    mCall0 ex P k n mb ma ρ = if flatD x = true then .ok (.d x) ρ1 else .ok (.d x) ρ2 := by
  unfold mCall0
  rw [h1]
  show (match frzA P rs ρ1 with
    | none => _
    | some ρ2 => _) = _
  rw [h2]
  show (match dopds ρ2 rs with
    | none => _
    | some ds => _) = _
  rw [h3]
  show (if ds.length = k then _ else _) = _
  rw [if_pos h4, h5]
theorem mCall0_f {ex : Bool} {k n : Nat} {mb : Env → Out} {rs : List R} {ρ2 r : Env} (h1 : ma ρ = .ok rs ρ1) (h2 : frzA P rs ρ1 = some ρ2) (h3 : dopds ρ2 rs = some ds) (h4 : ds.length = k) (h5 : mb (env0 n (ds.map S.d)) = .rt (.d x) r) (hf : flatD x = true) :
    mCall0 ex P k n mb ma ρ = .ok (.d x) ρ1 := by rw [mCall0_d h1 h2 h3 h4 h5, if_pos hf]
theorem mBin_ok {ma mb : Env → Res R} {g : D → D → Option R} {r1 r2 z : R} {ρ2 : Env} {y : D} (h1 : ma ρ = .ok r1 ρ1) (h2 : mb ρ1 = .ok r2 ρ2) (h3 : opd ρ2 r1 = some x) (h4 : opd ρ2 r2 = some y) (h5 : g x y = some z) : mBin g ma mb ρ = .ok z ρ2 := by
  unfold mBin
  rw [h1]
  show (mb ρ1).bind _ = _
  rw [h2]
  show (match opd ρ2 r1, opd ρ2 r2 with
    | some x, some y => _
    | _, _ => _) = _
  rw [h3, h4]
  show (match g x y with
    | some z => _
    | none => _) = _
  rw [h5]
theorem mTest_ok {k : Bool} (h : me ρ = .ok (.d (.bool k)) ρ1) : mTest me ρ = .ok k ρ1 := by unfold mTest; rw [h]; rfl
theorem mTru_ok {r : R} {k : Bool} (h : me ρ = .ok r ρ1) (h2 : opd ρ1 r = some x) (h3 : tru x = some k) : mTru me ρ = .ok k ρ1 := by
  unfold mTru
  rw [h]
  show (match opd ρ1 r with
    | some x => _
    | none => _) = _
  rw [h2]
  show (match tru x with
    | some b => _
    | none => _) = _
  rw [h3]
theorem mNot_ok {k : Bool} (h : mt ρ = .ok k ρ1) : mNot mt ρ = .ok (!k) ρ1 := by unfold mNot; rw [h]; rfl
theorem mCons_ok {ma' : Env → Res R} {ms : Env → Res (List R)} {r : R} {rs : List R} {ρ2 : Env} (h : ma' ρ = .ok r ρ1) (h2 : ms ρ1 = .ok rs ρ2) : mCons ma' ms ρ = .ok (r :: rs) ρ2 := by
  unfold mCons
  rw [h]
  show (ms ρ1).bind _ = _
  rw [h2]
  rfl
theorem mAndV_t {ma mb : Env → Res R} {r : R} {ρ2 : Env} (h : ma ρ = .ok (.d (.bool true)) ρ1) (h2 : mb ρ1 = .ok r ρ2) : mAndV ma mb ρ = .ok r ρ2 := by unfold mAndV; rw [h]; exact h2
theorem mRet_d (h : me ρ = .ok (.d x) ρ1) : mRet P me ρ = .rt (.d x) ρ1 := by unfold mRet; rw [h]
theorem mRet_o (h : me ρ = .ok (.o xs) ρ1) : mRet P me ρ = .rt (.o xs) ρ1 := by unfold mRet; rw [h]
theorem mSortSet_ok {r : R} {ns : List Int} (h : me ρ = .ok r ρ1) (h2 : opd ρ1 r = some (.list (ns.map .int))) (h3 : ns.length < 64) : mSortSet me ρ = .ok (.o ((sset ns).map .int)) ρ1 := by
  unfold mSortSet
  rw [h]
  show (match opd ρ1 r with
    | some (.list ds) => _
    | _ => _) = _
  rw [h2]
  show (match intsOf (ns.map PyData.int) with
    | some ns => _
    | none => _) = _
  rw [intsOf_map]
  show (if ns.length < 64 then _ else _) = _
  rw [if_pos h3]
theorem mOr_ff {mt mu : Env → Res Bool} {b : Bool} {ρ2 : Env} (h : mt ρ = .ok false ρ1) (h2 : mu ρ1 = .ok b ρ2) : mOr mt mu ρ = .ok b ρ2 := by unfold mOr; rw [h]; exact h2
theorem mOr_t {mt mu : Env → Res Bool} (h : mt ρ = .ok true ρ1) : mOr mt mu ρ = .ok true ρ1 := by unfold mOr; rw [h]; rfl
theorem mAnd_tt {mt mu : Env → Res Bool} {b : Bool} {ρ2 : Env} (h : mt ρ = .ok true ρ1) (h2 : mu ρ1 = .ok b ρ2) : mAnd mt mu ρ = .ok b ρ2 := by unfold mAnd; rw [h]; exact h2
theorem mAnd_f {mt mu : Env → Res Bool} (h : mt ρ = .ok false ρ1) : mAnd mt mu ρ = .ok false ρ1 := by unfold mAnd; rw [h]; rfl
theorem mIfS_t (h : mt ρ = .ok true ρ1) : mIfS mt m1 m2 ρ = m1 ρ1 := by unfold mIfS; rw [h]; rfl
theorem mIfS_f (h : mt ρ = .ok false ρ1) : mIfS mt m1 m2 ρ = m2 ρ1 := by unfold mIfS; rw [h]; rfl
end
theorem gI_any (g : Int → Int → D) (i j : Int) : gI cAny g (.int i) (.int j) = some (.d (g i j)) := rfl
theorem gPow_18 : gPow (.int 10) (.int 18) = some (.d (.int 1000000000000000000)) := by rfl
theorem gIx_l (xs : List D) (i : Int) : gIx (.list xs) (.int i) = (match atI xs i with
    | some x => some (.d x)
    | none => none) := rfl
theorem gIx_t (xs : List D) (i : Int) : gIx (.tuple xs) (.int i) = (match atI xs i with
    | some x => some (.d x)
    | none => none) := rfl

/-! ### comprehensions -/
theorem lcL_pure {P : Nat} {b : D → Env → Option Env} {mt : Env → Res Bool} {me : Env → Res R} {vs : List Nat} {ρ : Env} (p : D → Bool) (g : D → D) : ∀ (ds acc : List D),
    (∀ d ∈ ds, ∃ ρ1, b d ρ = some ρ1 ∧ mt ρ1 = .ok (p d) ρ1 ∧ (p d = true → me ρ1 = .ok (.d (g d)) ρ1) ∧ wipeE ρ1 vs = ρ) → acc.length + ds.length ≤ 1000000 → lcL P b mt me vs ds acc ρ = .ok (acc ++ (ds.filter p).map g) ρ
  | [], acc, _, _ => by simp [lcL]
  | d :: ds, acc, h, hl => by
    obtain ⟨ρ1, h1, h2, h3, h4⟩ := h d List.mem_cons_self
    have hl' : acc.length + ds.length + 1 ≤ 1000000 := hl
    simp only [lcL, h1, h2]
    cases e : p d with
    | false =>
      simp only [h4, List.filter_cons, e, Bool.false_eq_true, if_false]
      exact lcL_pure p g ds acc (fun x hx => h x (List.mem_cons_of_mem _ hx)) (by omega)
    | true =>
      simp only [h3 e, frz1, dopd, List.filter_cons, e, if_true, List.map_cons]
      rw [if_pos (by omega), h4, lcL_pure p g ds _ (fun x hx => h x (List.mem_cons_of_mem _ hx)) (by rw [List.length_append, List.length_singleton]; omega), List.append_assoc]
      rfl
theorem lcL_over {P : Nat} {b : D → Env → Option Env} {mt : Env → Res Bool} {me : Env → Res R} {vs : List Nat} {ρ : Env} {α : Type} (enc : α → D) (p : α → Bool) (g : α → D) : ∀ (xs : List α) (acc : List D),
    (∀ x ∈ xs, ∃ ρ1, b (enc x) ρ = some ρ1 ∧ mt ρ1 = .ok (p x) ρ1 ∧ (p x = true → me ρ1 = .ok (.d (g x)) ρ1) ∧ wipeE ρ1 vs = ρ) → acc.length + xs.length ≤ 1000000 → lcL P b mt me vs (xs.map enc) acc ρ = .ok (acc ++ (xs.filter p).map g) ρ
  | [], acc, _, _ => by simp [lcL]
  | x :: xs, acc, h, hl => by
    obtain ⟨ρ1, h1, h2, h3, h4⟩ := h x List.mem_cons_self
    have hl' : acc.length + xs.length + 1 ≤ 1000000 := hl
    simp only [List.map_cons, lcL, h1, h2]
    cases e : p x with
    | false =>
      simp only [h4, List.filter_cons, e, Bool.false_eq_true, if_false]
      exact lcL_over enc p g xs acc (fun x hx => h x (List.mem_cons_of_mem _ hx)) (by omega)
    | true =>
      simp only [h3 e, frz1, dopd, List.filter_cons, e, if_true, List.map_cons]
      rw [if_pos (by omega), h4, lcL_over enc p g xs _ (fun x hx => h x (List.mem_cons_of_mem _ hx)) (by rw [List.length_append, List.length_singleton]; omega), List.append_assoc]
      rfl
theorem filter_yes {α : Type} (xs : List α) : (xs.filter fun _ => true) = xs := List.filter_eq_self.mpr fun _ _ => rfl
theorem lcL_inv {P : Nat} {b : D → Env → Option Env} {mt : Env → Res Bool} {me : Env → Res R} {vs : List Nat} (Inv : Env → Prop) (Y : D → Prop) : ∀ (ds acc : List D) (ρ : Env), Inv ρ →
    (∀ d ∈ ds, ∀ ρ, Inv ρ → ∃ ρ1 ρ2 y, b d ρ = some ρ1 ∧ mt ρ1 = .ok true ρ1 ∧ me ρ1 = .ok (.d y) ρ2 ∧ Y y ∧ Inv (wipeE ρ2 vs)) → acc.length + ds.length ≤ 1000000 →
    ∃ ys ρ', lcL P b mt me vs ds acc ρ = .ok (acc ++ ys) ρ' ∧ ys.length = ds.length ∧ (∀ y ∈ ys, Y y) ∧ Inv ρ'
  | [], acc, ρ, hi, _, _ => ⟨[], ρ, by simp [lcL], rfl, (fun _ hy => nomatch hy), hi⟩
  | d :: ds, acc, ρ, hi, h, hl => by
    obtain ⟨ρ1, ρ2, y, h1, h2, h3, h4, h5⟩ := h d List.mem_cons_self ρ hi
    have hl' : acc.length + ds.length + 1 ≤ 1000000 := hl
    obtain ⟨ys, ρ', q1, q2, q3, q4⟩ := lcL_inv Inv Y ds (acc ++ [y]) (wipeE ρ2 vs) h5 (fun x hx => h x (List.mem_cons_of_mem _ hx)) (by rw [List.length_append, List.length_singleton]; omega)
    refine ⟨y :: ys, ρ', ?_, by rw [List.length_cons, q2]; rfl, fun z hz => ?_, q4⟩
    · simp only [lcL, h1, h2, h3, frz1, dopd]
      rw [if_pos (by omega), q1, List.append_assoc]
      rfl
    · rcases List.mem_cons.mp hz with e | hz
      · subst e; exact h4
      · exact q3 z hz
end Z
namespace Z
open PySem L2

/-! ### errors: made, raised -/
section
variable {X : Cx} {C : Addr} {bmB : List Value} {B newId initId : String}
theorem zpmk0 {x : Str} {p pos : Pos} (F : ExcBaseFacts B newId initId bmB) (q : PySem.W.excIn X.K C bmB newId = true) (gC : X.mg x = some (.ref C)) (kC : PySem.W.keepIn X.K (.ref C) = true) (r : Raises X (.ref C)) (hg : Gl X x)
    (hdb : (x == ("__debug__" : Str)) = false := by decide) : L2N.PMk X (.Call (.Name x p) [] [] pos) (fun _ H Q => Q (.ref C) none H) := by
  intro pins s σ H Q I h
  apply wpAny_Call_Name_kw
  apply ld_glob I hg gC _ hdb
  apply PySem.W.callWith_K0 I.kIn kC
  show wpAny _ _ (call (.ref C) []) _ _ _
  obtain ⟨_, _, _, _, _, _, _, _, _, _, _, _, _, _, _, _, _, hC, hN, hni, T⟩ := exc_obj I.kIn q
  exact wpAny_call_exc_subT F T hC hN hni (fun h' e hm => L2N.mk_of I hm r h (I.hok.gone hm.new)) (Nat.zero_le _)
end
abbrev WXc (cl : Nat → Addr) : XK → Wish := fun E _ c H => E (.ref (cl c)) none H
section
variable {P : Program} {w : World} {K : PySem.W.Frag} {mg : Str → Option Value} {base : Heap}
theorem okX {x qual : Str} {st : Stmt} {f : Addr} {fd : FuncData} {N ps : List Str} {k np kk n : Nat} {mb : Env → Out} (cl : Nat → Addr) (F : Fun K x qual st f fd) (S : FnScope N ps (defScope st)) (hk : ps.length = kk) (hn : N.length = n)
    (body : ∀ (cdv : Value) (A : Around) (outer : List PySem.Env) (s : Shared) (H : Hp) (E : XK), Room k (A.deeper (PyProof.Rows.envOfC qual (defScope st) s.heap.objs.size f cdv)) →
      ∃ t, PSs (cxOf (L2N.CX P w) P w K mg base N qual (defScope st) f cdv A outer s H E) (defBody st) t ∧ SimS K np (WXc cl E) t mb) : FnOk P w K mg base (L2N.CX P w) (k + 1) f fd ps (spM K np kk n (WXc cl) mb) := by
  obtain ⟨_, _, _, _, _, _, cdv, _, _, rfl, lk, hcd⟩ := F.ex
  refine fn_of lk hcd S (fun vs H Q E h => by rw [hk]; exact h.1) fun A outer s H vs Q E hr h => ?_
  obtain ⟨t, h1, h2⟩ := body cdv A outer s H E hr
  refine ⟨t, h1, ?_⟩
  obtain ⟨hl, pins, G, ss, q1, q2, q3, q4⟩ := h
  subst hn
  exact h2 _ G H _ _ _ q1 q3 q4
end
theorem passLN {X : Cx} : Passes (L2N.CX X.prog X.w) X E0 := fun _ _ _ _ _ _ _ h => by
  obtain ⟨_, _, _, _, _, _, _, _, _, _, _, _, z⟩ := h
  exact z.elim
def mRaise (c : Nat) : Env → Out := fun ρ => .exc c ρ
theorem sim_raise {K : PySem.W.Frag} {P : Nat} {W : Wish} {Wx : WX} {C : Addr} {c : Nat} (h : ∀ σ H, W σ c H → Wx (.ref C) none σ H) : SimS K P W (fun _ σ H => (fun (_ : L2.St) H (Q : XK) => Q (.ref C) none H) σ H fun cls d H' => Wx cls d σ H') (mRaise c) :=
  fun f G H σ ρ D hp rl hq => h σ H (hq G H σ (.refl _) rl)
def mNever : Env → Out := fun _ => .no
theorem sim_never {K : PySem.W.Frag} {P : Nat} {W : Wish} : SimS K P W tNever mNever := fun f G H σ ρ D hp rl hq => hq
/-- a call that may raise -/
theorem sim_callS {K : PySem.W.Frag} {P : Nat} {W : Wish} {ex : Bool} {k n : Nat} {mb : Env → Out} {WC : XK → Wish} {E : L2.St → XK} {ta : TA} {ms : Env → Res (List R)} (h : SimA K P W ta ms) (hx : ex = true → ∀ σ σ' c H, W σ c H → WC (E σ) σ' c H) :
    SimE K P W (tCallS (spM K 0 k n WC mb) E ta) (mCall0 ex P k n mb ms) := by
  intro f G H σ ρ Q hp rl hq
  refine h f G H σ ρ _ hp rl ?_
  unfold mCall0 at hq
  cases e : ms ρ with
  | no => rw [e] at hq; exact hq
  | exc c ρ1 => rw [e] at hq; exact hq
  | ok rs ρ1 =>
    rw [e] at hq
    intro vs G1 H1 s1 rl1 h1
    simp only [Res.bind] at hq
    split at hq
    · exact hq.elim
    · next ρ2 e2 =>
      obtain ⟨G2, s2, rl2⟩ := rl1.frzA hp e2
      split at hq
      · exact hq.elim
      · next ds e3 =>
        split at hq
        · next hk =>
          have hd : DpAll K G2 vs ds := (h1.same s2).dat rl2 e3
          refine ⟨by rw [dpAll_len hd]; exact hk, [], G2, ds.map S.d, rfl, by rw [List.length_map]; exact hk, rel_args rl2.gh hd, ?_⟩
          have same1 : ∀ {G3 H3 : Hp} {σ' : L2.St} {ρ' : Env}, Rel K ⟨cut H1 [], G2, []⟩ G3 H3 σ' ρ' → Grow G1 H1 G1 H3 := fun rl3 => by
            have gr := grow_of_args rl3
            exact ⟨.refl _, gr.2.1, (s2.trans gr.1).trans gr.2.2.1, fun a z => .inl z⟩
          cases e4 : mb (env0 n (ds.map S.d)) with
          | no => rw [e4] at hq; exact hq.elim
          | bk _ => rw [e4] at hq; exact hq.elim
          | ct _ => rw [e4] at hq; exact hq.elim
          | nx ρ3 =>
            rw [e4] at hq
            intro G3 H3 σ3 s3 rl3
            exact hq .non G1 H3 s1 (rl1.grow (same1 rl3)) .non
          | exc c ρ3 =>
            rw [e4] at hq
            intro G3 H3 σ3 s3 rl3
            simp only at hq
            split at hq
            · next hex => exact hx hex σ σ3 c H3 (hq G1 H3 s1 (rl1.grow (same1 rl3)))
            · exact hq.elim
          | rt s ρ3 =>
            rw [e4] at hq
            intro v G3 H3 σ3 s3 rl3 hv
            have gr := grow_of_args rl3
            cases s with
            | m kvs => exact hq.elim
            | d x =>
              simp only at hq
              split at hq
              · next hf => exact hq v G1 H3 s1 (rl1.grow (same1 rl3)) (flat_dp hv hf)
              · exact hq v G3 H3 ((s1.trans s2).trans gr.1) (rl2.grow gr) hv
            | o xs =>
              obtain ⟨p, us, rfl, w1, w2, w3, w4, _⟩ := hv
              have w4 : cut H1 [] p = none := w4
              rw [cut_nil] at w4
              have nv : NewV K H1 G3 H3 (.ref p) (.o xs) := ⟨p, us, rfl, w4, w1, w2, w3⟩
              exact hq _ G3 H3 ((s1.trans s2).trans gr.1) (rl2.grow gr) (nv.vrep rl2 gr)
        · exact hq.elim
/-! ### try .. except Super as e: return what the class tells -/
def mTry (i : Nat) (mb : Env → Out) (hd : Nat → Option D) : Env → Out := fun ρ => match mb ρ with
  | .exc c ρ1 => (match hd c with
    | some x => if i < ρ1.length then .rt (.d x) ρ1 else .no
    | none => .no)
  | o => o
/-- the suite's reading: it returns, by the class, a plain value -/
def tCls (cl : Nat → Addr) (hd : Nat → Option D) (i : Nat) (a : Addr) (cls : Value) : TS := fun D σ H => σ[i]? = some (some (.ref a)) ∧ ∃ c x, cls = .ref (cl c) ∧ hd c = some x ∧ flatD x = true ∧ ∀ v H', Same H H' → CV v x → D.rt v H'
theorem flat_cv {x : D} (h : flatD x = true) {K : PySem.W.Frag} {G : Hp} {v : V} (hv : Dp K G v x) : CV v x := by
  cases hv with
  | non => exact .non
  | bl b => exact .bl b
  | int i => exact .int i
  | str s => exact .str s
  | lst _ _ => cases h
  | tup _ _ => cases h
theorem sim_try {K : PySem.W.Frag} {P : Nat} {W : Wish} {cl : Nat → Addr} {hd : Nat → Option D} {cS : Value} {i : Nat} {tb : WX → TS} {mb : Env → Out} {Wout : WX} (hb : ∀ Wx : WX, SimS K P (fun σ c H => Wx (.ref (cl c)) none σ H) (tb Wx) mb)
    (hcl : ∀ c x, hd c = some x → flatD x = true ∧ PySem.W.exmOne K (.ref (cl c)) cS = some true) :
    SimS K P W (fun D σ H => tb (L2.wAs K cS i (fun a cls _ => tCls cl hd i a cls) Wout D) D σ H) (mTry i mb hd) := by
  intro f G H σ ρ D hp rl hq
  refine hb (L2.wAs K cS i (fun a cls _ => tCls cl hd i a cls) Wout D) f G H σ ρ D hp rl ?_
  unfold mTry at hq
  cases e : mb ρ with
  | no => rw [e] at hq; exact hq
  | nx _ => rw [e] at hq; exact hq
  | rt _ _ => rw [e] at hq; exact hq
  | bk _ => rw [e] at hq; exact hq
  | ct _ => rw [e] at hq; exact hq
  | exc c ρ1 =>
    rw [e] at hq
    simp only at hq
    split at hq
    · next x ex =>
      split at hq
      · next hil =>
        obtain ⟨h1, h2⟩ := hcl c x ex
        intro G1 H1 σ1 s1 rl1
        refine ⟨true, h2, fun _ a na => ⟨?_, c, x, rfl, ex, h1, fun v H2 sm hv => ?_⟩, fun z => nomatch z⟩
        · exact List.getElem?_set_self (by rw [rl1.len]; exact hil)
        · exact hq v G1 H2 σ1 s1 (rl1.grow ⟨.refl _, sm, rl1.gh.trans sm, fun b z => .inl z⟩) hv.dp
      · exact hq.elim
    · exact hq.elim
end Z
namespace Z
open PySem PySem.Spec PyProof.Rows L2 L2H

/-! ### a def of one parameter that is called with the error in hand -/
/-- its promise: for the handled error's object p, of the class c in the table, it hands back the plain value that hd tells -/
structure FnErr (P : Program) (w : World) (K : PySem.W.Frag) (mg : Str → Option Value) (base : Heap) (cl : Nat → Addr) (hd : Nat → Option D) (k : Nat) (f : Addr) (fd : FuncData) (x : Str) : Prop where
  run : ∀ (A : Around) (outer : List PySem.Env) (s : Shared) (H : Hp) (args : Args) (p : Addr × Obj) (c : Nat) (y : D) (Q : VK), RoomH k A → Hot1 A p → PinOk outer H s p → Env0 P w K mg base A outer s H → BindsTo s fd args [(x, .ref p.1)] →
    L2N.Zn (.ref (cl c)) none p.2 → hd c = some y → (∀ v H', Same H H' → CV v y → Q v H') → codeAny (model P w) A (.call (.ref f) args) (CR CX0 outer P w H s Q E0) s
theorem fnErr_of {P : Program} {w : World} {K : PySem.W.Frag} {mg : Str → Option Value} {base : Heap} {cl : Nat → Addr} {hd : Nat → Option D} {k : Nat} {x qual xn : Str} {st : Stmt} {f : Addr} {fd : FuncData} {N : List Str} (F : Fun K x qual st f fd) (S : FnScope N [xn] (defScope st))
    (body : ∀ (cdv : Value) (A : Around) (outer : List PySem.Env) (s : Shared) (H : Hp) (p : Addr × Obj) (c : Nat) (y : D) (Q : VK), RoomH k (A.deeper (envOfC qual (defScope st) s.heap.objs.size f cdv)) → Hot1 A p → L2N.Zn (.ref (cl c)) none p.2 → hd c = some y → (∀ v H', Same H H' → CV v y → Q v H') →
      ∃ t, PSs (cxH CX0 P w K mg base N qual (defScope st) f cdv A outer s H E0 p) (defBody st) t ∧ t { nx := fun _ H' => Q .non H', rt := Q } (start N [.ref p.1]) H) : FnErr P w K mg base cl hd (k + 1) f fd xn := by
  obtain ⟨oc, od, kV, doc, pm, an, cdv, ct, osl, rfl, lk, hcd⟩ := F.ex
  constructor
  intro A outer s H args p c y Q room hot pin e0 bnd zn hy hq
  have kin : K.In s.heap := e0.mod.kin.keeps fun b o e => (e0.bs b o e).1
  have vals : Vals [V.ref p.1] [Value.ref p.1] := .cons rfl .nil
  refine codeAny_call_function room.depth (kin _ _ lk) rfl S.co S.gen rfl (PySem.W.codeRec_of kin hcd) (bnd _ _ _ _ ?_)
  refine wpAny_newFunctionEnv_cells S.kind (fun y hy => ?_) fun env he s1 made => ?_
  · have := List.mem_singleton.mp hy
    subst this
    rcases S.par xn List.mem_cons_self with q | q
    · exact .inl q
    · exact .inr ⟨q, PySem.W.cellsFrom_some _ _ _ (.inl q)⟩
  · subst he
    have lim : s.heap.NoLimit := e0.mod.nolimit.keeps fun b o e => (e0.bs b o e).1
    obtain ⟨t, ht, hp⟩ := body cdv A outer s H p c y Q (room.deeper _) hot zn hy hq
    have I : Inv (cxH CX0 P w K mg base N qual (defScope st) f cdv A outer s H E0 p) [] (start N [.ref p.1]) H s1 := inv_startH (ps := [xn]) S pin e0 rfl vals made
    refine ⟨lim.keeps made.toInCall.keep, codeAny_func (wpAny_mono (ht.run [] s1 _ H _ I hp) (fun fl s' hs => ?_) fun e s' hs => hs)⟩
    match fl, hs with
    | .ret u, ⟨v, σ', H', J, rv, q⟩ => exact ⟨v, H', J.os, J.bare, J.base, J.hok, rv, q⟩
    | .next, ⟨σ', H', J, q⟩ => exact ⟨V.non, H', J.os, J.bare, J.base, J.hok, rfl, q⟩
    | .brk, ⟨_, _, _, q⟩ => exact q.elim
    | .cont, ⟨_, _, _, q⟩ => exact q.elim
/-- the call in the suite -/
theorem zsuite {X : Cx} {cl : Nat → Addr} {hd : Nat → Option D} {k i : Nat} {f : Addr} {fd : FuncData} {x xn n : Str} {p q pos : Pos} {a : Addr} {oe : Obj} {cls : Value} {pn : List (Addr × Obj)} (F : FnErr X.prog X.w X.K X.mg X.base cl hd k f fd xn) (room : RoomH k X.A) (hg : Gl X x) (hm : X.mg x = some (.ref f)) (hk : PySem.W.keepIn X.K (.ref f) = true)
    (hb : Binds X.K fd [xn] []) (zn : L2N.Zn cls none oe) (hf : ∃ vs, oe.data = .fields vs) (hi : X.N[i]? = some n) (hv : Vis X.env.scope n) (hflat : ∀ c y, hd c = some y → flatD y = true) (hdb : (x == ("__debug__" : Str)) = false := by decide) (hdn : (n == ("__debug__" : Str)) = false := by decide) (hdc : (n == ("__classdict__" : Str)) = false := by decide) :
    PE (X.suite a ((a, oe) :: pn)) (.Call (.Name x p) [.Name n q] [] pos) (fun σ H Q => σ[i]? = some (some (.ref a)) ∧ ∃ c y, cls = .ref (cl c) ∧ hd c = some y ∧ flatD y = true ∧ ∀ v H', Same H H' → CV v y → Q v H') := by
  constructor
  intro pins s σ H Q I h
  obtain ⟨hσ, c, y, rfl, hy, hfl, hq⟩ := h
  apply wpAny_Call_Name_kw
  refine ld_glob I hg hm ?_ hdb
  have arg : PA (X.suite a ((a, oe) :: pn)) [.Name n q] (tCons (tVar i) tNil) := pa_cons (pe_var hi hv hdn hdc) pa_nil
  refine PySem.W.callWith_K (h₀ := X.base) I.ok.mod.kin hk (thn (arg.run pos pins s σ H (fun vs H1 => vs = [V.ref a] ∧ H1 = H) I ⟨_, hσ, rfl, rfl⟩) fun us s1 hh => ?_)
  obtain ⟨vs, H1, I1, r1, rfl, rfl⟩ := hh
  refine ⟨I1.kIn, ?_⟩
  have eu := Vals.ref1 r1
  subst eu
  obtain ⟨fs, hfs⟩ := hf
  have pin := I1.pin (a, oe) (List.mem_append_left _ List.mem_cons_self)
  have pok : PinOk X.stack H1 s1 (a, oe) := ⟨pin.1, pin.2.1, fun z => (List.mem_cons.mp (I1.stkSub a z)).elim pin.2.2.1 pin.2.2.2.1, pin.2.2.2.2⟩
  have bnd := hb s1 [.ref a] I1.kIn rfl
  refine wpAny_call (codeAny_mono (F.run _ X.stack s1 H1 ⟨[.ref a], []⟩ (a, oe) c y Q ⟨room.dp, room.un⟩ ⟨rfl, fs, hfs, zn.2.2 fs hfs⟩ pok I1.env0 bnd zn hy hq) fun r s' hr => ?_)
  match r, hr with
  | .error _, hr => exact hr.elim
  | .ok (.ret u), hr => exact I1.after hr
  | .ok .next, hr => exact hr.elim
  | .ok .brk, hr => exact hr.elim
  | .ok .cont, hr => exact hr.elim
/-- isinstance(e, C) of the pinned error -/
theorem zisE {X : Cx} {a Ce : Addr} {oe : Obj} (hp : (a, oe) ∈ X.pn) (C : ExcC X.K Ce) (hz : Zc (.ref Ce) none oe) (hf : ∃ vs, oe.data = .fields vs) : CallR X (.builtin "isinstance") (rIsE X.K Ce a) := by
  intro pins s σ H xs us Q I r h
  obtain ⟨c, cv, b, rfl, hcv, e, q⟩ := h
  obtain ⟨u1, u2, rfl, r1, r2⟩ := vals2 r
  cases (show u1 = Value.ref a from r1)
  have ec := hcv _ r2
  subst ec
  have here := (I.pin (a, oe) (List.mem_append_left _ hp)).1
  obtain ⟨fs, hfs⟩ := hf
  have inst : PySem.W.InstAt s.heap a oe Ce none := by
    obtain ⟨oc, od, oda, osl⟩ := oe
    obtain ⟨h1, h2⟩ := hz
    dsimp only at h1 h2 hfs
    subst h1 h2 hfs
    exact ⟨here, rfl, rfl, trivial⟩
  exact PySem.W.kia_one (PySem.W.handS_kitx_exc C.hg C.hk C.hs C.hd C.ha C.hn C.ht C.hm) I.kIn inst e (fun z => nomatch z) fun tk => ⟨.bl b, H, I.kept (t' := tk) fun _ _ z => z, rfl, q⟩
end Z
namespace Z
open PySem PySem.Spec PyProof.Rows L2

/-! ### one sign, several kinds of operands -/
abbrev rAlt (r r' : R2) : R2 := fun x y H Q => r x y H Q ∨ r' x y H Q
theorem zalt {X : Cx} {f : Value → Value → Sem Value} {r r' : R2} (h : OpR X f r) (h' : OpR X f r') : OpR X f (rAlt r r') := by
  intro pins s σ H x y v u Q I rx ry q
  rcases q with q | q
  · exact h pins s σ H x y v u Q I rx ry q
  · exact h' pins s σ H x y v u Q I rx ry q
def gAlt (g g' : D → D → Option R) : D → D → Option R := fun d e => match g d e with
  | some z => some z
  | none => g' d e
theorem gAlt_l {g g' : D → D → Option R} {d e : D} {z : R} (h : g d e = some z) : gAlt g g' d e = some z := by unfold gAlt; rw [h]
theorem gAlt_r {g g' : D → D → Option R} {d e : D} (h : g d e = none) : gAlt g g' d e = g' d e := by unfold gAlt; rw [h]
theorem s_alt {K : PySem.W.Frag} {r r' : R2} {g g' : D → D → Option R} (h : OpS K r g) (h' : OpS K r' g') : OpS K (rAlt r r') (gAlt g g') := by
  intro G H x y d e z Q s h1 h2 eg hq
  unfold gAlt at eg
  cases q : g d e with
  | some w =>
    rw [q] at eg
    cases eg
    exact .inl (h G H x y d e _ Q s h1 h2 q hq)
  | none =>
    rw [q] at eg
    exact .inr (h' G H x y d e z Q s h1 h2 eg hq)

section
variable {K : PySem.W.Frag}
/-! ### x in t, t a tuple -/
def rInT (K : PySem.W.Frag) : R2 := fun x y H Q => ∃ d ds, Dp K H x d ∧ Dp K H y (.tuple ds) ∧ SeqAt.shaped d = true ∧ SeqAt.shaped (.tuple ds) = true ∧ Q (.bl (ds.any fun z => PyData.eqv z d)) H
def rNotInT (K : PySem.W.Frag) : R2 := fun x y H Q => ∃ d ds, Dp K H x d ∧ Dp K H y (.tuple ds) ∧ SeqAt.shaped d = true ∧ SeqAt.shaped (.tuple ds) = true ∧ Q (.bl (!ds.any fun z => PyData.eqv z d)) H
theorem zinT {X : Cx} (hu : X.A.units + 65 < cLine) (hK : X.K = K := by rfl) : OpR X (compareOp .In) (rInT K) := by
  subst hK
  intro pins s σ H x y v u Q I rx ry h
  obtain ⟨d, ds, hd, he, sd, se, q⟩ := h
  obtain ⟨as, r1⟩ := Dp.reads I d x v hd rx
  obtain ⟨bs, r2⟩ := Dp.reads I (.tuple ds) y u he ry
  exact SeqAt.in_tuple_reads r2 r1 (SeqAt.canLay_of_shaped se) (SeqAt.canLay_of_shaped sd) (room_in_shaped sd hu) ⟨.bl _, H, I, rfl, q⟩
theorem znotInT {X : Cx} (hu : X.A.units + 65 < cLine) (hK : X.K = K := by rfl) : OpR X (compareOp .NotIn) (rNotInT K) := by
  subst hK
  intro pins s σ H x y v u Q I rx ry h
  obtain ⟨d, ds, hd, he, sd, se, q⟩ := h
  obtain ⟨as, r1⟩ := Dp.reads I d x v hd rx
  obtain ⟨bs, r2⟩ := Dp.reads I (.tuple ds) y u he ry
  exact SeqAt.notIn_tuple_reads r2 r1 (SeqAt.canLay_of_shaped se) (SeqAt.canLay_of_shaped sd) (room_in_shaped sd hu) ⟨.bl _, H, I, rfl, q⟩
def gInT (d : D) : D → Option R
  | .tuple es => if (SeqAt.shaped d && SeqAt.shaped (.tuple es)) = true then some (.d (.bool (es.any fun z => PyData.eqv z d))) else none
  | _ => none
def gNotInT (d : D) : D → Option R
  | .tuple es => if (SeqAt.shaped d && SeqAt.shaped (.tuple es)) = true then some (.d (.bool (!es.any fun z => PyData.eqv z d))) else none
  | _ => none
theorem s_inT : OpS K (rInT K) gInT := by
  refine ops_sc fun G H x y d e z s h1 h2 eg => ?_
  unfold gInT at eg
  split at eg
  · next es =>
    split at eg
    · next h =>
      cases eg
      rw [Bool.and_eq_true] at h
      exact ⟨_, _, rfl, .bl _, fun Q q => ⟨d, es, h1.dp s, h2.dp s, h.1, h.2, q⟩⟩
    · cases eg
  · cases eg
theorem s_notInT : OpS K (rNotInT K) gNotInT := by
  refine ops_sc fun G H x y d e z s h1 h2 eg => ?_
  unfold gNotInT at eg
  split at eg
  · next es =>
    split at eg
    · next h =>
      cases eg
      rw [Bool.and_eq_true] at h
      exact ⟨_, _, rfl, .bl _, fun Q q => ⟨d, es, h1.dp s, h2.dp s, h.1, h.2, q⟩⟩
    · cases eg
  · cases eg

/-! ### t < u, tuples of ints -/
theorem zltT {X : Cx} (hu : X.A.units + 64 < cLine) (hK : X.K = K := by rfl) : OpR X (compareOp .Lt) (rLtT K) := by subst hK; exact op_ltT (by omega)
def gLtT : D → D → Option R
  | .tuple xs, .tuple ys => (match intsOf xs, intsOf ys with
    | some ns, some ms => some (.d (.bool (HT.lexLt ns ms)))
    | _, _ => none)
  | _, _ => none
theorem s_ltT : OpS K (rLtT K) gLtT := by
  refine ops_sc fun G H x y d e z s h1 h2 eg => ?_
  unfold gLtT at eg
  split at eg
  · next xs ys =>
    split at eg
    · next ns ms e1 e2 =>
      cases eg
      obtain ⟨a, vs, rfl, w1, w2⟩ := h1.tup s
      obtain ⟨b, us, rfl, w3, w4⟩ := h2.tup s
      rw [intsOf_eq e1] at w2
      rw [intsOf_eq e2] at w4
      rw [dpAll_ints w2] at w1
      rw [dpAll_ints w4] at w3
      exact ⟨_, _, rfl, .bl _, fun Q q => ⟨a, b, ns, ms, rfl, rfl, w1, w3, q⟩⟩
    · cases eg
  · cases eg

/-! ### new tuples -/
theorem dp_newT {G H : Hp} {p : Addr} {vs : List V} {ds : List D} (s : Same G H) (np : H p = none) (h : DpAll K G vs ds) : Dp K (upd G p (.tup vs)) (.ref p) (.tuple ds) :=
  .tup (.inl (.inl upd_same)) (dpAll_same (Grow.data s np).1 _ _ h)
theorem line_le {n : Nat} (h : n ≤ 1000000) : n ≤ sizeLine := Nat.le_trans h (by decide)
theorem zcatA {X : Cx} (hK : X.K = K := by rfl) : OpR X (binaryOp .Add) (rCatA K) := by subst hK; exact op_catA
def gCatT : D → D → Option R
  | .tuple xs, .tuple ys => if xs.length + ys.length ≤ 1000000 then some (.d (.tuple (xs ++ ys))) else none
  | _, _ => none
theorem s_catT : OpS K (rCatA K) gCatT := by
  intro G H x y d e z Q s h1 h2 eg hq
  unfold gCatT at eg
  split at eg
  · next xs ys =>
    split at eg
    · next hl =>
      cases eg
      obtain ⟨a, vs, rfl, w1, w2⟩ := h1.tup s
      obtain ⟨b, us, rfl, w3, w4⟩ := h2.tup s
      refine ⟨a, b, vs, us, rfl, rfl, w1, w3, by rw [dpAll_len w2, dpAll_len w4]; exact line_le hl, fun e => ?_, fun _ e => ?_, fun _ _ p np => ?_⟩
      · subst e
        cases w2
        rcases h2 with h2 | ⟨_, _, _, _, q, _⟩
        · exact hq _ G H (.refl s) h2
        · cases q
      · subst e
        cases w4
        rw [List.append_nil] at hq
        rcases h1 with h1 | ⟨_, _, _, _, q, _⟩
        · exact hq _ G H (.refl s) h1
        · cases q
      · exact hq _ _ _ (Grow.data s np) (dp_newT s np (dpAll_append w2 w4))
    · cases eg
  · cases eg
theorem zrepT {X : Cx} (hK : X.K = K := by rfl) : OpR X (binaryOp .Mult) (rRepT K) := by subst hK; exact op_repT
theorem dpAll_rep {G : Hp} {vs : List V} {ds : List D} (h : DpAll K G vs ds) : ∀ n : Nat, DpAll K G (List.replicate n vs).flatten (List.replicate n ds).flatten
  | 0 => .nil
  | n + 1 => by
    rw [List.replicate_succ, List.replicate_succ, List.flatten_cons, List.flatten_cons]
    exact dpAll_append h (dpAll_rep h n)
def gRepT : D → D → Option R
  | .tuple xs, .int k => if xs ≠ [] ∧ 2 ≤ k ∧ k ≤ 1000 ∧ xs.length ≤ 1000 then some (.d (.tuple (List.replicate k.toNat xs).flatten)) else none
  | _, _ => none
theorem s_repT : OpS K (rRepT K) gRepT := by
  intro G H x y d e z Q s h1 h2 eg hq
  unfold gRepT at eg
  split at eg
  · next xs k =>
    split at eg
    · next hl =>
      cases eg
      obtain ⟨a, vs, rfl, w1, w2⟩ := h1.tup s
      have hn := dpAll_len w2
      refine ⟨a, k, vs, rfl, h2.int, w1, fun e => ?_, hl.2.1, hl.2.2.1, by rw [hn]; exact hl.2.2.2, fun p np => ?_⟩
      · subst e
        exact hl.1 (List.eq_nil_of_length_eq_zero hn.symm)
      · exact hq _ _ _ (Grow.data s np) (dp_newT s np (dpAll_rep w2 _))
    · cases eg
  · cases eg
theorem ztuple {X : Cx} (hK : X.K = K := by rfl) : CallR X (.type "tuple") (fun xs H Q => ∃ p ys, xs = [.ref p] ∧ ((SqL K H p ys ∧ ∀ l, H l = none → Q (.ref l) (upd H l (.tup ys))) ∨ (SqT K H p ys ∧ Q (.ref p) H))) := by subst hK; exact call_tuple_of
def cTuple : List D → Option R
  | [.list xs] => some (.d (.tuple xs))
  | [.tuple xs] => some (.d (.tuple xs))
  | _ => none
theorem s_tuple : CallS K (fun xs H Q => ∃ p ys, xs = [.ref p] ∧ ((SqL K H p ys ∧ ∀ l, H l = none → Q (.ref l) (upd H l (.tup ys))) ∨ (SqT K H p ys ∧ Q (.ref p) H))) cTuple := by
  intro G H xs ds z Q s h eg hq
  unfold cTuple at eg
  split at eg
  · next es =>
    cases eg
    cases h with
    | cons h1 h2 =>
      cases h2
      obtain ⟨a, vs, rfl, w1, w2⟩ := h1.lst s
      exact ⟨a, vs, rfl, .inl ⟨w1, fun l nl => hq _ _ _ (Grow.data s nl) (dp_newT s nl w2)⟩⟩
  · next es =>
    cases eg
    cases h with
    | cons h1 h2 =>
      cases h2
      obtain ⟨a, vs, rfl, w1, w2⟩ := h1.tup s
      refine ⟨a, vs, rfl, .inr ⟨w1, ?_⟩⟩
      rcases h1 with h1 | ⟨_, _, _, _, q, _⟩
      · exact hq _ G H (.refl s) h1
      · cases q
  · cases eg

/-! ### all(bools), sum(ints) -/
def boolsOf : List D → Option (List Bool)
  | [] => some []
  | .bool i :: ds => (match boolsOf ds with
    | some ns => some (i :: ns)
    | none => none)
  | _ => none
theorem boolsOf_map : ∀ ns : List Bool, boolsOf (ns.map PyData.bool) = some ns
  | [] => rfl
  | n :: ns => by
    show (match boolsOf (ns.map PyData.bool) with
      | some ns => some (n :: ns)
      | none => none) = _
    rw [boolsOf_map ns]
theorem boolsOf_eq : ∀ {ds : List D} {ns : List Bool}, boolsOf ds = some ns → ds = ns.map PyData.bool
  | [], _, h => by cases h; rfl
  | .bool i :: ds, ns, h => by
    have h : (match boolsOf ds with
      | some ns => some (i :: ns)
      | none => none) = some ns := h
    cases e : boolsOf ds with
    | none => rw [e] at h; cases h
    | some ms =>
      rw [e] at h
      cases h
      rw [boolsOf_eq e]
      rfl
  | .none :: _, _, h => by cases h
  | .int _ :: _, _, h => by cases h
  | .str _ :: _, _, h => by cases h
  | .list _ :: _, _, h => by cases h
  | .tuple _ :: _, _, h => by cases h
  | .dict _ :: _, _, h => by cases h
theorem dpAll_bools {H : Hp} : ∀ {ns : List Bool} {vs : List V}, DpAll K H vs (ns.map PyData.bool) → vs = ns.map V.bl
  | [], _, h => by cases h; rfl
  | n :: ns, _, h => by
    cases h with
    | cons h1 h2 => rw [dp_bool h1, dpAll_bools h2]; rfl
theorem zall {X : Cx} (hc : X.calm = true) (hK : X.K = K := by rfl) : CallR X (.builtin "all") (rAll K) := by subst hK; exact cr_all hc
theorem zsum {X : Cx} (hc : X.calm = true) (hK : X.K = K := by rfl) : CallR X (.builtin "sum") (rSum K) := by subst hK; exact cr_sum hc
def cAll : List D → Option R
  | [.list xs] => (match boolsOf xs with
    | some bs => some (.d (.bool (bs.all id)))
    | none => none)
  | _ => none
def cSum : List D → Option R
  | [.list xs] => (match intsOf xs with
    | some ns => some (.d (.int ns.sum))
    | none => none)
  | _ => none
theorem s_all : CallS K (rAll K) cAll := by
  intro G H xs ds z Q s h eg hq
  unfold cAll at eg
  split at eg
  · next es =>
    split at eg
    · next bs eb =>
      cases eg
      cases h with
      | cons h1 h2 =>
        cases h2
        obtain ⟨a, vs, rfl, w1, w2⟩ := h1.lst s
        rw [boolsOf_eq eb] at w2
        rw [dpAll_bools w2] at w1
        exact ⟨a, bs, rfl, w1, hq _ G H (.refl s) (.bl _)⟩
    · cases eg
  · cases eg
theorem s_sum : CallS K (rSum K) cSum := by
  intro G H xs ds z Q s h eg hq
  unfold cSum at eg
  split at eg
  · next es =>
    split at eg
    · next bs eb =>
      cases eg
      cases h with
      | cons h1 h2 =>
        cases h2
        obtain ⟨a, vs, rfl, w1, w2⟩ := h1.lst s
        rw [intsOf_eq eb] at w2
        rw [dpAll_ints w2] at w1
        exact ⟨a, bs, rfl, w1, hq _ G H (.refl s) (.int _)⟩
    · cases eg
  · cases eg
end
end Z
namespace Z
open PySem PySem.Spec PyProof.Rows L2

/-! ### {elt for .. in .. for .. in ..} of ints: the two loops -/
abbrev sc2 (elt t0 i0 t1 i1 : Expr) (ifs0 ifs1 : List Expr) (scope : Scope) (pos : Pos) : Expr := .SetComp elt [⟨t0, i0, ifs0, 0⟩, ⟨t1, i1, ifs1, 0⟩] scope pos
abbrev testsG (ifs : List Expr) (env : PySem.Env) : Sem Bool := forIn ifs true fun c r => if r = true then do let ok ← isTrue c env (eval c env); pure (ForInStep.yield ok) else pure (ForInStep.yield r)
abbrev noE : Value → Shared → Prop := fun _ _ => False
section
variable {prog : Program} {w : World} {A : Around} {R : Result → Shared → Prop} {s : Shared} {elt t0 i0 t1 i1 : Expr} {ifs0 ifs1 : List Expr} {scope : Scope} {pos : Pos} {it acc : Value} {env : PySem.Env}
theorem sTurn0 : compTurn (sc2 elt t0 i0 t1 i1 ifs0 ifs1 scope pos) 0 it acc env = (do
      standAt i0.pos
      match ← pyNext it with
      | none => pure (.done .next)
      | some v =>
        letOwnedTupleGo t0 it v
        assign t0 env v
        let mut ok := true
        for c in ifs0 do
          if ok then ok ← isTrue c env (eval c env)
        if ok then
          let x ← eval i1 env
          standAt i1.pos
          let x ← foldedSetIterable i1 env x
          let _ ← runOwn (.compStart (sc2 elt t0 i0 t1 i1 ifs0 ifs1 scope pos) 1 (← holding [x] (pyIter x)) acc env) env
        again (.compLoop (sc2 elt t0 i0 t1 i1 ifs0 ifs1 scope pos) 0 it acc env)) := by rfl
theorem sTurn1 : compTurn (sc2 elt t0 i0 t1 i1 ifs0 ifs1 scope pos) 1 it acc env = (do
      standAt i1.pos
      match ← pyNext it with
      | none => pure (.done .next)
      | some v =>
        letOwnedTupleGo t1 it v
        assign t1 env v
        let mut ok := true
        for c in ifs1 do
          if ok then ok ← isTrue c env (eval c env)
        if ok then
          (do let v ← eval elt env; standAt elt.pos; let _ ← call (.builtin "set.add") [acc, v])
        again (.compLoop (sc2 elt t0 i0 t1 i1 ifs0 ifs1 scope pos) 1 it acc env)) := by rfl
theorem toN {α : Type} {t : Sem α} {Q Q' : α → Shared → Prop} {E : Value → Shared → Prop} (h : wpAny (model prog w) A t Q noE s) (k : ∀ a s', Q a s' → Q' a s') : wpAny (model prog w) A t Q' E s := wpAny_mono h k fun _ _ z => z.elim
theorem sLoop0 (hs : ∀ x, foldedSetIterable i1 env x = pure x) (I : Nat → Shared → Prop)
    (turn : ∀ n s, I n s → wpAny (model prog w) A (pyNext it) (fun r s₁ => match r with
      | none => R (.ok .next) s₁
      | some v => wpAny (model prog w) A (letOwnedTupleGo t0 it v) (fun _ s₁' => wpAny (model prog w) A (assign t0 env v) (fun _ s₂ => wpAny (model prog w) A (testsG ifs0 env) (fun ok s₃ =>
            if ok = true then wpAny (model prog w) A (eval i1 env) (fun x s₄ => wpAny (model prog w) A (pyIter x) (fun it1 s₅ =>
              codeAny (model prog w) A (.compStart (sc2 elt t0 i0 t1 i1 ifs0 ifs1 scope pos) 1 it1 acc env) (fun r s' => match r with
                | .ok _ => ∃ m, m < n ∧ I m s'
                | .error _ => False) s₅) noE s₄) noE s₃
            else ∃ m, m < n ∧ I m s₃) noE s₂) noE s₁') noE s₁) noE s)
    (n : Nat) (h : I n s) : codeAny (model prog w) A (.compLoop (sc2 elt t0 i0 t1 i1 ifs0 ifs1 scope pos) 0 it acc env) R s := by
  refine codeAny_loop rfl I (fun n s hI => ?_) n h
  show wpAny _ A ((compTurn (sc2 elt t0 i0 t1 i1 ifs0 ifs1 scope pos) 0 it acc env).onRaise (fun x => do noteFrame x env; theTreesLotGoes x)) _ _ s
  refine wpAny_noted ?_
  rw [sTurn0]
  refine wpAny_bind (wpAny_standAt (wpAny_bind (toN (turn n s hI) fun r s₁ h₁ => ?_)))
  cases r with
  | none => exact wpAny_pure h₁
  | some v =>
    refine wpAny_bind (toN h₁ fun _ s₁' h₁' => wpAny_bind (toN h₁' fun _ s₂ h₂ => wpAny_bind (toN h₂ fun ok s₃ h₃ => ?_)))
    cases ok with
    | false => exact wpAny_pure ⟨rfl, h₃⟩
    | true =>
      refine wpAny_bind (toN h₃ fun x s₄ h₄ => ?_)
      refine wpAny_bind (wpAny_standAt (wpAny_bind (wpAny_of_eq (hs x) (wpAny_bind (wpAny_holding (toN h₄ fun it1 s₅ h₅ => ?_))))))
      refine wpAny_bind (wpAny_runOwn ?_)
      rw [Around.mark_none]
      refine codeAny_mono h₅ fun r s' hr => ?_
      cases r with
      | ok f => first | exact wpAny_pure ⟨rfl, hr⟩ | exact wpAny_bind (wpAny_pure (wpAny_pure ⟨rfl, hr⟩))
      | error e => exact hr.elim
theorem sLoop1 (I : Nat → Shared → Prop)
    (turn : ∀ n s, I n s → wpAny (model prog w) A (pyNext it) (fun r s₁ => match r with
      | none => R (.ok .next) s₁
      | some v => wpAny (model prog w) A (letOwnedTupleGo t1 it v) (fun _ s₁' => wpAny (model prog w) A (assign t1 env v) (fun _ s₂ => wpAny (model prog w) A (testsG ifs1 env) (fun ok s₃ =>
            if ok = true then wpAny (model prog w) A (eval elt env) (fun x s₄ => wpAny (model prog w) A (call (.builtin "set.add") [acc, x]) (fun _ s₅ => ∃ m, m < n ∧ I m s₅) noE s₄) noE s₃
            else ∃ m, m < n ∧ I m s₃) noE s₂) noE s₁') noE s₁) noE s)
    (n : Nat) (h : I n s) : codeAny (model prog w) A (.compLoop (sc2 elt t0 i0 t1 i1 ifs0 ifs1 scope pos) 1 it acc env) R s := by
  refine codeAny_loop rfl I (fun n s hI => ?_) n h
  show wpAny _ A ((compTurn (sc2 elt t0 i0 t1 i1 ifs0 ifs1 scope pos) 1 it acc env).onRaise (fun x => do noteFrame x env; theTreesLotGoes x)) _ _ s
  refine wpAny_noted ?_
  rw [sTurn1]
  refine wpAny_bind (wpAny_standAt (wpAny_bind (toN (turn n s hI) fun r s₁ h₁ => ?_)))
  cases r with
  | none => exact wpAny_pure h₁
  | some v =>
    refine wpAny_bind (toN h₁ fun _ s₁' h₁' => wpAny_bind (toN h₁' fun _ s₂ h₂ => wpAny_bind (toN h₂ fun ok s₃ h₃ => ?_)))
    cases ok with
    | false => exact wpAny_pure ⟨rfl, h₃⟩
    | true => exact wpAny_bind (wpAny_bind (toN h₃ fun x s₄ h₄ => wpAny_bind (wpAny_standAt (wpAny_bind (toN h₄ fun _ s₅ h₅ => wpAny_pure (wpAny_pure ⟨rfl, h₅⟩))))))
theorem sStart1 (h0 : codeAny (model prog w) A (.compLoop (sc2 elt t0 i0 t1 i1 ifs0 ifs1 scope pos) 1 it acc env) R s)
    (h : wpAny (model prog w) A (pyIter it) (fun it' s' => codeAny (model prog w) A (.compLoop (sc2 elt t0 i0 t1 i1 ifs0 ifs1 scope pos) 1 it' acc env) R s') (notedBy (model prog w) A env fun x s' => R (.error x) s') s) :
    codeAny (model prog w) A (.compStart (sc2 elt t0 i0 t1 i1 ifs0 ifs1 scope pos) 1 it acc env) R s := by
  refine codeAny_of_tree ?_
  show wpAny _ _ ((compStart (sc2 elt t0 i0 t1 i1 ifs0 ifs1 scope pos) 1 it acc env).onRaise (fun x => do noteFrame x env; standAt theWindowsPlace)) _ _ s
  refine wpAny_notedAt ?_
  unfold compStart
  show wpAny _ _ (ask >>= _) _ _ s
  refine wpAny_bind (wpAny_askSetting (wpAny_ite ?_))
  split
  · first
      | exact wpAny_bind (wpAny_pure (wpAny_pure (And.intro rfl h0)))
      | exact wpAny_pure (And.intro rfl h0)
  · first
      | exact wpAny_bind (wpAny_rule (wpAny_bind (wpAny_standAt (wpAny_bind (wpAny_mono h (fun it' s' h' => wpAny_pure (And.intro rfl h')) fun _ _ x => x)))))
      | (refine wpAny_bind (wpAny_rule ?_); show wpAny _ _ (standAt i1.pos >>= _) _ _ s; exact wpAny_bind (wpAny_standAt (wpAny_bind (wpAny_mono h (fun it' s' h' => wpAny_pure (And.intro rfl h')) fun _ _ x => x))))
end
section
variable {X : Cx}
/-- what is asked of the two loops: D the new set; vs the block's names, vs1 those of the second target -/
def tSc2 (w : World) (wi : TI) (g : TG) (tt : TT) (wi1 : TI) (g1 : TG) (tt1 : TT) (te : TE) (vs vs1 : List Nat) : TE := fun σ H Q => wi σ H fun J H1 => ∀ D, H1 D = none → ∃ W : Nat → Nat → Hp → Prop, (∃ m, W 0 m (upd H1 D (SetO w D (fun _ => false) 0))) ∧ ∀ i m H, W i m H →
  (J.stop i H ∧ Q (.ref D) H) ∨ (J.go i H ∧ ∃ Nx : Hp → Prop, (∀ H', Nx H' → ∃ m', m' < m ∧ W (i + 1) m' H') ∧ ∀ x H', J.yld i H x H' → g x (wipe σ vs) H' fun σ2 H2 => wipe σ2 vs = wipe σ vs ∧ tt σ2 H2 fun b H3 =>
    if b = true then wi1 σ2 H3 fun J1 H4 => ∃ W1 : Nat → Nat → Hp → Prop, (∃ m, W1 0 m H4) ∧ ∀ j k H, W1 j k H →
      (J1.stop j H ∧ Nx H) ∨ (J1.go j H ∧ ∃ Nx1 : Hp → Prop, (∀ H', Nx1 H' → ∃ k', k' < k ∧ W1 (j + 1) k' H') ∧ ∀ x H', J1.yld j H x H' → g1 x (wipe σ2 vs1) H' fun σ3 H5 => wipe σ3 vs1 = wipe σ2 vs1 ∧ tt1 σ3 H5 fun b H6 =>
        if b = true then te σ3 H6 fun y H7 => ∃ (c : Int) (S : Int → Bool) (n : Nat), y = .int c ∧ H7 D = some (SetO w D S n) ∧ n + 1 < scanBound ∧ Nx1 (upd H7 D (SetO w D (fun j => S j || decide (j = c)) (if S c = true then n else n + 1))) else Nx1 H6)
    else Nx H3)
theorem wipe_kept {σ τ : L2.St} {vs : List Nat} (h : wipe τ vs = wipe σ vs) : (wipe σ vs).length = τ.length ∧ ∀ (j : Nat) v, (wipe σ vs)[j]? = some (some v) → τ[j]? = some (some v) := by
  refine ⟨by rw [← h, wipe_length], fun j v e => ?_⟩
  rw [← h] at e
  exact (wipe_some e).1
set_option maxHeartbeats 1000000 in
theorem pe_sc2 {elt tg iter tg1 iter1 : Expr} {ifs ifs1 : List Expr} {scope : Scope} {own : List (PySem.Str × Nat)} {vs1 : List Nat} {pos : Pos} {wi wi1 : TI} {g g1 : TG} {tt tt1 : TT} {te : TE} (hc : X.calm = true) (hN : X.N.Nodup) (hi : PI X tg iter wi) (ok : BlkOk X.N X.env.scope scope own) (hv : ∀ i ∈ vs1, i ∈ own.map (·.2))
    (hg : ∀ (s : Shared) (H : Hp) (C : Addr) (cl : List (PySem.Str × Addr)) (fp : List Addr), PG (X.blk s H scope (compEnvC scope cl C X.env) fp) tg g) (ht : ∀ (s : Shared) (H : Hp) (C : Addr) (cl : List (PySem.Str × Addr)) (fp : List Addr), PTs (X.blk s H scope (compEnvC scope cl C X.env) fp) ifs tt)
    (hi1 : ∀ (s : Shared) (H : Hp) (C : Addr) (cl : List (PySem.Str × Addr)) (fp : List Addr), PI (X.blk s H scope (compEnvC scope cl C X.env) fp) tg1 iter1 wi1)
    (hg1 : ∀ (s : Shared) (H : Hp) (C : Addr) (cl : List (PySem.Str × Addr)) (fp : List Addr), PG (X.blk s H scope (compEnvC scope cl C X.env) fp) tg1 g1) (ht1 : ∀ (s : Shared) (H : Hp) (C : Addr) (cl : List (PySem.Str × Addr)) (fp : List Addr), PTs (X.blk s H scope (compEnvC scope cl C X.env) fp) ifs1 tt1)
    (he : ∀ (s : Shared) (H : Hp) (C : Addr) (cl : List (PySem.Str × Addr)) (fp : List Addr), PE (X.blk s H scope (compEnvC scope cl C X.env) fp) elt te) (hs : ∀ x, foldedSetIterable iter X.env x = pure x := by intro _; rfl) (hs1 : ∀ env x, foldedSetIterable iter1 env x = pure x := by intro _ _; rfl) :
    PE X (sc2 elt tg iter tg1 iter1 ifs ifs1 scope pos) (tSc2 X.w wi g tt wi1 g1 tt1 te (own.map (·.2)) vs1) := by
  refine ⟨fun pins s σ H Q I h => ?_⟩
  rw [PpSet.eval_SetComp]
  have hfree : ∀ y ∈ scope.names, y.2 = .free → ∃ c, X.env.cells.lookup y.1 = some c := fun y hy e => by
    rcases ok.free y hy e with k | k
    · exact I.ok.has _ (.inl k)
    · exact I.ok.has _ (.inr k)
  refine wpAny_comprehension_free (use := none) rfl hs (closure_ok hfree) ok.kind (fun y hy e => by rw [ok.uniq y hy, e]) (thn (hi.run pins s σ H _ I h) fun xv s1 hx => thn hx fun itv s2 h2 => ?_)
  obtain ⟨it, fp, tn, J, H2, e, I2, T, st2, f2, q⟩ := h2
  subst e
  refine PpSet.newSet_ok (newEnv_comp ?_)
  generalize hD : s2.heap.objs.size = D
  obtain ⟨W, ⟨m0, w0⟩, turn⟩ := q D (I2.hok.fresh (Nat.le_of_eq hD))
  generalize hs3 : ({ s2 with heap := s2.heap.push { cls := .type "set", dict := none, data := .set #[] 0 (.fresh 0 0 (!X.w.params.followText "set-order")) } } : Shared) = s3
  have h3 : s3.heap = s2.heap.push { cls := .type "set", dict := none, data := .set #[] 0 (.fresh 0 0 (!X.w.params.followText "set-order")) } := by rw [← hs3]
  have I3 : Inv X pins σ (upd H2 D (SetO X.w D (fun _ => false) 0)) s3 := by
    rw [← hs3]
    refine I2.laid (t' := s2.toks) (fun b o e => Heap.get?_push_of_some _ e) (Nat.le_of_eq hD) ?_
    rw [← hD]
    exact setO_new (setR_fresh X.w)
  have f3 : ∀ b ∈ fp, FpOk X pins (upd H2 D (SetO X.w D (fun _ => false) 0)) b ∧ b < s3.heap.objs.size := fun b hb => by
    obtain ⟨o, e, _⟩ := T.obj _ _ st2 b hb
    have hlt := Heap.lt_size e
    refine ⟨⟨?_, (f2 b hb).2⟩, by rw [h3, Heap.size_push]; exact Nat.lt_succ_of_lt hlt⟩
    rw [upd_ne (by rw [← hD]; exact Nat.ne_of_lt hlt)]
    exact (f2 b hb).1
  have I4 := block_start I3 ok hN f3
  have pg := hg s3 (upd H2 D (SetO X.w D (fun _ => false) 0)) s3.heap.objs.size (cellsFrom (s3.heap.objs.size + 1) scope.names (cloFrom X.env.cells scope.names [])) fp
  have pt := ht s3 (upd H2 D (SetO X.w D (fun _ => false) 0)) s3.heap.objs.size (cellsFrom (s3.heap.objs.size + 1) scope.names (cloFrom X.env.cells scope.names [])) fp
  have pe := he s3 (upd H2 D (SetO X.w D (fun _ => false) 0)) s3.heap.objs.size (cellsFrom (s3.heap.objs.size + 1) scope.names (cloFrom X.env.cells scope.names [])) fp
  have pi1 := hi1 s3 (upd H2 D (SetO X.w D (fun _ => false) 0)) s3.heap.objs.size (cellsFrom (s3.heap.objs.size + 1) scope.names (cloFrom X.env.cells scope.names [])) fp
  have pg1 := hg1 s3 (upd H2 D (SetO X.w D (fun _ => false) 0)) s3.heap.objs.size (cellsFrom (s3.heap.objs.size + 1) scope.names (cloFrom X.env.cells scope.names [])) fp
  have pt1 := ht1 s3 (upd H2 D (SetO X.w D (fun _ => false) 0)) s3.heap.objs.size (cellsFrom (s3.heap.objs.size + 1) scope.names (cloFrom X.env.cells scope.names [])) fp
  have nfp : ∀ b ∈ fp, (upd H2 D (SetO X.w D (fun _ => false) 0)) b = none := fun b hb => (f3 b hb).1.1
  have st4 : tn 0 (pushCells (s3.heap.push { cls := .type "dict", data := .dict #[] }) scope.names) := T.keep _ _ _ st2 fun b _ o e => pushCells_keeps _ _ _ _ (Heap.get?_push_of_some _ (by rw [h3]; exact Heap.get?_push_of_some _ e))
  show codeAny _ _ (.compStart (sc2 elt tg iter tg1 iter1 ifs ifs1 scope pos) 0 (.ref it) (.ref D) (compEnvC scope (cellsFrom (s3.heap.objs.size + 1) scope.names (cloFrom X.env.cells scope.names [])) s3.heap.objs.size X.env)) (compPost (model X.prog X.w) X.A X.xe none (EP X pins σ Q) (.ref D) s3.heap.objs.size) { s3 with heap := pushCells (s3.heap.push { cls := .type "dict", data := .dict #[] }) scope.names }
  generalize hce : compEnvC scope (cellsFrom (s3.heap.objs.size + 1) scope.names (cloFrom X.env.cells scope.names [])) s3.heap.objs.size X.env = ce at I4 pg pt pe pi1 pg1 pt1 ⊢
  have cL : ce.locals = s3.heap.objs.size := by subst hce; rfl
  generalize hH3 : upd H2 D (SetO X.w D (fun _ => false) 0) = H3 at I3 I4 pg pt pe pi1 pg1 pt1 w0 nfp f3
  generalize hs4 : ({ s3 with heap := pushCells (s3.heap.push { cls := .type "dict", data := .dict #[] }) scope.names } : Shared) = s4 at I4 ⊢
  have st4 : tn 0 s4.heap := by rw [← hs4]; exact st4
  generalize hY : X.blk s3 H3 scope ce fp = Y at I4 pg pt pe pi1 pg1 pt1
  have yc : Y.calm = true := by rw [← hY]; exact hc
  have stat : ∀ {σ' : L2.St} {H' : Hp} {s' : Shared}, Inv Y [] σ' H' s' → (∀ b ∈ fp, H' b = none) → ∀ b ∈ fp, FpOk Y [] H' b := fun {σ' H' s'} I' hn b hb => by
    subst hY
    exact ⟨hn b hb, (I'.ok.exf b hb).1, I'.ok.exfs b hb, .inl hb, fun x c e => (I'.ok.exf b hb).2 x c e, fun p hp => absurd (show p ∈ ([] : List (Addr × Obj)) ++ [] from hp) (by simp)⟩
  -- the frame of the first clause: what it knows at each turn's start
  let F0 : Nat → Nat → Shared → Prop := fun n i s' => ∃ H', Inv Y [] (wipe σ (own.map (·.2))) H' s' ∧ tn i s'.heap ∧ (∀ b ∈ fp, H' b = none) ∧ W i n H'
  have loop : codeAny (model X.prog X.w) X.A (.compLoop (sc2 elt tg iter tg1 iter1 ifs ifs1 scope pos) 0 (.ref it) (.ref D) ce) (compPost (model X.prog X.w) X.A X.xe none (EP X pins σ Q) (.ref D) s3.heap.objs.size) s4 := by
    refine sLoop0 (hs1 ce) (fun n s' => ∃ i, F0 n i s') ?_ m0 ⟨0, H3, I4, st4, nfp, w0⟩
    rintro n s5 ⟨i, H5, I5, st5, n5, w5⟩
    rcases turn i n H5 w5 with ⟨stop, qq⟩ | ⟨go, Nx, hNx, step⟩
    · have td := T.done Y (by rw [← hY]) (by rw [← hY]) (by rw [← hY]) yc i [] s5 _ H5 (fun _ _ => False) I5 (stat I5 n5) st5 stop
      rw [← hY] at td
      refine thn td fun r s6 ⟨hr, I6⟩ => ?_
      subst hr
      have I7 : Inv X pins σ H5 s6 := I3.call' (ch := fp) I6.os I6.base I6.hok I6.bare fun b hb => ⟨(f3 b hb).1.2.2.2.1, (f3 b hb).1.2.1, (f3 b hb).1.2.2.2.2.1, (f3 b hb).1.2.2.2.2.2⟩
      have nC : H5 s3.heap.objs.size = none := by
        have z : H5 ce.locals = none := I6.free
        rw [cL] at z
        exact z
      obtain ⟨m, hn, _⟩ := I6.loc
      have hn : s6.heap.Ns ce.locals m := hn
      rw [cL] at hn
      obtain ⟨f0, f1, f2, f3', f4, f5⟩ := I3.fpOk (Nat.le_refl _) nC
      exact ⟨m, hn, fun h'' sb => ⟨.ref D, H5, I7.turned (t' := s6.toks) (fun b o hb e => (sb.2 b hb).trans e) f0 f1 f3' f4 f5, rfl, qq⟩⟩
    · have ti := T.item Y (by rw [← hY]) (by rw [← hY]) (by rw [← hY]) yc i [] s5 _ H5 (fun _ _ => False) I5 (stat I5 n5) st5 go
      rw [← hY] at ti
      refine toN ti fun r s6 ⟨u, hr, h6⟩ => ?_
      subst hr
      refine thn h6 fun _ s7 ⟨x, H7, I7, r7, y7, st7, n7⟩ => ?_
      rw [hY] at I7
      have I7' := I7.pinned (stat I7 n7) (T.obj _ _ st7)
      have a1 := pg.run _ s7 _ H7 x u _ I7' r7 (step x H7 y7)
      rw [← hY] at a1
      refine thn a1 fun _ s8 ⟨σ8, H8, I8, hw8, q8⟩ => ?_
      rw [hY] at I8
      have a2 := pt.run _ s8 σ8 H8 _ I8 q8
      rw [← hY] at a2
      refine thn a2 fun b s9 ⟨H9, I9, q9⟩ => ?_
      rw [hY] at I9
      obtain ⟨hl8, hk8⟩ := wipe_kept hw8
      -- a turn's end
      have fin : ∀ {σ9 : L2.St} {s' : Shared} {H' : Hp}, Inv Y ([] ++ pinsAt fp s7.heap) σ9 H' s' → (wipe σ (own.map (·.2))).length = σ9.length → (∀ (j : Nat) v, (wipe σ (own.map (·.2)))[j]? = some (some v) → σ9[j]? = some (some v)) → Nx H' → ∃ m, m < n ∧ ∃ i, F0 m i s' := fun {σ9 s' H'} I' hl hk nx => by
        obtain ⟨m', hm, w'⟩ := hNx H' nx
        have pin' : ∀ b ∈ fp, ∀ o, s7.heap.get? b = some o → s'.heap.get? b = some o ∧ H' b = none := fun b hb o e =>
          let z := I'.pin (b, o) (List.mem_append_right _ (List.mem_append_right _ (mem_pinsAt hb e)))
          ⟨z.1, z.2.1⟩
        refine ⟨m', hm, i + 1, H', (I'.unpinned (pins := [])).weak hl hk, T.keep _ _ _ st7 fun b hb o e => (pin' b hb o e).1, fun b hb => ?_, w'⟩
        obtain ⟨o, e, _⟩ := T.obj _ _ st7 b hb
        exact (pin' b hb o e).2
      have hk9 : ∀ (j : Nat) v, (wipe σ (own.map (·.2)))[j]? = some (some v) → (wipe σ8 vs1)[j]? = some (some v) := fun j v e => by
        rw [← hw8] at e
        obtain ⟨e1, e2⟩ := wipe_some e
        rw [wipe_out fun z => e2 (hv j z)]
        exact e1
      cases b with
      | false =>
        simp only [Bool.false_eq_true, if_false] at q9 ⊢
        exact fin I9 hl8 hk8 q9
      | true =>
        simp only [if_true] at q9 ⊢
        have a3 := pi1.run _ s9 σ8 H9 _ I9 q9
        rw [← hY] at a3
        refine thn a3 fun xv s10 hx => thn hx fun itv s11 h11 => ?_
        obtain ⟨it1, fp1, tn1, J1, H11, e1, I11, T1, st11, f11, W1, ⟨m1, w1⟩, turn1⟩ := h11
        subst e1
        rw [hY] at I11
        have stat1 : ∀ {H' : Hp}, (∀ b ∈ fp1, H' b = none) → ∀ b ∈ fp1, FpOk Y ([] ++ pinsAt fp s7.heap) H' b := fun hn b hb => by
          rw [← hY]
          exact ⟨hn b hb, (f11 b hb).2⟩
        have loop1 : codeAny (model X.prog X.w) X.A (.compLoop (sc2 elt tg iter tg1 iter1 ifs ifs1 scope pos) 1 (.ref it1) (.ref D) ce)
            (fun r s' => match r with
              | .ok _ => ∃ m, m < n ∧ ∃ i, F0 m i s'
              | .error _ => False) s11 := by
          refine sLoop1 (fun k s' => ∃ j H', Inv Y ([] ++ pinsAt fp s7.heap) (wipe σ8 vs1) H' s' ∧ tn1 j s'.heap ∧ (∀ b ∈ fp1, H' b = none) ∧ W1 j k H') ?_ m1 ⟨0, H11, I11.weak (wipe_length _ _) (fun j v e => (wipe_some e).1), st11, fun b hb => (f11 b hb).1, w1⟩
          rintro k s12 ⟨j, H12, I12, st12, n12, w12⟩
          rcases turn1 j k H12 w12 with ⟨stop1, nx1⟩ | ⟨go1, Nx1, hNx1, step1⟩
          · have td := T1.done Y (by rw [← hY]) (by rw [← hY]) (by rw [← hY]) yc j _ s12 (wipe σ8 vs1) H12 (fun _ _ => False) I12 (stat1 n12) st12 stop1
            rw [← hY] at td
            refine thn td fun r s13 ⟨hr, I13⟩ => ?_
            subst hr
            rw [hY] at I13
            exact fin I13 (hl8.trans (wipe_length σ8 vs1).symm) hk9 nx1
          · have ti1 := T1.item Y (by rw [← hY]) (by rw [← hY]) (by rw [← hY]) yc j _ s12 (wipe σ8 vs1) H12 (fun _ _ => False) I12 (stat1 n12) st12 go1
            rw [← hY] at ti1
            refine toN ti1 fun r s13 ⟨u1, hr, h13⟩ => ?_
            subst hr
            refine thn h13 fun _ s14 ⟨x1, H14, I14, r14, y14, st14, n14⟩ => ?_
            rw [hY] at I14
            have I14' := I14.pinned (stat1 n14) (T1.obj _ _ st14)
            have b1 := pg1.run _ s14 (wipe σ8 vs1) H14 x1 u1 _ I14' r14 (step1 x1 H14 y14)
            rw [← hY] at b1
            refine thn b1 fun _ s15 ⟨σ15, H15, I15, hw15, q15⟩ => ?_
            rw [hY] at I15
            have b2 := pt1.run _ s15 σ15 H15 _ I15 q15
            rw [← hY] at b2
            refine thn b2 fun c1 s16 ⟨H16, I16, q16⟩ => ?_
            rw [hY] at I16
            have fin1 : ∀ {s' : Shared} {H' : Hp}, Inv Y (([] ++ pinsAt fp s7.heap) ++ pinsAt fp1 s14.heap) σ15 H' s' → Nx1 H' → ∃ m, m < k ∧ ∃ j H', Inv Y ([] ++ pinsAt fp s7.heap) (wipe σ8 vs1) H' s' ∧ tn1 j s'.heap ∧ (∀ b ∈ fp1, H' b = none) ∧ W1 j m H' := fun {s' H'} I' nx => by
              obtain ⟨m', hm, w'⟩ := hNx1 H' nx
              have pin' : ∀ b ∈ fp1, ∀ o, s14.heap.get? b = some o → s'.heap.get? b = some o ∧ H' b = none := fun b hb o e =>
                let z := I'.pin (b, o) (List.mem_append_right _ (List.mem_append_right _ (mem_pinsAt hb e)))
                ⟨z.1, z.2.1⟩
              obtain ⟨z1, z2⟩ := wipe_kept hw15
              refine ⟨m', hm, j + 1, H', I'.unpinned.weak z1 z2, T1.keep _ _ _ st14 fun b hb o e => (pin' b hb o e).1, fun b hb => ?_, w'⟩
              obtain ⟨o, e, _⟩ := T1.obj _ _ st14 b hb
              exact (pin' b hb o e).2
            cases c1 with
            | false =>
              simp only [Bool.false_eq_true, if_false] at q16 ⊢
              exact fin1 I16 q16
            | true =>
              simp only [if_true] at q16 ⊢
              have b3 := pe.run _ s16 σ15 H16 _ I16 q16
              rw [← hY] at b3
              refine thn b3 fun z s17 ⟨yv, H17, I17, r17, cb, S0, n0, ey, hD17, hz17, nx⟩ => ?_
              subst ey
              have hD17' : H17 D = some (SetO (X.blk s3 H3 scope ce fp).w D S0 n0) := hD17
              have ad := mt_sadd _ s17 σ15 H17 (.ref D) [.int cb] (.ref D) [z] (fun v H' => v = .non ∧ Nx1 H') I17 rfl (.cons r17 .nil) ⟨D, cb, S0, n0, rfl, rfl, hD17', hz17, rfl, nx⟩
              refine thn ad fun _ s18 ⟨v18, H18, I18, _, _, nx18⟩ => ?_
              rw [hY] at I18
              exact fin1 I18 nx18
        exact sStart1 loop1 (T1.self X.A 0 _ _ _ st11 loop1)
  exact PpSet.codeAny_compStart_set loop (T.self X.A 0 _ _ _ (by rw [← hs4] at st4 ⊢; exact st4) loop)
end
end Z
namespace Z
open PySem PySem.Spec PyProof.Rows L2

/-! ### sorted({elt for .. in .. for .. in ..}) by data -/
def lcS1 (b1 : D → Env → Option Env) (mt1 : Env → Res Bool) (me : Env → Res R) (vs1 : List Nat) : List D → List Int → Env → Res (List Int)
  | [], acc, ρ => .ok acc ρ
  | d :: ds, acc, ρ => match b1 d ρ with
    | none => .no
    | some ρ1 => (match mt1 ρ1 with
      | .ok true ρ2 => (match me ρ2 with
        | .ok r ρ3 => (match opd ρ3 r with
          | some (.int k) => if acc.length < 63 then lcS1 b1 mt1 me vs1 ds (acc ++ [k]) (wipeE ρ3 vs1) else .no
          | _ => .no)
        | _ => .no)
      | .ok false ρ2 => lcS1 b1 mt1 me vs1 ds acc (wipeE ρ2 vs1)
      | _ => .no)
def lcS2 (P : Nat) (b : D → Env → Option Env) (mt : Env → Res Bool) (ml : Env → Res R) (b1 : D → Env → Option Env) (mt1 : Env → Res Bool) (me : Env → Res R) (vs vs1 : List Nat) : List D → List Int → Env → Res (List Int)
  | [], acc, ρ => .ok acc ρ
  | d :: ds, acc, ρ => match b d ρ with
    | none => .no
    | some ρ1 => (match mt ρ1 with
      | .ok true ρ2 => (match mIter P ml ρ2 with
        | .ok es ρ3 => (match lcS1 b1 mt1 me vs1 es acc (wipeE ρ3 vs1) with
          | .ok acc' ρ4 => lcS2 P b mt ml b1 mt1 me vs vs1 ds acc' (wipeE ρ4 vs)
          | _ => .no)
        | _ => .no)
      | .ok false ρ2 => lcS2 P b mt ml b1 mt1 me vs vs1 ds acc (wipeE ρ2 vs)
      | _ => .no)
def mSortSc2 (P : Nat) (mi : Env → Res (List D)) (b : D → Env → Option Env) (mt : Env → Res Bool) (ml : Env → Res R) (b1 : D → Env → Option Env) (mt1 : Env → Res Bool) (me : Env → Res R) (vs vs1 : List Nat) : Env → Res R := fun ρ => (mi ρ).bind fun ds ρ1 =>
  match lcS2 P b mt ml b1 mt1 me vs vs1 ds [] (wipeE ρ1 vs) with
  | .ok acc ρw => .ok (.o ((sset acc).map .int)) (back ρ1 vs ρw)
  | _ => .no
def OkS (S : Int → Bool) (n : Nat) (acc : List Int) : Prop := (∀ j, S j = decide (j ∈ acc)) ∧ n ≤ acc.length ∧ acc.length ≤ 63
section
variable {K : PySem.W.Frag} {P : Nat} {W : Wish} {w : World} {g g1 : TG} {b b1 : D → Env → Option Env} {ts ts1 vs vs1 : List Nat} {tt tt1 : TT} {mt mt1 : Env → Res Bool} {te tl : TE} {me ml : Env → Res R}
theorem lcS1_go (hg : SimG K P g1 b1 ts1) (ht : SimT K P W tt1 mt1) (he : SimE K P W te me) (hts : ∀ i ∈ ts1, i ∈ vs1) (hvs : ∀ i ∈ vs1, P ≤ i)
    {f : Fx} {A : Addr} {G1 H1 : Hp} {σ : L2.St} {ρ1 : Env} {J : It} {es : List D} {acc0 accE : List Int} {S0 : Int → Bool} {n0 : Nat} {ρE : Env} (hp : f.pins.length = P) (fA : f.F A = none) (g0A : f.G0 A = none)
    (rl1 : Rel K (f.add A (SetO w A S0 n0)) G1 H1 σ ρ1) (wk : ∀ F, Walk K F G1 J es) (ok0 : OkS S0 n0 acc0) (hres : lcS1 b1 mt1 me vs1 es acc0 (wipeE ρ1 vs1) = .ok accE ρE) (Nx : Hp → Prop)
    (hq : ∀ G' H' S n, Same G1 G' → Rel K (f.add A (SetO w A S n)) G' H' (wipe σ vs1) ρE → OkS S n accE → Nx H') :
    ∃ W1 : Nat → Nat → Hp → Prop, (∃ m, W1 0 m H1) ∧ ∀ j k H, W1 j k H →
      (J.stop j H ∧ Nx H) ∨ (J.go j H ∧ ∃ Nx1 : Hp → Prop, (∀ H', Nx1 H' → ∃ k', k' < k ∧ W1 (j + 1) k' H') ∧ ∀ x H', J.yld j H x H' → g1 x (wipe σ vs1) H' fun σ3 H5 => wipe σ3 vs1 = wipe σ vs1 ∧ tt1 σ3 H5 fun b H6 =>
        if b = true then te σ3 H6 fun y H7 => ∃ (c : Int) (S : Int → Bool) (n : Nat), y = .int c ∧ H7 A = some (SetO w A S n) ∧ n + 1 < scanBound ∧ Nx1 (upd H7 A (SetO w A (fun j => S j || decide (j = c)) (if S c = true then n else n + 1))) else Nx1 H6) := by
  refine ⟨fun i m H' => ∃ G' ρ' acc S n, Same G1 G' ∧ Rel K (f.add A (SetO w A S n)) G' H' (wipe σ vs1) ρ' ∧ OkS S n acc ∧ i + m = es.length ∧ lcS1 b1 mt1 me vs1 (es.drop i) acc ρ' = .ok accE ρE,
    ⟨es.length, G1, wipeE ρ1 vs1, acc0, S0, n0, .refl _, rl1.wiped hp hvs, ok0, by omega, hres⟩, fun i m H' hW => ?_⟩
  obtain ⟨G2, ρ2, acc, S, n, s2, rl2, hok, em, hc⟩ := hW
  obtain ⟨wk1, wk2⟩ := wk _ G2 H' s2 rl2.gh rl2.fh
  by_cases hlt : i < es.length
  · have ed : es.drop i = es[i] :: es.drop (i + 1) := List.drop_eq_getElem_cons hlt
    obtain ⟨go, yl⟩ := wk1 i es[i] (List.getElem?_eq_getElem hlt)
    refine .inr ⟨go, fun H3 => ∃ G' ρ' acc S n, Same G1 G' ∧ Rel K (f.add A (SetO w A S n)) G' H3 (wipe σ vs1) ρ' ∧ OkS S n acc ∧ lcS1 b1 mt1 me vs1 (es.drop (i + 1)) acc ρ' = .ok accE ρE,
      fun H3 hN => ?_, fun x H3 hy => ?_⟩
    · obtain ⟨G', ρ', acc', S', n', a1, a2, a3, a4⟩ := hN
      exact ⟨m - 1, by omega, G', ρ', acc', S', n', a1, a2, a3, by omega, a4⟩
    · obtain ⟨G3, gr, hd⟩ := yl x H3 hy
      have rl3 := rl2.grow gr
      have s3 := s2.trans gr.1
      rw [ed] at hc
      simp only [lcS1] at hc
      split at hc
      · cases hc
      · next ρ3 e3 =>
        refine hg (f.add A (SetO w A S n)) G3 H3 (wipe σ vs1) ρ2 ρ3 x es[i] _ hp rl3 hd e3 fun σ4 rl4 l4 k4 => ?_
        have ew := wipe_same l4 k4 hts
        refine ⟨ew, ht (f.add A (SetO w A S n)) G3 H3 σ4 ρ3 _ hp rl4 ?_⟩
        cases e4 : mt1 ρ3 with
        | no => rw [e4] at hc; cases hc
        | exc c ρ4 => rw [e4] at hc; cases hc
        | ok k ρ4 =>
          rw [e4] at hc
          intro G5 H5 s5 rl5
          cases k with
          | false =>
            rw [if_neg Bool.false_ne_true]
            have r6 := rl5.wiped hp hvs
            rw [ew] at r6
            exact ⟨G5, _, acc, S, n, s3.trans s5, r6, hok, hc⟩
          | true =>
            rw [if_pos rfl]
            simp only at hc
            refine SimE.op (f := f.add A (SetO w A S n)) he hp rl5 ?_
            cases e5 : me ρ4 with
            | no => rw [e5] at hc; cases hc
            | exc c ρ5 => rw [e5] at hc; cases hc
            | ok r ρ5 =>
              rw [e5] at hc
              intro v G6 H6 s6 rl6 h6
              simp only at hc
              split at hc
              · next c ec =>
                split at hc
                · next hlen =>
                  have ev : v = .int c := (h6.got rl6 ec).int
                  refine ⟨c, S, n, ev, rl6.atF, ?_, ?_⟩
                  · have : (scanBound : Nat) = scanBound := rfl
                    have := hok.2.1
                    unfold scanBound
                    omega
                  · have r8 := (rl6.swapF (o' := SetO w A (fun j => S j || decide (j = c)) (if S c = true then n else n + 1)) g0A).wiped hp hvs
                    rw [ew] at r8
                    refine ⟨G6, _, acc ++ [c], _, _, (s3.trans s5).trans s6, r8, ⟨fun j => ?_, ?_, ?_⟩, hc⟩
                    · show (S j || decide (j = c)) = decide (j ∈ acc ++ [c])
                      rw [hok.1 j, Bool.eq_iff_iff]
                      simp only [Bool.or_eq_true, decide_eq_true_eq, List.mem_append, List.mem_singleton]
                    · rw [List.length_append]
                      have := hok.2.1
                      show (if S c = true then n else n + 1) ≤ acc.length + 1
                      split <;> omega
                    · rw [List.length_append]
                      show acc.length + 1 ≤ 63
                      omega
                · cases hc
              · cases hc
  · have ed : es.drop i = [] := List.drop_of_length_le (by omega)
    rw [ed] at hc
    simp only [lcS1] at hc
    cases hc
    exact .inl ⟨wk2 i (by omega), hq G2 H' S n s2 rl2 hok⟩
theorem wipe_wipe {σ : L2.St} {vs vs1 : List Nat} (h : ∀ i ∈ vs1, i ∈ vs) : wipe (wipe σ vs1) vs = wipe σ vs := by
  have key : ∀ (us : List Nat) (τ : L2.St) (j : Nat), j ∈ us → (wipe τ us)[j]? = if j < τ.length then some none else none := by
    intro us
    induction us with
    | nil => intro τ j h; cases h
    | cons u us ih =>
      intro τ j h
      show ((wipe τ us).set u none)[j]? = _
      by_cases hj : u = j
      · subst hj
        by_cases hl : u < τ.length
        · rw [List.getElem?_set_self (by rw [wipe_length]; exact hl), if_pos hl]
        · rw [List.getElem?_eq_none (by rw [List.length_set, wipe_length]; omega), if_neg hl]
      · rw [List.getElem?_set_ne hj]
        rcases List.mem_cons.mp h with e | h
        · exact absurd e.symm hj
        · exact ih τ j h
  refine List.ext_getElem? fun j => ?_
  by_cases hj : j ∈ vs
  · rw [key vs _ j hj, key vs _ j hj, wipe_length]
  · rw [wipe_out' hj, wipe_out' hj, wipe_out' fun z => hj (h j z)]
theorem lcS2_go (hg : SimG K P g b ts) (ht : SimT K P W tt mt) (hl : SimE K P W tl ml) (hg1 : SimG K P g1 b1 ts1) (ht1 : SimT K P W tt1 mt1) (he : SimE K P W te me) (hts : ∀ i ∈ ts, i ∈ vs) (hvs : ∀ i ∈ vs, P ≤ i) (hts1 : ∀ i ∈ ts1, i ∈ vs1) (hvs1 : ∀ i ∈ vs1, i ∈ vs)
    {f : Fx} {G1 H1 : Hp} {σ : L2.St} {ρ1 : Env} {J : It} {ds : List D} {Q : VK} {accF : List Int} {ρF : Env} (hp : f.pins.length = P) (rl1 : Rel K f G1 H1 σ ρ1) (wk : Walk K f.F G1 J ds)
    (hres : lcS2 P b mt ml b1 mt1 me vs vs1 ds [] (wipeE ρ1 vs) = .ok accF ρF)
    (hq : ∀ A G' H' S n, Same G1 G' → Rel K f G' H' σ (back ρ1 vs ρF) → H' A = some (SetO w A S n) → OkS S n accF → Q (.ref A) H') :
    ∀ A, H1 A = none → ∃ Wv : Nat → Nat → Hp → Prop, (∃ m, Wv 0 m (upd H1 A (SetO w A (fun _ => false) 0))) ∧ ∀ i m H, Wv i m H →
  (J.stop i H ∧ Q (.ref A) H) ∨ (J.go i H ∧ ∃ Nx : Hp → Prop, (∀ H', Nx H' → ∃ m', m' < m ∧ Wv (i + 1) m' H') ∧ ∀ x H', J.yld i H x H' → g x (wipe σ vs) H' fun σ2 H2 => wipe σ2 vs = wipe σ vs ∧ tt σ2 H2 fun b H3 =>
    if b = true then iSeq K tl σ2 H3 fun J1 H4 => ∃ W1 : Nat → Nat → Hp → Prop, (∃ m, W1 0 m H4) ∧ ∀ j k H, W1 j k H →
      (J1.stop j H ∧ Nx H) ∨ (J1.go j H ∧ ∃ Nx1 : Hp → Prop, (∀ H', Nx1 H' → ∃ k', k' < k ∧ W1 (j + 1) k' H') ∧ ∀ x H', J1.yld j H x H' → g1 x (wipe σ2 vs1) H' fun σ3 H5 => wipe σ3 vs1 = wipe σ2 vs1 ∧ tt1 σ3 H5 fun b H6 =>
        if b = true then te σ3 H6 fun y H7 => ∃ (c : Int) (S : Int → Bool) (n : Nat), y = .int c ∧ H7 A = some (SetO w A S n) ∧ n + 1 < scanBound ∧ Nx1 (upd H7 A (SetO w A (fun j => S j || decide (j = c)) (if S c = true then n else n + 1))) else Nx1 H6)
    else Nx H3) := by
  intro A nA
  have hvs1P : ∀ i ∈ vs1, P ≤ i := fun i hi => hvs i (hvs1 i hi)
  have gA : G1 A = none := rl1.gh.free nA
  have fA : f.F A = none := rl1.fh.free nA
  have g0A : f.G0 A = none := rl1.g0.free gA
  refine ⟨fun i m H' => ∃ G' ρ' acc S n, Same G1 G' ∧ Rel K (f.add A (SetO w A S n)) G' H' (wipe σ vs) ρ' ∧ OkS S n acc ∧ i + m = ds.length ∧ lcS2 P b mt ml b1 mt1 me vs vs1 (ds.drop i) acc ρ' = .ok accF ρF,
    ⟨ds.length, G1, wipeE ρ1 vs, [], _, 0, .refl _, (rl1.wiped hp hvs).addF nA, ⟨fun j => by simp, Nat.le_refl 0, by decide⟩, by omega, hres⟩, fun i m H' hW => ?_⟩
  obtain ⟨G2, ρ2, acc, S, n, s2, rl2, hok, em, hc⟩ := hW
  have sF : Same f.F H' := fun b o q => rl2.fh b o (by
    show upd f.F A _ b = some o
    rw [upd_ne (fun z => by subst z; rw [fA] at q; cases q)]
    exact q)
  obtain ⟨wk1, wk2⟩ := wk G2 H' s2 rl2.gh sF
  by_cases hlt : i < ds.length
  · have ed : ds.drop i = ds[i] :: ds.drop (i + 1) := List.drop_eq_getElem_cons hlt
    obtain ⟨go, yl⟩ := wk1 i ds[i] (List.getElem?_eq_getElem hlt)
    refine .inr ⟨go, fun H3 => ∃ G' ρ' acc S n, Same G1 G' ∧ Rel K (f.add A (SetO w A S n)) G' H3 (wipe σ vs) ρ' ∧ OkS S n acc ∧ lcS2 P b mt ml b1 mt1 me vs vs1 (ds.drop (i + 1)) acc ρ' = .ok accF ρF,
      fun H3 hN => ?_, fun x H3 hy => ?_⟩
    · obtain ⟨G', ρ', acc', S', n', a1, a2, a3, a4⟩ := hN
      exact ⟨m - 1, by omega, G', ρ', acc', S', n', a1, a2, a3, by omega, a4⟩
    · obtain ⟨G3, gr, hd⟩ := yl x H3 hy
      have rl3 := rl2.grow gr
      have s3 := s2.trans gr.1
      rw [ed] at hc
      simp only [lcS2] at hc
      split at hc
      · cases hc
      · next ρ3 e3 =>
        refine hg (f.add A (SetO w A S n)) G3 H3 (wipe σ vs) ρ2 ρ3 x ds[i] _ hp rl3 hd e3 fun σ4 rl4 l4 k4 => ?_
        have ew := wipe_same l4 k4 hts
        refine ⟨ew, ht (f.add A (SetO w A S n)) G3 H3 σ4 ρ3 _ hp rl4 ?_⟩
        cases e4 : mt ρ3 with
        | no => rw [e4] at hc; cases hc
        | exc c ρ4 => rw [e4] at hc; cases hc
        | ok k ρ4 =>
          rw [e4] at hc
          intro G5 H5 s5 rl5
          cases k with
          | false =>
            rw [if_neg Bool.false_ne_true]
            have r6 := rl5.wiped hp hvs
            rw [ew] at r6
            exact ⟨G5, _, acc, S, n, s3.trans s5, r6, hok, hc⟩
          | true =>
            rw [if_pos rfl]
            simp only at hc
            refine SimE.op (f := f.add A (SetO w A S n)) hl hp rl5 ?_
            unfold mIter at hc
            cases e5 : ml ρ4 with
            | no => rw [e5] at hc; cases hc
            | exc c ρ5 => rw [e5] at hc; cases hc
            | ok r ρ5 =>
              rw [e5] at hc
              intro v G6 H6 s6 rl6 h6
              simp only [Res.bind] at hc
              split at hc
              · next es ρ7 e7 =>
                split at e7
                · next ρ6 e6 =>
                  obtain ⟨G7, s7, rl7⟩ := rl6.frz1 hp e6
                  have h7 := h6.same s7
                  have fin : ∀ J1 : It, (∀ F, Walk K F G7 J1 es) → ρ6 = ρ7 → ∃ W1 : Nat → Nat → Hp → Prop, (∃ m, W1 0 m H6) ∧ ∀ j k H, W1 j k H →
      (J1.stop j H ∧ (∃ G' ρ' acc S n, Same G1 G' ∧ Rel K (f.add A (SetO w A S n)) G' H (wipe σ vs) ρ' ∧ OkS S n acc ∧ lcS2 P b mt ml b1 mt1 me vs vs1 (ds.drop (i + 1)) acc ρ' = .ok accF ρF)) ∨ (J1.go j H ∧ ∃ Nx1 : Hp → Prop, (∀ H', Nx1 H' → ∃ k', k' < k ∧ W1 (j + 1) k' H') ∧ ∀ x H', J1.yld j H x H' → g1 x (wipe σ4 vs1) H' fun σ3 H5 => wipe σ3 vs1 = wipe σ4 vs1 ∧ tt1 σ3 H5 fun b H6 =>
        if b = true then te σ3 H6 fun y H7 => ∃ (c : Int) (S : Int → Bool) (n : Nat), y = .int c ∧ H7 A = some (SetO w A S n) ∧ n + 1 < scanBound ∧ Nx1 (upd H7 A (SetO w A (fun j => S j || decide (j = c)) (if S c = true then n else n + 1))) else Nx1 H6) := by
                    intro J1 hw e67
                    subst e67
                    split at hc
                    · next acc' ρ8 e8 =>
                      exact lcS1_go hg1 ht1 he hts1 hvs1P hp fA g0A rl7 hw hok e8 (fun H3 => ∃ G' ρ' acc S n, Same G1 G' ∧ Rel K (f.add A (SetO w A S n)) G' H3 (wipe σ vs) ρ' ∧ OkS S n acc ∧ lcS2 P b mt ml b1 mt1 me vs vs1 (ds.drop (i + 1)) acc ρ' = .ok accF ρF) fun G' H' S' n' z1 z2 z3 => by
                        have r9 := z2.wiped hp hvs
                        rw [wipe_wipe hvs1, ew] at r9
                        exact ⟨G', _, acc', S', n', (((s3.trans s5).trans s6).trans s7).trans z1, r9, z3, hc⟩
                    · cases hc
                  split at e7
                  · next es' ed' =>
                    cases e7
                    have hv := h7.dat rl7 ed'
                    obtain ⟨a, xs, rfl, q1, q2⟩ := dp_lst hv
                    exact ⟨a, rfl, .inl ⟨⟨xs, rl7.gh.seq q1⟩, fin _ (fun F => walk_list q1 q2) rfl⟩⟩
                  · next es' ed' =>
                    cases e7
                    have hv := h7.dat rl7 ed'
                    obtain ⟨a, xs, rfl, q1, q2⟩ := dp_tup hv
                    exact ⟨a, rfl, .inr ⟨⟨xs, sqT_same rl7.gh q1⟩, fin _ (fun F => walk_tup q1 q2) rfl⟩⟩
                  · cases e7
                · cases e7
              · cases hc
  · have ed : ds.drop i = [] := List.drop_of_length_le (by omega)
    rw [ed] at hc
    simp only [lcS2] at hc
    cases hc
    exact .inl ⟨wk2 i (by omega), hq A G2 H' S n s2 (rl1.restore hp hvs s2 rl2 fA) rl2.atF hok⟩
theorem sim_sortSc2 {wi : TI} {mi : Env → Res (List D)} (hi : SimI K P W wi mi) (hg : SimG K P g b ts) (ht : SimT K P W tt mt) (hl : SimE K P W tl ml) (hg1 : SimG K P g1 b1 ts1) (ht1 : SimT K P W tt1 mt1) (he : SimE K P W te me) (hts : ∀ i ∈ ts, i ∈ vs) (hvs : ∀ i ∈ vs, P ≤ i) (hts1 : ∀ i ∈ ts1, i ∈ vs1) (hvs1 : ∀ i ∈ vs1, i ∈ vs) :
    SimE K P W (tCB (rSortedSet w) (tCons (tSc2 w wi g tt (iSeq K tl) g1 tt1 te vs vs1) tNil)) (mSortSc2 P mi b mt ml b1 mt1 me vs vs1) := by
  intro f G H σ ρ Q hp rl hq
  refine hi f G H σ ρ _ hp rl ?_
  unfold mSortSc2 at hq
  cases e : mi ρ with
  | no => rw [e] at hq; exact hq
  | exc c ρ1 => rw [e] at hq; exact hq
  | ok ds ρ1 =>
    rw [e] at hq
    simp only [Res.bind] at hq
    intro J G1 H1 s1 rl1 wk
    split at hq
    · next acc ρw hr =>
      refine lcS2_go (w := w) (Q := fun v H1 => rSortedSet w [v] H1 Q) hg ht hl hg1 ht1 he hts hvs hts1 hvs1 hp rl1 wk hr fun A G' H' S n z1 z2 z3 z4 => ?_
      refine ⟨A, S, n, rfl, z3, by have := z4.2.1; have := z4.2.2; omega, fun ms p up mem len np => ?_⟩
      have em : ms = sset acc := up_one _ _ up (sset_up acc) fun k => by
        rw [mem k, sset_mem, z4.1 k]
        exact decide_eq_true_iff
      subst em
      have gr := Grow.fresh (o := .lst ((sset acc).map V.int)) z2.gh np
      exact hq _ G' _ (s1.trans z1) (z2.grow gr) (NewV.vrep z2 gr ⟨p, _, rfl, np, upd_same, dpAll_ofInts _, z2.gh.free np⟩)
    · exact hq.elim
end
end Z
namespace Z
open PySem PySem.Spec PyProof.Rows L2

/-! ### a slice -/
def SimO (K : PySem.W.Frag) (P : Nat) (W : Wish) (t : TO) (m : Env → Res (Option Int)) : Prop := ∀ (f : Fx) (G H : Hp) (σ : L2.St) (ρ : Env) (Q : Option Int → Hp → Prop), f.pins.length = P → Rel K f G H σ ρ → (match m ρ with
  | .no => False
  | .ok o ρ' => ∀ G' H', Same G G' → Rel K f G' H' σ ρ' → Q o H'
  | .exc c ρ' => ∀ G' H', Same G G' → Rel K f G' H' σ ρ' → W σ c H') → t σ H Q
def mNoPart : Env → Res (Option Int) := fun ρ => .ok none ρ
def mPart (me : Env → Res R) : Env → Res (Option Int) := fun ρ => (me ρ).bind fun r ρ1 => match opd ρ1 r with
  | some (.int i) => .ok (some i) ρ1
  | _ => .no
def cutD (xs : List D) (lo hi : Option Int) : List D := (xs.drop (HT.sIx xs.length 0 lo)).take (HT.sIx xs.length xs.length hi - HT.sIx xs.length 0 lo)
def mSl (me : Env → Res R) (ml mh : Env → Res (Option Int)) : Env → Res R := fun ρ => (me ρ).bind fun r ρ1 => (ml ρ1).bind fun lo ρ2 => (mh ρ2).bind fun hi ρ3 => match opd ρ3 r with
  | some (.list xs) => .ok (.o (cutD xs lo hi)) ρ3
  | some (.tuple xs) => .ok (.d (.tuple (cutD xs lo hi))) ρ3
  | _ => .no
abbrev rSl (K : PySem.W.Frag) : V → Option Int → Option Int → Hp → VK → Prop := fun x lo hi H Q => rSlL K x lo hi H Q ∨ rSlA K x lo hi H Q
theorem zsl {K : PySem.W.Frag} {X : Cx} (hK : X.K = K := by rfl) : SlR X (rSl K) := by subst hK; exact sl_list.or sl_tupA
section
variable {K : PySem.W.Frag} {P : Nat} {W : Wish} {te : TE} {me : Env → Res R} {tl th : TO} {ml mh : Env → Res (Option Int)}
theorem sim_noPart : SimO K P W tNoPart mNoPart := fun f G H σ ρ Q hp rl hq => hq G H (.refl _) rl
theorem sim_part (h : SimE K P W te me) : SimO K P W (tPart te) (mPart me) := by
  intro f G H σ ρ Q hp rl hq
  refine h.op hp rl ?_
  unfold mPart at hq
  cases e : me ρ with
  | no => rw [e] at hq; exact hq
  | exc c ρ1 => rw [e] at hq; exact hq
  | ok r ρ1 =>
    rw [e] at hq
    simp only [Res.bind] at hq
    intro v G1 H1 s1 rl1 h1
    split at hq
    · exact hq.elim
    · next o ρ' q =>
      split at q
      · next i ei =>
        cases q
        exact ⟨_, (h1.got rl1 ei).int, hq G1 H1 s1 rl1⟩
      · cases q
    · next c ρ' q => split at q <;> cases q
theorem cut_len {xs : List D} {vs : List V} {G : Hp} (h : DpAll K G vs xs) (lo hi : Option Int) : DpAll K G (cutV vs lo hi) (cutD xs lo hi) := by
  unfold cutV cutD
  rw [dpAll_len h]
  exact dpAll_take _ (dpAll_drop _ h)
theorem cut_whole (xs : List D) (lo hi : Option Int) (h : HT.sIx xs.length 0 lo = 0 ∧ HT.sIx xs.length xs.length hi = xs.length) : cutD xs lo hi = xs := by
  unfold cutD
  rw [h.1, h.2]
  simp
theorem sim_sl (h : SimE K P W te me) (h1 : SimO K P W tl ml) (h2 : SimO K P W th mh) : SimE K P W (tSl (rSl K) te tl th) (mSl me ml mh) := by
  intro f G H σ ρ Q hp rl hq
  refine h.op hp rl ?_
  unfold mSl at hq
  cases e : me ρ with
  | no => rw [e] at hq; exact hq
  | exc c ρ1 => rw [e] at hq; exact hq
  | ok r ρ1 =>
    rw [e] at hq
    simp only [Res.bind] at hq
    intro v G1 H1 s1 rl1 w1
    refine h1 f G1 H1 σ ρ1 _ hp rl1 ?_
    cases e1 : ml ρ1 with
    | no => rw [e1] at hq; exact hq
    | exc c ρ2 => rw [e1] at hq; exact fun G2 H2 s2 rl2 => hq G2 H2 (s1.trans s2) rl2
    | ok lo ρ2 =>
      rw [e1] at hq
      intro G2 H2 s2 rl2
      refine h2 f G2 H2 σ ρ2 _ hp rl2 ?_
      simp only at hq
      cases e2 : mh ρ2 with
      | no => rw [e2] at hq; exact hq
      | exc c ρ3 => rw [e2] at hq; exact fun G3 H3 s3 rl3 => hq G3 H3 ((s1.trans s2).trans s3) rl3
      | ok hi ρ3 =>
        rw [e2] at hq
        simp only at hq
        intro G3 H3 s3 rl3
        have w3 := (w1.same s2).same s3
        have s13 := (s1.trans s2).trans s3
        split at hq
        · next xs ex =>
          obtain ⟨a, vs, rfl, q1, q2⟩ := (w3.got rl3 ex).lst rl3.gh
          refine .inl ⟨a, vs, rfl, q1, fun p np => ?_⟩
          have gr := Grow.fresh (o := .lst (cutV vs lo hi)) rl3.gh np
          exact hq _ G3 _ s13 (rl3.grow gr) (NewV.vrep rl3 gr ⟨p, _, rfl, np, upd_same, cut_len q2 lo hi, rl3.gh.free np⟩)
        · next xs ex =>
          have w4 := w3.got rl3 ex
          obtain ⟨a, vs, rfl, q1, q2⟩ := w4.tup rl3.gh
          have hn := dpAll_len q2
          refine .inr ⟨a, vs, rfl, q1, fun hw => ?_, fun _ p np => ?_⟩
          · rw [hn] at hw
            rw [cut_whole xs lo hi hw] at hq
            rcases w4 with w4 | ⟨_, _, _, _, q, _⟩
            · exact hq _ G3 H3 s13 rl3 w4
            · cases q
          · have gr := Grow.data (o := .tup (cutV vs lo hi)) rl3.gh np
            exact hq _ _ _ (s13.trans gr.1) (rl3.grow gr) (dp_newT rl3.gh np (cut_len q2 lo hi))
        · exact hq.elim
end

/-! ### sorted(pairs of ints) -/
abbrev lexL (p q : Int × Int) : Prop := p.1 < q.1 ∨ (p.1 = q.1 ∧ p.2 ≤ q.2)
def rSortP (K : PySem.W.Frag) : List V → Hp → VK → Prop := fun vs H Q => ∃ (a : Addr) (L : List (V × Int × Int)), vs = [V.ref a] ∧ SqL K H a (L.map (·.1)) ∧ (∀ q ∈ L, ∃ t, q.1 = V.ref t ∧ SqT K H t [.int q.2.1, .int q.2.2]) ∧
  ∀ (M : List (V × Int × Int)) (p : Addr), M.Perm L → (M.map (·.2)).Pairwise lexL → H p = none → Q (.ref p) (upd H p (.lst (M.map (·.1))))
theorem isPair_one {h : Heap} {v : Value} {x y x' y' : Int} (p : Srt.IsPair h v x y) (q : Srt.IsPair h v x' y') : x = x' ∧ y = y' := by
  obtain ⟨a, o, t, u, n, rfl, h1, _, h3⟩ := p
  obtain ⟨a', o', t', u', n', e, h1', _, h3'⟩ := q
  cases e
  rw [h1] at h1'
  cases h1'
  rw [h3] at h3'
  injection h3' with e1 e2
  have := congrArg Array.toList e1
  simp only [List.cons.injEq, Value.int.injEq] at this
  exact ⟨this.1.1, this.2.1.1⟩
open Classical in
noncomputable def pairAt (h : Heap) (v : Value) : Int × Int := if q : ∃ p : Int × Int, Srt.IsPair h v p.1 p.2 then choose q else (0, 0)
theorem pairAt_eq {h : Heap} {v : Value} {p : Int × Int} (q : Srt.IsPair h v p.1 p.2) : pairAt h v = p := by
  have ex : ∃ p : Int × Int, Srt.IsPair h v p.1 p.2 := ⟨p, q⟩
  unfold pairAt
  rw [dif_pos ex]
  obtain ⟨h1, h2⟩ := isPair_one (Classical.choose_spec ex) q
  exact Prod.ext h1 h2
def valR : V → Value
  | .ref t => .ref t
  | _ => .none
theorem vals_valR : ∀ {L : List (V × Int × Int)} {its : List Value}, Vals (L.map (·.1)) its → (∀ q ∈ L, ∃ t, q.1 = V.ref t) → its = L.map fun q => valR q.1
  | [], _, .nil, _ => rfl
  | q :: L, u :: us, .cons r t, h => by
    obtain ⟨a, e⟩ := h q List.mem_cons_self
    have r : RelV q.1 u := r
    rw [e] at r
    have r : u = Value.ref a := r
    rw [List.map_cons, ← vals_valR t fun z hz => h z (List.mem_cons_of_mem _ hz), e, r]
    rfl
theorem zcr_sortP {X : Cx} : CallR X (.builtin "sorted") (rSortP X.K) := by
  intro pins s σ H vs us Q I r h
  obtain ⟨a, L, rfl, hs, hx, q⟩ := h
  obtain ⟨its, rv, hl, hz⟩ := I.list hs
  rw [Vals.ref1 r]
  have hr : ∀ q ∈ L, ∃ t, q.1 = V.ref t := fun q hq => by
    obtain ⟨t, e, _⟩ := hx q hq
    exact ⟨t, e⟩
  have ei := vals_valR rv hr
  have pr : ∀ q ∈ L, Srt.IsPair s.heap (valR q.1) q.2.1 q.2.2 := fun q hq => by
    obtain ⟨t, e, ht⟩ := hx q hq
    rw [e]
    obtain ⟨its2, r2, ⟨o, ho, hc, n, hd⟩, _⟩ := I.tuple ht
    obtain ⟨u1, u2, rfl, ri, rj⟩ := vals2 r2
    obtain ⟨t1, rfl⟩ := ri
    obtain ⟨t2, rfl⟩ := rj
    exact ⟨t, o, t1, t2, n, rfl, ho, hc, hd⟩
  have eL : its.map (fun u => (backV u, pairAt s.heap u)) = L := by
    rw [ei, List.map_map]
    refine (List.map_congr_left fun q hq => ?_).trans (List.map_id L)
    obtain ⟨t, e⟩ := hr q hq
    have e2 : pairAt s.heap (valR q.1) = q.2 := pairAt_eq (pr q hq)
    show (backV (valR q.1), pairAt s.heap (valR q.1)) = q
    rw [e2, e]
    show (V.ref t, q.2) = q
    rw [← e]
  refine SrtO.sorted_pairsO (k := pairAt s.heap) hl.isList (by rw [← rv.length]; exact hz) (fun v hv => ?_) fun h' d out h1 h2 kp hd hn => ?_
  · rw [ei] at hv
    obtain ⟨q, hq, rfl⟩ := List.mem_map.mp hv
    have p := pr q hq
    rw [pairAt_eq (p := q.2) p]
    exact p
  · obtain ⟨n, hn⟩ := hn
    have h3 : ∀ u ∈ out, ∃ a, u = Value.ref a := fun u hu => by
      have hm := h2.perm.mem_iff.mp hu
      rw [ei] at hm
      obtain ⟨q, hq, rfl⟩ := List.mem_map.mp hm
      obtain ⟨t, e⟩ := hr q hq
      exact ⟨t, by rw [e]; rfl⟩
    have pm : (out.map fun u => (backV u, pairAt s.heap u)).Perm L := by
      have := h2.perm.map fun u => (backV u, pairAt s.heap u)
      rw [eL] at this
      exact this
    have m1 : (out.map fun u => (backV u, pairAt s.heap u)).map (·.1) = out.map backV := by rw [List.map_map]; rfl
    have m2 : (out.map fun u => (backV u, pairAt s.heap u)).map (·.2) = out.map (pairAt s.heap) := by rw [List.map_map]; rfl
    have fin := q (out.map fun u => (backV u, pairAt s.heap u)) d pm (by
      rw [m2]
      refine List.pairwise_map.mpr (h1.imp fun {x y} z => ?_)
      have z := SrtO.lexB_no.mp z
      show (pairAt s.heap x).1 < (pairAt s.heap y).1 ∨ ((pairAt s.heap x).1 = (pairAt s.heap y).1 ∧ (pairAt s.heap x).2 ≤ (pairAt s.heap y).2)
      omega) (I.hok.fresh hd)
    rw [m1] at fin
    refine ⟨.ref d, upd H d (.lst (out.map backV)), I.laid (t' := s.toks) kp hd ⟨?_, out, n, vals_back h3, hn⟩, rfl, fin⟩
    have := pm.length_eq
    rw [List.length_map] at this
    rw [List.length_map, this]
    rw [List.length_map] at hz
    exact hz
theorem zsortP {K : PySem.W.Frag} {X : Cx} (hK : X.K = K := by rfl) : CallR X (.builtin "sorted") (rSortP K) := by subst hK; exact zcr_sortP
/-! by data -/
def pairD (p : Int × Int) : D := .tuple [.int p.1, .int p.2]
def pairsOf : List D → Option (List (Int × Int))
  | [] => some []
  | .tuple [.int i, .int j] :: ds => (match pairsOf ds with
    | some ps => some ((i, j) :: ps)
    | none => none)
  | _ => none
theorem pairsOf_map : ∀ ps : List (Int × Int), pairsOf (ps.map pairD) = some ps
  | [] => rfl
  | p :: ps => by
    show (match pairsOf (ps.map pairD) with
      | some ps => some ((p.1, p.2) :: ps)
      | none => none) = _
    rw [pairsOf_map ps]
theorem pairsOf_eq : ∀ {ds : List D} {ps : List (Int × Int)}, pairsOf ds = some ps → ds = ps.map pairD := by
  intro ds
  induction ds with
  | nil => intro ps h; cases h; rfl
  | cons d ds ih =>
    intro ps h
    unfold pairsOf at h
    split at h
    · next e => cases e
    · next i j ds' e =>
      cases e
      split at h
      · next qs eq =>
        cases h
        rw [ih eq]
        rfl
      · cases h
    · cases h
def insP (p : Int × Int) : List (Int × Int) → List (Int × Int)
  | [] => [p]
  | q :: qs => if p.1 < q.1 ∨ (p.1 = q.1 ∧ p.2 ≤ q.2) then p :: q :: qs else q :: insP p qs
def psort (ps : List (Int × Int)) : List (Int × Int) := ps.foldr insP []
theorem insP_perm (p : Int × Int) : ∀ qs : List (Int × Int), (insP p qs).Perm (p :: qs)
  | [] => .refl _
  | q :: qs => by
    unfold insP
    split
    · exact .refl _
    · exact ((insP_perm p qs).cons q).trans (.swap p q qs)
theorem psort_perm : ∀ ps : List (Int × Int), (psort ps).Perm ps
  | [] => .refl _
  | p :: ps => (insP_perm p (psort ps)).trans ((psort_perm ps).cons p)
theorem insP_up (p : Int × Int) : ∀ qs : List (Int × Int), qs.Pairwise lexL → (insP p qs).Pairwise lexL
  | [], _ => by simp [insP]
  | q :: qs, h => by
    unfold insP
    rw [List.pairwise_cons] at h
    split
    · next hk =>
      rw [List.pairwise_cons, List.pairwise_cons]
      refine ⟨fun y hy => ?_, h⟩
      rcases List.mem_cons.mp hy with e | hy
      · subst e; exact hk
      · have := h.1 y hy
        show p.1 < y.1 ∨ (p.1 = y.1 ∧ p.2 ≤ y.2)
        have this : q.1 < y.1 ∨ (q.1 = y.1 ∧ q.2 ≤ y.2) := this
        omega
    · next hk =>
      rw [List.pairwise_cons]
      refine ⟨fun y hy => ?_, insP_up p qs h.2⟩
      rcases List.mem_cons.mp ((insP_perm p qs).mem_iff.mp hy) with e | hy
      · subst e
        show q.1 < y.1 ∨ (q.1 = y.1 ∧ q.2 ≤ y.2)
        omega
      · exact h.1 y hy
theorem psort_up : ∀ ps : List (Int × Int), (psort ps).Pairwise lexL
  | [] => by simp [psort]
  | p :: ps => insP_up p _ (psort_up ps)
theorem lexL_one : ∀ {xs ys : List (Int × Int)}, xs.Pairwise lexL → ys.Pairwise lexL → xs.Perm ys → xs = ys := fun h1 h2 p => p.eq_of_pairwise (fun a b _ _ q1 q2 => by
  have q1 : a.1 < b.1 ∨ (a.1 = b.1 ∧ a.2 ≤ b.2) := q1
  have q2 : b.1 < a.1 ∨ (b.1 = a.1 ∧ b.2 ≤ a.2) := q2
  exact Prod.ext (by omega) (by omega)) h1 h2
theorem dp_pairs {K : PySem.W.Frag} {G : Hp} : ∀ {ps : List (Int × Int)} {vs : List V}, DpAll K G vs (ps.map pairD) → ∃ L : List (V × Int × Int), L.map (·.1) = vs ∧ L.map (·.2) = ps ∧ ∀ q ∈ L, Dp K G q.1 (pairD q.2)
  | [], _, h => by cases h; exact ⟨[], rfl, rfl, fun q hq => nomatch hq⟩
  | p :: ps, _, h => by
    cases h with
    | cons h1 h2 =>
      obtain ⟨L, e1, e2, e3⟩ := dp_pairs h2
      refine ⟨(_, p) :: L, by rw [List.map_cons, e1], by rw [List.map_cons, e2], fun q hq => ?_⟩
      rcases List.mem_cons.mp hq with e | hq
      · subst e; exact h1
      · exact e3 q hq
theorem dp_pairs' {K : PySem.W.Frag} {G : Hp} : ∀ (M : List (V × Int × Int)), (∀ q ∈ M, Dp K G q.1 (pairD q.2)) → DpAll K G (M.map (·.1)) ((M.map (·.2)).map pairD)
  | [], _ => .nil
  | q :: M, h => .cons (h q List.mem_cons_self) (dp_pairs' M fun z hz => h z (List.mem_cons_of_mem _ hz))
def cSortP : List D → Option R
  | [.list xs] => (match pairsOf xs with
    | some ps => some (.o ((psort ps).map pairD))
    | none => none)
  | _ => none
theorem s_sortP {K : PySem.W.Frag} : CallS K (rSortP K) cSortP := by
  intro G H xs ds z Q s h eg hq
  unfold cSortP at eg
  split at eg
  · next es =>
    split at eg
    · next ps ep =>
      cases eg
      cases h with
      | cons h1 h2 =>
        cases h2
        obtain ⟨a, vs, rfl, w1, w2⟩ := h1.lst s
        rw [pairsOf_eq ep] at w2
        obtain ⟨L, e1, e2, e3⟩ := dp_pairs w2
        rw [← e1] at w1
        refine ⟨a, L, rfl, w1, fun q hq => ?_, fun M p pm up np => ?_⟩
        · obtain ⟨t, us, et, w3, w4⟩ := dp_tup (e3 q hq)
          cases w4 with
          | cons w5 w6 =>
            cases w6 with
            | cons w7 w8 =>
              cases w8
              rw [dp_int w5, dp_int w7] at w3
              exact ⟨t, et, sqT_same s w3⟩
        · have em : M.map (·.2) = psort ps := lexL_one up (psort_up ps) (((pm.map (·.2)).trans (by rw [e2])).trans (psort_perm ps).symm)
          refine hq _ G _ (Grow.fresh s np) ⟨p, _, rfl, np, upd_same, ?_, s.free np⟩
          rw [← em]
          exact dp_pairs' M fun q hq => e3 q (pm.mem_iff.mp hq)
    · cases eg
  · cases eg
end Z
namespace Z
open PySem PySem.Spec PyProof.Rows L2

theorem huH {A : Around} {k : Nat} (hr : L2H.RoomH k A) : A.units + 64 < cLine := by have := hr.un; omega
theorem takes0 {X : Cx} : L2N.Takes X (fun _ _ _ _ => False) := fun _ _ ⟨_, _, _, _, _, _, _, _, _, _, _, _, _, _, _, _, w⟩ => w.elim
theorem pss_when {X : Cx} {sts : List Stmt} {t : TS} {p : Prop} (h : p → PSs X sts t) : PSs X sts (fun D σ H => p ∧ t D σ H) :=
  ⟨fun pins s σ H D I q => (h q.1).run pins s σ H D I q.2⟩
def tClsN (cl : Nat → Addr) (hd : Nat → Option D) (i : Nat) (a : Addr) (cls : Value) (d : Option Addr) : TS := fun D σ H => d = none ∧ tCls cl hd i a cls D σ H
theorem sim_tryN {K : PySem.W.Frag} {P : Nat} {W : Wish} {cl : Nat → Addr} {hd : Nat → Option D} {cS : Value} {i : Nat} {tb : WX → TS} {mb : Env → Out} {Wout : WX} (hb : ∀ Wx : WX, SimS K P (fun σ c H => Wx (.ref (cl c)) none σ H) (tb Wx) mb)
    (hcl : ∀ c x, hd c = some x → flatD x = true ∧ PySem.W.exmOne K (.ref (cl c)) cS = some true) :
    SimS K P W (fun D σ H => tb (L2.wAs K cS i (tClsN cl hd i) Wout D) D σ H) (mTry i mb hd) := by
  intro f G H σ ρ D hp rl hq
  refine hb (L2.wAs K cS i (tClsN cl hd i) Wout D) f G H σ ρ D hp rl ?_
  unfold mTry at hq
  cases e : mb ρ with
  | no => rw [e] at hq; exact hq
  | nx _ => rw [e] at hq; exact hq
  | rt _ _ => rw [e] at hq; exact hq
  | bk _ => rw [e] at hq; exact hq
  | ct _ => rw [e] at hq; exact hq
  | exc c ρ1 =>
    rw [e] at hq
    simp only at hq
    split at hq
    · next x ex =>
      split at hq
      · next hil =>
        obtain ⟨h1, h2⟩ := hcl c x ex
        intro G1 H1 σ1 s1 rl1
        refine ⟨true, h2, fun _ a na => ⟨rfl, ?_, c, x, rfl, ex, h1, fun v H2 sm hv => ?_⟩, fun z => nomatch z⟩
        · exact List.getElem?_set_self (by rw [rl1.len]; exact hil)
        · exact hq v G1 H2 σ1 s1 (rl1.grow ⟨.refl _, sm, rl1.gh.trans sm, fun b z => .inl z⟩) hv.dp
      · exact hq.elim
    · exact hq.elim

/-! ### own error classes -/
structure ClsF (K : PySem.W.Frag) (C : Addr) : Prop where
  x : ExcC K C
  ty : PySem.W.typeIn K (.ref C) = some (.type "type")
  me : PySem.W.subIn K (.ref C) (.ref C) = some true
theorem kit_ref {K : PySem.W.Frag} {A C : Addr} {v : Bool} (hA : ClsF K A) (hC : ClsF K C) (h : PySem.W.subIn K (.ref A) (.ref C) = some v) : PySem.W.kitOne K (.ref A) (.ref C) = some v := by
  unfold PySem.W.kitOne
  by_cases e : A = C
  · subst e
    rw [hA.me] at h
    cases h
    simp
  · have ne : ((Value.ref A) == (Value.ref C)) = false := by
      refine beq_eq_false_iff_ne.mpr fun z => e ?_
      cases z
      rfl
    rw [ne]
    unfold PySem.W.kitCls
    have h1 : (PySem.W.clsIn K C).isSome = true := by
      have := hC.x.hd
      unfold PySem.W.hasDictIn at this
      cases q : PySem.W.clsIn K C with
      | none => rw [q] at this; cases this
      | some _ => rfl
    simp [h1, hC.ty, h]
theorem kit_val {K : PySem.W.Frag} {A : Addr} {v : Bool} (h : PySem.W.subIn K (.ref A) (.type "ValueError") = some v) : PySem.W.kitOne K (.ref A) (.type "ValueError") = some v := by
  unfold PySem.W.kitOne
  have ne : ((Value.ref A) == (Value.type "ValueError")) = false := rfl
  rw [ne]
  have hm : PySem.W.kitMeta "ValueError" = true := by decide +kernel
  unfold PySem.W.kitCls
  simp [hm, h]
theorem exm_ref {K : PySem.W.Frag} {A C : Addr} {v : Bool} (hC : ClsF K C) (h : PySem.W.subIn K (.ref A) (.ref C) = some v) : PySem.W.exmOne K (.ref A) (.ref C) = some v := by
  unfold PySem.W.exmOne
  rw [hC.x.hs]
  have h1 : (PySem.W.clsIn K C).isSome = true := by
    have := hC.x.hd
    unfold PySem.W.hasDictIn at this
    cases q : PySem.W.clsIn K C with
    | none => rw [q] at this; cases this
    | some _ => rfl
  unfold PySem.W.kitCls
  simp [h1, hC.ty, h]

/-! ### list.count of flat things -/
theorem countP_eqU {y : V} : ∀ {xs : List V} {us : List Value}, Vals xs us → xs.all flatV = true → us.countP (eqU y) = xs.countP fun x => eqV x y
  | _, _, .nil, _ => rfl
  | x :: xs, u :: us, .cons r t, f => by
    rw [List.all_cons, Bool.and_eq_true] at f
    rw [List.countP_cons, List.countP_cons, countP_eqU t f.2, eqU_of r f.1]
def rCntF (K : PySem.W.Frag) : V → List V → Hp → VK → Prop := fun x xs H Q => ∃ (p : Addr) (ys : List V) (y : V), x = .ref p ∧ xs = [y] ∧ SqL K H p ys ∧ flatV y = true ∧ ys.all flatV = true ∧ Q (.int ((ys.countP fun x => eqV x y : Nat) : Int)) H
theorem mt_countF {X : Cx} : MtR X "list.count" (rCntF X.K) := by
  intro pins s σ H x xs v us Q I rx rxs h
  obtain ⟨p, ys, y, rfl, rfl, hs, fy, fys, q⟩ := h
  cases rx
  cases rxs with
  | cons ry rt =>
    rename_i uy ut
    cases rt
    obtain ⟨its, rv, ⟨⟨cls, dd, data, sl⟩, n, ho, hc, hdn, hd⟩, hlen⟩ := I.list hs
    simp only at hc hd
    subst hc hd
    refine call_meets PySem.F.slot_list_count ⟨_, ho, rfl⟩ PySem.F.entry_list_count (PySem.F.args_list_count_2 _ _)
      (SeqAt.list_countAt p its.toArray n dd sl uy (eqU y)) ⟨ho, fun u' hu' => mem_eqAt ry fy rv fys u' (by simpa using hu'), ?_⟩
    refine ⟨.int ((ys.countP fun x => eqV x y : Nat) : Int), H, I.tok _, ⟨s.toks, ?_⟩, q⟩
    show Value.int ((its.toArray.toList.countP (eqU y) : Nat) : Int) s.toks = _
    rw [← countP_eqU rv fys]
/-! ### the row of isinstance's -/
def tK (K : PySem.W.Frag) (Ce a : Addr) : List Addr → TA
  | [] => tNil
  | C :: Cs => tCons (tCB (rIsE K Ce a) (tCons (tVar 0) (tCons (tC (.ref C)) tNil))) (tK K Ce a Cs)
theorem tK_run {K : PySem.W.Frag} {Ce a : Addr} {σ : L2.St} {H : Hp} (hσ : σ[0]? = some (some (V.ref a))) : ∀ {Cs : List Addr} {bs : List Bool}, Cs.length = bs.length → (∀ p ∈ Cs.zip bs, PySem.W.kitOne K (.ref Ce) (.ref p.1) = some p.2) → ∀ {Q : List V → Hp → Prop}, Q (bs.map V.bl) H → tK K Ce a Cs σ H Q
  | [], [], _, _, Q, q => q
  | C :: Cs, b :: bs, hl, h, Q, q => by
    refine ⟨V.ref a, hσ, ?_⟩
    refine ⟨V.ref C, .ref C, b, rfl, fun u hu => hu, h (C, b) (by simp), ?_⟩
    exact tK_run hσ (Cs := Cs) (bs := bs) (by simpa using hl) (fun p hp => h p (by rw [List.zip_cons_cons]; exact List.mem_cons_of_mem _ hp)) q
end Z
namespace Z
open PySem PySem.Spec PyProof.Rows L2 L2H
theorem iteF {α β : Prop} (h : β) : if false = true then α else β := by rw [if_neg Bool.false_ne_true]; exact h
def tStrs : List Str → TA
  | [] => tNil
  | x :: xs => tCons (tC (.str x)) (tStrs xs)
theorem tStrs_run {σ : L2.St} {H : Hp} : ∀ {xs : List Str} {Q : List V → Hp → Prop}, Q (xs.map V.str) H → tStrs xs σ H Q
  | [], _, q => q
  | x :: xs, Q, q => tStrs_run (xs := xs) (Q := fun vs H1 => Q (V.str x :: vs) H1) q
def clsT (K : PySem.W.Frag) (Ce a : Addr) (Cs : List Addr) (names : List Str) (other : Str) : TS :=
  tSeq (tAsg (tLst (tK K Ce a Cs)) (gName 1)) (tSeq (tIfS (tOr (tTest (tOp (rNeD K) (tBM K "list" (rCntF K) (tVar 1) (tCons (tC (.bl true)) tNil)) (tC (.int 1)))) (tNot (zTru K (tCB (rIsE K Ce a) (tCons (tVar 0) (tCons (tC (.ty "ValueError")) tNil)))))) (tRet (tC (.str other))) tNext)
    (tRet (tOp (rIx K) (tLst (tStrs names)) (tBM K "list" (rIndex K) (tVar 1) (tCons (tC (.bl true)) tNil)))))
theorem all_flat : ∀ bs : List Bool, (bs.map V.bl).all flatV = true
  | [] => rfl
  | b :: bs => by rw [List.map_cons, List.all_cons, all_flat bs]; rfl
theorem clsTail {K : PySem.W.Frag} {Ce a : Addr} {Cs : List Addr} {names : List Str} {other x : Str} {bs : List Bool} {j : Nat} {σ : L2.St} {H : Hp} {Q : VK} (hσ : σ[0]? = some (some (V.ref a))) (h1 : 1 < σ.length)
    (hl : Cs.length = bs.length) (hk : ∀ p ∈ Cs.zip bs, PySem.W.kitOne K (.ref Ce) (.ref p.1) = some p.2) (hv : PySem.W.kitOne K (.ref Ce) (.type "ValueError") = some true)
    (hb : bs.length ≤ 100) (hn : names.length ≤ 100) (hc : ((bs.map V.bl).countP fun x => eqV x (.bl true)) = 1) (hj : bs[j]? = some true) (hm : ∀ (m : Nat) (b : Bool), m < j → bs[m]? = some b → b = false) (hx : names[j]? = some x)
    (hq : ∀ v H', Same H H' → CV v (.str x) → Q v H') : clsT K Ce a Cs names other { nx := fun _ H' => Q .non H', rt := Q } σ H := by
  refine tK_run hσ hl hk ⟨line1000 (by rw [List.length_map]; omega), fun p np => ?_⟩
  have hs0 : (σ.set 1 (some (V.ref p)))[0]? = some (some (V.ref a)) := by rw [List.getElem?_set_ne (by decide)]; exact hσ
  have hs1 : (σ.set 1 (some (V.ref p)))[1]? = some (some (V.ref p)) := List.getElem?_set_self h1
  have hp : SqL K (upd H p (.lst (bs.map V.bl))) p (bs.map V.bl) := .inl (.inl upd_same)
  refine ⟨_, hs1, .inl ⟨rfl, _, hp⟩, ?_⟩
  refine ⟨p, _, .bl true, rfl, rfl, hp, rfl, all_flat bs, ?_⟩
  rw [hc]
  refine ⟨.int 1, .int 1, .int _, .int _, rfl, rfl, false, rfl, ?_⟩
  refine iteF ?_
  refine ⟨_, hs0, ?_⟩
  refine ⟨.ty "ValueError", .type "ValueError", true, rfl, fun u h => h, hv, true, rfl, ?_⟩
  refine iteF ?_
  refine tStrs_run (xs := names) ⟨line1000 (by rw [List.length_map]; omega), fun p2 np2 => ?_⟩
  have ne : p ≠ p2 := fun e => by
    subst e
    rw [upd_same] at np2
    cases np2
  have hp2 : SqL K (upd (upd H p (.lst (bs.map V.bl))) p2 (.lst (names.map V.str))) p (bs.map V.bl) := .inl (.inl (by rw [upd_ne ne]; exact upd_same))
  refine ⟨_, hs1, .inl ⟨rfl, _, hp2⟩, ?_⟩
  refine ⟨p, _, .bl true, j, .bl true, rfl, rfl, hp2, rfl, all_flat bs, by rw [List.getElem?_map, hj]; rfl, rfl, fun m z hmj hz => ?_, ?_⟩
  · rw [List.getElem?_map] at hz
    cases e : bs[m]? with
    | none => rw [e] at hz; cases hz
    | some b =>
      rw [e] at hz
      cases hz
      rw [hm m b hmj e]
      rfl
  · refine .inl ⟨p2, names.map V.str, j, .str x, rfl, rfl, .inl (.inl upd_same), ?_, ?_⟩
    · rw [atI_nn _ _ (by omega), List.getElem?_map]
      rw [show ((j : Nat) : Int).toNat = j by omega, hx]
      rfl
    · exact hq _ _ ((same_new np).trans (same_new np2)) (.str x)
theorem hm_of {bs : List Bool} {j : Nat} (h : (bs.take j).all (fun b => !b) = true) (m : Nat) (b : Bool) (hm : m < j) (e : bs[m]? = some b) : b = false := by
  have q : (bs.take j)[m]? = some b := by rw [List.getElem?_take, if_pos hm]; exact e
  have := List.all_eq_true.mp h b (List.mem_of_getElem? q)
  simpa using this
theorem zc0 {K : PySem.W.Frag} {Ce : Addr} : ∀ p ∈ ([] : List Addr).zip ([] : List Bool), PySem.W.kitOne K (.ref Ce) (.ref p.1) = some p.2 := fun p h => nomatch h
theorem zc1 {K : PySem.W.Frag} {Ce C : Addr} {b : Bool} {Cs : List Addr} {bs : List Bool} (h : PySem.W.kitOne K (.ref Ce) (.ref C) = some b) (t : ∀ p ∈ Cs.zip bs, PySem.W.kitOne K (.ref Ce) (.ref p.1) = some p.2) : ∀ p ∈ (C :: Cs).zip (b :: bs), PySem.W.kitOne K (.ref Ce) (.ref p.1) = some p.2 := fun p hp => by
  rw [List.zip_cons_cons] at hp
  rcases List.mem_cons.mp hp with e | hp
  · subst e; exact h
  · exact t p hp
def zsuT (cl : Nat → Addr) (hd : Nat → Option D) (i : Nat) (a : Addr) (cls : Value) : TE := fun σ H Q => σ[i]? = some (some (.ref a)) ∧ ∃ c y, cls = .ref (cl c) ∧ hd c = some y ∧ flatD y = true ∧ ∀ v H', Same H H' → CV v y → Q v H'
end Z
set_option maxHeartbeats 4000000
namespace Z
open PySem L2 PySem.Spec PyProof.Rows
/-! ### tuple * 1, tuple * 0 -/
theorem tuple_mul1 (l : Addr) (items : Array Value) (n : Nat) (dd : Option Addr) (sl : Array (Option Value)) (u : Tok) :
    Meets (Builtin.«tuple.__mul__» ⟨[.ref l, .int 1 u], []⟩) (fun _ R s => s.heap.get? l = some { cls := .type "tuple", dict := dd, data := .seq items n, slots := sl } ∧ R (.ok (.ret (Value.ref l))) s) :=
  .of_wp fun prog w A R s h => by
    obtain ⟨hp, g, d, tk, os⟩ := s
    obtain ⟨hl, h⟩ := h
    have f1 := AutoSeq1.idx_int
    have c1 : (items.isEmpty || (1 : Int) == 1) = true := by rw [Bool.or_eq_true]; exact .inr rfl
    wp_walk using wpAny_loadPart' hl
    exact ⟨_, rfl, h⟩
theorem tuple_mul0 (l : Addr) (items : Array Value) (n : Nat) (dd : Option Addr) (sl : Array (Option Value)) (u : Tok) (c1 : (items.isEmpty || (0 : Int) == 1) = false) :
    Meets (Builtin.«tuple.__mul__» ⟨[.ref l, .int 0 u], []⟩) (fun _ R s => s.heap.get? l = some { cls := .type "tuple", dict := dd, data := .seq items n, slots := sl } ∧
      R (.ok (.ret (Value.ref s.heap.objs.size))) { s with heap := s.heap.push { cls := Value.type "tuple", data := Data.seq #[] }, toks := s.toks }) :=
  .of_wp fun prog w A R s h => by
    obtain ⟨hp, g, d, tk, os⟩ := s
    obtain ⟨hl, h⟩ := h
    have f1 := AutoSeq1.idx_int
    wp_walk using wpAny_loadPart' hl
    repeat (first
      | (refine wpAny_ite_false (decide_eq_false (by rw [c1]; exact Bool.false_ne_true)) ?_; wp_walk using wpAny_loadPart' hl))
    exact ⟨_, rfl, h⟩
def rRepT1 (K : PySem.W.Frag) : R2 := fun x y H Q => ∃ l xs, x = .ref l ∧ y = .int 1 ∧ SqT K H l xs ∧ Q (.ref l) H
def rRepT0 (K : PySem.W.Frag) : R2 := fun x y H Q => ∃ l xs, x = .ref l ∧ y = .int 0 ∧ SqT K H l xs ∧ xs ≠ [] ∧ ∀ p, H p = none → Q (.ref p) (upd H p (.tup []))
section
variable {X : Cx}
theorem op_repT1 : OpR X (binaryOp .Mult) (rRepT1 X.K) := by
  intro pins s σ H x y v u Q I rx ry h
  obtain ⟨l, xs, rfl, rfl, hT, q⟩ := h
  cases rx
  obtain ⟨t, rfl⟩ := ry
  obtain ⟨its, r, ⟨⟨cls, dd, data, sl⟩, ho, hc, n, hd⟩, hs⟩ := I.tuple hT
  simp only at hc hd
  subst hc hd
  refine wpAny_binaryOp_repeat_ref (T := "tuple") (U := "int") (by decide) ⟨_, ho, rfl⟩ (fun s' => typeIs_int s' 1 t) noFill_tuple_mul F.fills_int_mul F.slot_int_rmul repeat_tuple F.slot_int_index.lookup
    (call_meets F.slot_int_rmul (typeIs_int s 1 t) F.entry_int_rmul (F.args_int_rmul_2 _ _) (int_rmul_tuple 1 t l its.toArray n dd sl)
      ⟨ho, rfl, ⟨_, ho, rfl⟩, call_meets F.slot_tuple_mul ⟨_, ho, rfl⟩ F.entry_tuple_mul (F.args_tuple_mul_2 _ _) (tuple_mul1 l its.toArray n dd sl t) ⟨ho, ?_⟩⟩)
  exact ⟨.ref l, H, I, rfl, q⟩
theorem op_repT0 : OpR X (binaryOp .Mult) (rRepT0 X.K) := by
  intro pins s σ H x y v u Q I rx ry h
  obtain ⟨l, xs, rfl, rfl, hT, hne, q⟩ := h
  cases rx
  obtain ⟨t, rfl⟩ := ry
  obtain ⟨its, r, ⟨⟨cls, dd, data, sl⟩, ho, hc, n, hd⟩, hs⟩ := I.tuple hT
  simp only at hc hd
  subst hc hd
  have hle : its.length = xs.length := r.length.symm
  have hn : its ≠ [] := fun e => hne (by
    rw [e] at hle
    exact List.eq_nil_of_length_eq_zero hle.symm)
  have c1 : (its.toArray.isEmpty || (0 : Int) == 1) = false := by
    cases its with
    | nil => exact absurd rfl hn
    | cons a b => rfl
  refine wpAny_binaryOp_repeat_ref (T := "tuple") (U := "int") (by decide) ⟨_, ho, rfl⟩ (fun s' => typeIs_int s' 0 t) noFill_tuple_mul F.fills_int_mul F.slot_int_rmul repeat_tuple F.slot_int_index.lookup
    (call_meets F.slot_int_rmul (typeIs_int s 0 t) F.entry_int_rmul (F.args_int_rmul_2 _ _) (int_rmul_tuple 0 t l its.toArray n dd sl)
      ⟨ho, rfl, ⟨_, ho, rfl⟩, call_meets F.slot_tuple_mul ⟨_, ho, rfl⟩ F.entry_tuple_mul (F.args_tuple_mul_2 _ _) (tuple_mul0 l its.toArray n dd sl t c1) ⟨ho, ?_⟩⟩)
  refine ⟨.ref s.heap.objs.size, _, I.laid (t' := s.toks) (o := .tup []) (fun b ob q => Heap.get?_push_of_some _ q) (Nat.le_refl _) ?_, rfl, q _ (I.hok.fresh (Nat.le_refl _))⟩
  exact ⟨Nat.zero_le _, [], .nil, IsTup.new _ _⟩
end
section
variable {K : PySem.W.Frag}
theorem zrepT1 {X : Cx} (hK : X.K = K := by rfl) : OpR X (binaryOp .Mult) (rRepT1 K) := by subst hK; exact op_repT1
theorem zrepT0 {X : Cx} (hK : X.K = K := by rfl) : OpR X (binaryOp .Mult) (rRepT0 K) := by subst hK; exact op_repT0
theorem zrepA {X : Cx} (hK : X.K = K := by rfl) : OpR X (binaryOp .Mult) (rAlt (rRepT K) (rAlt (rRepT1 K) (rRepT0 K))) := zalt (zrepT hK) (zalt (zrepT1 hK) (zrepT0 hK))
def gRepT1 : D → D → Option R
  | .tuple xs, .int k => if k = 1 then some (.d (.tuple xs)) else none
  | _, _ => none
def gRepT0 : D → D → Option R
  | .tuple xs, .int k => if k = 0 ∧ xs ≠ [] then some (.d (.tuple [])) else none
  | _, _ => none
theorem s_repT1 : OpS K (rRepT1 K) gRepT1 := by
  intro G H x y d e z Q s h1 h2 eg hq
  unfold gRepT1 at eg
  split at eg
  · next xs k =>
    split at eg
    · next hl =>
      cases eg
      subst hl
      obtain ⟨a, vs, rfl, w1, w2⟩ := h1.tup s
      refine ⟨a, vs, rfl, h2.int, w1, hq _ G H (.refl s) ?_⟩
      rcases h1 with h1 | ⟨_, _, _, _, q, _⟩
      · exact h1
      · cases q
    · cases eg
  · cases eg
theorem s_repT0 : OpS K (rRepT0 K) gRepT0 := by
  intro G H x y d e z Q s h1 h2 eg hq
  unfold gRepT0 at eg
  split at eg
  · next xs k =>
    split at eg
    · next hl =>
      cases eg
      obtain ⟨rfl, hl⟩ := hl
      obtain ⟨a, vs, rfl, w1, w2⟩ := h1.tup s
      have hn := dpAll_len w2
      refine ⟨a, vs, rfl, h2.int, w1, fun e => ?_, fun p np => hq _ _ _ (Grow.data s np) (dp_newT s np .nil)⟩
      subst e
      exact hl (List.eq_nil_of_length_eq_zero hn.symm)
    · cases eg
  · cases eg
def gRepA : D → D → Option R := gAlt gRepT (gAlt gRepT1 gRepT0)
theorem s_repA : OpS K (rAlt (rRepT K) (rAlt (rRepT1 K) (rRepT0 K))) gRepA := s_alt s_repT (s_alt s_repT1 s_repT0)
theorem gRepA_1 (x : D) (n : Nat) (h : n ≤ 1000) : gRepA (.tuple [x]) (.int n) = some (.d (.tuple (List.replicate n x))) := by
  have fl : ∀ m : Nat, (List.replicate m [x]).flatten = List.replicate m x := fun m => by
    induction m with
    | zero => rfl
    | succ m ih => rw [List.replicate_succ, List.flatten_cons, ih]; rfl
  unfold gRepA
  by_cases h2 : 2 ≤ n
  · refine gAlt_l ?_
    unfold gRepT
    simp only []
    rw [if_pos ⟨by simp, by omega, by omega, by simp⟩, show ((n : Nat) : Int).toNat = n by omega, fl]
  · have e0 : gRepT (.tuple [x]) (.int n) = none := by
      unfold gRepT
      simp only []
      rw [if_neg (by omega)]
    rw [gAlt_r e0]
    have : n = 0 ∨ n = 1 := by omega
    rcases this with rfl | rfl
    · rw [gAlt_r (by rfl)]; rfl
    · exact gAlt_l (by rfl)
end
/-! ### list(range(..)), tuple(range(..)) -/
def rgD (a b : Int) : List D := (List.range (b - a).toNat).map fun i => PyData.int (a + (i : Nat))
theorem dpAll_rg {K : PySem.W.Frag} {H : Hp} (a b : Int) : DpAll K H (rgV a b) (rgD a b) := by
  have e1 : rgV a b = ((List.range (b - a).toNat).map fun i => (a + (i : Nat) : Int)).map V.int := by unfold rgV; rw [List.map_map]; rfl
  have e2 : rgD a b = ((List.range (b - a).toNat).map fun i => (a + (i : Nat) : Int)).map PyData.int := by unfold rgD; rw [List.map_map]; rfl
  rw [e1, e2]
  exact dpAll_ofInts _
def mRgE (tup : Bool) (ma : Env → Res (List R)) : Env → Res R := fun ρ => (ma ρ).bind fun rs ρ1 => match rs with
  | [.d (.int j)] => if -1000000 ≤ j ∧ j ≤ 1000000 then .ok (if tup = true then .d (.tuple (rgD 0 j)) else .o (rgD 0 j)) ρ1 else .no
  | _ => .no
theorem rgOk {j : Int} (h : -1000000 ≤ j ∧ j ≤ 1000000) : RgOk 0 j := ⟨by omega, by omega, by omega, by omega, by omega⟩
section
variable {K : PySem.W.Frag} {P : Nat} {W : Wish} {te : TE} {me : Env → Res R} {ms : Env → Res (List R)}
theorem sim_lstRg (h : SimE K P W te me) : SimE K P W (tLstRg (tRg1 te)) (mRgE false (mCons me mNil)) := by
  intro f G H σ ρ Q hp rl hq
  refine h.op hp rl ?_
  unfold mRgE mCons mNil at hq
  cases e : me ρ with
  | no => rw [e] at hq; exact hq
  | exc c ρ1 => rw [e] at hq; exact hq
  | ok r ρ1 =>
    rw [e] at hq
    intro v G1 H1 s1 rl1 h1
    simp only [Res.bind] at hq
    split at hq
    · next rs j er =>
      cases er
      split at hq
      · next hj =>
        have ev := dp_int h1
        subst ev
        refine ⟨j, rfl, rgOk hj, fun q nq => ?_⟩
        have gr := Grow.fresh (o := .lst (rgV 0 j)) rl1.gh nq
        refine hq _ G1 _ s1 (rl1.grow gr) (NewV.vrep (r := .o (rgD 0 j)) rl1 gr ⟨q, rgV 0 j, rfl, nq, upd_same, dpAll_rg 0 j, rl1.gh.free nq⟩)
      · exact hq.elim
    · exact hq.elim
theorem sim_tupRg (h : SimE K P W te me) : SimE K P W (tTupRg (tRg1 te)) (mRgE true (mCons me mNil)) := by
  intro f G H σ ρ Q hp rl hq
  refine h.op hp rl ?_
  unfold mRgE mCons mNil at hq
  cases e : me ρ with
  | no => rw [e] at hq; exact hq
  | exc c ρ1 => rw [e] at hq; exact hq
  | ok r ρ1 =>
    rw [e] at hq
    intro v G1 H1 s1 rl1 h1
    simp only [Res.bind] at hq
    split at hq
    · next rs j er =>
      cases er
      split at hq
      · next hj =>
        have ev := dp_int h1
        subst ev
        refine ⟨j, rfl, rgOk hj, fun q nq => ?_⟩
        have gr := Grow.data (o := .tup (rgV 0 j)) rl1.gh nq
        exact hq _ _ _ (s1.trans gr.1) (rl1.grow gr) (dp_newT rl1.gh nq (dpAll_rg 0 j))
      · exact hq.elim
    · exact hq.elim
end
end Z
namespace Z
open PySem PySem.Spec PyProof.Rows L2

/-! ### sources whose walk leans on nothing that may change -/
def CIA (K : PySem.W.Frag) (W : Wish) (f : Fx) (G : Hp) (σ : L2.St) (Q : It → Hp → Prop) : Res (List D) → Prop
  | .no => False
  | .ok ds ρ => ∀ J G' H', Same G G' → Rel K f G' H' σ ρ → (∀ F, Walk K F G' J ds) → Q J H'
  | .exc c ρ => ∀ G' H', Same G G' → Rel K f G' H' σ ρ → W σ c H'
def SimIA (K : PySem.W.Frag) (P : Nat) (W : Wish) (wi : TI) (m : Env → Res (List D)) : Prop := ∀ (f : Fx) (G H : Hp) (σ : L2.St) (ρ : Env) (Q : It → Hp → Prop), f.pins.length = P → Rel K f G H σ ρ → CIA K W f G σ Q (m ρ) → wi σ H Q
section
variable {K : PySem.W.Frag} {P : Nat} {W : Wish} {te : TE} {me : Env → Res R} {ta : TA} {ma : Env → Res (List R)}
theorem simA_iter (h : SimE K P W te me) : SimIA K P W (iSeq K te) (mIter P me) := by
  intro f G H σ ρ Q hp rl hq
  refine h.op hp rl ?_
  unfold mIter at hq
  cases e : me ρ with
  | no => rw [e] at hq; exact hq
  | exc c ρ1 => rw [e] at hq; exact hq
  | ok r ρ1 =>
    rw [e] at hq
    intro v G1 H1 s1 rl1 h1
    simp only [Res.bind] at hq
    split at hq
    · next ρ2 e2 =>
      obtain ⟨G2, s2, rl2⟩ := rl1.frz1 hp e2
      split at hq
      · next ds e3 =>
        obtain ⟨a, xs, rfl, q1, q2⟩ := dp_lst ((h1.same s2).dat rl2 e3)
        exact ⟨a, rfl, .inl ⟨⟨xs, rl2.gh.seq q1⟩, hq _ G2 H1 (s1.trans s2) rl2 fun F => walk_list q1 q2⟩⟩
      · next ds e3 =>
        obtain ⟨a, xs, rfl, q1, q2⟩ := dp_tup ((h1.same s2).dat rl2 e3)
        exact ⟨a, rfl, .inr ⟨⟨xs, sqT_same rl2.gh q1⟩, hq _ G2 H1 (s1.trans s2) rl2 fun F => walk_tup q1 q2⟩⟩
      · exact hq.elim
    · exact hq.elim
theorem simA_rng1 (h : SimA K P W ta ma) : SimIA K P W (iRng1 ta) (mRng1 ma) := by
  intro f G H σ ρ Q hp rl hq
  refine h f G H σ ρ _ hp rl ?_
  unfold mRng1 at hq
  cases e : ma ρ with
  | no => rw [e] at hq; exact hq
  | exc c ρ1 => rw [e] at hq; exact hq
  | ok rs ρ1 =>
    rw [e] at hq
    intro vs G1 H1 s1 rl1 h1
    simp only [Res.bind] at hq
    split at hq
    · next j =>
      split at hq
      · next hj =>
        cases h1 with
        | cons a1 a2 =>
          cases a2
          have ev := dp_int a1
          subst ev
          refine ⟨j, rfl, by have := hj.1; unfold big62 at this; omega, by have := hj.2; unfold big62 at this; omega, hq _ G1 H1 s1 rl1 fun F => ?_⟩
          have := walk_rng (K := K) (F := F) (G := G1) (lo := 0) (n := j.toNat)
          simp only [Int.zero_add] at this
          exact this
      · exact hq.elim
    · exact hq.elim
end

/-! ### [elt for .. in .. for .. in ..] by data -/
def lcL2 (P : Nat) (b : D → Env → Option Env) (mt : Env → Res Bool) (ml : Env → Res (List D)) (b1 : D → Env → Option Env) (mt1 : Env → Res Bool) (me : Env → Res R) (vs vs1 : List Nat) : List D → List D → Env → Res (List D)
  | [], acc, ρ => .ok acc ρ
  | d :: ds, acc, ρ => match b d ρ with
    | none => .no
    | some ρ1 => (match mt ρ1 with
      | .ok true ρ2 => (match ml ρ2 with
        | .ok es ρ3 => (match lcL P b1 mt1 me vs1 es acc (wipeE ρ3 vs1) with
          | .ok acc' ρ4 => lcL2 P b mt ml b1 mt1 me vs vs1 ds acc' (wipeE ρ4 vs)
          | _ => .no)
        | _ => .no)
      | .ok false ρ2 => lcL2 P b mt ml b1 mt1 me vs vs1 ds acc (wipeE ρ2 vs)
      | _ => .no)
def mLc2 (P : Nat) (mi : Env → Res (List D)) (b : D → Env → Option Env) (mt : Env → Res Bool) (ml : Env → Res (List D)) (b1 : D → Env → Option Env) (mt1 : Env → Res Bool) (me : Env → Res R) (vs vs1 : List Nat) : Env → Res R := fun ρ => (mi ρ).bind fun ds ρ1 =>
  match lcL2 P b mt ml b1 mt1 me vs vs1 ds [] (wipeE ρ1 vs) with
  | .ok acc ρw => .ok (.o acc) (back ρ1 vs ρw)
  | _ => .no
section
variable {K : PySem.W.Frag} {P : Nat} {W : Wish} {g g1 : TG} {b b1 : D → Env → Option Env} {ts ts1 vs vs1 : List Nat} {tt tt1 : TT} {mt mt1 : Env → Res Bool} {te : TE} {me : Env → Res R} {wi1 : TI} {ml : Env → Res (List D)}
theorem lcI_go (hg : SimG K P g1 b1 ts1) (ht : SimT K P W tt1 mt1) (he : SimE K P W te me) (hts : ∀ i ∈ ts1, i ∈ vs1) (hvs : ∀ i ∈ vs1, P ≤ i)
    {f : Fx} {A : Addr} {G1 H1 : Hp} {σ : L2.St} {ρ1 : Env} {J : It} {es acc0 accE : List D} {avs0 : List V} {ρE : Env} (hp : f.pins.length = P) (fA : f.F A = none) (g0A : f.G0 A = none)
    (rl1 : Rel K (f.add A (.lst avs0)) G1 H1 σ ρ1) (wk : ∀ F, Walk K F G1 J es) (ok0 : DpAll K G1 avs0 acc0) (hres : lcL P b1 mt1 me vs1 es acc0 (wipeE ρ1 vs1) = .ok accE ρE) (Nx : Hp → Prop)
    (hq : ∀ G' H' avs, Same G1 G' → Rel K (f.add A (.lst avs)) G' H' (wipe σ vs1) ρE → DpAll K G' avs accE → Nx H') :
    ∃ W1 : Nat → Nat → Hp → Prop, (∃ m, W1 0 m H1) ∧ ∀ j k H, W1 j k H →
      (J.stop j H ∧ Nx H) ∨ (J.go j H ∧ ∃ Nx1 : Hp → Prop, (∀ H', Nx1 H' → ∃ k', k' < k ∧ W1 (j + 1) k' H') ∧ ∀ x H', J.yld j H x H' → g1 x (wipe σ vs1) H' fun σ3 H5 => wipe σ3 vs1 = wipe σ vs1 ∧ tt1 σ3 H5 fun b H6 =>
        if b = true then te σ3 H6 fun y H7 => ∃ acc, H7 A = some (.lst acc) ∧ acc.length < sizeLine ∧ Nx1 (upd H7 A (.lst (acc ++ [y]))) else Nx1 H6) := by
  refine ⟨fun i m H' => ∃ G' ρ' acc avs, Same G1 G' ∧ Rel K (f.add A (.lst avs)) G' H' (wipe σ vs1) ρ' ∧ DpAll K G' avs acc ∧ i + m = es.length ∧ lcL P b1 mt1 me vs1 (es.drop i) acc ρ' = .ok accE ρE,
    ⟨es.length, G1, wipeE ρ1 vs1, acc0, avs0, .refl _, rl1.wiped hp hvs, ok0, by omega, hres⟩, fun i m H' hW => ?_⟩
  obtain ⟨G2, ρ2, acc, avs, s2, rl2, hok, em, hc⟩ := hW
  obtain ⟨wk1, wk2⟩ := wk _ G2 H' s2 rl2.gh rl2.fh
  by_cases hlt : i < es.length
  · have ed : es.drop i = es[i] :: es.drop (i + 1) := List.drop_eq_getElem_cons hlt
    obtain ⟨go, yl⟩ := wk1 i es[i] (List.getElem?_eq_getElem hlt)
    refine .inr ⟨go, fun H3 => ∃ G' ρ' acc avs, Same G1 G' ∧ Rel K (f.add A (.lst avs)) G' H3 (wipe σ vs1) ρ' ∧ DpAll K G' avs acc ∧ lcL P b1 mt1 me vs1 (es.drop (i + 1)) acc ρ' = .ok accE ρE,
      fun H3 hN => ?_, fun x H3 hy => ?_⟩
    · obtain ⟨G', ρ', acc', avs', a1, a2, a3, a4⟩ := hN
      exact ⟨m - 1, by omega, G', ρ', acc', avs', a1, a2, a3, by omega, a4⟩
    · obtain ⟨G3, gr, hd⟩ := yl x H3 hy
      have rl3 := rl2.grow gr
      have s3 := s2.trans gr.1
      rw [ed] at hc
      simp only [lcL] at hc
      split at hc
      · cases hc
      · next ρ3 e3 =>
        refine hg (f.add A (.lst avs)) G3 H3 (wipe σ vs1) ρ2 ρ3 x es[i] _ hp rl3 hd e3 fun σ4 rl4 l4 k4 => ?_
        have ew := wipe_same l4 k4 hts
        refine ⟨ew, ht (f.add A (.lst avs)) G3 H3 σ4 ρ3 _ hp rl4 ?_⟩
        cases e4 : mt1 ρ3 with
        | no => rw [e4] at hc; cases hc
        | exc c ρ4 => rw [e4] at hc; cases hc
        | ok k ρ4 =>
          rw [e4] at hc
          intro G5 H5 s5 rl5
          cases k with
          | false =>
            rw [if_neg Bool.false_ne_true]
            have r6 := rl5.wiped hp hvs
            rw [ew] at r6
            exact ⟨G5, _, acc, avs, s3.trans s5, r6, dpAll_same (gr.1.trans s5) _ _ hok, hc⟩
          | true =>
            rw [if_pos rfl]
            simp only at hc
            refine SimE.op (f := f.add A (.lst avs)) he hp rl5 ?_
            cases e5 : me ρ4 with
            | no => rw [e5] at hc; cases hc
            | exc c ρ5 => rw [e5] at hc; cases hc
            | ok r ρ5 =>
              rw [e5] at hc
              intro v G6 H6 s6 rl6 h6
              simp only at hc
              split at hc
              · next ρ6 e6 =>
                obtain ⟨G7, s7, rl7⟩ := rl6.frz1 hp e6
                split at hc
                · next y e7 =>
                  split at hc
                  · next hlen =>
                    have s27 := ((gr.1.trans s5).trans s6).trans s7
                    have hv : Dp K G7 v y := (h6.same s7).dat rl7 e7
                    have hacc' : DpAll K G7 avs acc := dpAll_same s27 _ _ hok
                    refine ⟨avs, rl7.atF, ?_, ?_⟩
                    · rw [dpAll_len hok]
                      exact Nat.lt_of_lt_of_le hlen (by decide)
                    · have r8 := (rl7.swapF (o' := .lst (avs ++ [v])) g0A).wiped hp hvs
                      rw [ew] at r8
                      exact ⟨G7, _, acc ++ [y], avs ++ [v], s2.trans s27, r8, dpAll_append hacc' (.cons hv .nil), hc⟩
                  · cases hc
                · cases hc
              · cases hc
  · have ed : es.drop i = [] := List.drop_of_length_le (by omega)
    rw [ed] at hc
    simp only [lcL] at hc
    cases hc
    exact .inl ⟨wk2 i (by omega), hq G2 H' avs s2 rl2 hok⟩
theorem lcL2_go (hg : SimG K P g b ts) (ht : SimT K P W tt mt) (hl : SimIA K P W wi1 ml) (hg1 : SimG K P g1 b1 ts1) (ht1 : SimT K P W tt1 mt1) (he : SimE K P W te me) (hts : ∀ i ∈ ts, i ∈ vs) (hvs : ∀ i ∈ vs, P ≤ i) (hts1 : ∀ i ∈ ts1, i ∈ vs1) (hvs1 : ∀ i ∈ vs1, i ∈ vs)
    {f : Fx} {G1 H1 : Hp} {σ : L2.St} {ρ1 : Env} {J : It} {ds : List D} {Q : VK} {accF : List D} {ρF : Env} (hp : f.pins.length = P) (rl1 : Rel K f G1 H1 σ ρ1) (wk : Walk K f.F G1 J ds)
    (hres : lcL2 P b mt ml b1 mt1 me vs vs1 ds [] (wipeE ρ1 vs) = .ok accF ρF)
    (hq : ∀ v G' H', Same G1 G' → Rel K f G' H' σ (back ρ1 vs ρF) → VRep K f G' H' σ (back ρ1 vs ρF) v (.o accF) → Q v H') :
    ∀ A, H1 A = none → ∃ Wv : Nat → Nat → Hp → Prop, (∃ m, Wv 0 m (upd H1 A (.lst []))) ∧ ∀ i m H, Wv i m H →
  (J.stop i H ∧ Q (.ref A) H) ∨ (J.go i H ∧ ∃ Nx : Hp → Prop, (∀ H', Nx H' → ∃ m', m' < m ∧ Wv (i + 1) m' H') ∧ ∀ x H', J.yld i H x H' → g x (wipe σ vs) H' fun σ2 H2 => wipe σ2 vs = wipe σ vs ∧ tt σ2 H2 fun b H3 =>
    if b = true then wi1 σ2 H3 fun J1 H4 => ∃ W1 : Nat → Nat → Hp → Prop, (∃ m, W1 0 m H4) ∧ ∀ j k H, W1 j k H →
      (J1.stop j H ∧ Nx H) ∨ (J1.go j H ∧ ∃ Nx1 : Hp → Prop, (∀ H', Nx1 H' → ∃ k', k' < k ∧ W1 (j + 1) k' H') ∧ ∀ x H', J1.yld j H x H' → g1 x (wipe σ2 vs1) H' fun σ3 H5 => wipe σ3 vs1 = wipe σ2 vs1 ∧ tt1 σ3 H5 fun b H6 =>
        if b = true then te σ3 H6 fun y H7 => ∃ acc, H7 A = some (.lst acc) ∧ acc.length < sizeLine ∧ Nx1 (upd H7 A (.lst (acc ++ [y]))) else Nx1 H6)
    else Nx H3) := by
  intro A nA
  have hvs1P : ∀ i ∈ vs1, P ≤ i := fun i hi => hvs i (hvs1 i hi)
  have gA : G1 A = none := rl1.gh.free nA
  have fA : f.F A = none := rl1.fh.free nA
  have g0A : f.G0 A = none := rl1.g0.free gA
  refine ⟨fun i m H' => ∃ G' ρ' acc avs, Same G1 G' ∧ Rel K (f.add A (.lst avs)) G' H' (wipe σ vs) ρ' ∧ DpAll K G' avs acc ∧ i + m = ds.length ∧ lcL2 P b mt ml b1 mt1 me vs vs1 (ds.drop i) acc ρ' = .ok accF ρF,
    ⟨ds.length, G1, wipeE ρ1 vs, [], [], .refl _, (rl1.wiped hp hvs).addF nA, .nil, by omega, hres⟩, fun i m H' hW => ?_⟩
  obtain ⟨G2, ρ2, acc, avs, s2, rl2, hok, em, hc⟩ := hW
  have sF : Same f.F H' := fun b o q => rl2.fh b o (by
    show upd f.F A _ b = some o
    rw [upd_ne (fun z => by subst z; rw [fA] at q; cases q)]
    exact q)
  obtain ⟨wk1, wk2⟩ := wk G2 H' s2 rl2.gh sF
  by_cases hlt : i < ds.length
  · have ed : ds.drop i = ds[i] :: ds.drop (i + 1) := List.drop_eq_getElem_cons hlt
    obtain ⟨go, yl⟩ := wk1 i ds[i] (List.getElem?_eq_getElem hlt)
    refine .inr ⟨go, fun H3 => ∃ G' ρ' acc avs, Same G1 G' ∧ Rel K (f.add A (.lst avs)) G' H3 (wipe σ vs) ρ' ∧ DpAll K G' avs acc ∧ lcL2 P b mt ml b1 mt1 me vs vs1 (ds.drop (i + 1)) acc ρ' = .ok accF ρF,
      fun H3 hN => ?_, fun x H3 hy => ?_⟩
    · obtain ⟨G', ρ', acc', avs', a1, a2, a3, a4⟩ := hN
      exact ⟨m - 1, by omega, G', ρ', acc', avs', a1, a2, a3, by omega, a4⟩
    · obtain ⟨G3, gr, hd⟩ := yl x H3 hy
      have rl3 := rl2.grow gr
      have s3 := s2.trans gr.1
      rw [ed] at hc
      simp only [lcL2] at hc
      split at hc
      · cases hc
      · next ρ3 e3 =>
        refine hg (f.add A (.lst avs)) G3 H3 (wipe σ vs) ρ2 ρ3 x ds[i] _ hp rl3 hd e3 fun σ4 rl4 l4 k4 => ?_
        have ew := wipe_same l4 k4 hts
        refine ⟨ew, ht (f.add A (.lst avs)) G3 H3 σ4 ρ3 _ hp rl4 ?_⟩
        cases e4 : mt ρ3 with
        | no => rw [e4] at hc; cases hc
        | exc c ρ4 => rw [e4] at hc; cases hc
        | ok k ρ4 =>
          rw [e4] at hc
          intro G5 H5 s5 rl5
          cases k with
          | false =>
            rw [if_neg Bool.false_ne_true]
            have r6 := rl5.wiped hp hvs
            rw [ew] at r6
            exact ⟨G5, _, acc, avs, s3.trans s5, r6, dpAll_same (gr.1.trans s5) _ _ hok, hc⟩
          | true =>
            rw [if_pos rfl]
            simp only at hc
            refine hl (f.add A (.lst avs)) G5 H5 σ4 ρ4 _ hp rl5 ?_
            cases e5 : ml ρ4 with
            | no => rw [e5] at hc; cases hc
            | exc c ρ5 => rw [e5] at hc; cases hc
            | ok es ρ5 =>
              rw [e5] at hc
              intro J1 G6 H6 s6 rl6 hw
              simp only at hc
              split at hc
              · next acc' ρ8 e8 =>
                exact lcI_go hg1 ht1 he hts1 hvs1P hp fA g0A rl6 hw (dpAll_same ((gr.1.trans s5).trans s6) _ _ hok) e8 (fun H3 => ∃ G' ρ' acc avs, Same G1 G' ∧ Rel K (f.add A (.lst avs)) G' H3 (wipe σ vs) ρ' ∧ DpAll K G' avs acc ∧ lcL2 P b mt ml b1 mt1 me vs vs1 (ds.drop (i + 1)) acc ρ' = .ok accF ρF) fun G' H' avs' z1 z2 z3 => by
                  have r9 := z2.wiped hp hvs
                  rw [wipe_wipe hvs1, ew] at r9
                  exact ⟨G', _, acc', avs', ((s3.trans s5).trans s6).trans z1, r9, z3, hc⟩
              · cases hc
  · have ed : ds.drop i = [] := List.drop_of_length_le (by omega)
    rw [ed] at hc
    simp only [lcL2] at hc
    cases hc
    refine .inl ⟨wk2 i (by omega), ?_⟩
    have rl' := rl1.restore hp hvs s2 rl2 fA
    refine hq (.ref A) G2 H' s2 rl' ⟨A, avs, rfl, rl2.atF, hok, rl2.noG g0A, fA, fun i ys q hs z => ?_⟩
    by_cases hj : i ∈ vs
    · obtain ⟨x, e, _⟩ := back_in ρ1 hj q
      subst e
      cases hs
    · rw [back_out ρ1 hj] at q
      obtain ⟨p, us, q1, q2, q3, q4, q5⟩ := rl2.ow i ys q hs
      rw [wipe_out' hj, z] at q1
      cases q1
      have q5 : upd f.F A (HO.lst avs) A = none := q5
      rw [upd_same] at q5
      cases q5
theorem sim_lc2 {wi : TI} {mi : Env → Res (List D)} (hi : SimI K P W wi mi) (hg : SimG K P g b ts) (ht : SimT K P W tt mt) (hl : SimIA K P W wi1 ml) (hg1 : SimG K P g1 b1 ts1) (ht1 : SimT K P W tt1 mt1) (he : SimE K P W te me) (hts : ∀ i ∈ ts, i ∈ vs) (hvs : ∀ i ∈ vs, P ≤ i) (hts1 : ∀ i ∈ ts1, i ∈ vs1) (hvs1 : ∀ i ∈ vs1, i ∈ vs) :
    SimE K P W (tLc2 wi g tt wi1 g1 tt1 te vs vs1) (mLc2 P mi b mt ml b1 mt1 me vs vs1) := by
  intro f G H σ ρ Q hp rl hq
  refine hi f G H σ ρ _ hp rl ?_
  unfold mLc2 at hq
  cases e : mi ρ with
  | no => rw [e] at hq; exact hq
  | exc c ρ1 => rw [e] at hq; exact hq
  | ok ds ρ1 =>
    rw [e] at hq
    simp only [Res.bind] at hq
    intro J G1 H1 s1 rl1 wk
    split at hq
    · next acc ρw hr => exact lcL2_go hg ht hl hg1 ht1 he hts hvs hts1 hvs1 hp rl1 wk hr fun v G' H' s => hq v G' H' (s1.trans s)
    · exact hq.elim
end
end Z
namespace Z
open PySem PySem.Spec PyProof.Rows L2
/-! ### is None -/
def isNone : D → Bool
  | .none => true
  | _ => false
def gIsN : D → D → Option R
  | d, .none => some (.d (.bool (isNone d)))
  | _, _ => none
def gNotN : D → D → Option R
  | d, .none => some (.d (.bool (!isNone d)))
  | _, _ => none
theorem got_none {K : PySem.W.Frag} {G H : Hp} {x : V} {d : D} (h : Got K G H x d) : decide (x = .non) = isNone d := by
  rcases h with h | ⟨p, vs, xs, rfl, rfl, _⟩
  · cases h with
    | non => rfl
    | bl b => rfl
    | int i => rfl
    | str s => rfl
    | lst h1 h2 => rfl
    | tup h1 h2 => rfl
  · rfl
theorem s_isN {K : PySem.W.Frag} : OpS K rIsN gIsN := by
  refine ops_sc fun G H x y d e z s h1 h2 eg => ?_
  unfold gIsN at eg
  split at eg
  · cases eg
    refine ⟨_, _, rfl, .bl _, fun Q q => ⟨h2.none, ?_⟩⟩
    rw [got_none h1]
    exact q
  · cases eg
theorem s_notN {K : PySem.W.Frag} : OpS K rNotN gNotN := by
  refine ops_sc fun G H x y d e z s h1 h2 eg => ?_
  unfold gNotN at eg
  split at eg
  · cases eg
    refine ⟨_, _, rfl, .bl _, fun Q q => ⟨h2.none, ?_⟩⟩
    rw [got_none h1]
    exact q
  · cases eg
end Z
namespace Z
open PySem L2
/-! ### calls and walks, as rows for simp -/
/-- a row that simp is to use by a proof, so that no look of the kernel opens the loops -/
theorem nonrfl {α : Sort _} {a b : α} (h : a = b) : a = b := h
theorem bind_ok {α β : Type} (a : α) (ρ : Env) (k : α → Env → Res β) : (Res.ok a ρ).bind k = k a ρ := nonrfl rfl
theorem bind_exc {α β : Type} (c : Nat) (ρ : Env) (k : α → Env → Res β) : (Res.exc c ρ).bind k = .exc c ρ := nonrfl rfl
theorem bind_no {α β : Type} (k : α → Env → Res β) : (Res.no).bind k = .no := nonrfl rfl
def callR (ex : Bool) (ρ1 ρ2 : Env) : Out → Res R
  | .nx _ => .ok (.d .none) ρ1
  | .exc c _ => if ex = true then .exc c ρ1 else .no
  | .rt (.d x) _ => if flatD x = true then .ok (.d x) ρ1 else .ok (.d x) ρ2
  | .rt (.o xs) _ => .ok (.o xs) ρ2
  | _ => .no
def callK (ex : Bool) (P k n : Nat) (mb : Env → Out) (rs : List R) (ρ1 : Env) : Res R := match frzA P rs ρ1 with
  | none => .no
  | some ρ2 => (match dopds ρ2 rs with
    | none => .no
    | some ds => if ds.length = k then callR ex ρ1 ρ2 (mb (env0 n (ds.map S.d))) else .no)
theorem mCall0_k (ex : Bool) (P k n : Nat) (mb : Env → Out) (ms : Env → Res (List R)) (ρ : Env) : mCall0 ex P k n mb ms ρ = (ms ρ).bind fun rs ρ1 => callK ex P k n mb rs ρ1 := by
  unfold mCall0
  congr 1
theorem callK_eq {ex : Bool} {P k n : Nat} {mb : Env → Out} {rs : List R} {ρ1 : Env} : callK ex P k n mb rs ρ1 = (match frzA P rs ρ1 with
  | none => .no
  | some ρ2 => (match dopds ρ2 rs with
    | none => .no
    | some ds => if ds.length = k then callR ex ρ1 ρ2 (mb (env0 n (ds.map S.d))) else .no)) := nonrfl rfl
section
variable {ex : Bool} {ρ1 ρ2 r : Env} {c : Nat} {x : D} {xs : List D}
theorem callR_nx : callR ex ρ1 ρ2 (.nx r) = .ok (.d .none) ρ1 := rfl
theorem callR_exc : callR true ρ1 ρ2 (.exc c r) = .exc c ρ1 := rfl
theorem callR_o : callR ex ρ1 ρ2 (.rt (.o xs) r) = .ok (.o xs) ρ2 := rfl
theorem callR_d : callR ex ρ1 ρ2 (.rt (.d x) r) = if flatD x = true then .ok (.d x) ρ1 else .ok (.d x) ρ2 := rfl
theorem flat_n : flatD .none = true := rfl
theorem flat_b (b : Bool) : flatD (.bool b) = true := rfl
theorem flat_i (i : Int) : flatD (.int i) = true := rfl
theorem flat_s (s : Str) : flatD (.str s) = true := rfl
theorem flat_t (ds : List D) : flatD (.tuple ds) = false := rfl
theorem flat_l (ds : List D) : flatD (.list ds) = false := rfl
end
/-- a call to which something is lent -/
def lentR (js : List (Option Nat)) (ρ2 : Env) : Out → Res R
  | .nx ρ' => (match takeB ρ' 0 js ρ2 with
    | some ρ3 => .ok (.d .none) ρ3
    | none => .no)
  | .rt (.d x) ρ' => (match takeB ρ' 0 js ρ2 with
    | some ρ3 => .ok (.d x) ρ3
    | none => .no)
  | .rt (.o zs) ρ' => (match takeB ρ' 0 js ρ2 with
    | some ρ3 => .ok (.o zs) ρ3
    | none => .no)
  | _ => .no
def lentK (P : Nat) (mask : List Bool) (k n : Nat) (mb : Env → Out) (rs : List R) (ρ1 : Env) : Res R := match frzM P mask rs ρ1 with
  | none => .no
  | some ρ2 => (match lendS ρ2 mask rs with
    | none => .no
    | some (ss, js) => if ss.length = k ∧ mask.length ≤ k ∧ ndJ js = true then lentR js ρ2 (mb (env0 n ss)) else .no)
theorem mCallM_k (P : Nat) (mask : List Bool) (k n : Nat) (mb : Env → Out) (ms : Env → Res (List R)) (ρ : Env) : mCallM P mask k n mb ms ρ = (ms ρ).bind fun rs ρ1 => lentK P mask k n mb rs ρ1 := by
  unfold mCallM
  congr 1
theorem lentK_eq {P : Nat} {mask : List Bool} {k n : Nat} {mb : Env → Out} {rs : List R} {ρ1 : Env} : lentK P mask k n mb rs ρ1 = (match frzM P mask rs ρ1 with
  | none => .no
  | some ρ2 => (match lendS ρ2 mask rs with
    | none => .no
    | some (ss, js) => if ss.length = k ∧ mask.length ≤ k ∧ ndJ js = true then lentR js ρ2 (mb (env0 n ss)) else .no)) := nonrfl rfl
section
variable {js : List (Option Nat)} {ρ2 r : Env} {x : D} {ys zs : List D}
theorem lentR_d : lentR js ρ2 (.rt (.d x) r) = (match takeB r 0 js ρ2 with
    | some ρ3 => .ok (.d x) ρ3
    | none => .no) := nonrfl rfl
theorem lentR_o : lentR js ρ2 (.rt (.o zs) r) = (match takeB r 0 js ρ2 with
    | some ρ3 => .ok (.o zs) ρ3
    | none => .no) := nonrfl rfl
theorem lentR_n : lentR js ρ2 (.nx r) = (match takeB r 0 js ρ2 with
    | some ρ3 => .ok (.d .none) ρ3
    | none => .no) := nonrfl rfl
end
/-! walks -/
def rngK (rs : List R) (ρ1 : Env) : Res (List D) := match rs with
  | [.d (.int j)] => if -big62 ≤ j ∧ j < big62 then .ok ((List.range j.toNat).map fun (k : Nat) => .int (k : Int)) ρ1 else .no
  | _ => .no
theorem mRng1_k (ma : Env → Res (List R)) (ρ : Env) : mRng1 ma ρ = (ma ρ).bind rngK := nonrfl rfl
def natsD (N : Nat) : List D := (List.range N).map fun (k : Nat) => PyData.int (k : Int)
theorem rngK_nat (N : Nat) (ρ1 : Env) (hN : N < 1000000) : rngK [.d (.int (N : Int))] ρ1 = .ok (natsD N) ρ1 := by
  show (if -big62 ≤ (N : Int) ∧ (N : Int) < big62 then Res.ok ((List.range (N : Int).toNat).map fun (k : Nat) => PyData.int (k : Int)) ρ1 else .no) = _
  rw [if_pos (big_nat N hN), Int.toNat_natCast]
  rfl
theorem rngK_lit (N : Nat) (ρ1 : Env) (hN : N < 1000000) : rngK [.d (.int (no_index (OfNat.ofNat N)))] ρ1 = .ok (natsD N) ρ1 := rngK_nat N ρ1 hN
def iterK (P : Nat) (r : R) (ρ1 : Env) : Res (List D) := match frz1 P ρ1 r with
  | some ρ2 => (match dopd ρ2 r with
    | some (.list ds) => .ok ds ρ2
    | some (.tuple ds) => .ok ds ρ2
    | _ => .no)
  | none => .no
theorem mIter_k (P : Nat) (me : Env → Res R) (ρ : Env) : mIter P me ρ = (me ρ).bind (iterK P) := nonrfl rfl
theorem iterK_t (P : Nat) (ds : List D) (ρ : Env) : iterK P (.d (.tuple ds)) ρ = .ok ds ρ := rfl
theorem iterK_l (P : Nat) (ds : List D) (ρ : Env) : iterK P (.d (.list ds)) ρ = .ok ds ρ := rfl
theorem iterK_o (P : Nat) (ds : List D) (ρ : Env) : iterK P (.o ds) ρ = .ok ds ρ := rfl
def forK (b : D → Env → Option Env) (body : Env → Out) : Res (List D) → Out
  | .ok ds ρ1 => forL b body ds ρ1
  | .exc c ρ1 => .exc c ρ1
  | .no => .no
theorem mFor_k (mi : Env → Res (List D)) (b : D → Env → Option Env) (body : Env → Out) (ρ : Env) : mFor mi b body ρ = forK b body (mi ρ) := by
  unfold mFor forK
  cases mi ρ <;> rfl
theorem forK_ok (b : D → Env → Option Env) (body : Env → Out) (ds : List D) (ρ : Env) : forK b body (.ok ds ρ) = forL b body ds ρ := nonrfl rfl
def lcK (P : Nat) (b : D → Env → Option Env) (mt : Env → Res Bool) (me : Env → Res R) (vs : List Nat) (ds : List D) (ρ1 : Env) : Res R := match lcL P b mt me vs ds [] (wipeE ρ1 vs) with
  | .ok acc ρw => .ok (.o acc) (back ρ1 vs ρw)
  | _ => .no
theorem lcK_eq (P : Nat) (b : D → Env → Option Env) (mt : Env → Res Bool) (me : Env → Res R) (vs : List Nat) (ds : List D) (ρ1 : Env) : lcK P b mt me vs ds ρ1 = (match lcL P b mt me vs ds [] (wipeE ρ1 vs) with
  | .ok acc ρw => .ok (.o acc) (back ρ1 vs ρw)
  | _ => .no) := nonrfl rfl
theorem mLcH_eq (P j : Nat) (b : D → Env → Option Env) (mt : Env → Res Bool) (me : Env → Res R) (vs : List Nat) (ρ : Env) : mLcH P j b mt me vs ρ = (match ρ[j]? with
  | some (some (S.d (.list ds))) => (match lcL P b mt me vs ds [] (wipeE ρ vs) with
    | .ok acc ρw => .ok (.o acc) (back ρ vs ρw)
    | _ => .no)
  | some (some (S.d (.tuple ds))) => (match lcL P b mt me vs ds [] (wipeE ρ vs) with
    | .ok acc ρw => .ok (.o acc) (back ρ vs ρw)
    | _ => .no)
  | some (some (S.o ds)) => (match lcL P b mt me vs ds [] (wipeE (ρ.set j none) vs) with
    | .ok acc ρw => .ok (.o acc) ((back (ρ.set j none) vs ρw).set j (some (S.o ds)))
    | _ => .no)
  | _ => .no) := nonrfl rfl
theorem mLc_k (P : Nat) (mi : Env → Res (List D)) (b : D → Env → Option Env) (mt : Env → Res Bool) (me : Env → Res R) (vs : List Nat) (ρ : Env) : mLc P mi b mt me vs ρ = (mi ρ).bind (lcK P b mt me vs) := nonrfl rfl
end Z
namespace Z
open PySem L2
/-! ### statements, as rows for simp -/
def seqK (mt : Env → Out) : Out → Out
  | .nx ρ1 => mt ρ1
  | o => o
section
variable {P i j : Nat} {ρ ρ1 ρ2 ρ3 : Env} {ms mt m1 m2 : Env → Out} {me mi ma mb : Env → Res R} {mu mv : Env → Res Bool} {x : D} {xs ds : List D} {s : S} {c : Nat} {mas : Env → Res (List R)} {rs : List R} {r : R}
theorem mSeq_k : mSeq ms mt ρ = seqK mt (ms ρ) := by
  unfold mSeq seqK
  cases ms ρ <;> rfl
theorem seqK_nx : seqK mt (.nx ρ) = mt ρ := nonrfl rfl
theorem seqK_rt : seqK mt (.rt s ρ) = .rt s ρ := nonrfl rfl
theorem seqK_bk : seqK mt (.bk ρ) = .bk ρ := nonrfl rfl
theorem seqK_ct : seqK mt (.ct ρ) = .ct ρ := nonrfl rfl
theorem seqK_exc : seqK mt (.exc c ρ) = .exc c ρ := nonrfl rfl
def ifK (m1 m2 : Env → Out) : Res Bool → Out
  | .ok b ρ1 => if b = true then m1 ρ1 else m2 ρ1
  | .exc c ρ1 => .exc c ρ1
  | .no => .no
theorem mIfS_k : mIfS mu m1 m2 ρ = ifK m1 m2 (mu ρ) := by
  unfold mIfS ifK
  cases mu ρ <;> rfl
theorem ifK_t : ifK m1 m2 (.ok true ρ) = m1 ρ := nonrfl rfl
theorem ifK_f : ifK m1 m2 (.ok false ρ) = m2 ρ := nonrfl rfl
theorem ifK_exc : ifK m1 m2 (.exc c ρ) = .exc c ρ := nonrfl rfl
def retK (P : Nat) : Res R → Out
  | .ok (.d x) ρ1 => .rt (.d x) ρ1
  | .ok (.o xs) ρ1 => .rt (.o xs) ρ1
  | .ok (.b i) ρ1 => (match ρ1[i]? with
    | some (some (S.d x)) => .rt (.d x) ρ1
    | some (some (S.o xs)) => if P ≤ i then .rt (.o xs) (ρ1.set i none) else .no
    | _ => .no)
  | .exc c ρ1 => .exc c ρ1
  | .no => .no
theorem mRet_k : mRet P me ρ = retK P (me ρ) := by
  unfold mRet retK
  cases me ρ with
  | ok r ρ1 => cases r <;> rfl
  | _ => rfl
theorem retK_d : retK P (.ok (.d x) ρ) = .rt (.d x) ρ := nonrfl rfl
theorem retK_o : retK P (.ok (.o xs) ρ) = .rt (.o xs) ρ := nonrfl rfl
theorem retK_b : retK P (.ok (.b i) ρ) = (match ρ[i]? with
    | some (some (S.d x)) => .rt (.d x) ρ
    | some (some (S.o xs)) => if P ≤ i then .rt (.o xs) (ρ.set i none) else .no
    | _ => .no) := nonrfl rfl
theorem retK_exc : retK P (.exc c ρ) = .exc c ρ := nonrfl rfl
def asgK (P i : Nat) : Res R → Out
  | .ok (.d x) ρ1 => .nx (ρ1.set i (some (.d x)))
  | .ok (.o xs) ρ1 => .nx (ρ1.set i (some (.o xs)))
  | .ok (.b j) ρ1 => (match frz1 P ρ1 (.b j) with
    | some ρ2 => (match dopd ρ2 (.b j) with
      | some x => .nx (ρ2.set i (some (.d x)))
      | none => .no)
    | none => .no)
  | .exc c ρ1 => .exc c ρ1
  | .no => .no
theorem mAsg_k : mAsg P i me ρ = asgK P i (me ρ) := by
  unfold mAsg asgK
  cases me ρ with
  | ok r ρ1 => cases r <;> rfl
  | _ => rfl
theorem asgK_d : asgK P i (.ok (.d x) ρ) = .nx (ρ.set i (some (.d x))) := nonrfl rfl
theorem asgK_o : asgK P i (.ok (.o xs) ρ) = .nx (ρ.set i (some (.o xs))) := nonrfl rfl
theorem asgK_b : asgK P i (.ok (.b j) ρ) = (match frz1 P ρ (.b j) with
    | some ρ2 => (match dopd ρ2 (.b j) with
      | some x => .nx (ρ2.set i (some (.d x)))
      | none => .no)
    | none => .no) := nonrfl rfl
theorem asgK_exc : asgK P i (.exc c ρ) = .exc c ρ := nonrfl rfl
def dropK : Res R → Out
  | .ok _ ρ1 => .nx ρ1
  | .exc c ρ1 => .exc c ρ1
  | .no => .no
theorem mDrop_k : mDrop me ρ = dropK (me ρ) := by
  unfold mDrop dropK
  cases me ρ <;> rfl
theorem dropK_ok : dropK (.ok r ρ) = .nx ρ := nonrfl rfl
theorem dropK_exc : dropK (.exc c ρ) = .exc c ρ := nonrfl rfl
def asgGK (P : Nat) (b : D → Env → Option Env) : Res R → Out
  | .ok r ρ1 => (match frz1 P ρ1 r with
    | some ρ2 => (match dopd ρ2 r with
      | some d => (match b d ρ2 with
        | some ρ3 => .nx ρ3
        | none => .no)
      | none => .no)
    | none => .no)
  | .exc c ρ1 => .exc c ρ1
  | .no => .no
theorem mAsgG_k {b : D → Env → Option Env} : mAsgG P b me ρ = asgGK P b (me ρ) := by
  unfold mAsgG asgGK
  cases me ρ <;> rfl
theorem asgGK_ok {b : D → Env → Option Env} : asgGK P b (.ok r ρ) = (match frz1 P ρ r with
    | some ρ2 => (match dopd ρ2 r with
      | some d => (match b d ρ2 with
        | some ρ3 => .nx ρ3
        | none => .no)
      | none => .no)
    | none => .no) := nonrfl rfl
theorem asgGK_exc {b : D → Env → Option Env} : asgGK P b (.exc c ρ) = .exc c ρ := nonrfl rfl
/-- a change of a slot's list -/
def mutK (P j : Nat) (g : List D → List D → Option (List D)) : Res (List R) → Out
  | .ok rs ρ1 => (match frzA P rs ρ1 with
    | some ρ2 => (match dopds ρ2 rs, ρ2[j]? with
      | some ds, some (some (S.o xs)) => (match g xs ds with
        | some ys => .nx (ρ2.set j (some (S.o ys)))
        | none => .no)
      | _, _ => .no)
    | none => .no)
  | .exc c ρ1 => .exc c ρ1
  | .no => .no
theorem mMut_k {g : List D → List D → Option (List D)} : mMut P j g mas ρ = (match ρ[j]? with
  | some (some (S.o _)) => mutK P j g (mas ρ)
  | _ => .no) := by
  unfold mMut mutK
  cases mas ρ <;> rfl
theorem mutK_ok {g : List D → List D → Option (List D)} : mutK P j g (.ok rs ρ) = (match frzA P rs ρ with
    | some ρ2 => (match dopds ρ2 rs, ρ2[j]? with
      | some ds, some (some (S.o xs)) => (match g xs ds with
        | some ys => .nx (ρ2.set j (some (S.o ys)))
        | none => .no)
      | _, _ => .no)
    | none => .no) := nonrfl rfl
/-! expressions -/
theorem mTest_k : mTest me ρ = (me ρ).bind fun r ρ1 => match r with
  | .d (.bool k) => .ok k ρ1
  | _ => .no := nonrfl rfl
theorem mTru_k : mTru me ρ = (me ρ).bind fun r ρ1 => match opd ρ1 r with
  | some x => (match tru x with
    | some b => .ok b ρ1
    | none => .no)
  | none => .no := nonrfl rfl
theorem mNot_k : mNot mu ρ = (mu ρ).bind fun b ρ1 => .ok (!b) ρ1 := nonrfl rfl
theorem mAnd_k : mAnd mu mv ρ = (mu ρ).bind fun b ρ1 => if b = true then mv ρ1 else .ok false ρ1 := nonrfl rfl
theorem mOr_k : mOr mu mv ρ = (mu ρ).bind fun b ρ1 => if b = true then .ok true ρ1 else mv ρ1 := nonrfl rfl
theorem mNotV_k : mNotV ma ρ = (ma ρ).bind fun r ρ1 => match r with
  | .d (.bool k) => .ok (.d (.bool (!k))) ρ1
  | _ => .no := nonrfl rfl
theorem mAndV_k : mAndV ma mb ρ = (ma ρ).bind fun r ρ1 => match r with
  | .d (.bool k) => if k = true then mb ρ1 else .ok (.d (.bool false)) ρ1
  | _ => .no := nonrfl rfl
theorem mOrV_k : mOrV ma mb ρ = (ma ρ).bind fun r ρ1 => match r with
  | .d (.bool k) => if k = true then .ok (.d (.bool true)) ρ1 else mb ρ1
  | _ => .no := nonrfl rfl
theorem mIf_k : mIf mu ma mb ρ = (mu ρ).bind fun b ρ1 => if b = true then ma ρ1 else mb ρ1 := nonrfl rfl
theorem mNil_k : mNil ρ = .ok [] ρ := nonrfl rfl
theorem mCons_k : mCons ma mas ρ = (ma ρ).bind fun r ρ1 => (mas ρ1).bind fun rs ρ2 => .ok (r :: rs) ρ2 := nonrfl rfl
theorem mTup_k : mTup P mas ρ = (mas ρ).bind fun rs ρ1 => match frzA P rs ρ1 with
  | some ρ2 => (match dopds ρ2 rs with
    | some ds => if ds.length ≤ 1000 then .ok (.d (.tuple ds)) ρ2 else .no
    | none => .no)
  | none => .no := nonrfl rfl
theorem mLst_k : mLst P mas ρ = (mas ρ).bind fun rs ρ1 => match frzA P rs ρ1 with
  | some ρ2 => (match dopds ρ2 rs with
    | some ds => if ds.length ≤ 1000 then .ok (.o ds) ρ2 else .no
    | none => .no)
  | none => .no := nonrfl rfl
theorem mCB_k {g : List D → Option R} : mCB g mas ρ = (mas ρ).bind fun rs ρ1 => match opds ρ1 rs with
  | some ds => (match g ds with
    | some z => .ok z ρ1
    | none => .no)
  | none => .no := nonrfl rfl
theorem mBin_k {g : D → D → Option R} : mBin g ma mb ρ = (ma ρ).bind fun r1 ρ1 => (mb ρ1).bind fun r2 ρ2 => match opd ρ2 r1, opd ρ2 r2 with
  | some x, some y => (match g x y with
    | some z => .ok z ρ2
    | none => .no)
  | _, _ => .no := nonrfl rfl
theorem mUn_k {g : D → Option R} : mUn g ma ρ = (ma ρ).bind fun r1 ρ1 => match opd ρ1 r1 with
  | some x => (match g x with
    | some z => .ok z ρ1
    | none => .no)
  | none => .no := nonrfl rfl
theorem mIsi_k {T : String} : mIsi T me ρ = (me ρ).bind fun r ρ1 => match opd ρ1 r with
  | some d => (match kitB (tyN d) T with
    | some b => .ok (.d (.bool b)) ρ1
    | none => .no)
  | none => .no := nonrfl rfl
theorem mChain_k {g g' : D → D → Option R} {mc : Env → Res R} : mChain g g' ma mb mc ρ = (ma ρ).bind fun r1 ρ1 => (mb ρ1).bind fun r2 ρ2 => match opd ρ2 r1, opd ρ2 r2 with
  | some x, some y => (match g x y with
    | some (.d (.bool k)) => if k = true then (mc ρ2).bind fun r3 ρ3 => (match opd ρ3 r2, opd ρ3 r3 with
        | some y', some z => (match g' y' z with
          | some w => .ok w ρ3
          | none => .no)
        | _, _ => .no) else .ok (.d (.bool false)) ρ2
    | _ => .no)
  | _, _ => .no := nonrfl rfl
def tryK (i : Nat) (hd : Nat → Option D) : Out → Out
  | .exc c ρ1 => (match hd c with
    | some x => if i < ρ1.length then .rt (.d x) ρ1 else .no
    | none => .no)
  | o => o
theorem mTry_k {hd : Nat → Option D} : mTry i ms hd ρ = tryK i hd (ms ρ) := by
  unfold mTry tryK
  cases ms ρ <;> rfl
theorem tryK_exc {hd : Nat → Option D} : tryK i hd (.exc c ρ) = (match hd c with
    | some x => if i < ρ.length then .rt (.d x) ρ else .no
    | none => .no) := nonrfl rfl
theorem tryK_rt {hd : Nat → Option D} : tryK i hd (.rt s ρ) = .rt s ρ := nonrfl rfl
theorem mSl_k {ml mh : Env → Res (Option Int)} : mSl me ml mh ρ = (me ρ).bind fun r ρ1 => (ml ρ1).bind fun lo ρ2 => (mh ρ2).bind fun hi ρ3 => match opd ρ3 r with
  | some (.list xs) => .ok (.o (cutD xs lo hi)) ρ3
  | some (.tuple xs) => .ok (.d (.tuple (cutD xs lo hi))) ρ3
  | _ => .no := nonrfl rfl
theorem mPart_k : mPart me ρ = (me ρ).bind fun r ρ1 => match opd ρ1 r with
  | some (.int i) => .ok (some i) ρ1
  | _ => .no := nonrfl rfl
end
end Z
namespace Z
open PySem L2
theorem set_back {α : Type} (ρ : List (Option α)) (i : Nat) (x : Option α) (h : ρ[i]? = some none) : (ρ.set i x).set i none = ρ := by
  rw [List.set_set]
  refine List.ext_getElem? fun j => ?_
  by_cases hj : i = j
  · subst hj
    have hl := (List.getElem?_eq_some_iff.mp h).1
    rw [List.getElem?_set_self hl, h]
  · rw [List.getElem?_set_ne hj]
/-- a comprehension with one name -/
theorem lcL_nm {P : Nat} (i : Nat) {me : Env → Res R} {ρ : Env} {ds : List D} (g : D → D) (h0 : ρ[i]? = some none)
    (h : ∀ d ∈ ds, me (ρ.set i (some (.d d))) = .ok (.d (g d)) (ρ.set i (some (.d d)))) (hl : ds.length ≤ 1000000) : lcL P (bName i) mYes me [i] ds [] ρ = .ok (ds.map g) ρ := by
  have := lcL_pure (P := P) (b := bName i) (mt := mYes) (me := me) (vs := [i]) (ρ := ρ) (fun _ => true) g ds [] (fun d hd => ⟨ρ.set i (some (.d d)), rfl, rfl, fun _ => h d hd, set_back ρ i _ h0⟩) (by simpa using hl)
  rw [filter_yes, List.nil_append] at this
  exact this
theorem lcL_nmT {P : Nat} (i : Nat) {mt : Env → Res Bool} {me : Env → Res R} {ρ : Env} {ds : List D} (p : D → Bool) (g : D → D) (h0 : ρ[i]? = some none)
    (ht : ∀ d ∈ ds, mt (ρ.set i (some (.d d))) = .ok (p d) (ρ.set i (some (.d d))))
    (h : ∀ d ∈ ds, p d = true → me (ρ.set i (some (.d d))) = .ok (.d (g d)) (ρ.set i (some (.d d)))) (hl : ds.length ≤ 1000000) : lcL P (bName i) mt me [i] ds [] ρ = .ok ((ds.filter p).map g) ρ := by
  have := lcL_pure (P := P) (b := bName i) (mt := mt) (me := me) (vs := [i]) (ρ := ρ) p g ds [] (fun d hd => ⟨ρ.set i (some (.d d)), rfl, ht d hd, h d hd, set_back ρ i _ h0⟩) (by simpa using hl)
  rw [List.nil_append] at this
  exact this
theorem lcL_enc {P : Nat} {α : Type} (i : Nat) (enc : α → D) {mt : Env → Res Bool} {me : Env → Res R} {ρ : Env} (xs : List α) (p : α → Bool) (g : α → D) (h0 : ρ[i]? = some none)
    (ht : ∀ x ∈ xs, mt (ρ.set i (some (.d (enc x)))) = .ok (p x) (ρ.set i (some (.d (enc x)))))
    (h : ∀ x ∈ xs, p x = true → me (ρ.set i (some (.d (enc x)))) = .ok (.d (g x)) (ρ.set i (some (.d (enc x))))) (hl : xs.length ≤ 1000000) : lcL P (bName i) mt me [i] (xs.map enc) [] ρ = .ok ((xs.filter p).map g) ρ := by
  have := lcL_over (P := P) (b := bName i) (mt := mt) (me := me) (vs := [i]) (ρ := ρ) enc p g xs [] (fun d hd => ⟨ρ.set i (some (.d (enc d))), rfl, ht d hd, h d hd, set_back ρ i _ h0⟩) (by simpa using hl)
  rw [List.nil_append] at this
  exact this
theorem lcL_nats {P : Nat} (i : Nat) {mt : Env → Res Bool} {me : Env → Res R} {ρ : Env} (N : Nat) (p : Nat → Bool) (g : Nat → D) (h0 : ρ[i]? = some none)
    (ht : ∀ k, k < N → mt (ρ.set i (some (.d (.int k)))) = .ok (p k) (ρ.set i (some (.d (.int k)))))
    (h : ∀ k, k < N → p k = true → me (ρ.set i (some (.d (.int k)))) = .ok (.d (g k)) (ρ.set i (some (.d (.int k))))) (hl : N ≤ 1000000) : lcL P (bName i) mt me [i] (natsD N) [] ρ = .ok (((List.range N).filter p).map g) ρ :=
  lcL_enc i (fun (k : Nat) => PyData.int (k : Int)) (List.range N) p g h0 (fun x hx => ht x (List.mem_range.mp hx)) (fun x hx => h x (List.mem_range.mp hx)) (by rw [List.length_range]; exact hl)
theorem cAll_b (bs : List Bool) : cAll [.list (bs.map PyData.bool)] = some (.d (.bool (bs.all id))) := by
  show (match boolsOf (bs.map PyData.bool) with
    | some bs => some (R.d (.bool (bs.all id)))
    | none => none) = _
  rw [boolsOf_map]
theorem cAll_g {α : Type} (xs : List α) (p : α → Bool) : cAll [.list (xs.map fun x => PyData.bool (p x))] = some (.d (.bool (xs.all p))) := by
  have := cAll_b (xs.map p)
  rw [List.map_map] at this
  rw [show (xs.map fun x => PyData.bool (p x)) = xs.map (PyData.bool ∘ p) from rfl, this, List.all_map]
  rfl
theorem forL_inv {b : D → Env → Option Env} {body : Env → Out} (Inv : Nat → Env → Prop) : ∀ (ds : List D) (k : Nat) (ρ : Env), Inv k ρ →
    (∀ i d, ds[i]? = some d → ∀ ρ, Inv (k + i) ρ → ∃ ρ1 ρ2, b d ρ = some ρ1 ∧ body ρ1 = .nx ρ2 ∧ Inv (k + i + 1) ρ2) → ∃ ρ', forL b body ds ρ = .nx ρ' ∧ Inv (k + ds.length) ρ'
  | [], k, ρ, h, _ => ⟨ρ, rfl, h⟩
  | d :: ds, k, ρ, h, hs => by
    obtain ⟨ρ1, ρ2, e1, e2, h2⟩ := hs 0 d rfl ρ h
    obtain ⟨ρ', e3, h3⟩ := forL_inv Inv ds (k + 1) ρ2 h2 fun i x hx ρ hρ => by
      have := hs (i + 1) x (by simpa using hx) ρ (by rw [show k + (i + 1) = k + 1 + i by omega]; exact hρ)
      rw [show k + (i + 1) + 1 = k + 1 + i + 1 by omega] at this
      exact this
    refine ⟨ρ', ?_, by rw [List.length_cons, show k + (ds.length + 1) = k + 1 + ds.length by omega]; exact h3⟩
    simp only [forL, e1, e2, e3]
end Z
namespace Z
open PySem L2
def rng2K (rs : List R) (ρ1 : Env) : Res (List D) := match rs with
  | [.d (.int i), .d (.int j)] => if -big62 ≤ i ∧ i < big62 ∧ -big62 ≤ j ∧ j < big62 then .ok ((List.range (j - i).toNat).map fun (k : Nat) => .int (i + (k : Int))) ρ1 else .no
  | _ => .no
theorem mRng2_k (ma : Env → Res (List R)) (ρ : Env) : mRng2 ma ρ = (ma ρ).bind rng2K := nonrfl rfl
def fromOne (L : Nat) : List D := (List.range (L - 1)).map fun (k : Nat) => PyData.int (1 + (k : Int))
theorem rng2K_1 (L : Nat) (ρ1 : Env) (hL : L < 1000000) : rng2K [.d (.int 1), .d (.int (L : Int))] ρ1 = .ok (fromOne L) ρ1 := by
  show (if -big62 ≤ (1 : Int) ∧ (1 : Int) < big62 ∧ -big62 ≤ (L : Int) ∧ (L : Int) < big62 then Res.ok ((List.range ((L : Int) - 1).toNat).map fun (k : Nat) => PyData.int (1 + (k : Int))) ρ1 else .no) = _
  have h := big_nat L hL
  have h1 := big_nat 1 (by omega)
  rw [if_pos ⟨h1.1, h1.2, h.1, h.2⟩, show ((L : Int) - 1).toNat = L - 1 by omega]
  rfl
theorem lcL_from1 {P : Nat} (i : Nat) {me : Env → Res R} {ρ : Env} (L : Nat) (g : Nat → D) (h0 : ρ[i]? = some none)
    (h : ∀ k, k + 1 < L → me (ρ.set i (some (.d (.int (1 + (k : Int)))))) = .ok (.d (g k)) (ρ.set i (some (.d (.int (1 + (k : Int))))))) (hl : L ≤ 1000000) : lcL P (bName i) mYes me [i] (fromOne L) [] ρ = .ok ((List.range (L - 1)).map g) ρ := by
  have := lcL_enc (P := P) i (fun (k : Nat) => PyData.int (1 + (k : Int))) (mt := mYes) (me := me) (ρ := ρ) (List.range (L - 1)) (fun _ => true) g h0 (fun _ _ => rfl) (fun x hx _ => h x (by have := List.mem_range.mp hx; omega)) (by rw [List.length_range]; omega)
  rw [filter_yes] at this
  exact this
theorem gAltLt_int (i j : Int) : gAlt gLt gLtT (.int i) (.int j) = some (.d (.bool (decide (i < j)))) := nonrfl rfl
theorem any_ints (i : Int) (xs : List Int) : (xs.map PyData.int).any (fun z => PyData.eqv z (.int i)) = decide (i ∈ xs) := by
  rw [List.any_map]
  induction xs with
  | nil => simp
  | cons x xs ih =>
    rw [List.any_cons, ih]
    simp only [Function.comp, eqv_int, List.mem_cons]
    by_cases h : x = i
    · simp [h]
    · have h' : ¬ i = x := fun e => h e.symm
      simp [h, h']
theorem sh_intsT (xs : List Int) : SeqAt.shaped (.tuple (xs.map .int)) = true := (Sh.tuple (k := 0) fun x hx => by
  obtain ⟨i, _, rfl⟩ := List.mem_map.mp hx
  exact .int i).shaped (by decide)
theorem gAltIn_l (i : Int) (xs : List Int) : gAlt gIn gInT (.int i) (.list (xs.map .int)) = some (.d (.bool (decide (i ∈ xs)))) := gAlt_l (gIn_ints i xs)
theorem gAltNotIn_l (i : Int) (xs : List Int) : gAlt gNotIn gNotInT (.int i) (.list (xs.map .int)) = some (.d (.bool (!decide (i ∈ xs)))) := gAlt_l (by
  unfold gNotIn
  simp only [sh_int, sh_ints, Bool.and_self, if_true]
  rw [any_ints])
theorem gAltIn_t (i : Int) (xs : List Int) : gAlt gIn gInT (.int i) (.tuple (xs.map .int)) = some (.d (.bool (decide (i ∈ xs)))) := by
  rw [gAlt_r (by rfl)]
  unfold gInT
  simp only [sh_int, sh_intsT, Bool.and_self, if_true]
  rw [any_ints]
theorem gAltNotIn_t (i : Int) (xs : List Int) : gAlt gNotIn gNotInT (.int i) (.tuple (xs.map .int)) = some (.d (.bool (!decide (i ∈ xs)))) := by
  rw [gAlt_r (by rfl)]
  unfold gNotInT
  simp only [sh_int, sh_intsT, Bool.and_self, if_true]
  rw [any_ints]
end Z
namespace Z
open PySem L2
theorem set_none {α : Type} (ρ : List (Option α)) (j : Nat) (h : ρ[j]? = some none) : ρ.set j none = ρ := by
  refine List.ext_getElem? fun k => ?_
  by_cases hj : j = k
  · subst hj
    have hl := (List.getElem?_eq_some_iff.mp h).1
    rw [List.getElem?_set_self hl, h]
  · rw [List.getElem?_set_ne hj]
theorem lcL2_nm {P : Nat} (i j : Nat) (hij : i ≠ j) {ml : Env → Res (List D)} {me : Env → Res R} {ρ : Env} (f : D → List D) (g : D → D → D) (h0 : ρ[i]? = some none) (h1 : ρ[j]? = some none) : ∀ (ds acc : List D),
    (∀ d ∈ ds, ml (ρ.set i (some (.d d))) = .ok (f d) (ρ.set i (some (.d d)))) →
    (∀ d ∈ ds, ∀ e ∈ f d, me ((ρ.set i (some (.d d))).set j (some (.d e))) = .ok (.d (g d e)) ((ρ.set i (some (.d d))).set j (some (.d e)))) →
    acc.length + (ds.flatMap f).length ≤ 1000000 → lcL2 P (bName i) mYes ml (bName j) mYes me [i, j] [j] ds acc ρ = .ok (acc ++ ds.flatMap fun d => (f d).map (g d)) ρ
  | [], acc, _, _, _ => by simp [lcL2]
  | d :: ds, acc, hm, he, hl => by
    rw [List.flatMap_cons, List.length_append] at hl
    have hj : (ρ.set i (some (.d d)))[j]? = some none := by rw [List.getElem?_set_ne hij]; exact h1
    have e1 := hm d List.mem_cons_self
    have e2 : lcL P (bName j) mYes me [j] (f d) acc (ρ.set i (some (.d d))) = .ok (acc ++ (f d).map (g d)) (ρ.set i (some (.d d))) := by
      have := lcL_pure (P := P) (b := bName j) (mt := mYes) (me := me) (vs := [j]) (ρ := ρ.set i (some (.d d))) (fun _ => true) (g d) (f d) acc (fun e hx => ⟨(ρ.set i (some (.d d))).set j (some (.d e)), rfl, rfl, fun _ => he d List.mem_cons_self e hx, set_back _ j _ hj⟩) (by omega)
      rw [filter_yes] at this
      exact this
    have w1 : wipeE (ρ.set i (some (.d d))) [j] = ρ.set i (some (.d d)) := set_none _ j hj
    have w2 : wipeE (ρ.set i (some (.d d))) [i, j] = ρ := by
      show ((ρ.set i (some (.d d))).set j none).set i none = ρ
      rw [set_none _ j hj, set_back _ i _ h0]
    have ih := lcL2_nm (P := P) i j hij f g h0 h1 ds (acc ++ (f d).map (g d)) (fun x hx => hm x (List.mem_cons_of_mem _ hx)) (fun x hx => he x (List.mem_cons_of_mem _ hx)) (by rw [List.length_append, List.length_map]; omega)
    show (match ml (ρ.set i (some (.d d))) with
        | .ok es ρ3 => (match lcL P (bName j) mYes me [j] es acc (wipeE ρ3 [j]) with
          | .ok acc' ρ4 => lcL2 P (bName i) mYes ml (bName j) mYes me [i, j] [j] ds acc' (wipeE ρ4 [i, j])
          | _ => .no)
        | _ => .no) = _
    rw [e1]
    show (match lcL P (bName j) mYes me [j] (f d) acc (wipeE (ρ.set i (some (.d d))) [j]) with
          | .ok acc' ρ4 => lcL2 P (bName i) mYes ml (bName j) mYes me [i, j] [j] ds acc' (wipeE ρ4 [i, j])
          | _ => .no) = _
    rw [w1, e2]
    show lcL2 P (bName i) mYes ml (bName j) mYes me [i, j] [j] ds _ (wipeE (ρ.set i (some (.d d))) [i, j]) = _
    rw [w2, ih, List.flatMap_cons, List.append_assoc]
theorem mLc2_k (P : Nat) (mi : Env → Res (List D)) (b : D → Env → Option Env) (mt : Env → Res Bool) (ml : Env → Res (List D)) (b1 : D → Env → Option Env) (mt1 : Env → Res Bool) (me : Env → Res R) (vs vs1 : List Nat) (ρ : Env) :
    mLc2 P mi b mt ml b1 mt1 me vs vs1 ρ = (mi ρ).bind fun ds ρ1 => (match lcL2 P b mt ml b1 mt1 me vs vs1 ds [] (wipeE ρ1 vs) with
  | .ok acc ρw => .ok (.o acc) (back ρ1 vs ρw)
  | _ => .no) := nonrfl rfl
end Z
namespace Z
theorem cast_lit (n : Nat) : ((no_index (OfNat.ofNat n) : Nat) : Int) = OfNat.ofNat n := rfl
end Z
namespace Z
open PySem PySem.Spec PyProof.Rows L2
/-! ### sorted: ints or pairs -/
def insN (p : Int) : List Int → List Int
  | [] => [p]
  | q :: qs => if p ≤ q then p :: q :: qs else q :: insN p qs
def isort (ps : List Int) : List Int := ps.foldr insN []
theorem insN_perm (p : Int) : ∀ qs : List Int, (insN p qs).Perm (p :: qs)
  | [] => .refl _
  | q :: qs => by
    unfold insN
    split
    · exact .refl _
    · exact ((insN_perm p qs).cons q).trans (List.Perm.swap p q qs)
theorem isort_perm : ∀ ps : List Int, (isort ps).Perm ps
  | [] => .refl _
  | p :: ps => (insN_perm p (isort ps)).trans ((isort_perm ps).cons p)
theorem insN_up (p : Int) : ∀ qs : List Int, qs.Pairwise (· ≤ ·) → (insN p qs).Pairwise (· ≤ ·)
  | [], _ => by simp [insN]
  | q :: qs, h => by
    rw [List.pairwise_cons] at h
    unfold insN
    split
    · next hpq =>
      rw [List.pairwise_cons, List.pairwise_cons]
      exact ⟨fun x hx => by
        rcases List.mem_cons.mp hx with rfl | hx
        · exact hpq
        · have := h.1 x hx
          omega, h⟩
    · next hpq =>
      rw [List.pairwise_cons]
      exact ⟨fun x hx => by
        rcases List.mem_cons.mp ((insN_perm p qs).mem_iff.mp hx) with rfl | hx
        · omega
        · exact h.1 x hx, insN_up p qs h.2⟩
theorem isort_up : ∀ ps : List Int, (isort ps).Pairwise (· ≤ ·)
  | [] => .nil
  | p :: ps => insN_up p _ (isort_up ps)
theorem isort_one {xs ys : List Int} (h1 : xs.Pairwise (· ≤ ·)) (h2 : ys.Pairwise (· ≤ ·)) (p : xs.Perm ys) : xs = ys :=
  p.eq_of_pairwise (fun a b _ _ q1 q2 => by omega) h1 h2
theorem isort_lt {ps : List Int} (h : ps.Nodup) : (isort ps).Pairwise (· < ·) := by
  have nd : (isort ps).Nodup := (isort_perm ps).nodup_iff.mpr h
  exact ((isort_up ps).and nd).imp fun {a b} hab => by
    have := hab.1
    have := hab.2
    omega
theorem isort_mem {ps : List Int} (x : Int) : x ∈ isort ps ↔ x ∈ ps := (isort_perm ps).mem_iff
def rSortA (K : PySem.W.Frag) : List V → Hp → VK → Prop := fun xs H Q => rSortP K xs H Q ∨ rSortedI K xs H Q
theorem zsortA {K : PySem.W.Frag} {X : Cx} (hK : X.K = K := by rfl) : CallR X (.builtin "sorted") (rSortA K) := by subst hK; exact CallR.or zsortP cr_sortedI
def cSortA : List D → Option R
  | [.list es] => (match intsOf es with
    | some ns => some (.o ((isort ns).map .int))
    | none => (match pairsOf es with
      | some ps => some (.o ((psort ps).map pairD))
      | none => none))
  | [.tuple es] => (match intsOf es with
    | some ns => none
    | none => none)
  | _ => none
theorem s_sortA {K : PySem.W.Frag} : CallS K (rSortA K) cSortA := by
  intro G H xs ds z Q s h eg hq
  unfold cSortA at eg
  split at eg
  · next es =>
    split at eg
    · next ns en =>
      cases eg
      right
      cases h with
      | cons h1 h2 =>
        cases h2
        obtain ⟨a, vs, rfl, w1, w2⟩ := h1.lst s
        rw [intsOf_eq en] at w2
        rw [dpAll_ints w2] at w1
        refine ⟨a, ns, rfl, w1, fun ms p pm up np => ?_⟩
        have em : ms = isort ns := isort_one up (isort_up ns) (pm.trans (isort_perm ns).symm)
        subst em
        exact hq _ G _ (Grow.fresh s np) ⟨p, _, rfl, np, upd_same, dpAll_ofInts _, s.free np⟩
    · split at eg
      · next ps ep =>
        left
        exact s_sortP G H xs [.list es] z Q s h (by unfold cSortP; simp only [ep]; exact eg) hq
      · cases eg
  · next es => split at eg <;> cases eg
  · cases eg
theorem cSortA_i (ns : List Int) : cSortA [.list (ns.map .int)] = some (.o ((isort ns).map .int)) := by
  show (match intsOf (ns.map PyData.int) with
    | some ns => some (R.o ((isort ns).map .int))
    | none => _) = _
  rw [intsOf_map]
theorem cSortA_p (ps : List (Int × Int)) : cSortA [.list (ps.map pairD)] = some (.o ((psort ps).map pairD)) := by
  cases ps with
  | nil => rfl
  | cons p ps =>
    have e : intsOf ((p :: ps).map pairD) = none := rfl
    show (match intsOf ((p :: ps).map pairD) with
      | some ns => some (R.o ((isort ns).map .int))
      | none => (match pairsOf ((p :: ps).map pairD) with
        | some ps => some (R.o ((psort ps).map pairD))
        | none => none)) = _
    rw [e, pairsOf_map]
end Z
namespace Z
open PySem L2
theorem forL_enc {α : Type} {b : D → Env → Option Env} {body : Env → Out} (enc : α → D) (Inv : Nat → Env → Prop) (xs : List α) (ρ : Env) (h0 : Inv 0 ρ)
    (hs : ∀ (k : Nat) (hk : k < xs.length), ∀ ρ, Inv k ρ → ∃ ρ1 ρ2, b (enc xs[k]) ρ = some ρ1 ∧ body ρ1 = .nx ρ2 ∧ Inv (k + 1) ρ2) : ∃ ρ', forL b body (xs.map enc) ρ = .nx ρ' ∧ Inv xs.length ρ' := by
  obtain ⟨ρ', e, h⟩ := forL_inv (b := b) (body := body) Inv (xs.map enc) 0 ρ h0 fun i d hd ρ hρ => by
    rw [List.getElem?_map] at hd
    by_cases hi : i < xs.length
    · rw [List.getElem?_eq_getElem hi] at hd
      cases hd
      rw [Nat.zero_add] at hρ ⊢
      exact hs i hi ρ hρ
    · rw [List.getElem?_eq_none (by omega)] at hd
      cases hd
  rw [Nat.zero_add, List.length_map] at h
  exact ⟨ρ', e, h⟩
theorem forL_nats {b : D → Env → Option Env} {body : Env → Out} (Inv : Nat → Env → Prop) (N : Nat) (ρ : Env) (h0 : Inv 0 ρ)
    (hs : ∀ k, k < N → ∀ ρ, Inv k ρ → ∃ ρ1 ρ2, b (.int (k : Int)) ρ = some ρ1 ∧ body ρ1 = .nx ρ2 ∧ Inv (k + 1) ρ2) : ∃ ρ', forL b body (natsD N) ρ = .nx ρ' ∧ Inv N ρ' := by
  obtain ⟨ρ', e, h⟩ := forL_enc (b := b) (body := body) (fun (k : Nat) => PyData.int (k : Int)) Inv (List.range N) ρ h0 fun k hk ρ hρ => by
    rw [List.getElem_range]
    exact hs k (by rw [List.length_range] at hk; exact hk) ρ hρ
  rw [List.length_range] at h
  exact ⟨ρ', e, h⟩
end Z
namespace Z
open PySem L2
theorem gCatT_t (xs ys : List D) : gCatT (.tuple xs) (.tuple ys) = if xs.length + ys.length ≤ 1000000 then some (.d (.tuple (xs ++ ys))) else none := nonrfl rfl
theorem gRepA_lit (x : D) (n : Nat) (h : n ≤ 1000) : gRepA (.tuple [x]) (.int (no_index (OfNat.ofNat n))) = some (.d (.tuple (List.replicate n x))) := gRepA_1 x n h
def rgEK (tup : Bool) (rs : List R) (ρ1 : Env) : Res R := match rs with
  | [.d (.int j)] => if -1000000 ≤ j ∧ j ≤ 1000000 then .ok (if tup = true then .d (.tuple (rgD 0 j)) else .o (rgD 0 j)) ρ1 else .no
  | _ => .no
theorem mRgE_k (tup : Bool) (ma : Env → Res (List R)) (ρ : Env) : mRgE tup ma ρ = (ma ρ).bind (rgEK tup) := nonrfl rfl
theorem rgD_nat (n : Nat) : rgD 0 n = natsD n := by
  unfold rgD natsD
  rw [show ((n : Int) - 0).toNat = n by omega]
  congr 1
  funext i
  simp
theorem rgEK_t (N : Nat) (ρ1 : Env) (h : N ≤ 1000) : rgEK true [.d (.int (N : Int))] ρ1 = .ok (.d (.tuple (natsD N))) ρ1 := by
  show (if -1000000 ≤ (N : Int) ∧ (N : Int) ≤ 1000000 then Res.ok (if true = true then R.d (.tuple (rgD 0 N)) else .o (rgD 0 N)) ρ1 else .no) = _
  rw [if_pos ⟨by omega, by omega⟩, rgD_nat]
  rfl
theorem rgEK_f (N : Nat) (ρ1 : Env) (h : N ≤ 1000) : rgEK false [.d (.int (N : Int))] ρ1 = .ok (.o (natsD N)) ρ1 := by
  show (if -1000000 ≤ (N : Int) ∧ (N : Int) ≤ 1000000 then Res.ok (if false = true then R.d (.tuple (rgD 0 N)) else .o (rgD 0 N)) ρ1 else .no) = _
  rw [if_pos ⟨by omega, by omega⟩, rgD_nat]
  rfl
theorem natsD_ints (N : Nat) : natsD N = ((List.range N).map fun i : Nat => (i : Int)).map PyData.int := by
  unfold natsD
  rw [List.map_map]
  rfl
theorem natsD_len (N : Nat) : (natsD N).length = N := by unfold natsD; rw [List.length_map, List.length_range]
theorem gNe_str (x : Str) (hx : PyData.strOk x = true) : gNe (.str x) (.str x) = some (.d (.bool false)) := by
  have h : SeqAt.shaped (.str x) = true := by simp [SeqAt.shaped, PyData.canLay0, PyData.depth, hx]
  unfold gNe
  rw [h]
  simp [PyData.eqv]
end Z
namespace Z
open PySem L2
theorem cutD_take (xs : List D) (k : Nat) (h : k ≤ xs.length) : cutD xs none (some (k : Int)) = xs.take k := by
  have e : HT.sIx xs.length xs.length (some (k : Int)) = k := by
    rw [HT.sIx_nat]
    omega
  have e0 : HT.sIx xs.length 0 none = 0 := rfl
  unfold cutD
  rw [e, e0, Nat.sub_zero, List.drop_zero]
theorem cutD_drop (xs : List D) (k : Nat) (h : k ≤ xs.length) : cutD xs (some (k : Int)) none = xs.drop k := by
  have e : HT.sIx xs.length 0 (some (k : Int)) = k := by
    rw [HT.sIx_nat]
    omega
  have e0 : HT.sIx xs.length xs.length none = xs.length := rfl
  unfold cutD
  rw [e, e0, List.take_of_length_le (by rw [List.length_drop]; omega)]
end Z
namespace Z
open PySem L2
theorem cSum_i (ns : List Int) : cSum [.list (ns.map .int)] = some (.d (.int ns.sum)) := by
  show (match intsOf (ns.map PyData.int) with
    | some ns => some (R.d (.int ns.sum))
    | none => none) = _
  rw [intsOf_map]
theorem cSum_g {α : Type} (xs : List α) (g : α → Int) : cSum [.list (xs.map fun x => PyData.int (g x))] = some (.d (.int (xs.map g).sum)) := by
  have := cSum_i (xs.map g)
  rw [List.map_map] at this
  exact this
theorem gAltLt_pair (a b c d : Int) : gAlt gLt gLtT (.tuple [.int a, .int b]) (.tuple [.int c, .int d]) = some (.d (.bool (HT.lexLt [a, b] [c, d]))) := nonrfl rfl
end Z
namespace Z
open PySem PySem.Spec PyProof.Rows L2
/-! ### dicts by data -/
def keyOk (tk : Bool) : D → Bool
  | .int _ => !tk
  | .tuple ds => tk && (match toNK (.tuple ds) with
    | some n => decide (n.depth ≤ 8)
    | none => false)
  | _ => false
/-- the value at a key -/
def atM (kvs : List (D × D)) (k : D) : Option D := (kvs.find? fun q => decide (toNK q.1 = toNK k)).map (·.2)
/-- d[k] = v -/
def putM (kvs : List (D × D)) (k v : D) : List (D × D) := if (atM kvs k).isSome = true then kvs.map (fun q => if toNK q.1 = toNK k then (q.1, v) else q) else kvs ++ [(k, v)]
section
variable {X : Cx} {pins : List (Addr × Obj)} {σ : L2.St} {H : Hp} {s : Shared} {K : PySem.W.Frag}
mutual
theorem nested_is (I : Inv X pins σ H s) : ∀ (d : D) (n : NestedKey) (v : V) (u : Value), toNK d = some n → Dp X.K H v d → RelV v u → NestedIs s.heap n u
  | .int i, n, v, u, e, h, r => by
    simp only [toNK] at e
    cases e
    cases h
    obtain ⟨t, rfl⟩ := r
    exact .int i t
  | .tuple ds, n, v, u, e, h, r => by
    simp only [toNK] at e
    cases e2 : toNK.toNKs ds with
    | none => rw [e2] at e; cases e
    | some ks =>
      rw [e2] at e
      cases e
      cases h with
      | tup h1 h2 =>
        cases r
        obtain ⟨its, rv, ⟨o, ho, hc, m, hd⟩, _⟩ := I.tuple h1
        exact .tup ho hc hd (by rw [List.toList_toArray]; exact nested_all I ds ks _ _ e2 h2 rv)
  | .none, n, v, u, e, _, _ => by simp [toNK] at e
  | .bool _, n, v, u, e, _, _ => by simp [toNK] at e
  | .str _, n, v, u, e, _, _ => by simp [toNK] at e
  | .list _, n, v, u, e, _, _ => by simp [toNK] at e
  | .dict _, n, v, u, e, _, _ => by simp [toNK] at e
theorem nested_all (I : Inv X pins σ H s) : ∀ (ds : List D) (ks : List NestedKey) (vs : List V) (us : List Value), toNK.toNKs ds = some ks → DpAll X.K H vs ds → Vals vs us → NestedAll s.heap ks us
  | [], ks, vs, us, e, h, r => by
    simp only [toNK.toNKs] at e
    cases e
    cases h
    cases r
    exact .nil
  | d :: ds, ks, vs, us, e, h, r => by
    simp only [toNK.toNKs] at e
    split at e
    · next k ks' e1 e2 =>
      cases e
      cases h with
      | cons h1 h2 =>
        cases r with
        | cons r1 r2 => exact .cons (nested_is I d k _ _ e1 h1 r1) (nested_all I ds ks' _ _ e2 h2 r2)
    · cases e
end
/-- the entries of a dict with tuples as keys -/
abbrev LX : List (NestedKey × Addr × V) → List (NestedKey × Addr × Value) → Prop := Paired fun p q => p.1 = q.1 ∧ p.2.1 = q.2.1 ∧ RelV p.2.2 q.2.2
theorem nest_of (I : Inv X pins σ H s) {a : Addr} {L : List (NestedKey × Addr × V)} {kvs : List (D × D)} (e : H a = some (NestO a L)) (hk : KvN X.K H L kvs) :
    L.length ≤ sizeLine ∧ (a == sysModules) = false ∧ ∃ xs : List (NestedKey × Addr × Value), LX L xs ∧ s.heap.DictOfH (nestedKind X.prog X.w) a xs := by
  have ok := I.hok a _ e
  obtain ⟨⟨h1, h2, xs, h4, ⟨o, es, ep, h5, h6, h7, h8⟩, h9⟩, _, _⟩ := ok
  refine ⟨h1, h2, xs, h4, o, es, ep, h5, h6, h7, h8 X.w, ?_, h9⟩
  have key : ∀ (L : List (NestedKey × Addr × V)) (kvs : List (D × D)) (xs : List (NestedKey × Addr × Value)), KvN X.K H L kvs → LX L xs → ∀ p ∈ xs, NestedIs s.heap p.1 (.ref p.2.1) ∧ p.1.depth ≤ 8 := by
    intro L kvs xs hk
    induction hk generalizing xs with
    | nil => intro hp p hx; cases hp; cases hx
    | cons q1 q0 q2 q3 _ ih =>
      intro hp p hx
      cases hp with
      | cons r t =>
        obtain ⟨r1, r2, r3⟩ := r
        rcases List.mem_cons.mp hx with rfl | hx
        · rw [← r1, ← r2]
          exact ⟨nested_is I _ _ _ _ q1 q2 rfl, q0⟩
        · exact ih _ t p hx
  exact key L kvs xs hk h4
theorem at_nest {L : List (NestedKey × Addr × V)} {kvs : List (D × D)} (hk : KvN K H L kvs) {k : D} {n : NestedKey} (en : toNK k = some n) : ∀ {xs : List (NestedKey × Addr × Value)}, LX L xs →
    match atM kvs k with
    | some d => ∃ p v, atKey xs n = some p ∧ RelV v p.2 ∧ Dp K H v d
    | none => atKey xs n = none := by
  induction hk with
  | nil => intro xs h; cases h; rfl
  | @cons n0 b v k0 d ks kvs q1 q0 q2 q3 _ ih =>
    intro xs h
    cases h with
    | @cons p q _ xs' r t =>
      obtain ⟨r1, r2, r3⟩ := r
      have r1 : n0 = q.1 := r1
      have ih := ih t
      unfold atM atKey at ih ⊢
      rw [List.find?_cons, List.find?_cons]
      by_cases hn : n0 = n
      · have e1 : decide (toNK k0 = toNK k) = true := decide_eq_true (by rw [q1, en, hn])
        have e2 : decide (q.1 = n) = true := decide_eq_true (by rw [← r1, hn])
        rw [e1, e2]
        exact ⟨q.2, v, rfl, r3, q3⟩
      · have e1 : decide (toNK k0 = toNK k) = false := decide_eq_false (by rw [q1, en]; intro z; cases z; exact hn rfl)
        have e2 : decide (q.1 = n) = false := decide_eq_false (by rw [← r1]; exact hn)
        rw [e1, e2]
        exact ih
theorem at_int {ks : List (Int × V)} {kvs : List (D × D)} (hk : KvI K H ks kvs) (i : Int) :
    match atM kvs (.int i) with
    | some d => ∃ v, valV (ks.map fun q => ((Sum.inl q.1 : Key), q.2)) (.inl i) = some v ∧ Dp K H v d
    | none => valV (ks.map fun q => ((Sum.inl q.1 : Key), q.2)) (.inl i) = none := by
  induction hk with
  | nil => rfl
  | @cons j v d ks kvs h1 _ ih =>
    unfold atM at ih ⊢
    rw [List.find?_cons, List.map_cons]
    by_cases hj : j = i
    · subst hj
      have e1 : decide (toNK (.int j) = toNK (.int j)) = true := decide_eq_true rfl
      rw [e1]
      exact ⟨v, valV_pos rfl, h1⟩
    · have e1 : decide (toNK (.int j) = toNK (.int i)) = false := decide_eq_false (by simp only [toNK]; intro z; cases z; exact hj rfl)
      rw [e1, valV_neg (fun z => hj (by cases z; rfl))]
      exact ih
theorem keyOk_i {tk : Bool} {k : D} (h : keyOk tk k = true) : (tk = false ∧ ∃ i, k = .int i) ∨ (tk = true ∧ ∃ ds n, k = .tuple ds ∧ toNK k = some n ∧ n.depth ≤ 8) := by
  cases k with
  | int i => exact .inl ⟨by simpa [keyOk] using h, i, rfl⟩
  | tuple ds =>
    simp only [keyOk, Bool.and_eq_true] at h
    obtain ⟨h1, h2⟩ := h
    cases e : toNK (.tuple ds) with
    | none => rw [e] at h2; cases h2
    | some n => rw [e] at h2; exact .inr ⟨h1, ds, n, rfl, rfl, of_decide_eq_true h2⟩
  | _ => simp [keyOk] at h
/-! the operations -/
def rInM (K : PySem.W.Frag) (neg : Bool) : R2 := fun x y H Q => ∃ a o tk kvs d, y = .ref a ∧ H a = some o ∧ OwnR K H a o (.m tk kvs) ∧ Dp K H x d ∧ keyOk tk d = true ∧ Q (.bl (neg ^^ (atM kvs d).isSome)) H
theorem room8 {A : Around} (hu : A.units + 64 < cLine) : (nestedKind X.prog X.w).room A.in1 := by
  show A.in1.units + 8 < cLine
  have : A.in1.units ≤ A.units + 1 := by simp
  omega
theorem zinM (hu : X.A.units + 64 < cLine) (hK : X.K = K := by rfl) : OpR X (compareOp .In) (rInM K false) := by
  subst hK
  intro pins s σ H x y v u Q I rx ry h
  obtain ⟨a, o, tk, kvs, d, rfl, ha, ho, hd, hk, q⟩ := h
  cases ry
  rw [Bool.false_xor] at q
  cases ho with
  | i hkv =>
    rcases keyOk_i hk with ⟨_, i, rfl⟩ | ⟨h, _⟩
    · have ev := dp_int hd
      subst ev
      have at' := at_int hkv i
      refine d_in (by omega) I (DGet.k (k := .inl i) ha) rx fun s' I' => ⟨.bl _, H, I', rfl, ?_⟩
      cases e : atM kvs (.int i) with
      | none => rw [e] at at' q; rw [at']; exact q
      | some d => rw [e] at at' q; obtain ⟨w, w1, w2⟩ := at'; rw [w1]; exact q
    · cases h
  | n hkv =>
    rcases keyOk_i hk with ⟨h, _⟩ | ⟨_, ds, n, rfl, en, hn⟩
    · cases h
    · obtain ⟨_, hs, xs, lx, dd⟩ := nest_of I ha hkv
      obtain ⟨b, vs, rfl, _, _⟩ := dp_tup hd
      cases rx
      have at' := at_nest hkv en lx
      refine wpAny_in_heap (room8 hu) ⟨nested_is I _ _ _ _ en hd rfl, hn⟩ hs dd ⟨.bl _, H, I.tok _, rfl, ?_⟩
      cases e : atM kvs (.tuple ds) with
      | none => rw [e] at at' q; rw [at']; exact q
      | some d => rw [e] at at' q; obtain ⟨p, w, w1, w2⟩ := at'; rw [w1]; exact q
theorem znotInM (hu : X.A.units + 64 < cLine) (hK : X.K = K := by rfl) : OpR X (compareOp .NotIn) (rInM K true) := by
  subst hK
  intro pins s σ H x y v u Q I rx ry h
  obtain ⟨a, o, tk, kvs, d, rfl, ha, ho, hd, hk, q⟩ := h
  cases ry
  rw [Bool.true_xor] at q
  cases ho with
  | i hkv =>
    rcases keyOk_i hk with ⟨_, i, rfl⟩ | ⟨h, _⟩
    · have ev := dp_int hd
      subst ev
      have at' := at_int hkv i
      refine d_notIn (by omega) I (DGet.k (k := .inl i) ha) rx fun s' I' => ⟨.bl _, H, I', rfl, ?_⟩
      cases e : atM kvs (.int i) with
      | none => rw [e] at at' q; rw [at']; exact q
      | some d => rw [e] at at' q; obtain ⟨w, w1, w2⟩ := at'; rw [w1]; exact q
    · cases h
  | n hkv =>
    rcases keyOk_i hk with ⟨h, _⟩ | ⟨_, ds, n, rfl, en, hn⟩
    · cases h
    · obtain ⟨_, hs, xs, lx, dd⟩ := nest_of I ha hkv
      obtain ⟨b, vs, rfl, _, _⟩ := dp_tup hd
      cases rx
      have at' := at_nest hkv en lx
      refine wpAny_notIn_heap (room8 hu) ⟨nested_is I _ _ _ _ en hd rfl, hn⟩ hs dd ⟨.bl _, H, I.tok _, rfl, ?_⟩
      cases e : atM kvs (.tuple ds) with
      | none => rw [e] at at' q; rw [at']; exact q
      | some d => rw [e] at at' q; obtain ⟨p, w, w1, w2⟩ := at'; rw [w1]; exact q
/-- x[k] -/
def rIxM (K : PySem.W.Frag) : R2 := fun x y H Q => ∃ a o tk kvs d z G, x = .ref a ∧ H a = some o ∧ Same G H ∧ OwnR K G a o (.m tk kvs) ∧ Dp K G y d ∧ keyOk tk d = true ∧ atM kvs d = some z ∧ ∀ v, Dp K G v z → Q v H
theorem getM_core (hu : X.A.units + 64 < cLine) {x y : V} {v u : Value} {Q : VK} (I : Inv X pins σ H s) (rx : RelV x v) (ry : RelV y u) (h : rIxM X.K x y H Q) : s.TypeIs v "dict" ∧ wpAny (model X.prog X.w) X.A (getItem v u) (EP X pins σ Q) X.xe s := by
  obtain ⟨a, o, tk, kvs, d, z, G, rfl, ha, sg, ho, hd, hk, hz, q⟩ := h
  cases rx
  cases ho with
  | i hkv =>
    rcases keyOk_i hk with ⟨_, i, rfl⟩ | ⟨h, _⟩
    · have ev := dp_int hd
      subst ev
      have at' := at_int hkv i
      rw [hz] at at'
      obtain ⟨w, w1, w2⟩ := at'
      have g : DGet H a (.int i) (some w) := by rw [← w1]; exact DGet.k (k := .inl i) ha
      exact ⟨dict_typeIs I g, d_getItem (by omega) I g ry fun w' s' I' r => ⟨w, H, I', r, q w w2⟩⟩
    · cases h
  | n hkv =>
    rcases keyOk_i hk with ⟨h, _⟩ | ⟨_, ds, n, rfl, en, hn⟩
    · cases h
    · obtain ⟨_, hs, xs, lx, dd⟩ := nest_of I ha (kvN_same sg hkv)
      obtain ⟨b, vs, rfl, _, _⟩ := dp_tup hd
      cases ry
      have at' := at_nest hkv en lx
      rw [hz] at at'
      obtain ⟨p, w, w1, w2, w3⟩ := at'
      exact ⟨dd.typeIs, wpAny_getItem_heap (room8 hu) ⟨nested_is I _ _ _ _ en (dp_same sg _ _ hd) rfl, hn⟩ dd w1 ⟨w, H, I.tok _, w2, q w w3⟩⟩
theorem pe_getM {o i : Expr} {td ty : TE} {pos : Pos} (hu : X.A.units + 64 < cLine) (ho : PE X o td) (hi : PE X i ty) (hs : NoSl i) (hK : X.K = K := by rfl) : PE X (.Subscript o i pos) (tOp (rIxM K) td ty) := by
  subst hK
  refine ⟨fun pins s σ H Q I h => ?_⟩
  exact subD_of PySem.F.slot_dict_getitem.lookup hs (thn (ho.run pins s σ H _ I h) fun u s1 ⟨x, H1, I1, rx, q1⟩ => thn (hi.run pins s1 σ H1 _ I1 q1) fun iv s2 ⟨y, H2, I2, ry, q2⟩ => getM_core hu I2 rx ry q2)
/-- list(x), ints as keys -/
def rListM (K : PySem.W.Frag) : List V → Hp → VK → Prop := fun xs H Q => ∃ a o kvs, xs = [.ref a] ∧ H a = some o ∧ OwnR K H a o (.m false kvs) ∧ ∀ p (ns : List Int), H p = none → kvs.map (·.1) = ns.map PyData.int → Q (.ref p) (upd H p (.lst (ns.map V.int)))
theorem zlistM (hc : X.calm = true) (hK : X.K = K := by rfl) : CallR X (.type "list") (rListM K) := by
  subst hK
  intro pins s σ H xs us Q I r h
  obtain ⟨a, o, kvs, rfl, ha, ho, q⟩ := h
  cases ho with
  | @i ks _ hkv =>
    refine call_listD hc pins s σ H [.ref a] us Q I r ⟨a, _, rfl, .inl ha, fun p np => ?_⟩
    have e1 : (ks.map fun q => ((Sum.inl q.1 : Key), q.2)).map (fun kv => kV kv.1) = (ks.map (·.1)).map V.int := by rw [List.map_map, List.map_map]; rfl
    have e2 : kvs.map (·.1) = (ks.map (·.1)).map PyData.int := by
      clear e1 q ha
      induction hkv with
      | nil => rfl
      | cons _ _ ih => simp [ih]
    rw [e1]
    exact q p _ np e2
/-! the hash of a key without texts asks nothing of the world -/
mutual
theorem hash_any {w w' : World} : ∀ {d : D} {n : NestedKey}, toNK d = some n → n.hash w = n.hash w'
  | .int i, n, e => by
    simp only [toNK] at e
    cases e
    rfl
  | .tuple ds, n, e => by
    simp only [toNK] at e
    cases e2 : toNK.toNKs ds with
    | none => rw [e2] at e; cases e
    | some ks =>
      rw [e2] at e
      cases e
      show (NestedKey.tup ks).hash w = (NestedKey.tup ks).hash w'
      simp only [NestedKey.hash]
      rw [hashes_any (w := w) (w' := w') e2]
  | .none, n, e => by simp [toNK] at e
  | .bool _, n, e => by simp [toNK] at e
  | .str _, n, e => by simp [toNK] at e
  | .list _, n, e => by simp [toNK] at e
  | .dict _, n, e => by simp [toNK] at e
theorem hashes_any {w w' : World} : ∀ {ds : List D} {ks : List NestedKey}, toNK.toNKs ds = some ks → NestedKey.hashes w ks = NestedKey.hashes w' ks
  | [], ks, e => by
    simp only [toNK.toNKs] at e
    cases e
    rfl
  | d :: ds, ks, e => by
    simp only [toNK.toNKs] at e
    split at e
    · next k ks' e1 e2 =>
      cases e
      simp only [NestedKey.hashes]
      rw [hash_any (w := w) (w' := w') e1, hashes_any (w := w) (w' := w') e2]
    · cases e
end
/-! new, and stores -/
theorem rawN_mono {a : Addr} {L : List (NestedKey × Addr × V)} (h1 h2 : Heap) (r : rawN a L h1) (k : ∀ o, h1.get? a = some o → h2.get? a = some o) : rawN a L h2 := by
  obtain ⟨z1, z2, xs, z4, ⟨o, es, ep, z5, z6, z7, z8⟩, z9⟩ := r
  exact ⟨z1, z2, xs, z4, ⟨o, es, ep, k o z5, z6, z7, z8⟩, z9⟩
theorem nest_ok {P : Program} {w : World} {H : Hp} {h : Heap} {a : Addr} {L : List (NestedKey × Addr × V)} (r : rawN a L h) : ObjOk P w H h a (NestO a L) := by
  refine ⟨r, ?_, rawN_mono⟩
  obtain ⟨_, _, _, _, ⟨o, _, _, z5, _⟩, _⟩ := r
  exact ⟨o, z5⟩
def tNewM (tk : Bool) : TE := fun _ H Q => ∀ p, H p = none → Q (.ref p) (upd H p (if tk = true then NestO p [] else .dK []))
theorem pe_newM {pos : Pos} (tk : Bool) : PE X (.Dict [] [] pos) (tNewM tk) := by
  refine ⟨fun pins s σ H Q I h => ?_⟩
  cases tk with
  | false => exact (pe_dnewK (X := X) (pos := pos)).run pins s σ H Q I h
  | true =>
    refine wpAny_Dict_empty ⟨.ref s.heap.objs.size, _, I.laid (a := s.heap.objs.size) (o := NestO s.heap.objs.size []) (t' := s.toks) (fun _ _ q => Heap.get?_push_of_some _ q) (Nat.le_refl _) (nest_ok ?_), rfl, h _ (I.hok.fresh (Nat.le_refl _))⟩
    exact ⟨Nat.zero_le _, beq_eq_false_iff_ne.mpr (Ne.symm (Nat.ne_of_lt I.big)), [], .nil, ⟨_, #[], 0, Heap.get?_push_size _ rfl, ⟨rfl, rfl, rfl⟩, rfl, fun _ => rfl⟩, List.nodup_nil⟩
theorem put_int {G : Hp} {ks : List (Int × V)} {kvs : List (D × D)} (hk : KvI K G ks kvs) (i : Int) {v : V} {dv : D} (hv : Dp K G v dv) :
    ∃ ks', putK (ks.map fun q => ((Sum.inl q.1 : Key), q.2)) (.inl i) v = ks'.map (fun q => ((Sum.inl q.1 : Key), q.2)) ∧ KvI K G ks' (putM kvs (.int i) dv) := by
  have any : ((ks.map fun q => ((Sum.inl q.1 : Key), q.2)).any fun kv => decide (kv.1 = .inl i)) = (atM kvs (.int i)).isSome := by
    rw [valV_any]
    have := at_int hk i
    cases e : atM kvs (.int i) with
    | none => rw [e] at this; rw [this]; rfl
    | some d => rw [e] at this; obtain ⟨w, w1, _⟩ := this; rw [w1]; rfl
  unfold putK putM
  rw [any]
  cases e : (atM kvs (.int i)).isSome with
  | true =>
    rw [if_pos rfl, if_pos rfl]
    clear any e
    induction hk with
    | nil => exact ⟨[], rfl, .nil⟩
    | @cons j w d ks kvs h1 _ ih =>
      obtain ⟨ks', e1, e2⟩ := ih
      by_cases hj : j = i
      · subst hj
        refine ⟨(j, v) :: ks', ?_, ?_⟩
        · rw [List.map_cons, List.map_cons, e1, List.map_cons, if_pos rfl]
        · rw [List.map_cons, if_pos rfl]
          exact .cons hv e2
      · refine ⟨(j, w) :: ks', ?_, ?_⟩
        · rw [List.map_cons, List.map_cons, e1, List.map_cons, if_neg (fun z => hj (by cases z; rfl))]
        · rw [List.map_cons, if_neg (fun z => hj (by simp only [toNK] at z; cases z; rfl))]
          exact .cons h1 e2
  | false =>
    rw [if_neg Bool.false_ne_true, if_neg Bool.false_ne_true]
    clear any e
    refine ⟨ks ++ [(i, v)], by rw [List.map_append]; rfl, ?_⟩
    induction hk with
    | nil => exact .cons hv .nil
    | cons h1 _ ih => exact .cons h1 ih
theorem put_nest {G : Hp} {L : List (NestedKey × Addr × V)} {kvs : List (D × D)} (hk : KvN K G L kvs) {xs : List (NestedKey × Addr × Value)} (lx : LX L xs) {k dv : D} {n : NestedKey} {b : Addr} {v : V} {u : Value} (en : toNK k = some n) (hn : n.depth ≤ 8) (hb : Dp K G (.ref b) k) (hv : Dp K G v dv) (r : RelV v u) :
    ∃ L', LX L' (storedH xs n b u) ∧ KvN K G L' (putM kvs k dv) ∧ L'.length ≤ L.length + 1 := by
  have same : (atKey xs n).isSome = (atM kvs k).isSome := by
    have := at_nest hk en lx
    cases e : atM kvs k with
    | none => rw [e] at this; rw [this]; rfl
    | some d => rw [e] at this; obtain ⟨p, w, w1, _⟩ := this; rw [w1]; rfl
  unfold storedH putM
  rw [same]
  cases e : (atM kvs k).isSome with
  | true =>
    rw [if_pos rfl, if_pos rfl]
    clear same e
    induction hk generalizing xs with
    | nil => cases lx; exact ⟨[], .nil, .nil, Nat.zero_le _⟩
    | @cons n0 b0 v0 k0 d ks kvs q1 q0 q2 q3 _ ih =>
      cases lx with
      | @cons p q _ xs' r0 t =>
        obtain ⟨r1, r2, r3⟩ := r0
        have r1 : n0 = q.1 := r1
        obtain ⟨L', e1, e2, e3⟩ := ih t
        by_cases hj : n0 = n
        · refine ⟨(n0, b0, v) :: L', ?_, ?_, by simp; omega⟩
          · rw [List.map_cons]
            refine .cons ?_ e1
            unfold putAt
            rw [if_pos (by rw [← r1, hj])]
            exact ⟨r1, r2, r⟩
          · rw [List.map_cons, if_pos (by rw [q1, en, hj])]
            exact .cons q1 q0 q2 hv e2
        · refine ⟨(n0, b0, v0) :: L', ?_, ?_, by simp; omega⟩
          · rw [List.map_cons]
            refine .cons ?_ e1
            unfold putAt
            rw [if_neg (by rw [← r1]; exact hj)]
            exact ⟨r1, r2, r3⟩
          · rw [List.map_cons, if_neg (by rw [q1, en]; intro z; cases z; exact hj rfl)]
            exact .cons q1 q0 q2 q3 e2
  | false =>
    rw [if_neg Bool.false_ne_true, if_neg Bool.false_ne_true]
    clear same e
    refine ⟨L ++ [(n, b, v)], ?_, ?_, by simp⟩
    · clear hk
      induction lx with
      | nil => exact .cons ⟨rfl, rfl, r⟩ .nil
      | cons r0 _ ih => exact .cons r0 ih
    · clear lx
      induction hk with
      | nil => exact .cons en hn hb hv .nil
      | cons q1 q0 q2 q3 _ ih => exact .cons q1 q0 q2 q3 ih
def rSetM (K : PySem.W.Frag) : TSet := fun o i v H Q => ∃ a ob tk kvs d dv G, o = .ref a ∧ H a = some ob ∧ Same G H ∧ OwnR K G a ob (.m tk kvs) ∧ Dp K G i d ∧ keyOk tk d = true ∧ Dp K G v dv ∧ kvs.length < 1000000 ∧ ∀ ob', OwnR K G a ob' (.m tk (putM kvs d dv)) → Q (upd H a ob')
theorem kvI_len {G : Hp} {ks : List (Int × V)} {kvs : List (D × D)} (hk : KvI K G ks kvs) : ks.length = kvs.length := by
  induction hk with
  | nil => rfl
  | cons _ _ ih => simp [ih]
theorem kvN_len {G : Hp} {ks : List (NestedKey × Addr × V)} {kvs : List (D × D)} (hk : KvN K G ks kvs) : ks.length = kvs.length := by
  induction hk with
  | nil => rfl
  | cons _ _ _ _ _ ih => simp [ih]
theorem set_M (hu : X.A.units + 64 < cLine) (hK : X.K = K := by rfl) : PSet X (rSetM K) := by
  subst hK
  intro pins s σ H o i v ov iv u Q I ro ri rv h
  obtain ⟨a, ob, tk, kvs, d, dv, G, rfl, ha, sg, ho, hd, hk, hv, hl, q⟩ := h
  cases ro
  cases ho with
  | i hkv =>
    rcases keyOk_i hk with ⟨_, j, rfl⟩ | ⟨h, _⟩
    · have ev := dp_int hd
      subst ev
      obtain ⟨ks', e1, e2⟩ := put_int hkv j hv
      have g := DPut.k (k := .inl j) (v := v) ha (by rw [List.length_map, kvI_len hkv, sizeLine_eq]; omega)
      rw [e1] at g
      exact d_setItem (by omega) I g ri rv fun s' I' => ⟨_, I', q _ (.i e2)⟩
    · cases h
  | n hkv =>
    rcases keyOk_i hk with ⟨h, _⟩ | ⟨_, ds, n, rfl, en, hn⟩
    · cases h
    · have hkv' := kvN_same sg hkv
      obtain ⟨z1, hs, xs, lx, dd⟩ := nest_of I ha hkv'
      obtain ⟨b, vs, rfl, _, _⟩ := dp_tup hd
      cases ri
      have hd' := dp_same sg _ _ hd
      obtain ⟨L', l1, l2, l3⟩ := put_nest hkv lx en hn hd hv rv
      have hz : xs.length ≤ sizeLine := by rw [← Paired.length lx]; exact z1
      have ll := kvN_len hkv
      refine wpAny_setItem_heap (hsz := hz) (room8 hu) ⟨nested_is I _ _ _ _ en hd' rfl, hn⟩ dd fun h' dd' hsb => ⟨_, ?_, q _ (.n l2)⟩
      obtain ⟨qo, es, ep, hq, h2, h3, h4, _, h5⟩ := dd'
      refine d_write I (by rw [ha]; exact True.intro) hsb ⟨qo, hq⟩ (nest_ok ⟨by rw [sizeLine_eq]; omega, hs, _, l1, ⟨qo, es, ep, hq, h2, h3, fun w' => ?_⟩, h5⟩)
      rw [h4]
      refine List.map_congr_left fun x hx => ?_
      have nt : ∀ (L : List (NestedKey × Addr × V)) (kvs : List (D × D)) (xs : List (NestedKey × Addr × Value)), KvN X.K G L kvs → LX L xs → ∀ x ∈ xs, ∃ k, toNK k = some x.1 := by
        intro L kvs xs hk
        induction hk generalizing xs with
        | nil => intro hp x hx; cases hp; cases hx
        | cons q1 _ _ _ _ ih =>
          intro hp x hx
          cases hp with
          | cons r t =>
            rcases List.mem_cons.mp hx with rfl | hx
            · exact ⟨_, by rw [← r.1]; exact q1⟩
            · exact ih _ t x hx
      obtain ⟨k, ek⟩ := nt _ _ _ l2 l1 x hx
      show (⟨x.1.hash X.w, .ref x.2.1, x.2.2⟩ : DictEntry) = ⟨x.1.hash w', .ref x.2.1, x.2.2⟩
      rw [hash_any ek]
end
end Z
namespace Z
open PySem PySem.Spec PyProof.Rows L2
/-! ### dicts of one's own: mirrors -/
def mNewM (P : Nat) (tk : Bool) (i : Nat) : Env → Out := fun ρ => .nx (ρ.set i (some (.m tk [])))
def mInM (neg : Bool) (ma : Env → Res R) (j : Nat) : Env → Res R := fun ρ => (ma ρ).bind fun r ρ1 => match opd ρ1 r, ρ1[j]? with
  | some d, some (some (S.m tk kvs)) => if keyOk tk d = true then .ok (.d (.bool (neg ^^ (atM kvs d).isSome))) ρ1 else .no
  | _, _ => .no
def mGetM (j : Nat) (mi : Env → Res R) : Env → Res R := fun ρ => match ρ[j]? with
  | some (some (S.m _ _)) => (mi ρ).bind fun r ρ1 => (match opd ρ1 r, ρ1[j]? with
    | some d, some (some (S.m tk kvs)) => if keyOk tk d = true then (match atM kvs d with
        | some z => .ok (.d z) ρ1
        | none => .no) else .no
    | _, _ => .no)
  | _ => .no
def mPutM (P j : Nat) (me mi : Env → Res R) : Env → Out := fun ρ => match me ρ with
  | .ok r ρ1 => (match frz1 P ρ1 r with
    | some ρ2 => (match ρ2[j]? with
      | some (some (S.m _ _)) => (match mi ρ2 with
        | .ok r2 ρ3 => (match dopd ρ3 r, dopd ρ3 r2, ρ3[j]? with
          | some x, some k, some (some (S.m tk kvs)) => if keyOk tk k = true ∧ kvs.length < 1000000 then .nx (ρ3.set j (some (.m tk (putM kvs k x)))) else .no
          | _, _, _ => .no)
        | .exc c ρ3 => .exc c ρ3
        | .no => .no)
      | _ => .no)
    | none => .no)
  | .exc c ρ1 => .exc c ρ1
  | .no => .no
/-- list(x) -/
def mListM (j : Nat) : Env → Res R := fun ρ => match ρ[j]? with
  | some (some (S.m false kvs)) => if kvs.length < 1000000 then .ok (.o (kvs.map (·.1))) ρ else .no
  | _ => .no
section
variable {K : PySem.W.Frag} {P : Nat} {W : Wish} {ta ti te : TE} {ma mi me : Env → Res R}
theorem sim_newM {tk : Bool} {i : Nat} (hi : P ≤ i) : SimS K P W (tAsg (tNewM tk) (gName i)) (mNewM P tk i) := by
  intro f G H σ ρ D hp rl hq p np
  have gr := Grow.fresh (o := if tk = true then NestO p [] else .dK []) rl.gh np
  refine hq G _ _ (.refl _) ((rl.grow gr).putS (xs := .m tk []) hp hi rfl (o := if tk = true then NestO p [] else .dK []) upd_same ?_ (rl.gh.free np) (rl.fh.free np) fun k s e hs z => ?_)
  · cases tk with
    | true => exact .n .nil
    | false => exact .i (ks := []) .nil
  · obtain ⟨p', o, w1, w2, _⟩ := rl.ow k s e hs
    rw [z] at w1
    cases w1
    rw [np] at w2
    cases w2
theorem sim_inM {neg : Bool} {j : Nat} (h : SimE K P W ta ma) : SimE K P W (tOp (rInM K neg) ta (tVar j)) (mInM neg ma j) := by
  intro f G H σ ρ Q hp rl hq
  refine h.op hp rl ?_
  unfold mInM at hq
  cases e : ma ρ with
  | no => rw [e] at hq; exact hq
  | exc c ρ1 => rw [e] at hq; exact hq
  | ok r ρ1 =>
    rw [e] at hq
    intro v G1 H1 s1 rl1 h1
    simp only [Res.bind] at hq
    split at hq
    · next d tk kvs e1 e2 =>
      split at hq
      · next hk =>
        obtain ⟨p, o, w1, w2, w3, w4, w5⟩ := rl1.ow j _ e2 rfl
        exact ⟨_, w1, p, o, tk, kvs, d, rfl, w2, w3.same rl1.gh, (h1.got rl1 e1).dp rl1.gh, hk, hq _ G1 H1 s1 rl1 (.bl _)⟩
      · exact hq.elim
    · exact hq.elim
theorem sim_getM {j : Nat} (h : SimE K P W ti mi) : SimE K P W (tOp (rIxM K) (tVar j) ti) (mGetM j mi) := by
  intro f G H σ ρ Q hp rl hq
  unfold mGetM at hq
  split at hq
  · next tk0 kvs0 e0 =>
    obtain ⟨p, o, w1, w2, w3, w4, w5⟩ := rl.ow j _ e0 rfl
    refine ⟨_, w1, ?_⟩
    refine h.op hp rl ?_
    cases e : mi ρ with
    | no => rw [e] at hq; exact hq
    | exc c ρ1 => rw [e] at hq; exact hq
    | ok r ρ1 =>
      rw [e] at hq
      intro v G1 H1 s1 rl1 h1
      simp only [Res.bind] at hq
      split at hq
      · next d tk kvs e1 e2 =>
        split at hq
        · next hk =>
          split at hq
          · next z ez =>
            obtain ⟨p', o', z1, z2, z3, z4, z5⟩ := rl1.ow j _ e2 rfl
            rw [w1] at z1
            cases z1
            obtain ⟨G2, s2, rl2, hd⟩ : ∃ G2, Same G1 G2 ∧ Rel K f G2 H1 σ ρ1 ∧ Dp K G2 v d := by
              have hg := h1.got rl1 e1
              rcases hg with hg | ⟨b, us, xs, rfl, rfl, _⟩
              · exact ⟨G1, .refl _, rl1, hg⟩
              · cases hk
            obtain ⟨p', o', z1, z2, z3, z4, z5⟩ := rl2.ow j _ e2 rfl
            rw [w1] at z1
            cases z1
            exact ⟨p, o', tk, kvs, d, z, G2, rfl, z2, rl2.gh, z3, hd, hk, ez, fun v hv => hq v G2 H1 (s1.trans s2) rl2 hv⟩
          · exact hq.elim
        · exact hq.elim
      · exact hq.elim
  · exact hq.elim
theorem sim_putM {j : Nat} (h : SimE K P W te me) (h2 : SimE K P W ti mi) : SimS K P W (tAsg te (L2.gSub (tVar j) ti (rSetM K))) (mPutM P j me mi) := by
  intro f G H σ ρ D hp rl hq
  refine h.op hp rl ?_
  unfold mPutM at hq
  cases e : me ρ with
  | no => rw [e] at hq; exact hq
  | exc c ρ1 => rw [e] at hq; exact fun G1 H1 s1 rl1 => hq G1 H1 σ s1 rl1
  | ok r ρ1 =>
    rw [e] at hq
    intro v G1 H1 s1 rl1 h1
    simp only at hq
    split at hq
    · next ρ2 e2 =>
      obtain ⟨G2, s2, rl2⟩ := rl1.frz1 hp e2
      split at hq
      · next tk0 kvs0 e0 =>
        obtain ⟨p, o0, q1, _⟩ := rl2.ow j _ e0 rfl
        refine ⟨_, q1, h2.op hp rl2 ?_⟩
        cases e3 : mi ρ2 with
        | no => rw [e3] at hq; exact hq.elim
        | exc c ρ3 => rw [e3] at hq; exact fun G3 H3 s3 rl3 => hq G3 H3 σ ((s1.trans s2).trans s3) rl3
        | ok r3 ρ3 =>
          rw [e3] at hq
          intro w G3 H3 s3 rl3 h3
          simp only at hq
          split at hq
          · next x k tk kvs e4 e5 e6 =>
            split at hq
            · next hk =>
              obtain ⟨hk, hl⟩ := hk
              obtain ⟨p', ob, w1, w2, w3, w4, w5⟩ := rl3.ow j _ e6 rfl
              rw [q1] at w1
              cases w1
              have hx : Dp K G3 v x := ((h1.same s2).same s3).dat rl3 e4
              have hkd : Dp K G3 w k := h3.dat rl3 e5
              exact ⟨p, ob, tk, kvs, k, x, G3, rfl, w2, rl3.gh, w3, hkd, hk, hx, hl, fun ob' ho' => hq G3 _ σ ((s1.trans s2).trans s3) (rl3.changeS e6 rfl rfl q1 w4 w5 ho')⟩
            · exact hq.elim
          · exact hq.elim
      · exact hq.elim
    · exact hq.elim
theorem sim_listM {j : Nat} : SimE K P W (tCB (rListM K) (tCons (tVar j) tNil)) (mListM j) := by
  intro f G H σ ρ Q hp rl hq
  unfold mListM at hq
  split at hq
  · next kvs e =>
    split at hq
    · next hl =>
      obtain ⟨p, o, w1, w2, w3, w4, w5⟩ := rl.ow j _ e rfl
      refine ⟨_, w1, p, o, kvs, rfl, w2, w3.same rl.gh, fun q ns nq en => ?_⟩
      have gr := Grow.fresh (o := .lst (ns.map V.int)) rl.gh nq
      refine hq _ G _ (.refl _) (rl.grow gr) (NewV.vrep rl gr ⟨q, _, rfl, nq, upd_same, ?_, rl.gh.free nq⟩)
      rw [en]
      exact dpAll_ofInts ns
    · exact hq.elim
  · exact hq.elim
end
/-! rows for simp -/
section
variable {P j i : Nat} {neg tk : Bool} {ρ : Env} {ma mi me : Env → Res R}
def inMK (neg : Bool) (j : Nat) (r : R) (ρ1 : Env) : Res R := match opd ρ1 r, ρ1[j]? with
  | some d, some (some (S.m tk kvs)) => if keyOk tk d = true then .ok (.d (.bool (neg ^^ (atM kvs d).isSome))) ρ1 else .no
  | _, _ => .no
theorem mInM_k : mInM neg ma j ρ = (ma ρ).bind (inMK neg j) := nonrfl rfl
theorem inMK_eq {r : R} : inMK neg j r ρ = (match opd ρ r, ρ[j]? with
  | some d, some (some (S.m tk kvs)) => if keyOk tk d = true then .ok (.d (.bool (neg ^^ (atM kvs d).isSome))) ρ else .no
  | _, _ => .no) := nonrfl rfl
def getMK (j : Nat) (r : R) (ρ1 : Env) : Res R := match opd ρ1 r, ρ1[j]? with
    | some d, some (some (S.m tk kvs)) => if keyOk tk d = true then (match atM kvs d with
        | some z => .ok (.d z) ρ1
        | none => .no) else .no
    | _, _ => .no
theorem mGetM_k : mGetM j mi ρ = (match ρ[j]? with
  | some (some (S.m _ _)) => (mi ρ).bind (getMK j)
  | _ => .no) := nonrfl rfl
theorem getMK_eq {r : R} : getMK j r ρ = (match opd ρ r, ρ[j]? with
    | some d, some (some (S.m tk kvs)) => if keyOk tk d = true then (match atM kvs d with
        | some z => .ok (.d z) ρ
        | none => .no) else .no
    | _, _ => .no) := nonrfl rfl
def putK2 (P j : Nat) (r : R) : Res R → Out
  | .ok r2 ρ3 => (match dopd ρ3 r, dopd ρ3 r2, ρ3[j]? with
    | some x, some k, some (some (S.m tk kvs)) => if keyOk tk k = true ∧ kvs.length < 1000000 then .nx (ρ3.set j (some (.m tk (putM kvs k x)))) else .no
    | _, _, _ => .no)
  | .exc c ρ3 => .exc c ρ3
  | .no => .no
def putK1 (P j : Nat) (mi : Env → Res R) : Res R → Out
  | .ok r ρ1 => (match frz1 P ρ1 r with
    | some ρ2 => (match ρ2[j]? with
      | some (some (S.m _ _)) => putK2 P j r (mi ρ2)
      | _ => .no)
    | none => .no)
  | .exc c ρ1 => .exc c ρ1
  | .no => .no
theorem mPutM_k : mPutM P j me mi ρ = putK1 P j mi (me ρ) := by
  unfold mPutM putK1
  cases me ρ with
  | ok r ρ1 =>
    simp only []
    cases frz1 P ρ1 r with
    | none => rfl
    | some ρ2 =>
      simp only []
      split
      · unfold putK2
        cases mi ρ2 <;> rfl
      · rfl
  | _ => rfl
theorem putK1_ok {r : R} : putK1 P j mi (.ok r ρ) = (match frz1 P ρ r with
    | some ρ2 => (match ρ2[j]? with
      | some (some (S.m _ _)) => putK2 P j r (mi ρ2)
      | _ => .no)
    | none => .no) := nonrfl rfl
theorem putK2_ok {r r2 : R} : putK2 P j r (.ok r2 ρ) = (match dopd ρ r, dopd ρ r2, ρ[j]? with
    | some x, some k, some (some (S.m tk kvs)) => if keyOk tk k = true ∧ kvs.length < 1000000 then .nx (ρ.set j (some (.m tk (putM kvs k x)))) else .no
    | _, _, _ => .no) := nonrfl rfl
theorem mNewM_k : mNewM P tk i ρ = .nx (ρ.set i (some (.m tk []))) := nonrfl rfl
theorem mListM_k : mListM j ρ = (match ρ[j]? with
  | some (some (S.m false kvs)) => if kvs.length < 1000000 then .ok (.o (kvs.map (·.1))) ρ else .no
  | _ => .no) := nonrfl rfl
end
end Z
namespace Z
open PySem PySem.Spec PyProof.Rows L2
/-! ### pieces of the text that are left open: nothing is said of them, and nothing may come there -/
def tNoE : TE := fun _ _ _ => False
def tNoS : TS := fun _ _ _ => False
def mNoE : Env → Res R := fun _ => .no
def mNoS : Env → Out := fun _ => .no
theorem pe_no {X : Cx} {e : Expr} : PE X e tNoE := ⟨fun _ _ _ _ _ _ h => h.elim⟩
theorem ps_no {X : Cx} {st : Stmt} : PS X st tNoS := ⟨fun _ _ _ _ _ _ h => h.elim⟩
section
variable {K : PySem.W.Frag} {P : Nat} {W : Wish}
theorem sim_noE : SimE K P W tNoE mNoE := fun _ _ _ _ _ _ _ _ h => h.elim
theorem sim_noS : SimS K P W tNoS mNoS := fun _ _ _ _ _ _ _ _ h => h.elim
/-! ### list + list -/
def rCatL (K : PySem.W.Frag) : R2 := fun x y H Q => ∃ l b xs zs, x = .ref l ∧ y = .ref b ∧ SqL K H l xs ∧ SqL K H b zs ∧ xs.length + zs.length ≤ sizeLine ∧ ∀ p, H p = none → Q (.ref p) (upd H p (.lst (xs ++ zs)))
theorem zcatL {X : Cx} (hK : X.K = K := by rfl) : OpR X (binaryOp .Add) (rCatL K) := by
  subst hK
  intro pins s σ H x y v u Q I rx ry h
  obtain ⟨l, b, xs, zs, rfl, rfl, hH, hB, hz, q⟩ := h
  cases rx
  cases ry
  obtain ⟨vs, r, hl, _⟩ := I.list hH
  obtain ⟨ws, r2, hb, _⟩ := I.list hB
  obtain ⟨⟨cls, dd, data, sl⟩, n, ho, hc, _, hd⟩ := id hl
  obtain ⟨⟨cls2, dd2, data2, sl2⟩, n2, ho2, hc2, _, hd2⟩ := id hb
  simp only at hc hd hc2 hd2
  subst hc hd hc2 hd2
  have e : vs.toArray ++ ws.toArray = (vs ++ ws).toArray := by simp
  refine concat_meets ⟨_, ho, rfl⟩ ⟨_, ho2, rfl⟩ noFill_list_add seq_list_add PySem.F.slot_list_add PySem.F.entry_list_add (PySem.F.args_list_add_2 _ _) (list_addW l b vs.toArray ws.toArray n n2 dd dd2 sl sl2 (by have := r.length; have := r2.length; simp; omega)) ⟨ho, ho2, ?_⟩
  rw [e]
  exact ⟨.ref _, _, I.lnew (t' := s.toks) (r.append r2) (by rw [List.length_append]; omega), rfl, q _ I.fresh⟩
def gCatL : D → D → Option R
  | .list xs, .list ys => if xs.length + ys.length ≤ 1000000 then some (.o (xs ++ ys)) else none
  | _, _ => none
theorem s_catL : OpS K (rCatL K) gCatL := by
  intro G H x y d e z Q s h1 h2 eg hq
  unfold gCatL at eg
  split at eg
  · next xs ys =>
    split at eg
    · next hl =>
      cases eg
      obtain ⟨a, vs, rfl, w1, w2⟩ := h1.lst s
      obtain ⟨b, us, rfl, w3, w4⟩ := h2.lst s
      refine ⟨a, b, vs, us, rfl, rfl, w1, w3, by rw [dpAll_len w2, dpAll_len w4]; exact line_le hl, fun p np => ?_⟩
      exact hq _ G _ (Grow.fresh s np) ⟨p, _, rfl, np, upd_same, dpAll_append w2 w4, s.free np⟩
    · cases eg
  · cases eg
theorem gCatL_l (xs ys : List D) : gCatL (.list xs) (.list ys) = if xs.length + ys.length ≤ 1000000 then some (.o (xs ++ ys)) else none := nonrfl rfl
theorem gCatL_t (xs ys : List D) : gCatL (.tuple xs) (.tuple ys) = none := nonrfl rfl
theorem gCatT_l (xs ys : List D) : gCatT (.list xs) (.list ys) = none := nonrfl rfl
theorem gAltCat_t (xs ys : List D) : gAlt gCatT gCatL (.tuple xs) (.tuple ys) = gCatT (.tuple xs) (.tuple ys) := by
  unfold gAlt
  cases gCatT (.tuple xs) (.tuple ys) <;> rfl
theorem gAltCat_l (xs ys : List D) : gAlt gCatT gCatL (.list xs) (.list ys) = gCatL (.list xs) (.list ys) := rfl
end
end Z
namespace Z
open PySem PySem.Spec PyProof.Rows L2
/-! ### defs of whose last arguments nothing is known (functions that are handed on) -/
def tApp (ta : TA) (zs : List V) : TA := fun σ H Q => ta σ H fun vs H1 => Q (vs ++ zs) H1
def spU (K : PySem.W.Frag) (P k u n : Nat) (WC : XK → Wish) (mb : Env → Out) : Sp := fun vs H Q E => vs.length = k + u ∧ ∃ (pins : List (Option Addr)) (G : Hp) (ss : List S), pins.length = P ∧ ss.length = k ∧
  Rel K ⟨cut H pins, G, pins⟩ G H (vs.map some ++ List.replicate (n - vs.length) none) (env0 n ss) ∧ CS K (WC E) ⟨cut H pins, G, pins⟩ G { nx := fun _ H' => Q .non H', rt := Q } (mb (env0 n ss))
section
variable {P : Program} {w : World} {K : PySem.W.Frag} {mg : Str → Option Value} {base : Heap}
theorem okXU {x qual : Str} {st : Stmt} {f : Addr} {fd : FuncData} {N ps : List Str} {k np kk u n : Nat} {mb : Env → Out} (cl : Nat → Addr) (F : Fun K x qual st f fd) (S : FnScope N ps (defScope st)) (hk : ps.length = kk + u) (hn : N.length = n)
    (body : ∀ (cdv : Value) (A : Around) (outer : List PySem.Env) (s : Shared) (H : Hp) (E : XK), Room k (A.deeper (PyProof.Rows.envOfC qual (defScope st) s.heap.objs.size f cdv)) →
      ∃ t, PSs (cxOf (L2N.CX P w) P w K mg base N qual (defScope st) f cdv A outer s H E) (defBody st) t ∧ SimS K np (WXc cl E) t mb) : FnOk P w K mg base (L2N.CX P w) (k + 1) f fd ps (spU K np kk u n (WXc cl) mb) := by
  obtain ⟨_, _, _, _, _, _, cdv, _, _, rfl, lk, hcd⟩ := F.ex
  refine fn_of lk hcd S (fun vs H Q E h => by rw [hk]; exact h.1) fun A outer s H vs Q E hr h => ?_
  obtain ⟨t, h1, h2⟩ := body cdv A outer s H E hr
  refine ⟨t, h1, ?_⟩
  obtain ⟨hl, pins, G, ss, q1, q2, q3, q4⟩ := h
  subst hn
  exact h2 _ G H _ _ _ q1 q3 q4
end
section
variable {K : PySem.W.Frag} {P : Nat} {W : Wish}
theorem rel_argsU {n : Nat} {G H : Hp} {vs zs : List V} {ds : List D} (gh : Same G H) (h : DpAll K G vs ds) (hn : ds.length + zs.length ≤ n) :
    Rel K ⟨cut H [], G, []⟩ G H ((vs ++ zs).map some ++ List.replicate (n - (vs ++ zs).length) none) (env0 n (ds.map S.d)) := by
  have hl := dpAll_len h
  have nown : ∀ (i : Nat) (s : S), s.own = true → (env0 n (ds.map S.d))[i]? ≠ some (some s) := by
    intro i xs hs q
    have q2 := env0_get q
    rw [List.getElem?_map] at q2
    cases e : ds[i]? with
    | none => rw [e] at q2; cases q2
    | some x => rw [e] at q2; cases q2; cases hs
  refine ⟨?_, gh, ?_, .refl _, fun _ _ z => z, fun i b q => ?_, fun i d q => ?_, fun i xs q hs => absurd q (nown i xs hs), fun i j p xs ys q _ hs => absurd q (nown i xs hs)⟩
  · unfold env0
    simp [hl]
    omega
  · rw [cut_nil]
    exact .refl _
  · simp at q
  · have q2 := env0_get q
    rw [List.getElem?_map] at q2
    cases e : ds[i]? with
    | none => rw [e] at q2; cases q2
    | some x =>
      rw [e] at q2
      cases q2
      obtain ⟨v, w1, w2⟩ := dpAll_get h e
      refine ⟨v, start_get (n := n) ?_, w2⟩
      rw [List.getElem?_append_left (List.getElem?_eq_some_iff.mp w1).1]
      exact w1
/-- a call that may raise, with values behind the looked at ones -/
theorem sim_callSU {ex : Bool} {k u n : Nat} {mb : Env → Out} {WC : XK → Wish} {E : L2.St → XK} {ta tf : TA} {ms : Env → Res (List R)} (zs : List V) (h : SimA K P W ta ms) (hz : tf = tApp ta zs) (hu : zs.length = u) (hn : k + u ≤ n)
    (hx : ex = true → ∀ σ σ' c H, W σ c H → WC (E σ) σ' c H) :
    SimE K P W (tCallS (spU K 0 k u n WC mb) E tf) (mCall0 ex P k n mb ms) := by
  subst hz
  intro f G H σ ρ Q hp rl hq
  refine h f G H σ ρ _ hp rl ?_
  unfold mCall0 at hq
  cases e : ms ρ with
  | no => rw [e] at hq; exact hq
  | exc c ρ1 => rw [e] at hq; exact hq
  | ok rs ρ1 =>
    rw [e] at hq
    intro vs G1 H1 s1 rl1 h1
    simp only [Res.bind] at hq
    split at hq
    · exact hq.elim
    · next ρ2 e2 =>
      obtain ⟨G2, s2, rl2⟩ := rl1.frzA hp e2
      split at hq
      · exact hq.elim
      · next ds e3 =>
        split at hq
        · next hk =>
          have hd : DpAll K G2 vs ds := (h1.same s2).dat rl2 e3
          refine ⟨by rw [List.length_append, dpAll_len hd, hk, hu], [], G2, ds.map S.d, rfl, by rw [List.length_map]; exact hk, rel_argsU rl2.gh hd (by omega), ?_⟩
          have same1 : ∀ {G3 H3 : Hp} {σ' : L2.St} {ρ' : Env}, Rel K ⟨cut H1 [], G2, []⟩ G3 H3 σ' ρ' → Grow G1 H1 G1 H3 := fun rl3 => by
            have gr := grow_of_args rl3
            exact ⟨.refl _, gr.2.1, (s2.trans gr.1).trans gr.2.2.1, fun a z => .inl z⟩
          cases e4 : mb (env0 n (ds.map S.d)) with
          | no => rw [e4] at hq; exact hq.elim
          | bk _ => rw [e4] at hq; exact hq.elim
          | ct _ => rw [e4] at hq; exact hq.elim
          | nx ρ3 =>
            rw [e4] at hq
            intro G3 H3 σ3 s3 rl3
            exact hq .non G1 H3 s1 (rl1.grow (same1 rl3)) .non
          | exc c ρ3 =>
            rw [e4] at hq
            intro G3 H3 σ3 s3 rl3
            simp only at hq
            split at hq
            · next hex => exact hx hex σ σ3 c H3 (hq G1 H3 s1 (rl1.grow (same1 rl3)))
            · exact hq.elim
          | rt s ρ3 =>
            rw [e4] at hq
            intro v G3 H3 σ3 s3 rl3 hv
            have gr := grow_of_args rl3
            cases s with
            | m kvs => exact hq.elim
            | d x =>
              simp only at hq
              split at hq
              · next hf => exact hq v G1 H3 s1 (rl1.grow (same1 rl3)) (flat_dp hv hf)
              · exact hq v G3 H3 ((s1.trans s2).trans gr.1) (rl2.grow gr) hv
            | o xs =>
              obtain ⟨p, us, rfl, w1, w2, w3, w4, _⟩ := hv
              have w4 : cut H1 [] p = none := w4
              rw [cut_nil] at w4
              have nv : NewV K H1 G3 H3 (.ref p) (.o xs) := ⟨p, us, rfl, w4, w1, w2, w3⟩
              exact hq _ G3 H3 ((s1.trans s2).trans gr.1) (rl2.grow gr) (nv.vrep rl2 gr)
        · exact hq.elim
end
end Z
namespace Z
open PySem PySem.Spec PyProof.Rows L2
/-! ### enumerate, of a list or a tuple -/
theorem meets_enumerate_newT (l : Addr) (items : Array Value) (n : Nat) (dct : Option Addr) (sl : Array (Option Value)) :
    Meets (Builtin.«enumerate.__new__» ⟨[.type "enumerate", .ref l], []⟩) (fun _ R s => s.heap.get? l = some { cls := .type "tuple", dict := dct, data := .seq items n, slots := sl } ∧
      R (.ok (.ret (.ref (s.heap.push { cls := .type "tuple_iterator", data := .fields #[.ref l, .int 0 0] }).objs.size)))
        { s with heap := (s.heap.push { cls := .type "tuple_iterator", data := .fields #[.ref l, .int 0 0] }).push { cls := .type "enumerate", data := .fields #[.none, .bool false, .ref s.heap.objs.size, rawInt 0, .none, .none] } }) :=
  .of_wp fun prog w A R s h => by
    obtain ⟨hp, g, d, tk, os⟩ := s; obtain ⟨hl, h⟩ := h
    have hsub := sub_enumerate
    have hL : Heap.IsTuple (Shared.heap ⟨hp, g, d, tk, os⟩) l items := ⟨_, hl, rfl, n, rfl⟩
    wp_walk using PySem.AutoSeq1.wpAny_loadPart' hl
    refine wpAny_stack_any fun st => wpAny_pure ?_
    split
    · rename_i c _ _ _ _ _
      cases (c == Value.type "enumerate")
      · wp_walk using PySem.AutoSeq1.wpAny_loadPart' hl, wpAny_pyIter_tuple hL
        exact ⟨_, rfl, h⟩
      · wp_walk using PySem.AutoSeq1.wpAny_loadPart' hl, wpAny_pyIter_tuple hL
        exact ⟨_, rfl, h⟩
    · wp_walk using PySem.AutoSeq1.wpAny_loadPart' hl, wpAny_pyIter_tuple hL
      exact ⟨_, rfl, h⟩
section
variable {prog : Program} {w : World} {A : Around} {E : Value → Shared → Prop} {s : Shared}
theorem call_enumerate_tup {l : Addr} {items : Array Value} {Q : Value → Shared → Prop} (hL : s.heap.IsTuple l items)
    (h : ∀ h', IsEnum h' (s.heap.objs.size + 1) s.heap.objs.size 0 .none → h'.IsTupleIter s.heap.objs.size l 0 → h'.objs.size = s.heap.objs.size + 2 →
      (∀ b o, s.heap.get? b = some o → h'.get? b = some o) → Q (.ref (s.heap.objs.size + 1)) { s with heap := h' }) :
    wpAny (model prog w) A (call (.type "enumerate") [.ref l]) Q E s := by
  obtain ⟨⟨c, dct, dt, sl⟩, hl, hc, n, hd⟩ := hL
  replace hc : c = .type "tuple" := hc
  replace hd : dt = .seq items n := hd
  subst hc hd
  refine callType_new F.called_enumerate (by decide) (F.typeCall_enumerate_1 _) (F.newCall_enumerate_1 _) (fun obj => F.args_object_init_2 obj _) F.entry_enumerate_new
    (meets_enumerate_newT l items n dct sl) ⟨hl, ?_⟩
  have hz : (s.heap.push { cls := .type "tuple_iterator", data := .fields #[.ref l, .int 0 0] }).objs.size = s.heap.objs.size + 1 := Heap.size_push ..
  show _ ∧ _
  rw [hz]
  have he : IsEnum ((s.heap.push { cls := .type "tuple_iterator", data := .fields #[.ref l, .int 0 0] }).push
      { cls := .type "enumerate", data := .fields #[.none, .bool false, .ref s.heap.objs.size, rawInt 0, .none, .none] }) (s.heap.objs.size + 1) s.heap.objs.size 0 .none := by
    have := Heap.get?_push_size (s.heap.push { cls := .type "tuple_iterator", data := .fields #[.ref l, .int 0 0] })
      (o := { cls := .type "enumerate", data := .fields #[.none, .bool false, .ref s.heap.objs.size, rawInt 0, .none, .none] }) rfl
    rw [hz] at this; exact this
  refine ⟨⟨_, he, rfl⟩, h _ he ⟨_, Heap.get?_push_of_some _ (Heap.get?_push_size _ rfl), rfl, rfl⟩ (by rw [Heap.size_push, hz]) fun b o x => Heap.get?_push_of_some _ (Heap.get?_push_of_some _ x)⟩
end
theorem pyNext_enum_endT {prog : Program} {w : World} {A : Around} {E : Value → Shared → Prop} {s : Shared} {e it l : Addr} {i : Nat} {items : Array Value} {old : Value} {Q : Option Value → Shared → Prop} (hh : A.handled = none)
    (he : IsEnum s.heap e it i old) (hit : s.heap.IsTupleIter it l i) (hl : s.heap.IsTuple l items) (hx : items[i]? = none)
    (hQ : ∀ h', Heap.ExtBut it s.heap h' → Q none { s with heap := h' }) : wpAny (model prog w) A (pyNext (.ref e)) Q E s := by
  have hT : s.TypeIs (.ref e) "enumerate" := ⟨_, he, rfl⟩
  unfold pyNext
  refine wpAny_bind (wpAny_attempt (wpAny_callSpecial?_slot (name := Str.ofString "__next__") hT F.slot_enumerate_next
    (wpAny_call_entry F.slot_enumerate_next hT F.entry_enumerate_next ?_ (F.args_enumerate_next_1 _))))
  show wpAny _ _ (field (.ref e) 2 >>= _) _ _ _
  refine wpAny_bind (wpAny_field he rfl (x := .ref it) rfl ?_)
  refine wpAny_bind (wpAny_nextOf_tuple_end hh hit hl hx fun h' x he' hx' => ?_)
  obtain ⟨o, ho, hc⟩ := hx'
  refine wpAny_bind (wpAny_isInstance (T := "StopIteration") (b := true) ⟨o, ho, hc⟩ isSubtype_stop ?_)
  exact wpAny_pure (hQ _ he')
/-- the tuple at a as it stands at each turn, each item in a new pair -/
def IteT (K : PySem.W.Frag) (a : Addr) : It :=
  ⟨fun i H => ∃ (xs : List V) (x : V), SqT K H a xs ∧ xs[i]? = some x, fun i H v H' => ∃ T x, v = .ref T ∧ H T = none ∧ H' = upd H T (.tup [.int (i : Nat), x]) ∧ ∀ xs, SqT K H a xs → xs[i]? = some x, fun i H => ∃ xs : List V, SqT K H a xs ∧ xs.length ≤ i⟩
theorem turn_enumT {P : Program} {w : World} {K : PySem.W.Frag} {elts : List Expr} {kk : Nat} {tpos : Pos} (a e it : Addr) (hna : a ≠ it) :
    Turn P w K (.Tuple elts kk tpos) (IteT K a) [e, it] e (fun i h => (∃ old, IsEnum h e it ((i : Nat) : Int) old) ∧ h.IsTupleIter it a i ∧ e ≠ it ∧ e ≠ a) where
  mem := by simp
  obj := fun i h st b hb => by
    obtain ⟨⟨old, he⟩, ⟨o, ho, hc, hd⟩, _⟩ := st
    have e' : b = e ∨ b = it := by simpa using hb
    rcases e' with z | z
    · rw [z]; exact ⟨_, he, fun v q => nomatch q⟩
    · rw [z]; exact ⟨o, ho, fun v q => by rw [hd] at q; cases q⟩
  keep := fun i h h' st k => let ⟨⟨old, he⟩, hi, hne⟩ := st; ⟨⟨old, k e (by simp) _ he⟩, hi.at fun o q => k it (by simp) o q, hne⟩
  item := by
    intro X hP hw hK hc i pins s σ H E I hf st hg
    subst hP hw hK
    obtain ⟨⟨old, he⟩, hit, hne, hea⟩ := st
    obtain ⟨xs, x, hq, hx⟩ := hg
    obtain ⟨its, rv, p, hz⟩ := I.tuple hq
    obtain ⟨u, hu, ru⟩ := rv.get hx
    have p : s.heap.IsTuple a its.toArray := p
    have hel : e < s.heap.objs.size := Heap.lt_size he
    have hil : it < s.heap.objs.size := by obtain ⟨_, q, _⟩ := hit; exact Heap.lt_size q
    have D := Draws.tuple (prog := X.prog) (w := X.w) (A := X.A.in1) (by show X.A.handled = none; exact I.ok.hd hc) it a hna its.toArray
    have hi : i < its.toArray.size := by
      have := (List.getElem?_eq_some_iff.mp hu).1
      simpa using this
    refine wpAny_pyNext_enum_itemD D he ⟨hit, p⟩ hi hne (by simp [hne, hea]) fun x' h' tk hx' ho hit' hT hsz hk => ?_
    obtain rfl : x' = u := by
      have : its.toArray[i]? = some u := by simpa using hu
      rw [this] at hx'
      exact (Option.some.inj hx').symm
    refine ⟨_, rfl, wpAny_letOwnedTupleGo_enum (s := { s with heap := h', toks := tk + 1 }) ho fun h'' he' sb => ?_⟩
    have hT2 : h''.get? s.heap.objs.size = some { cls := .type "tuple", data := .seq #[.int i tk, x'] } := (sb.2 _ (Nat.ne_of_gt hel)).trans hT
    have new : ObjOk X.prog X.w (upd H s.heap.objs.size (.tup [.int (i : Nat), x])) h'' s.heap.objs.size (.tup [.int (i : Nat), x]) :=
      ⟨by show 2 ≤ sizeLine; decide, [.int i tk, x'], .cons ⟨_, rfl⟩ (.cons ru .nil), ⟨_, hT2, rfl, _, rfl⟩⟩
    have I1 : Inv X pins σ (upd H s.heap.objs.size (.tup [.int (i : Nat), x])) { s with heap := h'', toks := tk + 1 } :=
      I.turnedNew (ch := [e, it]) (fun b ob hb q => (sb.2 b (fun z => hb (by simp [z]))).trans (hk b ob (fun z => hb (by simp [z])) (fun z => hb (by simp [z])) q)) hf (Nat.le_refl _) new
    refine ⟨.ref s.heap.objs.size, _, I1, rfl, ⟨_, x, rfl, I.hok.fresh (Nat.le_refl _), rfl, fun ys hy => ?_⟩, ⟨⟨x', ?_⟩, hit'.1.at fun o q => (sb.2 it (Ne.symm hne)).trans q, hne, hea⟩, fun b hb => ?_⟩
    · rw [I.tuple_inj hy hq]; exact hx
    · have e1 : ((i + 1 : Nat) : Int) = (i : Int) + 1 := by omega
      rw [e1]; exact he'
    · have hb' : b < s.heap.objs.size := by
        have e' : b = e ∨ b = it := by simpa using hb
        rcases e' with z | z
        · rw [z]; exact hel
        · rw [z]; exact hil
      rw [upd_ne (Nat.ne_of_lt hb')]
      exact (hf b hb).1
  done := by
    intro X hP hw hK hc i pins s σ H E I hf st hg
    subst hP hw hK
    obtain ⟨⟨old, he⟩, hit, hne, hea⟩ := st
    obtain ⟨xs, hq, hx⟩ := hg
    obtain ⟨its, rv, p, hz⟩ := I.tuple hq
    have p : s.heap.IsTuple a its.toArray := p
    obtain ⟨f0, f1, f2, f3, f4, f5⟩ := hf it (by simp)
    have hl := rv.length
    exact pyNext_enum_endT (I.ok.hd hc) he hit p (by simp; omega) fun h' eb => ⟨rfl, I.turned (t' := s.toks) (fun b o hb q => eb b o hb q) f0 f1 f3 f4 f5⟩
  self := fun A i s Q E st h => let ⟨⟨_, he⟩, _⟩ := st; wpAny_pyIter_enum he h
def iEnA (K : PySem.W.Frag) (ta : TA) : TI := fun σ H R => ta σ H fun vs H1 => ∃ a, vs = [.ref a] ∧ (((∃ xs, SqL K H1 a xs) ∧ R (Ite K a) H1) ∨ ((∃ xs, SqT K H1 a xs) ∧ R (IteT K a) H1))
theorem zpi_enum {X : Cx} {K : PySem.W.Frag} {e : Expr} {ta : TA} {p pos tpos : Pos} {elts : List Expr} {kk : Nat} (hg : Gl X "enumerate") (hm : X.mg "enumerate" = none) (ha : PA X [e] ta) (hs : starEach [e] X.env = [(false, eval e X.env)] := by rfl) (hK : X.K = K := by rfl) :
    PI X (.Tuple elts kk tpos) (.Call (.Name "enumerate" p) [e] [] pos) (iEnA K ta) := by
  subst hK
  refine ⟨fun pins s σ H R I h => ?_⟩
  refine Call_ (ld_blt I hg hm boot_enumerate (PyProof.Rows.callWith_type1 (thn (ha.run pos pins s σ H _ I h) fun us s1 ⟨vs, H1, I1, r1, q1⟩ => ?_) hs rfl))
  obtain ⟨a, ex, q1⟩ := q1
  subst ex
  cases r1 with
  | cons r rr =>
    cases rr
    cases r
    have fin : ∀ b, b = s1.heap.objs.size + 1 ∨ b = s1.heap.objs.size → FpOk X pins H1 b := fun b e' => by
      have hle : s1.heap.objs.size ≤ b := by
        rcases e' with z | z
        · rw [z]; exact Nat.le_add_right _ _
        · rw [z]; exact Nat.le_refl _
      exact I1.fpOk hle (I1.hok.fresh hle)
    rcases q1 with ⟨⟨xs, hq⟩, q⟩ | ⟨⟨xs, hq⟩, q⟩
    · obtain ⟨its, rv, p', hz⟩ := I1.list hq
      refine call_enumerate_list p'.isList fun h' he hit hsz hk => wpAny_pyIter_enum he ?_
      have I2 : Inv X pins σ H1 { s1 with heap := h' } := I1.kept (t' := s1.toks) hk
      exact ⟨s1.heap.objs.size + 1, [s1.heap.objs.size + 1, s1.heap.objs.size], _, _, H1, rfl, I2, turn_enum a (s1.heap.objs.size + 1) s1.heap.objs.size, ⟨⟨.none, he⟩, hit, Nat.succ_ne_self _⟩, fun b hb => fin b (by simpa using hb), q⟩
    · obtain ⟨its, rv, p', hz⟩ := I1.tuple hq
      have p' : s1.heap.IsTuple a its.toArray := p'
      have ha : a < s1.heap.objs.size := by obtain ⟨o, ho, _⟩ := p'; exact Heap.lt_size ho
      refine call_enumerate_tup p' fun h' he hit hsz hk => wpAny_pyIter_enum he ?_
      have I2 : Inv X pins σ H1 { s1 with heap := h' } := I1.kept (t' := s1.toks) hk
      exact ⟨s1.heap.objs.size + 1, [s1.heap.objs.size + 1, s1.heap.objs.size], _, _, H1, rfl, I2, turn_enumT a (s1.heap.objs.size + 1) s1.heap.objs.size (Nat.ne_of_lt ha), ⟨⟨.none, he⟩, hit, Nat.succ_ne_self _, Nat.ne_of_gt (Nat.lt_succ_of_lt ha)⟩, fun b hb => fin b (by simpa using hb), q⟩
def enumD (ds : List D) : List D := (List.range ds.length).map fun (k : Nat) => .tuple [.int (k : Int), ds.getD k .none]
theorem enumD_get {ds : List D} {i : Nat} {d : D} (h : (enumD ds)[i]? = some d) : ∃ x, ds[i]? = some x ∧ d = .tuple [.int (i : Int), x] := by
  unfold enumD at h
  rw [List.getElem?_map] at h
  by_cases hi : i < ds.length
  · rw [List.getElem?_range hi] at h
    cases h
    exact ⟨ds[i], List.getElem?_eq_getElem hi, by show PyData.tuple [_, ds.getD i .none] = _; rw [List.getD_eq_getElem?_getD, List.getElem?_eq_getElem hi]; rfl⟩
  · rw [List.getElem?_eq_none (by rw [List.length_range]; omega)] at h
    cases h
theorem enumD_len (ds : List D) : (enumD ds).length = ds.length := by simp [enumD]
def mEnum (P : Nat) (ma : Env → Res (List R)) : Env → Res (List D) := fun ρ => (ma ρ).bind fun rs ρ1 => match rs with
  | [r] => (match frz1 P ρ1 r with
    | some ρ2 => (match dopd ρ2 r with
      | some (.list ds) => .ok (enumD ds) ρ2
      | some (.tuple ds) => .ok (enumD ds) ρ2
      | _ => .no)
    | none => .no)
  | _ => .no
section
variable {K : PySem.W.Frag} {P : Nat} {W : Wish} {ta : TA} {ma : Env → Res (List R)}
theorem walk_pair {F G1 H1 : Hp} {T : Addr} {i : Nat} {x : V} {d : D} (s2 : Same G1 H1) (hT : H1 T = none) (hd : Dp K G1 x d) :
    Grow G1 H1 (upd G1 T (.tup [.int (i : Nat), x])) (upd H1 T (.tup [.int (i : Nat), x])) ∧ Dp K (upd G1 T (.tup [.int (i : Nat), x])) (.ref T) (.tuple [.int (i : Int), d]) := by
  have gr : Grow G1 H1 (upd G1 T (.tup [.int (i : Nat), x])) (upd H1 T (.tup [.int (i : Nat), x])) := Grow.data s2 hT
  exact ⟨gr, .tup (.inl (.inl upd_same)) (.cons (.int _) (.cons (dp_same gr.1 _ _ hd) .nil))⟩
theorem walk_enumL {F G : Hp} {a : Addr} {vs : List V} {ds : List D} (h : SqL K G a vs) (hd : DpAll K G vs ds) : Walk K F G (Ite K a) (enumD ds) := by
  intro G1 H1 s1 s2 _
  have hs : SqL K H1 a vs := (s1.trans s2).seq h
  refine ⟨fun i d e => ?_, fun i hi => ⟨vs, hs, by rw [dpAll_len hd]; rw [enumD_len] at hi; exact hi⟩⟩
  obtain ⟨x, ex, rfl⟩ := enumD_get e
  obtain ⟨v, q1, q2⟩ := dpAll_get hd ex
  refine ⟨⟨vs, v, hs, q1⟩, fun y H2 hy => ?_⟩
  obtain ⟨T, x', rfl, hT, rfl, fv⟩ := hy
  obtain rfl : x' = v := Option.some.inj ((fv _ hs).symm.trans q1)
  exact ⟨_, walk_pair (F := F) s2 hT (dp_same s1 _ _ q2)⟩
theorem walk_enumT {F G : Hp} {a : Addr} {vs : List V} {ds : List D} (h : SqT K G a vs) (hd : DpAll K G vs ds) : Walk K F G (IteT K a) (enumD ds) := by
  intro G1 H1 s1 s2 _
  have hs : SqT K H1 a vs := sqT_same (s1.trans s2) h
  refine ⟨fun i d e => ?_, fun i hi => ⟨vs, hs, by rw [dpAll_len hd]; rw [enumD_len] at hi; exact hi⟩⟩
  obtain ⟨x, ex, rfl⟩ := enumD_get e
  obtain ⟨v, q1, q2⟩ := dpAll_get hd ex
  refine ⟨⟨vs, v, hs, q1⟩, fun y H2 hy => ?_⟩
  obtain ⟨T, x', rfl, hT, rfl, fv⟩ := hy
  obtain rfl : x' = v := Option.some.inj ((fv _ hs).symm.trans q1)
  exact ⟨_, walk_pair (F := F) s2 hT (dp_same s1 _ _ q2)⟩
theorem sim_enum (h : SimA K P W ta ma) : SimI K P W (iEnA K ta) (mEnum P ma) := by
  intro f G H σ ρ Q hp rl hq
  refine h f G H σ ρ _ hp rl ?_
  unfold mEnum at hq
  cases e : ma ρ with
  | no => rw [e] at hq; exact hq
  | exc c ρ1 => rw [e] at hq; exact hq
  | ok rs ρ1 =>
    rw [e] at hq
    intro vs G1 H1 s1 rl1 h1
    simp only [Res.bind] at hq
    split at hq
    · next r =>
      cases h1 with
      | cons a1 a2 =>
        cases a2
        split at hq
        · next ρ2 e2 =>
          obtain ⟨G2, s2, rl2⟩ := rl1.frz1 hp e2
          split at hq
          · next ds e3 =>
            obtain ⟨a, xs, rfl, q1, q2⟩ := dp_lst ((a1.same s2).dat rl2 e3)
            exact ⟨a, rfl, .inl ⟨⟨xs, rl2.gh.seq q1⟩, hq _ G2 H1 (s1.trans s2) rl2 (walk_enumL q1 q2)⟩⟩
          · next ds e3 =>
            obtain ⟨a, xs, rfl, q1, q2⟩ := dp_tup ((a1.same s2).dat rl2 e3)
            exact ⟨a, rfl, .inr ⟨⟨xs, sqT_same rl2.gh q1⟩, hq _ G2 H1 (s1.trans s2) rl2 (walk_enumT q1 q2)⟩⟩
          · exact hq.elim
        · exact hq.elim
    · exact hq.elim
theorem mEnum_k (ρ : Env) : mEnum P ma ρ = (ma ρ).bind fun rs ρ1 => match rs with
  | [r] => (match frz1 P ρ1 r with
    | some ρ2 => (match dopd ρ2 r with
      | some (.list ds) => .ok (enumD ds) ρ2
      | some (.tuple ds) => .ok (enumD ds) ρ2
      | _ => .no)
    | none => .no)
  | _ => .no := nonrfl rfl
end
end Z
namespace Z
open PySem PySem.Spec PyProof.Rows L2
/-! ### repr of data, where no repr is under way: the law's own def, called from outside -/
theorem guards_top (env : PySem.Env) : (callerA.deeper env).guards = some [] := rfl
def rRepr (K : PySem.W.Frag) : List V → Hp → VK → Prop := fun xs H Q => ∃ a d, xs = [.ref a] ∧ Dp K H (.ref a) d ∧ d.showable = true ∧ d.hasDict = false ∧ d.shown.length ≤ sizeLine ∧ d.depth ≤ 60 ∧ Q (.str d.shown) H
theorem zrepr {X : Cx} {K : PySem.W.Frag} (hu : X.A.units + 64 < cLine) (hg : X.A.guards = some []) (hK : X.K = K := by rfl) : CallR X (.builtin "repr") (rRepr K) := by
  subst hK
  intro pins s σ H xs us Q I r h
  obtain ⟨a, d, rfl, hd, hs, hn, hl, hde, q⟩ := h
  cases r with
  | cons r1 rr =>
    cases rr
    cases r1
    obtain ⟨as, rd⟩ := Dp.reads I d (.ref a) (.ref a) hd rfl
    exact repr_of_reads' rd hs (fun z => by rw [hn] at z; cases z) hg (by omega) (fun _ _ z => z) (fun h' u' tk k => ⟨.str _, H, I.kept k, ⟨_, rfl⟩, q⟩) hl
def shows (d : D) : Bool := d.showable && !d.hasDict && decide (d.shown.length ≤ 1000000) && decide (d.depth ≤ 60)
def cRepr : List D → Option R
  | [.list es] => if shows (.list es) = true then some (.d (.str (PyData.list es).shown)) else none
  | [.tuple es] => if shows (.tuple es) = true then some (.d (.str (PyData.tuple es).shown)) else none
  | _ => none
/-- a def that is called from outside alone -/
structure FnG (P : Program) (w : World) (K : PySem.W.Frag) (mg : Str → Option Value) (base : Heap) (CX : CXT) (k : Nat) (f : Addr) (fd : FuncData) (ps : List Str) (sp : Sp) : Prop where
  top : ∀ (s : Shared) (H : Hp) (args : Args) (us : List Value) (vs : List V) (Q : VK) (E : XK), Room k callerA → Env0 P w K mg base callerA [] s H → BindsTo s fd args (ps.zip us) → Vals vs us → sp vs H Q E →
    codeAny (model P w) callerA (.call (.ref f) args) (CR CX [] P w H s Q E) s
section
variable {P : Program} {w : World} {K : PySem.W.Frag} {mg : Str → Option Value} {base : Heap}
theorem fn_top {CX : CXT} {k : Nat} {f cdA : Addr} {fd : FuncData} {nm qual : Str} {st : Stmt} {N ps : List Str} {sp : Sp} (F : Fun K nm qual st f fd) (S : FnScope N ps (defScope st)) (lens : ∀ vs H Q E, sp vs H Q E → vs.length = ps.length)
    (bd : ∀ (cdv : Value) (s : Shared) (H : Hp) (vs : List V) (Q : VK) (E : XK), Room k (callerA.deeper (envOfC qual (defScope st) s.heap.objs.size f cdv)) → sp vs H Q E →
      ∃ t, PSs (cxOf CX P w K mg base N qual (defScope st) f cdv callerA [] s H E) (defBody st) t ∧ t { nx := fun _ H' => Q .non H', rt := Q } (start N vs) H) : FnG P w K mg base CX (k + 1) f fd ps sp := by
  obtain ⟨_, _, _, _, _, _, cdv, _, _, rfl, found, code⟩ := F.ex
  constructor
  intro s H args us vs Q E room e0 binds vals promise
  have kept : ∀ b o, base.get? b = some o → s.heap.get? b = some o := fun b o e => (e0.bs b o e).1
  have inK : K.In s.heap := e0.mod.kin.keeps kept
  have places : ∀ y ∈ ps.zip us, (defScope st).names.lookup y.1 = some .local ∨ ((defScope st).names.lookup y.1 = some .cell ∧ ((cellsFrom (s.heap.objs.size + 1) (defScope st).names []).lookup y.1).isSome = true) := by
    rintro ⟨n, v⟩ hy
    exact (S.par n (List.of_mem_zip hy).1).imp id fun q => ⟨q, PySem.W.cellsFrom_some _ _ _ (.inl q)⟩
  refine codeAny_call_function room.depth (inK _ _ found) rfl S.co S.gen rfl (PySem.W.codeRec_of inK code) (binds _ _ _ _ ?_)
  refine wpAny_newFunctionEnv_cells S.kind places fun env ee s1 x => ?_
  subst ee
  refine ⟨(e0.mod.nolimit.keeps kept).keeps x.toInCall.keep, codeAny_func ?_⟩
  obtain ⟨t, reading, tq⟩ := bd cdv s H vs Q E (room.deeper _) promise
  have I0 : Inv (cxOf CX P w K mg base N qual (defScope st) f cdv callerA [] s H E) [] (start N vs) H s1 := inv_start S room.hd e0 (lens _ _ _ _ promise) vals x
  refine wpAny_mono (reading.run [] s1 (start N vs) H _ I0 tq) (fun fl s' z => ?_) fun e s' z => z
  rcases fl with _ | _ | _ | u
  all_goals first
    | (obtain ⟨_, _, _, q⟩ := z; exact q.elim)
    | (obtain ⟨σ', H', J, q⟩ := z; exact ⟨V.non, H', J.os, J.bare, J.base, J.hok, rfl, q⟩)
    | (obtain ⟨v, σ', H', J, rv, q⟩ := z; exact ⟨v, H', J.os, J.bare, J.base, J.hok, rv, q⟩)
/-- the call from outside, from a heap in which the script alone may be tracked -/
theorem top_core {mb : Str → Option Value} {CX : CXT} {k : Nat} {fa a : Addr} {fd : FuncData} {x : Str} {sp : Sp} {t : Shared} {us : List Value} {H : Hp}
    (kin : K.In t.heap) (nsm : t.heap.Ns mainGlobals mg) (nsb : t.heap.Ns builtinsNs mb) (boot : ∀ y : Str, y ≠ "__name__" → mb y = bootBuiltins y) (free : t.heap.NoLimit) (quiet : t.gens = #[])
    (at_a : t.heap.get? a = some { cls := .type "list", data := .seq us.toArray }) (room : Room k callerA)
    (F : ∀ base : Heap, K.In base → base.Ns mainGlobals mg → FnG P w K mg base CX k fa fd [x] sp) (bind : ∀ (s : Shared) (u : Value), BindsTo s fd ⟨[u], []⟩ [(x, u)])
    (promise : sp [.ref a] H (fun v _ => v = .bl true) fun _ _ _ => False) (calm : ∀ e s', CX [] H t (fun _ _ _ => False) e s' → False)
    (only : Only H) (ok : HOk P w H t.heap) (one : ∀ b, H b ≠ none → b = a) (out : H a ≠ none → K.lookup a = none) :
    codeAny (model P w) callerA (.call (.ref fa) ⟨[.ref a], []⟩) (fun r s' => r = .ok (.ret (.bool true)) ∧ OldK t.heap s'.heap ∧ s'.os = t.os ∧ AllBare s'.gens) t := by
  have hid : ∀ {b : Addr} {o : Obj}, t.heap.get? b = some o → (b = a → H b = none) → (hidT t.heap H).get? b = some o := by
    intro b o e z
    refine hidT_get e ?_
    exact Classical.byContradiction fun hne => hne (z (one b hne))
  have inB : K.In (hidT t.heap H) := by
    intro b o e
    refine hid (kin b o e) fun z => ?_
    subst z
    refine Classical.byContradiction fun hne => ?_
    rw [out hne] at e
    cases e
  have nsB : ∀ {b : Addr} {m : Str → Option Value}, t.heap.Ns b m → (hidT t.heap H).Ns b m := by
    rintro b m ⟨o, es, ep, e, dat, rest⟩
    refine ⟨o, es, ep, hid e fun z => ?_, dat, rest⟩
    subst z
    rw [at_a] at e
    cases e
    cases (dat : Data.seq us.toArray _ = Data.dict es ep)
  obtain ⟨mc, c1, c2⟩ := free
  have e0 : Env0 P w K mg (hidT t.heap H) callerA [] t H :=
    { frames := rfl, mod := ⟨inB, nsB nsm, ⟨mb, nsB nsb, boot⟩, ⟨mc, nsB c1, c2⟩⟩, bs := fun b o e => of_hidT e, bsz := Nat.le_of_eq (hidT_size _ _), funs := trivial, frf := fun b hb => (List.not_mem_nil hb).elim, hok := ok, bare := .of_eq quiet }
  refine codeAny_mono ((F _ inB (nsB nsm)).top t H ⟨[.ref a], []⟩ [.ref a] [.ref a] _ _ room e0 (bind t (.ref a)) (.cons rfl .nil) promise) fun r s' z => ?_
  rcases r with e | fl
  · exact (calm e s' z).elim
  rcases fl with _ | _ | _ | u
  all_goals first
    | exact False.elim z
    | skip
  obtain ⟨v, H', os, bare, un, ok', rv, rfl⟩ := z
  obtain rfl : u = Value.bool true := rv
  refine ⟨rfl, OldK.of_keep fun b o e => ?_, os, bare⟩
  cases q : H b with
  | none => exact un.keep b o e q (fun z => List.not_mem_nil z) (by simp)
  | some u =>
    obtain z | ⟨ob, xs, z⟩ := only b
    · rw [q] at z
      cases z
    · have was := (ok b _ z).1
      have now := (ok' b _ (un.frzs b ob _ z)).1
      rw [e] at was
      cases was
      exact now
theorem law_top {mb : Str → Option Value} {CX : CXT} {k : Nat} {fa a : Addr} {fd : FuncData} {x : Str} {sp : Sp} {t : Shared} {us : List Value} {ns : List Int}
    (kin : K.In t.heap) (nsm : t.heap.Ns mainGlobals mg) (nsb : t.heap.Ns builtinsNs mb) (boot : ∀ y : Str, y ≠ "__name__" → mb y = bootBuiltins y) (free : t.heap.NoLimit) (quiet : t.gens = #[])
    (at_a : t.heap.get? a = some { cls := .type "list", data := .seq us.toArray }) (whole : IntsAre us ns) (small : ns.length ≤ sizeLine) (room : Room k callerA)
    (F : ∀ base : Heap, K.In base → base.Ns mainGlobals mg → FnG P w K mg base CX k fa fd [x] sp) (bind : ∀ (s : Shared) (u : Value), BindsTo s fd ⟨[u], []⟩ [(x, u)])
    (promise : ∀ H : Hp, Only H → SqL K H a (ns.map V.int) → sp [.ref a] H (fun v _ => v = .bl true) fun _ _ _ => False) (calm : ∀ H e s', CX [] H t (fun _ _ _ => False) e s' → False) :
    codeAny (model P w) callerA (.call (.ref fa) ⟨[.ref a], []⟩) (fun r s' => r = .ok (.ret (.bool true)) ∧ OldK t.heap s'.heap ∧ s'.os = t.os ∧ AllBare s'.gens) t := by
  have vals := vals_ints whole
  cases look : K.lookup a with
  | some o =>
    have same := kin a o look
    rw [at_a] at same
    cases same
    have only : Only fun _ => none := fun _ => .inl rfl
    exact top_core kin nsm nsb boot free quiet at_a room F bind (promise _ only (.inr ⟨_, us.toArray, _, look, rfl, rfl, rfl, by rw [List.size_toArray, whole.length]; exact small, by simpa using vals⟩)) (calm _) only
      (fun _ _ z => nomatch z) (fun _ z => (z rfl).elim) fun z => (z rfl).elim
  | none =>
    have here : ∀ b, (if b = a then some (HO.frz { cls := .type "list", data := .seq us.toArray } (.lst (ns.map V.int))) else none) ≠ none → b = a := fun b z => Classical.byContradiction fun hb => z (if_neg hb)
    have only : Only fun b => if b = a then some (HO.frz { cls := .type "list", data := .seq us.toArray } (.lst (ns.map V.int))) else none := fun b => by
      by_cases hb : b = a
      · exact .inr ⟨_, _, if_pos hb⟩
      · exact .inl (if_neg hb)
    refine top_core kin nsm nsb boot free quiet at_a room F bind (promise _ only (.inl (.inr ⟨_, if_pos rfl⟩))) (calm _) only (fun b u z => ?_) here fun _ => look
    obtain rfl := here b (by rw [z]; exact fun q => nomatch q)
    rw [if_pos rfl] at z
    cases z
    exact ⟨at_a, by rw [List.length_map]; exact small, us, _, vals, at_a⟩
end
theorem walk_top {l : PySem.W.OpenLaw} {n k : Nat} {q : Program} {loose : List Str} {XP : (Str → Option Value) → Heap → Prop} {YP : World → Heap → Prop} {d : DefRec} {K : Params → PySem.W.Frag} {CX : CXT} {sp : PySem.W.Frag → Sp} {x : Str}
    (most : l.most = some n) (small : n ≤ sizeLine) (plain : d.params.defaults = []) (room : Room k callerA) (kin : ∀ (w : World) (h : Heap), YP w h → (K w.params).In h)
    (F : ∀ (w : World) (mg : Str → Option Value) (fa : Addr) (h : Heap), (K w.params).In h → h.Ns mainGlobals mg → mg d.name = some (.ref fa) →
      ∃ fd : FuncData, (∀ (s : Shared) (u : Value), BindsTo s fd ⟨[u], []⟩ [(x, u)]) ∧ ∀ base : Heap, (K w.params).In base → base.Ns mainGlobals mg → FnG l.prog w (K w.params) mg base CX k fa fd [x] (sp (K w.params)))
    (promise : ∀ (K : PySem.W.Frag) (H : Hp) (a : Addr) (ns : List Int), ns.length ≤ n → Only H → SqL K H a (ns.map V.int) → sp K [.ref a] H (fun v _ => v = .bl true) fun _ _ _ => False)
    (calm : ∀ (H : Hp) (s : Shared) (e : Value) (s' : Shared), CX [] H s (fun _ _ _ => False) e s' → False) :
    PySem.W.WalkO q loose XP YP l.row.toRowW d [] (fun f vs => PySem.call f vs) := by
  refine Att.attach_call most plain fun w s₀ s₁ mg mb fa o pm cd doc a vs ns G Y ho hd hcd hmg hobj hints hlen hg => ?_
  obtain ⟨fd, bind, FF⟩ := F w mg fa _ (kin w _ Y) G.T.g hmg
  exact law_top (kin w _ Y) G.T.g G.T.b G.T.builtins G.T.nolimit hg hobj hints (Nat.le_trans hlen small) room FF bind (promise _ · a ns hlen) fun H e s' => calm H s₁ e s'
section
variable {P : Program} {w : World} {K : PySem.W.Frag} {mg : Str → Option Value} {base : Heap}
theorem okT {x qual : Str} {st : Stmt} {f : Addr} {fd : FuncData} {N ps : List Str} {k np kk n : Nat} {mb : Env → Out} (F : Fun K x qual st f fd) (S : FnScope N ps (defScope st)) (hk : ps.length = kk) (hn : N.length = n)
    (body : ∀ (cdv : Value) (s : Shared) (H : Hp) (E : XK), Room k (callerA.deeper (envOfC qual (defScope st) s.heap.objs.size f cdv)) →
      ∃ t, PSs (cxOf CX0 P w K mg base N qual (defScope st) f cdv callerA [] s H E).nox (defBody st) t ∧ SimS K np (W0 E) t mb) : FnG P w K mg base CX0 (k + 1) f fd ps (spM K np kk n W0 mb) := by
  refine fn_top (cdA := f) F S (fun vs H Q E h => by rw [hk]; exact h.1) fun cdv s H vs Q E hr h => ?_
  obtain ⟨t, h1, h2⟩ := body cdv s H E hr
  refine ⟨t, h1.nox, ?_⟩
  obtain ⟨hl, pins, G, ss, q1, q2, q3, q4⟩ := h
  subst hn
  exact h2 _ G H _ _ _ q1 q3 q4
end
section
variable {K : PySem.W.Frag} {P : Nat} {W : Wish}
theorem s_repr : CallS K (rRepr K) cRepr := by
  intro G H xs ds z Q s h eg hq
  have key : ∀ d : D, GotAll K G H xs [d] → shows d = true → z = .d (.str d.shown) → (∀ v, Dp K H v d → ∃ a, v = .ref a) → rRepr K xs H Q := by
    intro d h hs hz hr
    subst hz
    cases h with
    | cons h1 h2 =>
      cases h2
      have hd := h1.dp s
      obtain ⟨a, rfl⟩ := hr _ hd
      unfold shows at hs
      simp only [Bool.and_eq_true, decide_eq_true_eq, Bool.not_eq_true'] at hs
      obtain ⟨⟨⟨q1, q2⟩, q3⟩, q4⟩ := hs
      exact ⟨a, d, rfl, hd, q1, q2, Nat.le_trans q3 (by decide), q4, hq _ G H (.refl s) (.str _)⟩
  unfold cRepr at eg
  split at eg
  · split at eg
    · next hs => cases eg; exact key _ h hs rfl fun v hv => let ⟨a, _, e, _⟩ := dp_lst hv; ⟨a, e⟩
    · cases eg
  · split at eg
    · next hs => cases eg; exact key _ h hs rfl fun v hv => let ⟨a, _, e, _⟩ := dp_tup hv; ⟨a, e⟩
    · cases eg
  · cases eg
/-! ### x.pop(), x.extend(y), x[::-1] -/
def mPop (P i j : Nat) : Env → Out := fun ρ => match ρ[j]? with
  | some (some (S.o xs)) => (match xs.getLast? with
    | some d => .nx ((ρ.set j (some (.o xs.dropLast))).set i (some (.d d)))
    | none => .no)
  | _ => .no
theorem dpAll_dropLast {G : Hp} : ∀ {ds : List D} {vs : List V}, DpAll K G vs ds → DpAll K G vs.dropLast ds.dropLast
  | _, _, .nil => .nil
  | _, _, .cons (ds := []) (vs := []) h .nil => .nil
  | _, _, .cons h (.cons h2 h3) => .cons h (dpAll_dropLast (.cons h2 h3))
theorem sim_pop {i j : Nat} (hi : P ≤ i) : SimS K P W (tAsg (tBM0 K "list" rPop (tVar j)) (gName i)) (mPop P i j) := by
  intro f G H σ ρ D hp rl hq
  unfold mPop at hq
  split at hq
  · next xs ex =>
    split at hq
    · next d ed =>
      obtain ⟨p, vs, q1, q2, q3, q4, q5⟩ := rl.own j _ ex
      have el : xs[xs.length - 1]? = some d := by rw [← List.getLast?_eq_getElem?]; exact ed
      obtain ⟨v, z1, z2⟩ := dpAll_get q3 el
      refine ⟨.ref p, q1, .inl ⟨rfl, vs, .inl (.inl q2)⟩, p, vs, v, rfl, rfl, q2, by rw [dpAll_len q3]; exact z1, ?_⟩
      exact hq G _ _ (.refl _) ((rl.change (us := vs) ex q1 q4 q5 (dpAll_dropLast q3)).putD hp hi z2)
    · exact hq.elim
  · exact hq.elim
theorem mPop_k {i j : Nat} (ρ : Env) : mPop P i j ρ = match ρ[j]? with
  | some (some (S.o xs)) => (match xs.getLast? with
    | some d => .nx ((ρ.set j (some (.o xs.dropLast))).set i (some (.d d)))
    | none => .no)
  | _ => .no := nonrfl rfl
/-- x.extend(y), y a list of any kind -/
def rExtendA (K : PySem.W.Frag) : V → List V → Hp → VK → Prop := fun x vs H Q => ∃ l b xs zs, x = .ref l ∧ vs = [.ref b] ∧ H l = some (.lst xs) ∧ SqL K H b zs ∧ xs.length + zs.length ≤ sizeLine ∧ Q .non (upd H l (.lst (xs ++ zs)))
theorem extend_any (l : Addr) (items : Array Value) (n : Nat) (b : Addr) (items2 : Array Value) (n2 : Nat) (sl : Array (Option Value)) (hc0 : ¬(!items.isEmpty && Builtin.List.listTooLong (items.size + items2.size)) = true) (hc1 : items.size ≤ sizeLine) (hs2 : items.size + items2.size ≤ sizeLine + 1) :
    Meets (Builtin.«list.extend» ⟨[.ref l, .ref b], []⟩) (fun _ R s => s.heap.get? l = some { cls := .type "list", dict := none, data := .seq items n, slots := #[] } ∧ s.heap.get? b = some { cls := .type "list", dict := none, data := .seq items2 n2, slots := sl } ∧
      R (.ok (.ret Value.none)) { s with heap := s.heap.update l (Obj.mapSeq fun x => x ++ items2), toks := s.toks }) :=
  .of_wp fun prog w A R s z => by
    obtain ⟨hp, g, dd, tk, os⟩ := s
    obtain ⟨at_l, at_b, z⟩ := z
    have t1 := PySem.AutoSeq1.idx_int
    have t2 := PySem.AutoSeq1.sub_tuple_tuple
    have t3 := PySem.AutoSeq1.sub_list_list
    have t4 := PySem.AutoSeq1.sub_tuple_list
    have t5 := PySem.AutoSeq1.sub_list_tuple
    have both : (items ++ items2).size ≤ sizeLine + 1 := by rw [Array.size_append]; exact hs2
    wp_walk using (wpAny_updateSeq at_l rfl (hz := hc1) (_hz' := both)), PySem.AutoSeq1.wpAny_loadPart' at_l, PySem.AutoSeq1.wpAny_loadPart' at_b
    exact ⟨_, rfl, z⟩
theorem mt_extendA {X : Cx} (hK : X.K = K := by rfl) : MtM X "list.extend" (rExtendA K) := by
  subst hK
  intro pins s σ H x vs v us Q I rx rv h
  obtain ⟨l, b, xs, zs, rfl, rfl, hH, hB, hz, q⟩ := h
  cases rx
  obtain ⟨u, rfl, ru⟩ := rv.one
  cases ru
  obtain ⟨_, its, n, r, len1, e⟩ := I.lstM hH
  obtain ⟨its2, r2, ⟨⟨cls, dct, dat, sl⟩, n2, e2, c1, c2, c3⟩, _⟩ := I.list hB
  simp only at c1 c2 c3
  subst c1 c2 c3
  have len2 := r2.length
  have few : its.toArray.size + its2.toArray.size ≤ sizeLine := by rw [List.size_toArray, List.size_toArray]; omega
  have short : ¬ (!its.toArray.isEmpty && Builtin.List.listTooLong (its.toArray.size + its2.toArray.size)) = true := by
    rw [notLongL few, Bool.and_false]
    exact Bool.false_ne_true
  refine call_meets F.slot_list_extend ⟨_, e, rfl⟩ F.entry_list_extend (F.args_list_extend_2 _ _) (extend_any l its.toArray n b its2.toArray n2 sl short (by rw [List.size_toArray]; omega) (by omega)) ⟨e, e2, ?_⟩
  exact ⟨.non, _, I.lset (its' := its ++ its2) hH e (by simp) (r.append r2) (by rw [List.length_append]; omega), rfl, q⟩
def uExtend : List D → List D → Option (List D) := fun xs ds => match ds with
  | [.list es] => if xs.length + es.length ≤ 1000000 then some (xs ++ es) else none
  | _ => none
theorem s_extend : MutS K (rExtendA K) uExtend := by
  intro G H p vs args xs ds ys s hp hx ha eg
  unfold uExtend at eg
  split at eg
  · next es =>
    split at eg
    · next hl =>
      cases eg
      cases ha with
      | cons h1 h2 =>
        cases h2
        obtain ⟨b, us, rfl, w1, w2⟩ := dp_lst h1
        refine ⟨_, dpAll_append hx w2, fun Q q => ⟨p, b, vs, us, rfl, rfl, hp, s.seq w1, ?_, q⟩⟩
        rw [dpAll_len hx, dpAll_len w2]
        exact line_le hl
    · cases eg
  · cases eg
theorem uExtend_l (xs es : List D) : uExtend xs [.list es] = if xs.length + es.length ≤ 1000000 then some (xs ++ es) else none := nonrfl rfl
/-- x[::-1], x a list -/
theorem zrevL {X : Cx} {e : Expr} {te : TE} {k : Nat} {p1 p2 p3 pos : Pos} (he : PE X e te) (hK : X.K = K := by rfl) : PE X (.Subscript e (.Slice none none (some (.UnaryOp .USub (.Constant (.int 1) k p1) p2)) p3) pos) (tRevL K te) := by subst hK; exact pe_revL he
def revK (r : Res R) : Res R := match r with
  | .ok r ρ1 => (match opd ρ1 r with
    | some (.list xs) => .ok (.o xs.reverse) ρ1
    | _ => .no)
  | .exc c ρ1 => .exc c ρ1
  | .no => .no
def mRev (me : Env → Res R) : Env → Res R := fun ρ => revK (me ρ)
theorem dpAll_rev {G : Hp} {ds : List D} {vs : List V} (h : DpAll K G vs ds) : DpAll K G vs.reverse ds.reverse := by
  cases h with
  | nil => exact .nil
  | cons h1 h2 =>
    rw [List.reverse_cons, List.reverse_cons]
    exact dpAll_append (dpAll_rev h2) (.cons h1 .nil)
termination_by ds.length
theorem sim_rev {te : TE} {me : Env → Res R} (h : SimE K P W te me) : SimE K P W (tRevL K te) (mRev me) := by
  intro f G H σ ρ Q hp rl hq
  refine h.op hp rl ?_
  unfold mRev revK at hq
  cases e : me ρ with
  | no => rw [e] at hq; exact hq
  | exc c ρ1 => rw [e] at hq; exact hq
  | ok r ρ1 =>
    rw [e] at hq
    intro v G1 H1 s1 rl1 h1
    simp only at hq
    split at hq
    · next xs ex =>
      obtain ⟨a, vs, rfl, w1, w2⟩ := (h1.got rl1 ex).lst rl1.gh
      refine ⟨a, vs, rfl, w1, fun p np => ?_⟩
      have nv : NewV K H1 G1 (upd H1 p (.lst vs.reverse)) (.ref p) (.o xs.reverse) := ⟨p, _, rfl, np, upd_same, dpAll_rev w2, rl1.gh.free np⟩
      have gr : Grow G1 H1 G1 (upd H1 p (.lst vs.reverse)) := Grow.fresh rl1.gh np
      exact hq _ _ _ s1 (rl1.grow gr) (nv.vrep rl1 gr)
    · exact hq.elim
theorem mRev_k {me : Env → Res R} (ρ : Env) : mRev me ρ = revK (me ρ) := nonrfl rfl
theorem revK_o (xs : List D) (ρ : Env) : revK (.ok (.o xs) ρ) = .ok (.o xs.reverse) ρ := nonrfl rfl
theorem revK_d (xs : List D) (ρ : Env) : revK (.ok (.d (.list xs)) ρ) = .ok (.o xs.reverse) ρ := nonrfl rfl
end
end Z
namespace Z
open PySem PySem.Spec PyProof.Rows L2
/-! ### a list of one's own lists, in a stretch of statements -/
abbrev XS := List (List D)
def Fx.over (f : Fx) (N : Hp) : Fx := ⟨fun a => match N a with
  | some o => some o
  | none => f.F a, f.G0, f.pins⟩
inductive Inn (K : PySem.W.Frag) (G N : Hp) : List Addr → XS → Prop
  | nil : Inn K G N [] []
  | cons {q : Addr} {qs : List Addr} {ws : List V} {xs : List D} {xss : XS} : N q = some (.lst ws) → DpAll K G ws xs → Inn K G N qs xss → Inn K G N (q :: qs) (xs :: xss)
structure NestP (K : PySem.W.Frag) (f : Fx) (G H : Hp) (σ : L2.St) (ρ : Env) (p : Addr) (xss : XS) (N : Hp) (qs : List Addr) : Prop where
  rl : Rel K (f.over N) G H σ ρ
  own : ∀ a, N a ≠ none → f.F a = none ∧ f.G0 a = none
  top : N p = some (.lst (qs.map .ref))
  out : p ∉ qs
  nd : qs.Nodup
  inn : Inn K G N qs xss
def Nest (K : PySem.W.Frag) (f : Fx) (G H : Hp) (σ : L2.St) (ρ : Env) (i : Nat) (xss : XS) : Prop := ∃ p N qs, σ[i]? = some (some (V.ref p)) ∧ NestP K f G H σ ρ p xss N qs
section
variable {K : PySem.W.Frag} {f : Fx} {G H G' H' N : Hp} {σ : L2.St} {ρ : Env} {a : Addr} {o : HO}
theorem over_at (rl : Rel K (f.over N) G H σ ρ) (h : N a = some o) : H a = some o := rl.fh a o (by
  show (match N a with
    | some o => some o
    | none => f.F a) = some o
  rw [h])
theorem over_noG (rl : Rel K (f.over N) G H σ ρ) (h : N a ≠ none) (h0 : f.G0 a = none) : G a = none := by
  cases e : G a with
  | none => rfl
  | some x =>
    refine absurd h0 (rl.gf a ?_ (ne_none_of e))
    show (match N a with
      | some o => some o
      | none => f.F a) ≠ none
    cases q : N a with
    | none => exact absurd q h
    | some o => exact fun z => nomatch z
theorem over_F (rl : Rel K (f.over N) G H σ ρ) (hN : ∀ a, N a ≠ none → f.F a = none ∧ f.G0 a = none) : Same f.F H := fun a o q => rl.fh a o (by
  show (match N a with
    | some o => some o
    | none => f.F a) = some o
  cases e : N a with
  | none => exact q
  | some x =>
    have := (hN a (ne_none_of e)).1
    rw [q] at this
    cases this)
theorem over_add_eq (f : Fx) (N : Hp) (a : Addr) (o : HO) : (f.over N).add a o = f.over (upd N a o) := by
  unfold Fx.over Fx.add
  congr 1
  funext b
  by_cases hb : b = a
  · subst hb
    rw [upd_same, upd_same]
  · rw [upd_ne hb, upd_ne hb]
theorem over_add (rl : Rel K (f.over N) G H σ ρ) (h : H a = none) : Rel K (f.over (upd N a o)) G (upd H a o) σ ρ := by
  have := rl.addF (o := o) h
  rw [over_add_eq] at this
  exact this
theorem over_swap {o' : HO} (rl : Rel K (f.over N) G H σ ρ) (h : N a = some o) (h0 : f.G0 a = none) : Rel K (f.over (upd N a o')) G (upd H a o') σ ρ := by
  have e : (f.over N) = (f.over N).add a o := by
    rw [over_add_eq]
    congr 1
    funext b
    by_cases hb : b = a
    · subst hb
      rw [upd_same, h]
    · rw [upd_ne hb]
  rw [e] at rl
  have := rl.swapF (o' := o') h0
  rw [over_add_eq] at this
  exact this
theorem Inn.mono {N' : Hp} (e : Same G G') : ∀ {qs : List Addr} {xss : XS}, (∀ q ∈ qs, N' q = N q) → Inn K G N qs xss → Inn K G' N' qs xss
  | _, _, _, .nil => .nil
  | _, _, hq, .cons h1 h2 h3 => .cons (by rw [hq _ List.mem_cons_self]; exact h1) (dpAll_same e _ _ h2) (Inn.mono e (fun q h => hq q (List.mem_cons_of_mem _ h)) h3)
theorem Inn.len : ∀ {qs : List Addr} {xss : XS}, Inn K G N qs xss → qs.length = xss.length
  | _, _, .nil => rfl
  | _, _, .cons _ _ h => by simp [h.len]
theorem Inn.at : ∀ {qs : List Addr} {xss : XS}, Inn K G N qs xss → ∀ {n : Nat} {xs : List D}, xss[n]? = some xs → ∃ q ws, qs[n]? = some q ∧ N q = some (.lst ws) ∧ DpAll K G ws xs
  | _, _, .nil, n, xs, e => by simp at e
  | _, _, .cons h1 h2 h3, 0, xs, e => by
    simp at e
    subst e
    exact ⟨_, _, rfl, h1, h2⟩
  | _, _, .cons h1 h2 h3, n + 1, xs, e => by
    obtain ⟨q, ws, a1, a2, a3⟩ := h3.at (n := n) (by simpa using e)
    exact ⟨q, ws, by simpa using a1, a2, a3⟩
/-- one inner list is changed -/
theorem Inn.chg {ws : List V} {ys : List D} (hd : DpAll K G ws ys) : ∀ {qs : List Addr} {xss : XS}, Inn K G N qs xss → qs.Nodup → ∀ {n : Nat} {q : Addr}, qs[n]? = some q → Inn K G (upd N q (.lst ws)) qs (xss.set n ys)
  | _, _, .nil, _, n, q, e => by simp at e
  | _, _, .cons h1 h2 h3, nd, 0, q, e => by
    simp at e
    subst e
    rw [List.nodup_cons] at nd
    exact .cons upd_same hd (Inn.mono (.refl _) (fun q' hq' => upd_ne fun z => nd.1 (z ▸ hq')) h3)
  | _, _, .cons h1 h2 h3, nd, n + 1, q, e => by
    rw [List.nodup_cons] at nd
    have e : _ := e
    simp only [List.getElem?_cons_succ] at e
    refine .cons ?_ h2 (h3.chg hd nd.2 e)
    rw [upd_ne fun z => nd.1 (by rw [z]; exact List.mem_of_getElem? e)]
    exact h1
/-- everything in N becomes data -/
theorem over_give (rl : Rel K (f.over N) G H σ ρ) (hN : ∀ a, N a ≠ none → f.F a = none ∧ f.G0 a = none) : ∃ G', Same G G' ∧ Rel K f G' H σ ρ ∧ ∀ a o, N a = some o → G' a = some o := by
  have key : ∀ b x, G b = some x → (match N b with
      | some o => some o
      | none => G b) = some x := fun b x q => by
    cases e : N b with
    | none => exact q
    | some o =>
      rw [over_noG rl (ne_none_of e) (hN b (ne_none_of e)).2] at q
      cases q
  have fno : ∀ a, (f.over N).F a = none → N a = none ∧ f.F a = none := fun a q => by
    have q : (match N a with
      | some o => some o
      | none => f.F a) = none := q
    cases e : N a with
    | none => rw [e] at q; exact ⟨rfl, q⟩
    | some o => rw [e] at q; cases q
  have fsame : ∀ a x, f.F a = some x → N a = none ∧ (f.over N).F a = some x := fun a x q => by
    cases e : N a with
    | none => exact ⟨rfl, by show (match N a with | some o => some o | none => f.F a) = some x; rw [e]; exact q⟩
    | some o =>
      have := (hN a (ne_none_of e)).1
      rw [q] at this
      cases this
  refine ⟨fun b => match N b with
    | some o => some o
    | none => G b, key, ⟨rl.len, fun b x q => ?_, over_F rl hN, fun b x q => key b x (rl.g0 b x q), fun b q1 q2 => ?_, rl.pin, fun j d q => ?_, fun j s q hs => ?_, rl.injS⟩, fun a o e => by simp only [e]⟩
  · cases e : N b with
    | none => simp only [e] at q; exact rl.gh b x q
    | some o =>
      simp only [e] at q
      cases q
      exact over_at rl e
  · cases e : f.F b with
    | none => exact absurd e q1
    | some x =>
      obtain ⟨e1, e2⟩ := fsame b x e
      simp only [e1] at q2
      exact rl.gf b (ne_none_of e2) q2
  · obtain ⟨v, w1, w2⟩ := rl.dat j d q
    exact ⟨v, w1, dp_same key _ _ w2⟩
  · obtain ⟨p, u, w1, w2, w3, w4, w5⟩ := rl.ow j s q hs
    obtain ⟨z1, z2⟩ := fno p w5
    refine ⟨p, u, w1, w2, w3.same key, ?_, z2⟩
    simp only [z1]
    exact w4
theorem inn_dp (key : ∀ a o, N a = some o → G' a = some o) (e : Same G G') : ∀ {qs : List Addr} {xss : XS}, Inn K G N qs xss → DpAll K G' (qs.map V.ref) (xss.map PyData.list)
  | _, _, .nil => .nil
  | _, _, .cons h1 h2 h3 => .cons (.lst (.inl (.inl (key _ _ h1))) (dpAll_same e _ _ h2)) (inn_dp key e h3)
theorem set_same {α : Type} (xs : List α) (i : Nat) (x : α) (h : xs[i]? = some x) : xs.set i x = xs := by
  refine List.ext_getElem? fun j => ?_
  by_cases hj : i = j
  · subst hj
    rw [List.getElem?_set_self (List.getElem?_eq_some_iff.mp h).1, h]
  · rw [List.getElem?_set_ne hj]
theorem nest_give {P i : Nat} {xss : XS} (h : Nest K f G H σ ρ i xss) (hp : f.pins.length = P) (hi : P ≤ i) : ∃ G', Same G G' ∧ Rel K f G' H σ (ρ.set i (some (.d (.list (xss.map .list))))) := by
  obtain ⟨p, N, qs, h1, h⟩ := h
  obtain ⟨G', e, rl, key⟩ := over_give h.rl h.own
  refine ⟨G', e, ?_⟩
  have := rl.putD hp hi (v := .ref p) (d := .list (xss.map .list)) (.lst (.inl (.inl (key _ _ h.top))) (inn_dp key e h.inn))
  rw [set_same σ i _ h1] at this
  exact this
theorem Rel.setAny {P : Nat} (rl : Rel K f G H σ ρ) (hp : f.pins.length = P) {i : Nat} (hi : P ≤ i) (u : Option V) : Rel K f G H (σ.set i u) (ρ.set i none) := by
  have out : ∀ (j : Nat) (s : S), (ρ.set i none)[j]? = some (some s) → i ≠ j ∧ ρ[j]? = some (some s) := by
    intro j s q
    by_cases hj : i = j
    · subst hj
      by_cases hil : i < ρ.length
      · rw [List.getElem?_set_self hil] at q
        cases q
      · rw [List.getElem?_eq_none (by rw [List.length_set]; omega)] at q
        cases q
    · rw [List.getElem?_set_ne hj] at q
      exact ⟨hj, q⟩
  refine ⟨by rw [List.length_set, List.length_set]; exact rl.len, rl.gh, rl.fh, rl.g0, rl.gf, fun j b q => ?_, fun j d q => ?_, fun j xs q hs => ?_, fun j k p xs ys q1 q2 hs1 hs2 q3 q4 => ?_⟩
  · have hj : j < P := by
      have := (List.getElem?_eq_some_iff.mp q).1
      omega
    obtain ⟨q1, ys, q2⟩ := rl.pin j b q
    exact ⟨by rw [List.getElem?_set_ne (by omega)]; exact q1, ys, by rw [List.getElem?_set_ne (by omega)]; exact q2⟩
  · obtain ⟨hj, q⟩ := out _ _ q
    rw [List.getElem?_set_ne hj]
    exact rl.dat j d q
  · obtain ⟨hj, q⟩ := out _ _ q
    rw [List.getElem?_set_ne hj]
    exact rl.ow j xs q hs
  · obtain ⟨h1, q1⟩ := out _ _ q1
    obtain ⟨h2, q2⟩ := out _ _ q2
    rw [List.getElem?_set_ne h1] at q3
    rw [List.getElem?_set_ne h2] at q4
    exact rl.injS j k p xs ys q1 q2 hs1 hs2 q3 q4
end
/-! the judgement -/
def CN (K : PySem.W.Frag) (f : Fx) (G : Hp) (D : Ends) (i : Nat) : Option (Env × XS) → Prop
  | none => False
  | some (ρ, xss) => ∀ G' H' σ', Same G G' → Nest K f G' H' σ' ρ i xss → D.nx σ' H'
def SimN (K : PySem.W.Frag) (P i : Nat) (t : TS) (m : Env → XS → Option (Env × XS)) : Prop := ∀ (f : Fx) (G H : Hp) (σ : L2.St) (ρ : Env) (xss : XS) (D : Ends), f.pins.length = P → Nest K f G H σ ρ i xss → CN K f G D i (m ρ xss) → t D σ H
/-- and what follows, to any end -/
def SimR (K : PySem.W.Frag) (P : Nat) (W : Wish) (i : Nat) (t : TS) (m : Env → XS → Out) : Prop := ∀ (f : Fx) (G H : Hp) (σ : L2.St) (ρ : Env) (xss : XS) (D : Ends), f.pins.length = P → Nest K f G H σ ρ i xss → CS K W f G D (m ρ xss) → t D σ H
def forN (b : D → Env → Option Env) (body : Env → XS → Option (Env × XS)) : List D → Env → XS → Option (Env × XS)
  | [], ρ, xss => some (ρ, xss)
  | d :: ds, ρ, xss => match b d ρ with
    | none => none
    | some ρ1 => (match body ρ1 xss with
      | some (ρ2, yss) => forN b body ds ρ2 yss
      | none => none)
def nFor (mi : Env → Res (List D)) (b : D → Env → Option Env) (body : Env → XS → Option (Env × XS)) : Env → XS → Option (Env × XS) := fun ρ xss => match mi ρ with
  | .ok ds ρ1 => forN b body ds ρ1 xss
  | _ => none
def nIf (mc : Env → Res Bool) (m1 m2 : Env → XS → Option (Env × XS)) : Env → XS → Option (Env × XS) := fun ρ xss => match mc ρ with
  | .ok true ρ1 => m1 ρ1 xss
  | .ok false ρ1 => m2 ρ1 xss
  | _ => none
def nNext : Env → XS → Option (Env × XS) := fun ρ xss => some (ρ, xss)
def nSeq (m1 m2 : Env → XS → Option (Env × XS)) : Env → XS → Option (Env × XS) := fun ρ xss => match m1 ρ xss with
  | some (ρ1, yss) => m2 ρ1 yss
  | none => none
def nApp (P : Nat) (mi me : Env → Res R) : Env → XS → Option (Env × XS) := fun ρ xss => match mi ρ with
  | .ok r1 ρ1 => (match opd ρ1 r1 with
    | some (.int k) => (match ixN xss.length k with
      | some n => (match me ρ1 with
        | .ok r ρ2 => (match frz1 P ρ2 r with
          | some ρ3 => (match dopd ρ3 r with
            | some y => if (xss.getD n []).length < 1000000 then some (ρ3, xss.set n (xss.getD n [] ++ [y])) else none
            | none => none)
          | none => none)
        | _ => none)
      | none => none)
    | _ => none)
  | _ => none
def rSeqN (m1 : Env → XS → Option (Env × XS)) (m2 : Env → XS → Out) : Env → XS → Out := fun ρ xss => match m1 ρ xss with
  | some (ρ1, yss) => m2 ρ1 yss
  | none => .no
def rGive (i : Nat) (m : Env → Out) : Env → XS → Out := fun ρ xss => m (ρ.set i (some (.d (.list (xss.map .list)))))
def mNest (P i : Nat) (mi : Env → Res (List D)) (m : Env → XS → Out) : Env → Out := fun ρ => match mi ρ with
  | .ok ds ρ1 => if ds.length ≤ 1000000 ∧ i < ρ1.length then m (ρ1.set i none) (List.replicate ds.length []) else .no
  | .exc c ρ1 => .no
  | .no => .no
section
variable {K : PySem.W.Frag} {P i : Nat} {W : Wish} {t u tb t1 t2 : TS} {m1 m2 mb : Env → XS → Option (Env × XS)} {wi : TI} {mi : Env → Res (List D)} {g : TG} {b : D → Env → Option Env} {ts : List Nat}
theorem CN.same {f : Fx} {G G' : Hp} {D : Ends} {o : Option (Env × XS)} (e : Same G G') (h : CN K f G D i o) : CN K f G' D i o := by
  cases o with
  | none => exact h
  | some x => exact fun G1 H1 σ1 s => h G1 H1 σ1 (e.trans s)
theorem simN_seq (h1 : SimN K P i t m1) (h2 : SimN K P i u m2) : SimN K P i (tSeq t u) (nSeq m1 m2) := by
  intro f G H σ ρ xss D hp rl hq
  refine h1 f G H σ ρ xss _ hp rl ?_
  unfold nSeq at hq
  cases e : m1 ρ xss with
  | none => rw [e] at hq; exact hq
  | some x =>
    rw [e] at hq
    exact fun G1 H1 σ1 s1 rl1 => h2 f G1 H1 σ1 x.1 x.2 D hp rl1 (CN.same s1 hq)
theorem simN_next : SimN K P i tNext nNext := fun f G H σ ρ xss D hp rl hq => hq G H σ (.refl _) rl
theorem simN_ifS {c : TT} {mc : Env → Res Bool} (hc : SimT K P W c mc) (h1 : SimN K P i t1 m1) (h2 : SimN K P i t2 m2) : SimN K P i (tIfS c t1 t2) (nIf mc m1 m2) := by
  intro f G H σ ρ xss D hp nst hq
  obtain ⟨p, N, qs, e0, np⟩ := nst
  refine hc (f.over N) G H σ ρ _ hp np.rl ?_
  unfold nIf at hq
  cases e : mc ρ with
  | no => rw [e] at hq; exact hq.elim
  | exc c ρ1 => rw [e] at hq; exact hq.elim
  | ok k ρ1 =>
    rw [e] at hq
    intro G1 H1 s1 rl1
    have ns : Nest K f G1 H1 σ ρ1 i xss := ⟨p, N, qs, e0, rl1, np.own, np.top, np.out, np.nd, np.inn.mono s1 fun _ _ => rfl⟩
    cases k with
    | true => rw [if_pos rfl]; exact h1 f G1 H1 σ ρ1 xss D hp ns (CN.same s1 hq)
    | false => rw [if_neg Bool.false_ne_true]; exact h2 f G1 H1 σ ρ1 xss D hp ns (CN.same s1 hq)
end
/-! what is walked, of data alone -/
def CI0 (K : PySem.W.Frag) (W : Wish) (f : Fx) (G : Hp) (σ : L2.St) (Q : It → Hp → Prop) : Res (List D) → Prop
  | .no => False
  | .ok ds ρ => ∀ J G' H', Same G G' → Rel K f G' H' σ ρ → Walk K (fun _ => none) G' J ds → Q J H'
  | .exc c ρ => ∀ G' H', Same G G' → Rel K f G' H' σ ρ → W σ c H'
def SimI0 (K : PySem.W.Frag) (P : Nat) (W : Wish) (wi : TI) (m : Env → Res (List D)) : Prop := ∀ (f : Fx) (G H : Hp) (σ : L2.St) (ρ : Env) (Q : It → Hp → Prop), f.pins.length = P → Rel K f G H σ ρ → CI0 K W f G σ Q (m ρ) → wi σ H Q
section
variable {K : PySem.W.Frag} {P i : Nat} {W : Wish} {te : TE} {me : Env → Res R} {ta : TA} {ma : Env → Res (List R)}
theorem sim0_iter (h : SimE K P W te me) : SimI0 K P W (iSeq K te) (mIter P me) := by
  intro f G H σ ρ Q hp rl hq
  refine h.op hp rl ?_
  unfold mIter at hq
  cases e : me ρ with
  | no => rw [e] at hq; exact hq
  | exc c ρ1 => rw [e] at hq; exact hq
  | ok r ρ1 =>
    rw [e] at hq
    intro v G1 H1 s1 rl1 h1
    simp only [Res.bind] at hq
    split at hq
    · next ρ2 e2 =>
      obtain ⟨G2, s2, rl2⟩ := rl1.frz1 hp e2
      split at hq
      · next ds e3 =>
        obtain ⟨a, xs, rfl, q1, q2⟩ := dp_lst ((h1.same s2).dat rl2 e3)
        exact ⟨a, rfl, .inl ⟨⟨xs, rl2.gh.seq q1⟩, hq _ G2 H1 (s1.trans s2) rl2 (walk_list q1 q2)⟩⟩
      · next ds e3 =>
        obtain ⟨a, xs, rfl, q1, q2⟩ := dp_tup ((h1.same s2).dat rl2 e3)
        exact ⟨a, rfl, .inr ⟨⟨xs, sqT_same rl2.gh q1⟩, hq _ G2 H1 (s1.trans s2) rl2 (walk_tup q1 q2)⟩⟩
      · exact hq.elim
    · exact hq.elim
theorem sim0_enum (h : SimA K P W ta ma) : SimI0 K P W (iEnA K ta) (mEnum P ma) := by
  intro f G H σ ρ Q hp rl hq
  refine h f G H σ ρ _ hp rl ?_
  unfold mEnum at hq
  cases e : ma ρ with
  | no => rw [e] at hq; exact hq
  | exc c ρ1 => rw [e] at hq; exact hq
  | ok rs ρ1 =>
    rw [e] at hq
    intro vs G1 H1 s1 rl1 h1
    simp only [Res.bind] at hq
    split at hq
    · next r =>
      cases h1 with
      | cons a1 a2 =>
        cases a2
        split at hq
        · next ρ2 e2 =>
          obtain ⟨G2, s2, rl2⟩ := rl1.frz1 hp e2
          split at hq
          · next ds e3 =>
            obtain ⟨a, xs, rfl, q1, q2⟩ := dp_lst ((a1.same s2).dat rl2 e3)
            exact ⟨a, rfl, .inl ⟨⟨xs, rl2.gh.seq q1⟩, hq _ G2 H1 (s1.trans s2) rl2 (walk_enumL q1 q2)⟩⟩
          · next ds e3 =>
            obtain ⟨a, xs, rfl, q1, q2⟩ := dp_tup ((a1.same s2).dat rl2 e3)
            exact ⟨a, rfl, .inr ⟨⟨xs, sqT_same rl2.gh q1⟩, hq _ G2 H1 (s1.trans s2) rl2 (walk_enumT q1 q2)⟩⟩
          · exact hq.elim
        · exact hq.elim
    · exact hq.elim
end
section
variable {K : PySem.W.Frag} {P i : Nat} {W : Wish} {t u tb t1 t2 : TS} {m1 m2 mb : Env → XS → Option (Env × XS)} {wi : TI} {mi : Env → Res (List D)} {g : TG} {b : D → Env → Option Env} {ts : List Nat}
theorem none_same (H : Hp) : Same (fun _ => none) H := fun _ _ q => nomatch q
theorem simN_for (hi : SimI0 K P W wi mi) (hg : SimG K P g b ts) (hb : SimN K P i tb mb) (hit : i ∉ ts) : SimN K P i (tFor wi g tb) (nFor mi b mb) := by
  intro f G H σ ρ xss D hp nst hq
  obtain ⟨p, N, qs, e0, np⟩ := nst
  refine hi (f.over N) G H σ ρ _ hp np.rl ?_
  unfold nFor at hq
  cases e : mi ρ with
  | no => rw [e] at hq; exact hq.elim
  | exc c ρ1 => rw [e] at hq; exact hq.elim
  | ok ds ρ1 =>
    rw [e] at hq
    intro J G1 H1 s1 rl1 wk
    have hq1 : CN K f G1 D i (forN b mb ds ρ1 xss) := CN.same s1 hq
    have ns1 : Nest K f G1 H1 σ ρ1 i xss := ⟨p, N, qs, e0, rl1, np.own, np.top, np.out, np.nd, np.inn.mono s1 fun _ _ => rfl⟩
    refine ⟨fun j m σ' H' => ∃ G' ρ' yss, Same G1 G' ∧ Nest K f G' H' σ' ρ' i yss ∧ j + m = ds.length ∧ CN K f G' D i (forN b mb (ds.drop j) ρ' yss), ⟨ds.length, G1, ρ1, xss, .refl _, ns1, by omega, hq1⟩, fun j m σ' H' hW => ?_⟩
    obtain ⟨G2, ρ2, yss, s2, ns2, em, hc⟩ := hW
    obtain ⟨p2, N2, qs2, e2, np2⟩ := ns2
    obtain ⟨wk1, wk2⟩ := wk G2 H' s2 np2.rl.gh (none_same _)
    by_cases hlt : j < ds.length
    · have ed : ds.drop j = ds[j] :: ds.drop (j + 1) := List.drop_eq_getElem_cons hlt
      obtain ⟨go, yl⟩ := wk1 j ds[j] (List.getElem?_eq_getElem hlt)
      refine .inr ⟨go, fun σ3 H3 => ∃ G' ρ' yss, Same G1 G' ∧ Nest K f G' H3 σ3 ρ' i yss ∧ CN K f G' D i (forN b mb (ds.drop (j + 1)) ρ' yss), fun σ3 H3 hN => ?_, fun x H3 hy => ?_⟩
      · obtain ⟨G', ρ', zss, a1, a2, a3⟩ := hN
        exact ⟨m - 1, by omega, G', ρ', zss, a1, a2, by omega, a3⟩
      · obtain ⟨G3, gr, hd⟩ := yl x H3 hy
        have rl3 := np2.rl.grow gr
        have hc3 := CN.same gr.1 hc
        rw [ed] at hc3
        simp only [forN] at hc3
        split at hc3
        · exact hc3.elim
        · next ρ3 e3 =>
          refine hg (f.over N2) G3 H3 σ' ρ2 ρ3 x ds[j] _ hp rl3 hd e3 fun σ4 rl4 _ k4 => ?_
          refine hb f G3 H3 σ4 ρ3 yss _ hp ⟨p2, N2, qs2, by rw [k4 i hit]; exact e2, rl4, np2.own, np2.top, np2.out, np2.nd, np2.inn.mono gr.1 fun _ _ => rfl⟩ ?_
          have s3 := s2.trans gr.1
          cases e4 : mb ρ3 yss with
          | none => rw [e4] at hc3; exact hc3.elim
          | some z => rw [e4] at hc3; exact fun G5 H5 σ5 s5 ns5 => ⟨G5, z.1, z.2, s3.trans s5, ns5, CN.same s5 hc3⟩
    · have ed : ds.drop j = [] := List.drop_of_length_le (by omega)
      rw [ed] at hc
      exact .inl ⟨wk2 j (by omega), hc G2 H' σ' (.refl _) ⟨p2, N2, qs2, e2, np2⟩⟩
theorem ixN_lt {n : Nat} {k : Int} {m : Nat} (h : ixN n k = some m) : m < n := (ixN_seq h).2.1
theorem simN_app {ti te : TE} {mi me : Env → Res R} (h1 : SimE K P W ti mi) (h2 : SimE K P W te me) : SimN K P i (tDrop (tBM K "list" rAppend (tOp (rIx K) (tVar i) ti) (tCons te tNil))) (nApp P mi me) := by
  intro f G H σ ρ xss D hp nst hq
  obtain ⟨p, N, qs, e0, np⟩ := nst
  refine ⟨.ref p, e0, SimE.op (f := f.over N) h1 hp np.rl ?_⟩
  unfold nApp at hq
  cases e : mi ρ with
  | no => rw [e] at hq; exact hq.elim
  | exc c ρ1 => rw [e] at hq; exact hq.elim
  | ok r1 ρ1 =>
    rw [e] at hq
    intro v G1 H1 s1 rl1 a1
    simp only at hq
    split at hq
    · next k ek =>
      split at hq
      · next n en =>
        have hv := (a1.got rl1 ek).int
        subst hv
        have hn : n < xss.length := ixN_lt en
        obtain ⟨q, ws, w1, w2, w3⟩ := (np.inn.mono s1 (N' := N) fun _ _ => rfl).at (List.getElem?_eq_getElem hn)
        have at_ : atI (qs.map V.ref) k = some (V.ref q) := by
          unfold atI
          rw [List.length_map, np.inn.len, en]
          show (qs.map V.ref)[n]? = _
          rw [List.getElem?_map, w1]
          rfl
        have Hq := over_at rl1 w2
        have Hp' := over_at rl1 np.top
        refine .inl ⟨p, qs.map .ref, k, .ref q, rfl, rfl, .inl (.inl Hp'), at_, .inl ⟨rfl, ws, .inl (.inl Hq)⟩, ?_⟩
        refine SimE.op (f := f.over N) h2 hp rl1 ?_
        cases e2 : me ρ1 with
        | no => rw [e2] at hq; exact hq.elim
        | exc c ρ2 => rw [e2] at hq; exact hq.elim
        | ok r ρ2 =>
          rw [e2] at hq
          intro y G2 H2 s2 rl2 a2
          simp only at hq
          split at hq
          · next ρ3 e3 =>
            obtain ⟨G3, s3, rl3⟩ := rl2.frz1 hp e3
            split at hq
            · next d e4 =>
              split at hq
              · next hl =>
                have hd : Dp K G3 y d := (a2.same s3).dat rl3 e4
                have w3' : DpAll K G3 ws xss[n] := dpAll_same (s2.trans s3) _ _ w3
                have eg : xss.getD n [] = xss[n] := by rw [List.getD_eq_getElem?_getD, List.getElem?_eq_getElem hn]; rfl
                have g0 := (np.own q (ne_none_of w2)).2
                have Hq2 := over_at rl3 w2
                refine ⟨q, ws, y, rfl, rfl, Hq2, ?_, ?_⟩
                · rw [dpAll_len w3]
                  rw [eg] at hl
                  exact Nat.lt_of_lt_of_le hl (by decide)
                · have rl4 := over_swap (o' := .lst (ws ++ [y])) rl3 w2 g0
                  have qp : p ≠ q := fun z => np.out (by rw [z]; exact List.mem_of_getElem? w1)
                  refine hq G3 _ σ ((s1.trans s2).trans s3) ⟨p, upd N q (.lst (ws ++ [y])), qs, e0, rl4, fun a ha => ?_, by rw [upd_ne qp]; exact np.top, np.out, np.nd, ?_⟩
                  · by_cases ha' : a = q
                    · subst ha'
                      exact np.own a (ne_none_of w2)
                    · rw [upd_ne ha'] at ha
                      exact np.own a ha
                  · rw [eg]
                    exact Inn.chg (dpAll_append w3' (.cons hd .nil)) (np.inn.mono ((s1.trans s2).trans s3) fun _ _ => rfl) np.nd w1
              · exact hq.elim
            · exact hq.elim
          · exact hq.elim
      · exact hq.elim
    · exact hq.elim
theorem simR_seq {m2 : Env → XS → Out} (h1 : SimN K P i t m1) (h2 : SimR K P W i u m2) : SimR K P W i (tSeq t u) (rSeqN m1 m2) := by
  intro f G H σ ρ xss D hp rl hq
  refine h1 f G H σ ρ xss _ hp rl ?_
  unfold rSeqN at hq
  cases e : m1 ρ xss with
  | none => rw [e] at hq; exact hq
  | some x =>
    rw [e] at hq
    exact fun G1 H1 σ1 s1 rl1 => h2 f G1 H1 σ1 x.1 x.2 D hp rl1 (CS.same s1 hq)
theorem simR_give {m : Env → Out} (hi : P ≤ i) (h : SimS K P W t m) : SimR K P W i t (rGive i m) := by
  intro f G H σ ρ xss D hp nst hq
  obtain ⟨G', s, rl⟩ := nest_give nst hp hi
  exact h f G' H σ _ D hp rl (CS.same s hq)
theorem inn_snoc {K : PySem.W.Frag} {G N : Hp} {q : Addr} (h : N q = some (.lst [])) : ∀ {qs : List Addr} {n : Nat}, Inn K G N qs (List.replicate n []) → Inn K G N (qs ++ [q]) (List.replicate (n + 1) [])
  | [], 0, _ => .cons h .nil .nil
  | [], n + 1, z => by cases z
  | a :: qs, 0, z => by cases z
  | a :: qs, n + 1, z => by
    cases z with
    | cons h1 h2 h3 => exact .cons h1 h2 (inn_snoc h h3)
theorem sim_nest {j : Nat} {m : Env → XS → Out} (hi : SimI K P W wi mi) (hr : SimR K P W i t m) (hP : P ≤ i) : SimS K P W (tSeq (tAsg (tLc wi (gName j) tYes (tLst tNil) [j]) (gName i)) t) (mNest P i mi m) := by
  intro f G H σ ρ D hp rl hq
  refine hi f G H σ ρ _ hp rl ?_
  unfold mNest at hq
  cases e : mi ρ with
  | no => rw [e] at hq; exact hq.elim
  | exc c ρ1 => rw [e] at hq; exact hq.elim
  | ok ds ρ1 =>
    rw [e] at hq
    intro J G1 H1 s1 rl1 wk
    simp only at hq
    split at hq
    case isFalse => exact hq.elim
    next hlen0 =>
    have hlen := hlen0.1
    intro A nA
    have gA : G1 A = none := rl1.gh.free nA
    have fA : f.F A = none := rl1.fh.free nA
    have g0A : f.G0 A = none := rl1.g0.free gA
    refine ⟨fun k n H' => ∃ G' N qs, Same G1 G' ∧ Rel K (f.over N) G' H' σ ρ1 ∧ (∀ a, N a ≠ none → f.F a = none ∧ f.G0 a = none) ∧ N A = some (.lst (qs.map .ref)) ∧ A ∉ qs ∧ qs.Nodup ∧ (∀ q ∈ qs, N q ≠ none) ∧ Inn K G' N qs (List.replicate k []) ∧ k + n = ds.length,
      ⟨ds.length, G1, upd (fun _ => none) A (.lst []), [], .refl _, ?_, fun a ha => ?_, upd_same, by simp, .nil, by simp, .nil, by omega⟩, fun k n H' hW => ?_⟩
    · have e : f.over (fun _ => none) = f := rfl
      refine over_add ?_ nA
      rw [e]
      exact rl1
    · by_cases h : a = A
      · subst h
        exact ⟨fA, g0A⟩
      · rw [upd_ne h] at ha
        exact absurd rfl ha
    · obtain ⟨G2, N, qs, s2, rl2, own, top, out, nd, hin, inn, em⟩ := hW
      obtain ⟨wk1, wk2⟩ := wk G2 H' s2 rl2.gh (over_F rl2 own)
      by_cases hlt : k < ds.length
      · obtain ⟨go, yl⟩ := wk1 k ds[k] (List.getElem?_eq_getElem hlt)
        refine .inr ⟨go, fun H3 => ∃ G' N qs, Same G1 G' ∧ Rel K (f.over N) G' H3 σ ρ1 ∧ (∀ a, N a ≠ none → f.F a = none ∧ f.G0 a = none) ∧ N A = some (.lst (qs.map .ref)) ∧ A ∉ qs ∧ qs.Nodup ∧ (∀ q ∈ qs, N q ≠ none) ∧ Inn K G' N qs (List.replicate (k + 1) []), fun H3 hN => ?_, fun x H3 hy => ?_⟩
        · obtain ⟨G', N', qs', a1, a2, a3, a4, a5, a6, a7, a8⟩ := hN
          exact ⟨n - 1, by omega, G', N', qs', a1, a2, a3, a4, a5, a6, a7, a8, by omega⟩
        · obtain ⟨G3, gr, hd⟩ := yl x H3 hy
          have rl3 := rl2.grow gr
          refine ⟨?_, ?_⟩
          · show ((σ.set j none).set j (some x)).set j none = σ.set j none
            rw [List.set_set, List.set_set]
          · simp only [tYes, if_true]
            refine ⟨by simp, fun q hq3 => ?_⟩
            have HA := over_at rl3 top
            have qA : q ≠ A := fun z => by
              subst z
              rw [HA] at hq3
              cases hq3
            have Nq : N q = none := by
              cases e : N q with
              | none => rfl
              | some o =>
                have := over_at rl3 e
                rw [hq3] at this
                cases this
            have Gq : G3 q = none := rl3.gh.free hq3
            have Fq : f.F q = none := (over_F rl3 own).free hq3
            have G0q : f.G0 q = none := rl3.g0.free Gq
            have rl4 := over_add (o := .lst []) rl3 hq3
            have top4 : upd N q (.lst []) A = some (.lst (qs.map .ref)) := by rw [upd_ne (Ne.symm qA)]; exact top
            have rl5 := over_swap (o' := .lst (qs.map .ref ++ [.ref q])) rl4 top4 g0A
            refine ⟨qs.map .ref, over_at rl4 top4, ?_, G3, upd (upd N q (.lst [])) A (.lst (qs.map .ref ++ [.ref q])), qs ++ [q], s2.trans gr.1, rl5, fun a ha => ?_, ?_, ?_, ?_, fun a ha => ?_, ?_⟩
            · rw [List.length_map, inn.len, List.length_replicate]
              exact Nat.lt_of_lt_of_le (show k < 1000000 by omega) (by decide)
            · by_cases h1 : a = A
              · subst h1
                exact ⟨fA, g0A⟩
              · rw [upd_ne h1] at ha
                by_cases h2 : a = q
                · subst h2
                  exact ⟨Fq, G0q⟩
                · rw [upd_ne h2] at ha
                  exact own a ha
            · rw [upd_same, List.map_append]
              rfl
            · rw [List.mem_append, List.mem_singleton, not_or]
              exact ⟨out, Ne.symm qA⟩
            · rw [List.nodup_append]
              refine ⟨nd, by simp, fun a ha b hb z => ?_⟩
              rw [List.mem_singleton] at hb
              subst hb
              subst z
              exact hin a ha Nq
            · by_cases h1 : a = A
              · subst h1
                rw [upd_same]
                exact fun z => nomatch z
              · rw [upd_ne h1]
                by_cases h2 : a = q
                · subst h2
                  rw [upd_same]
                  exact fun z => nomatch z
                · rw [upd_ne h2]
                  rcases List.mem_append.mp ha with h | h
                  · exact hin a h
                  · exact absurd (List.mem_singleton.mp h) h2
            · refine inn_snoc ?_ (inn.mono gr.1 fun a ha => ?_)
              · rw [upd_ne qA, upd_same]
              · have h1 : a ≠ A := fun z => out (z ▸ ha)
                have h2 : a ≠ q := fun z => by
                  subst z
                  exact hin a ha Nq
                rw [upd_ne h1, upd_ne h2]
      · refine .inl ⟨wk2 k (by omega), ?_⟩
        have ek : k = ds.length := by omega
        subst ek
        have ns : Nest K f G2 H' (σ.set i (some (.ref A))) (ρ1.set i none) i (List.replicate ds.length []) := ⟨A, N, qs, List.getElem?_set_self (by rw [rl1.len]; exact hlen0.2), rl2.setAny (f := f.over N) hp hP _, own, top, out, nd, inn⟩
        exact hr f G2 H' (σ.set i (some (.ref A))) (ρ1.set i none) _ D hp ns (CS.same (s1.trans s2) hq)
end
end Z
namespace Z
open PySem PySem.Spec PyProof.Rows L2
section
variable {K : PySem.W.Frag} {P : Nat} {f : Fx} {G H G' H' : Hp} {σ : L2.St} {ρ : Env}
/-- what was set aside is no slot's -/
theorem Rel.unadd {a : Addr} {o : HO} (rl : Rel K (f.add a o) G H σ ρ) (hF : f.F a = none) : Rel K f G H σ ρ ∧ ∀ (k : Nat) (s : S), ρ[k]? = some (some s) → s.own = true → σ[k]? ≠ some (some (V.ref a)) := by
  have sub : ∀ b, b ≠ a → (f.add a o).F b = f.F b := fun b hb => upd_ne hb
  have far : ∀ (k : Nat) (zs : S), ρ[k]? = some (some zs) → zs.own = true → σ[k]? ≠ some (some (V.ref a)) := by
    intro k zs q hs z
    obtain ⟨p', vs', w1, w2, w3, w4, w5⟩ := rl.ow k zs q hs
    rw [z] at w1
    cases w1
    have w5 : upd f.F a o a = none := w5
    rw [upd_same] at w5
    cases w5
  refine ⟨⟨rl.len, rl.gh, fun b x q => ?_, rl.g0, fun b q1 q2 => ?_, rl.pin, rl.dat, fun i s q hs => ?_, rl.injS⟩, far⟩
  · have hb : b ≠ a := fun z => by
      subst z
      rw [hF] at q
      cases q
    exact rl.fh b x (by rw [sub b hb]; exact q)
  · have hb : b ≠ a := fun z => by
      subst z
      exact q1 hF
    exact rl.gf b (by rw [sub b hb]; exact q1) q2
  · obtain ⟨p', u, w1, w2, w3, w4, w5⟩ := rl.ow i s q hs
    have hb : p' ≠ a := fun z => by
      subst z
      exact far i s q hs w1
    exact ⟨p', u, w1, w2, w3, w4, by rw [← sub p' hb]; exact w5⟩
theorem Rel.atA {a : Addr} {o : HO} (rl : Rel K (f.add a o) G H σ ρ) : H a = some o := rl.atF
end
/-! ### a display of one pair -/
def emptyM (tk : Bool) (p : Addr) : HO := if tk = true then NestO p [] else .dK []
def tDisp1 (K : PySem.W.Frag) (tk : Bool) (te tv : TE) : TE := fun σ H Q => ∀ p, H p = none → te σ (upd H p (emptyM tk p)) fun x H1 => tv σ H1 fun y H2 => H2 p = some (emptyM tk p) ∧ ∃ G d dv, Same G H2 ∧ Dp K G x d ∧ keyOk tk d = true ∧ Dp K G y dv ∧
  ∀ ob', OwnR K G p ob' (.m tk [(d, dv)]) → Q (.ref p) (upd H2 p ob')
theorem dict_pairsH {prog : Program} {w : World} {KK : Type} [DecidableEq KK] {knd : HeapKind prog w KK} {A : Around} {E : Value → Shared → Prop} {s : Shared} {env : PySem.Env} {keys : List (Option Expr)} {values : List Expr} {pos : Pos} {pairs : List (Sem Value × Sem Value)} {Q : Value → Shared → Prop} (hu : knd.room A)
    (hshape : (evalEachOpt keys env).zip ((evalEach values env).map fun v => do let x ← v; standAt pos; pure x) = pairs.map fun p => (some p.1, p.2)) (h0 : pairs ≠ []) (hlen : pairs.length ≤ 15)
    (h : wpAny (model prog w) A (evalPairs pairs) (fun vs s₁ => ∃ ps, CarriesH knd s₁.heap vs ps ∧ s₁.heap.DictOfH knd s.heap.objs.size [] ∧
      ∀ h' tk, h'.DictOfH knd s.heap.objs.size (storedAllH [] ps) → Heap.SameBut s.heap.objs.size s₁.heap h' → Q (.ref s.heap.objs.size) { s₁ with heap := h', toks := tk }) E
      { s with heap := s.heap.push { cls := .type "dict", data := .dict #[] } }) :
    wpAny (model prog w) A (eval (.Dict keys values pos) env) Q E s := by
  rw [arm_eval_Dict, hshape, dictDisplay_pairs pairs h0 (by omega)]
  exact wpAny_bind (wpAny_standAt (wpAny_bind (wpAny_subDictH (knd := knd) (Q := fun d s' => wpAny (model prog w) A (pure (Value.ref d)) Q E s') hu hlen
    (wpAny_mono h (fun vs s₁ h₁ => by obtain ⟨ps, hc, hm, hq⟩ := h₁; exact ⟨ps, hc, hm, fun h' tk a b => wpAny_pure (hq h' tk a b)⟩) fun _ _ e => e))))
section
variable {X : Cx} {K : PySem.W.Frag}
theorem roomA (hu : X.A.units + 64 < cLine) : (nestedKind X.prog X.w).room X.A := by
  show X.A.units + 8 < cLine
  omega
theorem pe_disp1 {pos : Pos} {e v : Expr} {te tv : TE} (tk : Bool) (hu : X.A.units + 64 < cLine) (he : PE X e te) (hv : PE X v tv) (hK : X.K = K := by rfl) : PE X (.Dict [some e] [v] pos) (tDisp1 K tk te tv) := by
  subst hK
  refine ⟨fun pins s σ H Q I q => ?_⟩
  have hn := I.hok.fresh (Nat.le_refl s.heap.objs.size)
  have ps := pps_cons (pos := pos) he hv (pps_nil (X := X) (pos := pos))
  cases tk with
  | false =>
    have I1 := I.laid (a := s.heap.objs.size) (o := .dK []) (h' := s.heap.push { cls := .type "dict", data := .dict #[] }) (t' := s.toks) (fun _ _ q => Heap.get?_push_of_some _ q) (Nat.le_refl _) (dk_empty s.heap I.big)
    have run := ps.run pins _ σ _ (fun qs H2 => match qs with
      | [(x, y)] => H2 s.heap.objs.size = some (.dK []) ∧ ∃ G d dv, Same G H2 ∧ Dp X.K G x d ∧ keyOk false d = true ∧ Dp X.K G y dv ∧ ∀ ob', OwnR X.K G s.heap.objs.size ob' (.m false [(d, dv)]) → Q (.ref s.heap.objs.size) (upd H2 s.heap.objs.size ob')
      | _ => False) I1 (q _ hn)
    refine wpAny_Dict_walk (knd := mixKind X.prog X.w) (by rfl) (by rfl) (by simp) (by simp) (thn run fun ws s2 hh => ?_)
    obtain ⟨qs, H2, I2, rel, hh⟩ := hh
    split at hh
    · next x y =>
      obtain ⟨e, G, d, dv, sg, hx, hk, hy, fin⟩ := hh
      rcases keyOk_i hk with ⟨_, i, rfl⟩ | ⟨h, _⟩
      · have ex := dp_int hx
        subst ex
        obtain ⟨rs, c, rk⟩ := carries_of (P := X.prog) (w := X.w) (kvs := [(Sum.inl i, y)]) rel
        obtain ⟨z, hd, vs0, r0, dd⟩ := dk_of I2.hok e
        cases r0
        refine ⟨rs, c, dd, fun h' dd' hs => ⟨.ref s.heap.objs.size, _, ?_, rfl, fin _ (.i (ks := [(i, y)]) (.cons hy .nil))⟩⟩
        have he : ∃ q, h'.get? s.heap.objs.size = some q := let ⟨q, _, _, hq, _⟩ := dd'; ⟨q, hq⟩
        exact d_write I2 (by rw [e]; exact True.intro) hs he (dk_new (by show 1 ≤ sizeLine; decide) hd (rk.merge .nil) dd')
      · cases h
    · exact hh.elim
  | true =>
    have I1 := I.laid (a := s.heap.objs.size) (o := NestO s.heap.objs.size []) (h' := s.heap.push { cls := .type "dict", data := .dict #[] }) (t' := s.toks) (fun _ _ q => Heap.get?_push_of_some _ q) (Nat.le_refl _)
      (nest_ok ⟨Nat.zero_le _, beq_eq_false_iff_ne.mpr (Ne.symm (Nat.ne_of_lt I.big)), [], .nil, ⟨_, #[], 0, Heap.get?_push_size _ rfl, ⟨rfl, rfl, rfl⟩, rfl, fun _ => rfl⟩, List.nodup_nil⟩)
    have run := ps.run pins _ σ _ (fun qs H2 => match qs with
      | [(x, y)] => H2 s.heap.objs.size = some (NestO s.heap.objs.size []) ∧ ∃ G d dv, Same G H2 ∧ Dp X.K G x d ∧ keyOk true d = true ∧ Dp X.K G y dv ∧ ∀ ob', OwnR X.K G s.heap.objs.size ob' (.m true [(d, dv)]) → Q (.ref s.heap.objs.size) (upd H2 s.heap.objs.size ob')
      | _ => False) I1 (q _ hn)
    refine dict_pairsH (knd := nestedKind X.prog X.w) (roomA hu) (zip_pairTrees _ _ _ _ (by rfl) (by rfl)) (by simp [pairTrees]) (by simp [pairTrees]) (thn run fun ws s2 hh => ?_)
    obtain ⟨qs, H2, I2, rel, hh⟩ := hh
    split at hh
    · next x y =>
      obtain ⟨e, G, d, dv, sg, hx, hk, hy, fin⟩ := hh
      rcases keyOk_i hk with ⟨h, _⟩ | ⟨_, ds, n, rfl, en, hdep⟩
      · cases h
      · obtain ⟨b, vs, rfl, _, _⟩ := dp_tup hx
        cases rel with
        | @cons p0 q0 ps0 qs0 r1 r2 =>
        cases r2
        obtain ⟨u1, u2⟩ := q0
        obtain ⟨r1, r3⟩ := r1
        cases (show u1 = Value.ref b from r1)
        have hx' := dp_same sg _ _ hx
        obtain ⟨z1, hs, xs, lx, dd⟩ := nest_of I2 e (.nil)
        cases lx
        refine ⟨[(n, b, u2)], ⟨rfl, rfl, ⟨nested_is I2 _ _ _ _ en hx' rfl, hdep⟩, trivial⟩, dd, fun h' tk dd' hsb => ⟨.ref s.heap.objs.size, _, ?_, rfl, fin _ (.n (L := [(n, b, y)]) (.cons en hdep hx hy .nil))⟩⟩
        obtain ⟨qo, es, ep, hq, h2, h3, h4, _, h5⟩ := dd'
        refine d_write I2 (by rw [e]; exact True.intro) hsb ⟨qo, hq⟩ (nest_ok ⟨by show 1 ≤ sizeLine; decide, hs, [(n, b, u2)], .cons ⟨rfl, rfl, r3⟩ .nil, ⟨qo, es, ep, hq, h2, h3, fun w' => ?_⟩, by simp⟩)
        rw [h4]
        show [(⟨n.hash X.w, .ref b, u2⟩ : DictEntry)] = [⟨n.hash w', .ref b, u2⟩]
        rw [hash_any en]
    · exact hh.elim
end
/-- x = {k: v} -/
def mDisp (P : Nat) (tk : Bool) (i : Nat) (mk mv : Env → Res R) : Env → Out := fun ρ => match mk ρ with
  | .ok r1 ρ1 => (match mv ρ1 with
    | .ok r2 ρ2 => (match frzA P [r1, r2] ρ2 with
      | some ρ3 => (match dopd ρ3 r1, dopd ρ3 r2 with
        | some k, some v => if keyOk tk k = true then .nx (ρ3.set i (some (.m tk [(k, v)]))) else .no
        | _, _ => .no)
      | none => .no)
    | _ => .no)
  | _ => .no
section
variable {K : PySem.W.Frag} {P : Nat} {W : Wish}
theorem sim_disp1 {tk : Bool} {i : Nat} {te tv : TE} {mk mv : Env → Res R} (h1 : SimE K P W te mk) (h2 : SimE K P W tv mv) (hi : P ≤ i) : SimS K P W (tAsg (tDisp1 K tk te tv) (gName i)) (mDisp P tk i mk mv) := by
  intro f G H σ ρ D hp rl hq p np
  unfold mDisp at hq
  have fp : f.F p = none := rl.fh.free np
  have rl0 := rl.addF (o := emptyM tk p) np
  refine SimE.op (f := f.add p (emptyM tk p)) h1 hp rl0 ?_
  cases e : mk ρ with
  | no => rw [e] at hq; exact hq.elim
  | exc c ρ1 => rw [e] at hq; exact hq.elim
  | ok r1 ρ1 =>
    rw [e] at hq
    intro x G1 H1 s1 rl1 a1
    simp only at hq
    refine SimE.op (f := f.add p (emptyM tk p)) h2 hp rl1 ?_
    cases e2 : mv ρ1 with
    | no => rw [e2] at hq; exact hq.elim
    | exc c ρ2 => rw [e2] at hq; exact hq.elim
    | ok r2 ρ2 =>
      rw [e2] at hq
      intro y G2 H2 s2 rl2 a2
      simp only at hq
      split at hq
      · next ρ3 e3 =>
        obtain ⟨G3, s3, rl3⟩ := rl2.frzA hp e3
        split at hq
        · next k v e4 e5 =>
          split at hq
          · next hk =>
            have hx : Dp K G3 x k := ((a1.same s2).same s3).dat rl3 e4
            have hy : Dp K G3 y v := (a2.same s3).dat rl3 e5
            refine ⟨rl3.atF, G3, k, v, rl3.gh, hx, hk, hy, fun ob' ho' => ?_⟩
            have g0 : f.G0 p = none := rl.g0.free (rl.gh.free np)
            have rl4 := rl3.swapF (o' := ob') g0
            obtain ⟨rl5, far⟩ := rl4.unadd fp
            exact hq G3 _ _ ((s1.trans s2).trans s3) (rl5.putS (xs := .m tk [(k, v)]) hp hi rfl upd_same ho' (rl4.noG g0) fp far)
          · exact hq.elim
        · exact hq.elim
      · exact hq.elim
end
/-! ### dict comprehensions, ints as keys -/
def dcL (P : Nat) (b : D → Env → Option Env) (mt : Env → Res Bool) (mk mv : Env → Res R) (vs : List Nat) : List D → List (D × D) → Env → Res (List (D × D))
  | [], acc, ρ => .ok acc ρ
  | d :: ds, acc, ρ => match b d ρ with
    | none => .no
    | some ρ1 => (match mt ρ1 with
      | .ok true ρ2 => (match mk ρ2 with
        | .ok r1 ρ3 => (match opd ρ3 r1 with
          | some (.int k) => (match mv ρ3 with
            | .ok r ρ4 => (match frz1 P ρ4 r with
              | some ρ5 => (match dopd ρ5 r with
                | some y => if acc.length < 1000000 then dcL P b mt mk mv vs ds (putM acc (.int k) y) (wipeE ρ5 vs) else .no
                | none => .no)
              | none => .no)
            | _ => .no)
          | _ => .no)
        | _ => .no)
      | .ok false ρ2 => dcL P b mt mk mv vs ds acc (wipeE ρ2 vs)
      | _ => .no)
def mDc (P i : Nat) (mi : Env → Res (List D)) (b : D → Env → Option Env) (mt : Env → Res Bool) (mk mv : Env → Res R) (vs : List Nat) : Env → Out := fun ρ => match mi ρ with
  | .ok ds ρ1 => (match dcL P b mt mk mv vs ds [] (wipeE ρ1 vs) with
    | .ok acc ρw => .nx ((back ρ1 vs ρw).set i (some (.m false acc)))
    | _ => .no)
  | .exc c ρ1 => .exc c ρ1
  | .no => .no
section
variable {K : PySem.W.Frag} {P : Nat} {W : Wish}
theorem sim_dc {wi : TI} {mi : Env → Res (List D)} {g : TG} {b : D → Env → Option Env} {ts vs : List Nat} {tt : TT} {mt : Env → Res Bool} {tk tv : TE} {mk mv : Env → Res R} {i : Nat}
    (hi : SimI K P W wi mi) (hg : SimG K P g b ts) (ht : SimT K P W tt mt) (hk : SimE K P W tk mk) (he : SimE K P W tv mv) (hts : ∀ i ∈ ts, i ∈ vs) (hvs : ∀ i ∈ vs, P ≤ i) (hP : P ≤ i) : SimS K P W (tAsg (tDc wi g tt tk tv vs) (gName i)) (mDc P i mi b mt mk mv vs) := by
  intro f G H σ ρ D hp rl hq
  refine hi f G H σ ρ _ hp rl ?_
  unfold mDc at hq
  cases e : mi ρ with
  | no => rw [e] at hq; exact hq
  | exc c ρ1 => rw [e] at hq; exact fun G1 H1 s1 rl1 => hq G1 H1 σ s1 rl1
  | ok ds ρ1 =>
    rw [e] at hq
    simp only at hq
    intro J G1 H1 s1 rl1 wk
    split at hq
    case h_2 => exact hq.elim
    next accF ρF hres =>
    intro A nA
    have gA : G1 A = none := rl1.gh.free nA
    have fA : f.F A = none := rl1.fh.free nA
    have g0A : f.G0 A = none := rl1.g0.free gA
    refine ⟨fun i m H' => ∃ G' ρ' acc ks, Same G1 G' ∧ Rel K (f.add A (.dK (ks.map fun q => (Sum.inl q.1, q.2)))) G' H' (wipe σ vs) ρ' ∧ KvI K G' ks acc ∧ i + m = ds.length ∧ dcL P b mt mk mv vs (ds.drop i) acc ρ' = .ok accF ρF,
      ⟨ds.length, G1, wipeE ρ1 vs, [], [], .refl _, (rl1.wiped hp hvs).addF nA, .nil, by omega, hres⟩, fun i m H' hW => ?_⟩
    obtain ⟨G2, ρ2, acc, ks, s2, rl2, hacc, em, hc⟩ := hW
    have sF : Same f.F H' := fun b o q => rl2.fh b o (by
      show upd f.F A _ b = some o
      rw [upd_ne (fun z => by subst z; rw [fA] at q; cases q)]
      exact q)
    obtain ⟨wk1, wk2⟩ := wk G2 H' s2 rl2.gh sF
    by_cases hlt : i < ds.length
    · have ed : ds.drop i = ds[i] :: ds.drop (i + 1) := List.drop_eq_getElem_cons hlt
      obtain ⟨go, yl⟩ := wk1 i ds[i] (List.getElem?_eq_getElem hlt)
      refine .inr ⟨go, fun H3 => ∃ G' ρ' acc ks, Same G1 G' ∧ Rel K (f.add A (.dK (ks.map fun q => (Sum.inl q.1, q.2)))) G' H3 (wipe σ vs) ρ' ∧ KvI K G' ks acc ∧ dcL P b mt mk mv vs (ds.drop (i + 1)) acc ρ' = .ok accF ρF,
        fun H3 hN => ?_, fun x H3 hy => ?_⟩
      · obtain ⟨G', ρ', acc', ks', a1, a2, a3, a4⟩ := hN
        exact ⟨m - 1, by omega, G', ρ', acc', ks', a1, a2, a3, by omega, a4⟩
      · obtain ⟨G3, gr, hd⟩ := yl x H3 hy
        have rl3 := rl2.grow gr
        have s3 := s2.trans gr.1
        rw [ed] at hc
        simp only [dcL] at hc
        split at hc
        · cases hc
        · next ρ3 e3 =>
          refine hg (f.add A (.dK (ks.map fun q => (Sum.inl q.1, q.2)))) G3 H3 (wipe σ vs) ρ2 ρ3 x ds[i] _ hp rl3 hd e3 fun σ4 rl4 l4 k4 => ?_
          have ew := wipe_same l4 k4 hts
          refine ⟨ew, ht (f.add A (.dK (ks.map fun q => (Sum.inl q.1, q.2)))) G3 H3 σ4 ρ3 _ hp rl4 ?_⟩
          cases e4 : mt ρ3 with
          | no => rw [e4] at hc; cases hc
          | exc c ρ4 => rw [e4] at hc; cases hc
          | ok k ρ4 =>
            rw [e4] at hc
            intro G5 H5 s5 rl5
            cases k with
            | false =>
              rw [if_neg Bool.false_ne_true]
              have r6 := rl5.wiped hp hvs
              rw [ew] at r6
              exact ⟨G5, _, acc, ks, s3.trans s5, r6, kvI_same (gr.1.trans s5) hacc, hc⟩
            | true =>
              rw [if_pos rfl]
              simp only at hc
              refine SimE.op (f := f.add A (.dK (ks.map fun q => (Sum.inl q.1, q.2)))) hk hp rl5 ?_
              cases e5 : mk ρ4 with
              | no => rw [e5] at hc; cases hc
              | exc c ρ5 => rw [e5] at hc; cases hc
              | ok r1 ρ5 =>
                rw [e5] at hc
                intro v1 G6 H6 s6 rl6 h6
                simp only at hc
                split at hc
                case h_2 => cases hc
                next kk ek =>
                have hv1 := (h6.got rl6 ek).int
                subst hv1
                refine SimE.op (f := f.add A (.dK (ks.map fun q => (Sum.inl q.1, q.2)))) he hp rl6 ?_
                cases e6 : mv ρ5 with
                | no => rw [e6] at hc; cases hc
                | exc c ρ6 => rw [e6] at hc; cases hc
                | ok r ρ6 =>
                  rw [e6] at hc
                  intro v G7 H7 s7 rl7 h7
                  simp only at hc
                  split at hc
                  case h_2 => cases hc
                  next ρ7 e7 =>
                  obtain ⟨G8, s8, rl8⟩ := rl7.frz1 hp e7
                  split at hc
                  case h_2 => cases hc
                  next y e8 =>
                  split at hc
                  case isFalse => cases hc
                  next hlen =>
                  have s28 := (((gr.1.trans s5).trans s6).trans s7).trans s8
                  have hv : Dp K G8 v y := (h7.same s8).dat rl8 e8
                  have hacc' := kvI_same s28 hacc
                  obtain ⟨ks', p1, p2⟩ := put_int hacc' kk hv
                  refine ⟨ks.map fun q => (Sum.inl q.1, q.2), Sum.inl kk, rfl, rl8.atF, ?_, ?_⟩
                  · rw [List.length_map, kvI_len hacc]
                    exact Nat.lt_of_lt_of_le hlen (by decide)
                  · rw [p1]
                    have r9 := (rl8.swapF (o' := .dK (ks'.map fun q => (Sum.inl q.1, q.2))) g0A).wiped hp hvs
                    rw [ew] at r9
                    exact ⟨G8, _, putM acc (.int kk) y, ks', s2.trans s28, r9, p2, hc⟩
    · have ed : ds.drop i = [] := List.drop_of_length_le (by omega)
      rw [ed] at hc
      simp only [dcL] at hc
      cases hc
      refine .inl ⟨wk2 i (by omega), ?_⟩
      have rl' := rl1.restore hp hvs s2 rl2 fA
      refine hq G2 _ _ (s1.trans s2) (rl'.putS (xs := .m false accF) hp hP rfl rl2.atF (.i hacc) (rl2.noG g0A) fA fun k ys q hs z => ?_)
      by_cases hj : k ∈ vs
      · obtain ⟨x, e, _⟩ := back_in ρ1 hj q
        subst e
        cases hs
      · rw [back_out ρ1 hj] at q
        obtain ⟨p, us, q1, q2, q3, q4, q5⟩ := rl2.ow k ys q hs
        rw [wipe_out' hj, z] at q1
        cases q1
        have q5 : upd f.F A _ A = none := q5
        rw [upd_same] at q5
        cases q5
end
end Z
namespace Z
open PySem PySem.Spec PyProof.Rows L2
/-! ### sorted(x), x a dict whose keys are pairs of ints -/
theorem srcRaw {prog : Program} {w : World} {d : Addr} {es : Array DictEntry} {ep : Nat} (lo : (d == sysModules) = false) : PySem.W.KdlSrc prog w "dict" d d es.size (fun i v => ∃ hi : i < es.size, v = es[i].key) (fun h => h.DictRaw d es ep) where
  type := fun _ hm => hm.typeIs
  there := fun _ hm => by
    obtain ⟨o, ho, _⟩ := hm
    exact ⟨Heap.lt_size ho, Heap.lt_size ho⟩
  keep := fun _ _ hm hk => hm.at fun o e => hk d (.inl rfl) o e
  notList := by decide
  notTuple := by decide
  hint := fun _ _ _ _ hm hq => PySem.W.kdl_hint_dict hm.typeIs hq
  iter := fun _ s hh hm => ⟨_, _, (fun _ _ hq => wpAny_pyIter_dict_raw lo hm hq), Walks.rawKeys hh _ d (by obtain ⟨o, ho, _⟩ := hm; exact Nat.ne_of_lt (Heap.lt_size ho)) es ep,
    ⟨⟨_, Heap.get?_push_size _ rfl, rfl, rfl⟩, hm.at fun o e => Heap.get?_push_of_some _ e⟩⟩
def rSortM (K : PySem.W.Frag) : List V → Hp → VK → Prop := fun xs H Q => ∃ a o kvs ps G, xs = [.ref a] ∧ H a = some o ∧ Same G H ∧ OwnR K G a o (.m true kvs) ∧ kvs.map (·.1) = ps.map pairD ∧
  ∀ (M : List (V × Int × Int)) (p : Addr), (∀ q ∈ M, Dp K G q.1 (pairD q.2)) → M.map (·.2) = psort ps → H p = none → Q (.ref p) (upd H p (.lst (M.map (·.1))))
theorem kvN_pairs {K : PySem.W.Frag} {G : Hp} : ∀ {L : List (NestedKey × Addr × V)} {kvs : List (D × D)}, KvN K G L kvs → ∀ {ps : List (Int × Int)}, kvs.map (·.1) = ps.map pairD →
    ∃ M : List (V × Int × Int), M.map (·.1) = L.map (fun q => V.ref q.2.1) ∧ M.map (·.2) = ps ∧ ∀ q ∈ M, Dp K G q.1 (pairD q.2)
  | _, _, .nil, ps, e => by
    cases ps with
    | nil => exact ⟨[], rfl, rfl, fun q hq => nomatch hq⟩
    | cons _ _ => cases e
  | _, _, .cons h1 h0 h2 h3 h4, ps, e => by
    cases ps with
    | nil => cases e
    | cons p ps =>
      rw [List.map_cons, List.map_cons] at e
      injection e with e1 e2
      obtain ⟨M, m1, m2, m3⟩ := kvN_pairs h4 e2
      have e1 : _ = pairD p := e1
      subst e1
      refine ⟨(V.ref _, p) :: M, by rw [List.map_cons, List.map_cons, m1], by rw [List.map_cons, m2], fun q hq => ?_⟩
      rcases List.mem_cons.mp hq with z | hq
      · subst z; exact h2
      · exact m3 q hq
theorem zsortM {X : Cx} {K : PySem.W.Frag} (hc : X.calm = true) (hK : X.K = K := by rfl) : CallR X (.builtin "sorted") (rSortM K) := by
  subst hK
  intro pins s σ H xs us Q I r h
  obtain ⟨a, o, kvs, ps, G, rfl, ha, sg, ho, hks, q⟩ := h
  rw [Vals.ref1 r]
  cases ho with
  | @n L _ hkv =>
  obtain ⟨z, lo, xs, lx, dd⟩ := nest_of I ha (kvN_same sg hkv)
  obtain ⟨es, ep, raw, esz, ent⟩ := dd.raw
  obtain ⟨M0, m1, m2, m4⟩ := kvN_pairs hkv hks
  have m3 : ∀ q ∈ M0, Dp X.K H q.1 (pairD q.2) := fun q hq => dp_same sg _ _ (m4 q hq)
  have hxl : xs.length = L.length := (Paired.length lx).symm
  have h16 : es.size ≤ sizeLine := by rw [esz, hxl]; exact z
  refine Calls.call_function_entry PyProof.Rows.kind_sorted PyProof.Rows.plain_sorted PyProof.Rows.entry_sorted (PyProof.Rows.args_sorted1 _) ?_
  unfold Builtin.«sorted»
  refine wpAny_bind (m := checkCount "sorted" 1 1 _) (wpAny_pure ?_)
  refine wpAny_bind (PySem.W.kdu_collect (A := X.A.in1) (srcRaw lo) (I.ok.hd hc) raw h16 fun h' tk acc hk hacc => ?_)
  have I1 : Inv X pins σ H { s with heap := h', toks := tk } := I.kept hk
  -- what was collected
  have eL : ∀ (L : List (NestedKey × Addr × V)) (xs : List (NestedKey × Addr × Value)), LX L xs → xs.map (fun y => Value.ref y.2.1) = L.map fun y => Value.ref y.2.1 := by
    intro L xs h
    induction h with
    | nil => rfl
    | cons r _ ih => rw [List.map_cons, List.map_cons, ih, r.2.1]
  have ei : acc.toList = M0.map fun q => valR q.1 := by
    have e1 : acc.toList = xs.map fun y => Value.ref y.2.1 := by
      refine List.ext_getElem? fun j => ?_
      by_cases hj : j < acc.size
      · have e : acc[j]? = some acc[j] := Array.getElem?_eq_getElem hj
        obtain ⟨hi, ek⟩ := hacc.2 j _ e
        obtain ⟨y, y1, y2, _⟩ := ent j hi
        rw [Array.getElem?_toList, e, List.getElem?_map, y1, ek, y2]
        rfl
      · have hl := hacc.1
        rw [Array.getElem?_toList, Array.getElem?_eq_none (by omega), List.getElem?_eq_none (by rw [List.length_map]; omega)]
    rw [e1, eL L xs lx]
    have e2 : M0.map (fun q => valR q.1) = (M0.map (·.1)).map valR := by rw [List.map_map]; rfl
    rw [e2, m1, List.map_map]
    rfl
  have hal : acc.toList.length ≤ sizeLine := by rw [Array.length_toList, hacc.1]; exact h16
  refine wpAny_bind (wpAny_newList ?_ hal)
  have hoL : (h'.push (seqObj "list" acc.toList.toArray 0)).get? h'.objs.size = some (seqObj "list" acc.toList.toArray 0) := Heap.get?_push_size _ rfl
  have pr : ∀ q ∈ M0, Srt.IsPair (h'.push (seqObj "list" acc.toList.toArray 0)) (valR q.1) q.2.1 q.2.2 := fun q hq => by
    obtain ⟨t, us, et, w3, w4⟩ := dp_tup (m3 q hq)
    cases w4 with
    | cons w5 w6 =>
      cases w6 with
      | cons w7 w8 =>
        cases w8
        rw [dp_int w5, dp_int w7] at w3
        obtain ⟨its2, r2, ⟨o, ho, hc, n, hd⟩, _⟩ := I1.tuple w3
        obtain ⟨u1, u2, rfl, ri, rj⟩ := vals2 r2
        obtain ⟨t1, rfl⟩ := ri
        obtain ⟨t2, rfl⟩ := rj
        rw [et]
        exact ⟨t, o, t1, t2, n, rfl, Heap.get?_push_of_some _ ho, hc, hd⟩
  have refs : ∀ v ∈ acc.toList, ∃ b, v = Value.ref b := fun v hv => by
    rw [ei] at hv
    obtain ⟨q, hq, rfl⟩ := List.mem_map.mp hv
    obtain ⟨t, us, et, _⟩ := dp_tup (m3 q hq)
    exact ⟨t, by rw [et]; rfl⟩
  have eM : acc.toList.map (fun u => (backV u, pairAt (h'.push (seqObj "list" acc.toList.toArray 0)) u)) = M0 := by
    rw [ei, List.map_map]
    refine (List.map_congr_left fun q hq => ?_).trans (List.map_id M0)
    obtain ⟨t, us, e, _⟩ := dp_tup (m3 q hq)
    have e2 : pairAt (h'.push (seqObj "list" acc.toList.toArray 0)) (valR q.1) = q.2 := pairAt_eq (pr q hq)
    rw [ei] at e2
    show (backV (valR q.1), pairAt _ (valR q.1)) = q
    rw [e2, e]
    show (V.ref t, q.2) = q
    rw [← e]
  show wpAny _ _ _ _ _ { s with heap := h'.push (seqObj "list" acc.toList.toArray 0), toks := tk }
  refine wpAny_bind (wpAny_holding (wpAny_call_entry PyProof.Rows.slot_list_sort ⟨_, hoL, rfl⟩ PyProof.Rows.entry_list_sort
    (SrtO.list_sort_ord (s := { s with heap := h'.push (seqObj "list" acc.toList.toArray 0), toks := tk }) (SrtO.swo_lex (pairAt (h'.push (seqObj "list" acc.toList.toArray 0)))) hoL hal
      (fun h2 => SrtO.pairs_sortableO (by omega) (fun v hv => by
        have hv' := hv
        rw [ei] at hv'
        obtain ⟨q, hq, rfl⟩ := List.mem_map.mp hv'
        have p := pr q hq
        rw [pairAt_eq (p := q.2) p]
        exact p) fun o e => by
          have e' : some o = some (seqObj "list" acc.toList.toArray 0) := e.symm.trans hoL
          cases e'
          intro c
          exact absurd (Value.type.inj c) (by decide))
      fun out h1 h2 => ⟨_, rfl, ?_⟩) (PyProof.Rows.args_list_sort _)))
  obtain ⟨e', he'⟩ := PyProof.Rows.sortedHeap_at (vs := acc.toList) (out := out.toArray) hoL
  have h3 : ∀ u ∈ out, ∃ a, u = Value.ref a := fun u hu => refs u (h2.perm.mem_iff.mp hu)
  have pm : (out.map fun u => (backV u, pairAt (h'.push (seqObj "list" acc.toList.toArray 0)) u)).Perm M0 := by
    have := h2.perm.map fun u => (backV u, pairAt (h'.push (seqObj "list" acc.toList.toArray 0)) u)
    rw [eM] at this
    exact this
  have n1 : (out.map fun u => (backV u, pairAt (h'.push (seqObj "list" acc.toList.toArray 0)) u)).map (·.1) = out.map backV := by rw [List.map_map]; rfl
  have n2 : (out.map fun u => (backV u, pairAt (h'.push (seqObj "list" acc.toList.toArray 0)) u)).map (·.2) = out.map (pairAt (h'.push (seqObj "list" acc.toList.toArray 0))) := by rw [List.map_map]; rfl
  have fin := q (out.map fun u => (backV u, pairAt (h'.push (seqObj "list" acc.toList.toArray 0)) u)) h'.objs.size (fun x hx => m4 x (pm.mem_iff.mp hx)) (by
    refine lexL_one ?_ (psort_up ps) (((pm.map (·.2)).trans (by rw [m2])).trans (psort_perm ps).symm)
    rw [n2]
    refine List.pairwise_map.mpr (h1.imp fun {x y} z => ?_)
    have z := SrtO.lexB_no.mp z
    show _ < _ ∨ (_ = _ ∧ _ ≤ _)
    omega) (I1.hok.fresh (Nat.le_refl _))
  rw [n1] at fin
  have hlen : (out.map backV).length ≤ sizeLine := by
    rw [List.length_map, h2.perm.length_eq]
    exact hal
  refine wpAny_pure ⟨_, rfl, .ref h'.objs.size, upd H h'.objs.size (.lst (out.map backV)), I1.laid (t' := tk) (fun b u e => ?_) (Nat.le_refl _)
    (show ObjOk X.prog X.w _ _ _ (.lst (out.map backV)) from ⟨hlen, out, e', vals_back h3, he'⟩), rfl, fin⟩
  have hb : b < h'.objs.size := Heap.lt_size e
  rw [PyProof.Rows.sortedHeap_old (Nat.ne_of_lt hb) (by rw [size_push']; exact Nat.lt_succ_of_lt hb)]
  exact Heap.get?_push_of_some _ e
/-- sorted(x) of a slot's dict -/
def mSortM (j : Nat) : Env → Res R := fun ρ => match ρ[j]? with
  | some (some (S.m true kvs)) => (match pairsOf (kvs.map (·.1)) with
    | some ps => .ok (.o ((psort ps).map pairD)) ρ
    | none => .no)
  | _ => .no
section
variable {K : PySem.W.Frag} {P : Nat} {W : Wish}
theorem sim_sortM {j : Nat} : SimE K P W (tCB (rSortM K) (tCons (tVar j) tNil)) (mSortM j) := by
  intro f G H σ ρ Q hp rl hq
  unfold mSortM at hq
  split at hq
  · next kvs e =>
    split at hq
    · next ps eps =>
      obtain ⟨p, o, w1, w2, w3, w4, w5⟩ := rl.ow j _ e rfl
      refine ⟨_, w1, p, o, kvs, ps, G, rfl, w2, rl.gh, w3, pairsOf_eq eps, fun M q hM em nq => ?_⟩
      have gr := Grow.fresh (o := .lst (M.map (·.1))) rl.gh nq
      refine hq _ G _ (.refl _) (rl.grow gr) (NewV.vrep rl gr ⟨q, _, rfl, nq, upd_same, ?_, rl.gh.free nq⟩)
      rw [← em]
      exact dp_pairs' M hM
    · exact hq.elim
  · exact hq.elim
end
/-! ### min(x), x a list of ints -/
def lmin : Int → List Int → Int
  | n, [] => n
  | n, m :: ms => lmin (min n m) ms
theorem lmin_le : ∀ (n : Int) (ms : List Int), lmin n ms ≤ n ∧ ∀ m ∈ ms, lmin n ms ≤ m
  | n, [] => ⟨Int.le_refl _, fun _ h => nomatch h⟩
  | n, m :: ms => by
    obtain ⟨h1, h2⟩ := lmin_le (min n m) ms
    refine ⟨by show lmin (min n m) ms ≤ n; omega, fun x hx => ?_⟩
    show lmin (min n m) ms ≤ x
    rcases List.mem_cons.mp hx with rfl | hx
    · omega
    · exact h2 x hx
theorem lmin_mem : ∀ (n : Int) (ms : List Int), lmin n ms ∈ n :: ms
  | n, [] => List.mem_cons_self
  | n, m :: ms => by
    have h := lmin_mem (min n m) ms
    show lmin (min n m) ms ∈ _
    rcases List.mem_cons.mp h with h | h
    · rw [h]
      by_cases q : n ≤ m
      · rw [show min n m = n by omega]; exact List.mem_cons_self
      · rw [show min n m = m by omega]; exact List.mem_cons_of_mem _ List.mem_cons_self
    · exact List.mem_cons_of_mem _ (List.mem_cons_of_mem _ h)
theorem zmin {X : Cx} {K : PySem.W.Frag} (hc : X.calm = true) (hK : X.K = K := by rfl) : CallR X (.builtin "min") (rMin K) := by subst hK; exact cr_min hc
def cMin : List D → Option R
  | [.list es] => (match intsOf es with
    | some (n :: ns) => some (.d (.int (lmin n ns)))
    | _ => none)
  | _ => none
section
variable {K : PySem.W.Frag}
theorem s_min : CallS K (rMin K) cMin := by
  intro G H xs ds z Q s h eg hq
  unfold cMin at eg
  split at eg
  · next es =>
    split at eg
    · next n ns en =>
      cases eg
      cases h with
      | cons h1 h2 =>
        cases h2
        obtain ⟨a, vs, rfl, w1, w2⟩ := h1.lst s
        rw [intsOf_eq en] at w2
        rw [dpAll_ints w2] at w1
        refine ⟨a, n :: ns, rfl, w1, by simp, fun m hm hle => ?_⟩
        have h1 := lmin_le n ns
        have h2 := lmin_mem n ns
        have e : m = lmin n ns := by
          have a1 := hle _ h2
          rcases List.mem_cons.mp hm with rfl | hm
          · omega
          · have := h1.2 m hm
            omega
        subst e
        exact hq _ G H (.refl s) (.int _)
    · cases eg
  · cases eg
end
end Z
namespace Z
open PySem L2
/-! ### while: how many turns are let; facts about it -/
@[irreducible] def fuel : Nat := 1000000
theorem fuel_gt {k : Nat} (h : k < 1000000) : k < fuel := by unfold fuel; exact h
theorem while_ind {mc : Env → Res Bool} {body : Env → Out} (Inv : Nat → Env → Prop) (Post : Out → Prop)
    (h : ∀ k ρ, Inv k ρ → (∃ ρ1, mc ρ = .ok false ρ1 ∧ Post (.nx ρ1)) ∨ ∃ ρ1, mc ρ = .ok true ρ1 ∧ ((∃ ρ2 k', body ρ1 = .nx ρ2 ∧ k' < k ∧ Inv k' ρ2) ∨ ∃ s ρ2, body ρ1 = .rt s ρ2 ∧ Post (.rt s ρ2))) :
    ∀ (n k : Nat) (ρ : Env), k < n → Inv k ρ → Post (whileN mc body n ρ) := by
  intro n
  induction n with
  | zero => intro k ρ hk; exact absurd hk (Nat.not_lt_zero _)
  | succ n ih =>
    intro k ρ hk hi
    rcases h k ρ hi with ⟨ρ1, e, p⟩ | ⟨ρ1, e, ⟨ρ2, k', e2, hk', hi'⟩ | ⟨s, ρ2, e2, p⟩⟩
    · simp only [whileN, e]; exact p
    · simp only [whileN, e, e2]
      exact ih k' ρ2 (by omega) hi'
    · simp only [whileN, e, e2]; exact p
theorem while_nx {mc : Env → Res Bool} {body : Env → Out} (Inv : Nat → Env → Prop) (Post : Env → Prop)
    (h : ∀ k ρ, Inv k ρ → (∃ ρ1, mc ρ = .ok false ρ1 ∧ Post ρ1) ∨ ∃ ρ1 ρ2 k', mc ρ = .ok true ρ1 ∧ body ρ1 = .nx ρ2 ∧ k' < k ∧ Inv k' ρ2) (k : Nat) (ρ : Env) (hk : k < 1000000) (hi : Inv k ρ) :
    ∃ ρ', whileN mc body fuel ρ = .nx ρ' ∧ Post ρ' := by
  refine while_ind Inv (fun o => ∃ ρ', o = .nx ρ' ∧ Post ρ') (fun k ρ hi => ?_) fuel k ρ (fuel_gt hk) hi
  rcases h k ρ hi with ⟨ρ1, e, p⟩ | ⟨ρ1, ρ2, k', e, e2, hk', hi'⟩
  · exact .inl ⟨ρ1, e, _, rfl, p⟩
  · exact .inr ⟨ρ1, e, .inl ⟨ρ2, k', e2, hk', hi'⟩⟩
/-- a walk that may return -/
theorem forL_ind {b : D → Env → Option Env} {body : Env → Out} (Inv : Nat → Env → Prop) (Post : Out → Prop) : ∀ (ds : List D) (k : Nat) (ρ : Env), Inv k ρ →
    (∀ i d, ds[i]? = some d → ∀ ρ, Inv (k + i) ρ → ∃ ρ1, b d ρ = some ρ1 ∧ ((∃ ρ2, (body ρ1 = .nx ρ2 ∨ body ρ1 = .ct ρ2) ∧ Inv (k + i + 1) ρ2) ∨ (∃ ρ2, body ρ1 = .bk ρ2 ∧ Post (.nx ρ2)) ∨ ∃ s ρ2, body ρ1 = .rt s ρ2 ∧ Post (.rt s ρ2))) →
    (∀ ρ, Inv (k + ds.length) ρ → Post (.nx ρ)) → Post (forL b body ds ρ)
  | [], k, ρ, h, _, hf => hf ρ h
  | d :: ds, k, ρ, h, hs, hf => by
    have rest : ∀ ρ2, Inv (k + 1) ρ2 → Post (forL b body ds ρ2) := fun ρ2 h2 => forL_ind Inv Post ds (k + 1) ρ2 h2 (fun i x hx ρ hρ => by
      have := hs (i + 1) x (by simpa using hx) ρ (by rw [show k + (i + 1) = k + 1 + i by omega]; exact hρ)
      rw [show k + (i + 1) + 1 = k + 1 + i + 1 by omega] at this
      exact this) (fun ρ hρ => hf ρ (by rw [List.length_cons, show k + (ds.length + 1) = k + 1 + ds.length by omega]; exact hρ))
    obtain ⟨ρ1, e1, ⟨ρ2, e2, h2⟩ | ⟨ρ2, e2, p⟩ | ⟨s, ρ2, e2, p⟩⟩ := hs 0 d rfl ρ h
    · rcases e2 with e2 | e2
      · simp only [forL, e1, e2]
        exact rest ρ2 h2
      · simp only [forL, e1, e2]
        exact rest ρ2 h2
    · simp only [forL, e1, e2]; exact p
    · simp only [forL, e1, e2]; exact p
/-! a comprehension that changes other slots on its way -/
theorem lcL_st {P : Nat} {b : D → Env → Option Env} {mt : Env → Res Bool} {me : Env → Res R} {vs : List Nat} (Inv : Nat → List D → Env → Prop) : ∀ (ds : List D) (k : Nat) (acc : List D) (ρ : Env), Inv k acc ρ →
    (∀ i d, ds[i]? = some d → ∀ acc ρ, Inv (k + i) acc ρ → acc.length < 1000000 ∧ ∃ ρ1, b d ρ = some ρ1 ∧ ((∃ ρ2, mt ρ1 = .ok false ρ2 ∧ Inv (k + i + 1) acc (wipeE ρ2 vs)) ∨ ∃ ρ2 x ρ3, mt ρ1 = .ok true ρ2 ∧ me ρ2 = .ok (.d x) ρ3 ∧ Inv (k + i + 1) (acc ++ [x]) (wipeE ρ3 vs))) →
    ∃ acc' ρ', lcL P b mt me vs ds acc ρ = .ok acc' ρ' ∧ Inv (k + ds.length) acc' ρ'
  | [], k, acc, ρ, h, _ => ⟨acc, ρ, rfl, h⟩
  | d :: ds, k, acc, ρ, h, hs => by
    have rest : ∀ acc2 ρ2, Inv (k + 1) acc2 ρ2 → ∃ acc' ρ', lcL P b mt me vs ds acc2 ρ2 = .ok acc' ρ' ∧ Inv (k + (d :: ds).length) acc' ρ' := fun acc2 ρ2 h2 => by
      have := lcL_st (P := P) Inv ds (k + 1) acc2 ρ2 h2 fun i x hx acc ρ hρ => by
        have := hs (i + 1) x (by simpa using hx) acc ρ (by rw [show k + (i + 1) = k + 1 + i by omega]; exact hρ)
        rw [show k + (i + 1) + 1 = k + 1 + i + 1 by omega] at this
        exact this
      rw [show k + 1 + ds.length = k + (d :: ds).length by rw [List.length_cons]; omega] at this
      exact this
    obtain ⟨hl, ρ1, e1, ⟨ρ2, e2, h2⟩ | ⟨ρ2, x, ρ3, e2, e3, h2⟩⟩ := hs 0 d rfl acc ρ h
    · obtain ⟨a', r', e, i⟩ := rest _ _ h2
      exact ⟨a', r', by simp only [lcL, e1, e2, e], i⟩
    · obtain ⟨a', r', e, i⟩ := rest _ _ h2
      exact ⟨a', r', by simp only [lcL, e1, e2, e3, frz1, dopd, hl, if_true, e], i⟩
/-! rows -/
section
variable {P i j : Nat} {tk : Bool} {ρ : Env} {mk mv me : Env → Res R} {mi : Env → Res (List D)} {ma : Env → Res (List R)} {b : D → Env → Option Env} {mt : Env → Res Bool} {vs : List Nat}
def dispK (P : Nat) (tk : Bool) (i : Nat) (r1 : R) : Res R → Out
  | .ok r2 ρ2 => (match frzA P [r1, r2] ρ2 with
      | some ρ3 => (match dopd ρ3 r1, dopd ρ3 r2 with
        | some k, some v => if keyOk tk k = true then .nx (ρ3.set i (some (.m tk [(k, v)]))) else .no
        | _, _ => .no)
      | none => .no)
  | _ => .no
def dispK1 (P : Nat) (tk : Bool) (i : Nat) (mv : Env → Res R) : Res R → Out
  | .ok r1 ρ1 => dispK P tk i r1 (mv ρ1)
  | _ => .no
theorem mDisp_k : mDisp P tk i mk mv ρ = dispK1 P tk i mv (mk ρ) := by
  unfold mDisp dispK1
  cases mk ρ with
  | ok r1 ρ1 =>
    show (match mv ρ1 with
      | .ok r2 ρ2 => _
      | _ => _) = dispK P tk i r1 (mv ρ1)
    cases mv ρ1 <;> rfl
  | _ => rfl
theorem dispK1_ok {r1 : R} : dispK1 P tk i mv (.ok r1 ρ) = dispK P tk i r1 (mv ρ) := nonrfl rfl
theorem dispK_ok {r1 r2 : R} : dispK P tk i r1 (.ok r2 ρ) = (match frzA P [r1, r2] ρ with
      | some ρ3 => (match dopd ρ3 r1, dopd ρ3 r2 with
        | some k, some v => if keyOk tk k = true then .nx (ρ3.set i (some (.m tk [(k, v)]))) else .no
        | _, _ => .no)
      | none => .no) := nonrfl rfl
def dcK (P i : Nat) (b : D → Env → Option Env) (mt : Env → Res Bool) (mk mv : Env → Res R) (vs : List Nat) : Res (List D) → Out
  | .ok ds ρ1 => (match dcL P b mt mk mv vs ds [] (wipeE ρ1 vs) with
    | .ok acc ρw => .nx ((back ρ1 vs ρw).set i (some (.m false acc)))
    | _ => .no)
  | .exc c ρ1 => .exc c ρ1
  | .no => .no
theorem mDc_k : mDc P i mi b mt mk mv vs ρ = dcK P i b mt mk mv vs (mi ρ) := by
  unfold mDc dcK
  cases mi ρ <;> rfl
theorem dcK_ok {ds : List D} : dcK P i b mt mk mv vs (.ok ds ρ) = (match dcL P b mt mk mv vs ds [] (wipeE ρ vs) with
    | .ok acc ρw => .nx ((back ρ vs ρw).set i (some (.m false acc)))
    | _ => .no) := nonrfl rfl
theorem mSortM_k : mSortM j ρ = (match ρ[j]? with
  | some (some (S.m true kvs)) => (match pairsOf (kvs.map (·.1)) with
    | some ps => .ok (.o ((psort ps).map pairD)) ρ
    | none => .no)
  | _ => .no) := nonrfl rfl
theorem cMin_l (n : Int) (ns : List Int) : cMin [.list ((n :: ns).map .int)] = some (.d (.int (lmin n ns))) := by
  show (match intsOf ((n :: ns).map PyData.int) with
    | some (n :: ns) => some (R.d (.int (lmin n ns)))
    | _ => none) = _
  rw [intsOf_map]
theorem dcL_map {P : Nat} (i : Nat) {mk mv : Env → Res R} {ρ : Env} (h0 : ρ[i]? = some none) (f : D → Int) (g : D → D) : ∀ (ds : List D) (acc : List (D × D)),
    (∀ d ∈ ds, mk (ρ.set i (some (.d d))) = .ok (.d (.int (f d))) (ρ.set i (some (.d d))) ∧ mv (ρ.set i (some (.d d))) = .ok (.d (g d)) (ρ.set i (some (.d d)))) → acc.length + ds.length ≤ 1000000 →
    dcL P (bName i) mYes mk mv [i] ds acc ρ = .ok (ds.foldl (fun a d => putM a (.int (f d)) (g d)) acc) ρ
  | [], acc, _, _ => rfl
  | d :: ds, acc, h, hl => by
    obtain ⟨h1, h2⟩ := h d List.mem_cons_self
    have hpl : (putM acc (.int (f d)) (g d)).length ≤ acc.length + 1 := by
      unfold putM
      split
      · rw [List.length_map]; omega
      · rw [List.length_append]; simp
    rw [List.length_cons] at hl
    have ih := dcL_map (P := P) i h0 f g ds (putM acc (.int (f d)) (g d)) (fun x hx => h x (List.mem_cons_of_mem _ hx)) (by omega)
    have hl2 : acc.length < 1000000 := by omega
    have w : wipeE (ρ.set i (some (.d d))) [i] = ρ := set_back ρ i _ h0
    simp only [dcL, bName, mYes, h1, h2, opd, frz1, dopd, hl2, if_true, w, ih, List.foldl_cons]
end
/-- a tuple as a target, also in a comprehension -/
theorem zpg_tup {X : Cx} {K : PySem.W.Frag} {es : List Expr} {kk : Nat} {pos : Pos} {t : TGs} {n : Nat} (hc : X.calm = true) (h : PGs X es t)
    (hn : (assignEach es X.env).length = n := by rfl) (hst : (assignEach es X.env).findIdx? (·.1) = none := by rfl) (hK : X.K = K := by rfl) : PG X (.Tuple es kk pos) (gTup K n t) := by
  subst hK
  exact pg_tup hc h hn hst
/-! ### a, b = x, y -/
def parK (P i j : Nat) : Res (List R) → Out
  | .ok [r1, r2] ρ1 => (match frzA P [r1, r2] ρ1 with
    | some ρ2 => (match dopd ρ2 r1, dopd ρ2 r2 with
      | some x, some y => .nx ((ρ2.set i (some (.d x))).set j (some (.d y)))
      | _, _ => .no)
    | none => .no)
  | .exc c ρ1 => .exc c ρ1
  | _ => .no
def mPar (P i j : Nat) (ms : Env → Res (List R)) : Env → Out := fun ρ => parK P i j (ms ρ)
theorem mPar_k {P i j : Nat} {ms : Env → Res (List R)} {ρ : Env} : mPar P i j ms ρ = parK P i j (ms ρ) := nonrfl rfl
theorem parK_ok {P i j : Nat} {r1 r2 : R} {ρ : Env} : parK P i j (.ok [r1, r2] ρ) = (match frzA P [r1, r2] ρ with
    | some ρ2 => (match dopd ρ2 r1, dopd ρ2 r2 with
      | some x, some y => .nx ((ρ2.set i (some (.d x))).set j (some (.d y)))
      | _, _ => .no)
    | none => .no) := nonrfl rfl
theorem sim_par {K : PySem.W.Frag} {P i j : Nat} {W : Wish} {ta : TA} {ms : Env → Res (List R)} (h : SimA K P W ta ms) (hi : P ≤ i) (hj : P ≤ j) : SimS K P W (tPar i j ta) (mPar P i j ms) := by
  intro f G H σ ρ D hp rl hq
  refine h f G H σ ρ _ hp rl ?_
  unfold mPar at hq
  cases e : ms ρ with
  | no => rw [e] at hq; exact hq
  | exc c ρ1 => rw [e] at hq; exact fun G1 H1 s1 rl1 => hq G1 H1 σ s1 rl1
  | ok rs ρ1 =>
    rw [e] at hq
    intro vs G1 H1 s1 rl1 h1
    cases h1 with
    | nil => exact hq.elim
    | @cons v1 vs r1 rs a1 h2 =>
      cases h2 with
      | nil => exact hq.elim
      | @cons v2 vs r2 rs a2 h3 =>
        cases h3 with
        | cons _ _ => exact hq.elim
        | nil =>
          refine ⟨v1, v2, rfl, ?_⟩
          simp only [parK] at hq
          split at hq
          · next ρ2 e2 =>
            obtain ⟨G2, s2, rl2⟩ := rl1.frzA hp e2
            split at hq
            · next x y e3 e4 =>
              exact hq G2 H1 _ (s1.trans s2) ((rl2.putD hp hi ((a1.same s2).dat rl2 e3)).putD hp hj ((a2.same s2).dat rl2 e4))
            · exact hq.elim
          · exact hq.elim
end Z
namespace Z
open PySem L2
/-! ### facts: walks over enumerate, dicts of numbers and pairs -/
theorem wipe2 (ρ : Env) (i j : Nat) (hij : i ≠ j) (x y : Option S) (h0 : ρ[i]? = some none) (h1 : ρ[j]? = some none) : wipeE ((ρ.set i x).set j y) [i, j] = ρ := by
  have hj : (ρ.set i x)[j]? = some none := by rw [List.getElem?_set_ne hij]; exact h1
  show (((ρ.set i x).set j y).set j none).set i none = ρ
  rw [set_back _ j y hj, set_back _ i x h0]
theorem enumD_map {α : Type} (enc : α → D) (xs : List α) : enumD (xs.map enc) = (List.range xs.length).map fun (k : Nat) => .tuple [.int (k : Int), (xs.map enc).getD k .none] := by
  unfold enumD
  rw [List.length_map]
theorem getD_map {α : Type} (enc : α → D) (xs : List α) (k : Nat) (hk : k < xs.length) : (xs.map enc).getD k .none = enc xs[k] := by
  rw [List.getD_eq_getElem?_getD, List.getElem?_map, List.getElem?_eq_getElem hk]
  rfl
abbrev bPair (i j : Nat) : D → Env → Option Env := bTup 2 (bCons (bName i) (bCons (bName j) bNil))
theorem lcL_enum {P : Nat} {α : Type} (i j : Nat) (hij : i ≠ j) (enc : α → D) {mt : Env → Res Bool} {me : Env → Res R} {ρ : Env} (xs : List α) (p : Nat → Bool) (g : Nat → D) (h0 : ρ[i]? = some none) (h1 : ρ[j]? = some none)
    (ht : ∀ k (hk : k < xs.length), mt ((ρ.set i (some (.d (.int (k : Int))))).set j (some (.d (enc xs[k])))) = .ok (p k) ((ρ.set i (some (.d (.int (k : Int))))).set j (some (.d (enc xs[k])))))
    (h : ∀ k (hk : k < xs.length), p k = true → me ((ρ.set i (some (.d (.int (k : Int))))).set j (some (.d (enc xs[k])))) = .ok (.d (g k)) ((ρ.set i (some (.d (.int (k : Int))))).set j (some (.d (enc xs[k])))))
    (hl : xs.length ≤ 1000000) : lcL P (bPair i j) mt me [i, j] (enumD (xs.map enc)) [] ρ = .ok (((List.range xs.length).filter p).map g) ρ := by
  rw [enumD_map]
  have := lcL_over (P := P) (b := bPair i j) (mt := mt) (me := me) (vs := [i, j]) (ρ := ρ) (fun (k : Nat) => .tuple [.int (k : Int), (xs.map enc).getD k .none]) p g (List.range xs.length) [] (fun k hk => by
    have hk := List.mem_range.mp hk
    refine ⟨(ρ.set i (some (.d (.int (k : Int))))).set j (some (.d (enc xs[k]))), ?_, ht k hk, h k hk, wipe2 ρ i j hij _ _ h0 h1⟩
    show some ((ρ.set i (some (.d (.int (k : Int))))).set j (some (.d ((xs.map enc).getD k .none)))) = _
    rw [getD_map enc xs k hk]) (by rw [List.length_range]; simpa using hl)
  rw [List.nil_append] at this
  exact this
/-- a walk over enumerate -/
theorem forL_enum {α : Type} (i j : Nat) {body : Env → Out} (enc : α → D) (Inv : Nat → Env → Prop) (Post : Out → Prop) (xs : List α) (ρ : Env) (h0 : Inv 0 ρ)
    (hs : ∀ k (hk : k < xs.length), ∀ ρ, Inv k ρ → ∃ ρ2, body ((ρ.set i (some (.d (.int (k : Int))))).set j (some (.d (enc xs[k])))) = .nx ρ2 ∧ Inv (k + 1) ρ2) :
    ∃ ρ', forL (bPair i j) body (enumD (xs.map enc)) ρ = .nx ρ' ∧ Inv xs.length ρ' := by
  rw [enumD_map]
  obtain ⟨ρ', e, h⟩ := forL_enc (b := bPair i j) (body := body) (fun (k : Nat) => .tuple [.int (k : Int), (xs.map enc).getD k .none]) Inv (List.range xs.length) ρ h0 fun k hk ρ hρ => by
    rw [List.length_range] at hk
    obtain ⟨ρ2, e2, h2⟩ := hs k hk ρ hρ
    refine ⟨(ρ.set i (some (.d (.int (k : Int))))).set j (some (.d (enc xs[k]))), ρ2, ?_, e2, h2⟩
    rw [List.getElem_range]
    show some ((ρ.set i (some (.d (.int (k : Int))))).set j (some (.d ((xs.map enc).getD k .none)))) = _
    rw [getD_map enc xs k hk]
  rw [List.length_range] at h
  exact ⟨ρ', e, h⟩
theorem dcL_over {P : Nat} {b : D → Env → Option Env} {mk mv : Env → Res R} {vs : List Nat} {ρ : Env} {α : Type} (enc : α → D) (f : α → Int) (g : α → D) : ∀ (xs : List α) (acc : List (D × D)),
    (∀ x ∈ xs, ∃ ρ1, b (enc x) ρ = some ρ1 ∧ mk ρ1 = .ok (.d (.int (f x))) ρ1 ∧ mv ρ1 = .ok (.d (g x)) ρ1 ∧ wipeE ρ1 vs = ρ) → acc.length + xs.length ≤ 1000000 →
    dcL P b mYes mk mv vs (xs.map enc) acc ρ = .ok (xs.foldl (fun a x => putM a (.int (f x)) (g x)) acc) ρ
  | [], acc, _, _ => rfl
  | x :: xs, acc, h, hl => by
    obtain ⟨ρ1, h1, h2, h3, h4⟩ := h x List.mem_cons_self
    have hpl : (putM acc (.int (f x)) (g x)).length ≤ acc.length + 1 := by
      unfold putM
      split
      · rw [List.length_map]; omega
      · rw [List.length_append]; simp
    rw [List.length_cons] at hl
    have ih := dcL_over (P := P) enc f g xs (putM acc (.int (f x)) (g x)) (fun y hy => h y (List.mem_cons_of_mem _ hy)) (by omega)
    have hl2 : acc.length < 1000000 := by omega
    simp only [List.map_cons, dcL, mYes, h1, h2, h3, opd, frz1, dopd, hl2, if_true, h4, ih, List.foldl_cons]
theorem toNK_int (i : Int) : toNK (.int i) = some (.num i) := rfl
theorem toNK_inj {i j : Int} : toNK (.int i) = toNK (.int j) ↔ i = j := by
  constructor
  · intro h
    simp only [toNK, Option.some.injEq, NestedKey.num.injEq] at h
    exact h
  · intro h; rw [h]
theorem keyOk_int (i : Int) : keyOk false (.int i) = true := rfl
/-! a dict of numbers -/
def nD (kvs : List (Int × D)) : List (D × D) := kvs.map fun p => (.int p.1, p.2)
theorem nD_nil : nD [] = [] := rfl
theorem nD_len (kvs : List (Int × D)) : (nD kvs).length = kvs.length := by unfold nD; rw [List.length_map]
theorem nD_keys (kvs : List (Int × D)) : (nD kvs).map (·.1) = (kvs.map (·.1)).map .int := by unfold nD; rw [List.map_map, List.map_map]; rfl
theorem at_nD (kvs : List (Int × D)) (t : Int) : atM (nD kvs) (.int t) = (kvs.find? fun p => decide (p.1 = t)).map (·.2) := by
  unfold atM nD
  induction kvs with
  | nil => rfl
  | cons p kvs ih =>
    rw [List.map_cons, List.find?_cons, List.find?_cons]
    by_cases h : p.1 = t
    · rw [decide_eq_true (toNK_inj.mpr h), decide_eq_true h]
      rfl
    · rw [decide_eq_false (fun z => h (toNK_inj.mp z)), decide_eq_false h]
      exact ih
theorem at_nD_in (kvs : List (Int × D)) (t : Int) : (atM (nD kvs) (.int t)).isSome = decide (t ∈ kvs.map (·.1)) := by
  rw [at_nD, Option.isSome_map, Bool.eq_iff_iff, List.find?_isSome]
  simp only [decide_eq_true_eq, List.mem_map]
theorem put_nD (kvs : List (Int × D)) (t : Int) (x : D) (h : t ∉ kvs.map (·.1)) : putM (nD kvs) (.int t) x = nD (kvs ++ [(t, x)]) := by
  unfold putM
  rw [at_nD_in, decide_eq_false h, if_neg Bool.false_ne_true]
  unfold nD
  rw [List.map_append]
  rfl
/-- a set of numbers: all values True -/
def uD (bad : List Int) : List (D × D) := nD (bad.map fun q => (q, PyData.bool true))
theorem uD_keys (bad : List Int) : (uD bad).map (·.1) = bad.map .int := by
  unfold uD
  rw [nD_keys, List.map_map, List.map_map]
  rfl
theorem uD_len (bad : List Int) : (uD bad).length = bad.length := by unfold uD; rw [nD_len, List.length_map]
theorem at_uD (bad : List Int) (t : Int) : (atM (uD bad) (.int t)).isSome = decide (t ∈ bad) := by
  unfold uD
  rw [at_nD_in, List.map_map, show ((fun x : Int × D => x.1) ∘ fun q : Int => (q, PyData.bool true)) = id from rfl, List.map_id]
theorem put_uD (bad : List Int) (t : Int) (h : t ∉ bad) : putM (uD bad) (.int t) (.bool true) = uD (bad ++ [t]) := by
  unfold uD
  rw [put_nD, List.map_append]
  · rfl
  · rw [List.map_map, show ((fun x : Int × D => x.1) ∘ fun q : Int => (q, PyData.bool true)) = id from rfl, List.map_id]
    exact h
/-! a set of pairs -/
def pD (ps : List (Int × Int)) : List (D × D) := ps.map fun p => (pairD p, .bool true)
theorem nk_pair (p : Int × Int) : toNK (pairD p) = some (.tup [.num p.1, .num p.2]) := rfl
theorem nk_pair_inj {p q : Int × Int} : toNK (pairD p) = toNK (pairD q) ↔ p = q := by
  rw [nk_pair, nk_pair]
  constructor
  · intro h
    simp only [Option.some.injEq, NestedKey.tup.injEq, List.cons.injEq, NestedKey.num.injEq, and_true] at h
    exact Prod.ext h.1 h.2
  · intro h; rw [h]
theorem keyOk_pair (i j : Int) : keyOk true (.tuple [.int i, .int j]) = true := by
  have e : toNK (.tuple [.int i, .int j]) = some (.tup [.num i, .num j]) := rfl
  have d : (NestedKey.tup [.num i, .num j]).depth ≤ 8 := by
    simp only [NestedKey.depth, NestedKey.depthAll]
    decide
  simp only [keyOk, e, Bool.true_and]
  exact decide_eq_true d
theorem pD_len (ps : List (Int × Int)) : (pD ps).length = ps.length := by unfold pD; rw [List.length_map]
theorem pD_keys (ps : List (Int × Int)) : (pD ps).map (·.1) = ps.map pairD := by unfold pD; rw [List.map_map]; rfl
theorem at_pD (ps : List (Int × Int)) (p : Int × Int) : (atM (pD ps) (pairD p)).isSome = decide (p ∈ ps) := by
  unfold atM pD
  induction ps with
  | nil => simp
  | cons q ps ih =>
    rw [List.map_cons, List.find?_cons]
    by_cases h : q = p
    · subst h
      rw [decide_eq_true (nk_pair_inj.mpr rfl)]
      simp
    · rw [decide_eq_false (fun z => h (nk_pair_inj.mp z)), ih]
      have h' : ¬ p = q := fun z => h z.symm
      simp [h']
theorem put_pD (ps : List (Int × Int)) (p : Int × Int) (h : p ∉ ps) : putM (pD ps) (pairD p) (.bool true) = pD (ps ++ [p]) := by
  unfold putM
  rw [at_pD, decide_eq_false h, if_neg Bool.false_ne_true]
  unfold pD
  rw [List.map_append]
  rfl
theorem gAnd_int (i j : Int) : gAnd (.int i) (.int j) = some (.d (.int (Builtin.bitAnd i j))) := rfl
end Z
namespace Z
open PySem PySem.Spec PyProof.Rows L2
/-! ### a dict of one's own lists, filled by setdefault, in a stretch of statements -/
abbrev GX := List (Int × List D)
abbrev GL := List (Int × Addr × List D)
def gxOf (L : GL) : GX := L.map fun t => (t.1, t.2.2)
def gKv (L : GL) : List (Key × V) := L.map fun t => ((Sum.inl t.1 : Key), V.ref t.2.1)
structure GrpP (K : PySem.W.Frag) (f : Fx) (G H : Hp) (σ : L2.St) (ρ : Env) (p : Addr) (L : GL) (N : Hp) : Prop where
  rl : Rel K (f.over N) G H σ ρ
  own : ∀ a, N a ≠ none → f.F a = none ∧ f.G0 a = none
  top : N p = some (.dK (gKv L))
  out : ∀ t ∈ L, t.2.1 ≠ p
  nd : (L.map fun t => t.2.1).Nodup
  ndk : (L.map fun t => t.1).Nodup
  inn : ∀ t ∈ L, ∃ ws, N t.2.1 = some (.lst ws) ∧ DpAll K G ws t.2.2
def Grp (K : PySem.W.Frag) (f : Fx) (G H : Hp) (σ : L2.St) (ρ : Env) (i : Nat) (g : GX) : Prop := ∃ p N L, σ[i]? = some (some (V.ref p)) ∧ g = gxOf L ∧ GrpP K f G H σ ρ p L N
def CD (K : PySem.W.Frag) (f : Fx) (G : Hp) (D : Ends) (i : Nat) : Option (Env × GX) → Prop
  | none => False
  | some (ρ, g) => ∀ G' H' σ', Same G G' → Grp K f G' H' σ' ρ i g → D.nx σ' H'
def SimD (K : PySem.W.Frag) (P i : Nat) (t : TS) (m : Env → GX → Option (Env × GX)) : Prop := ∀ (f : Fx) (G H : Hp) (σ : L2.St) (ρ : Env) (g : GX) (D : Ends), f.pins.length = P → Grp K f G H σ ρ i g → CD K f G D i (m ρ g) → t D σ H
def SimRD (K : PySem.W.Frag) (P : Nat) (W : Wish) (i : Nat) (t : TS) (m : Env → GX → Out) : Prop := ∀ (f : Fx) (G H : Hp) (σ : L2.St) (ρ : Env) (g : GX) (D : Ends), f.pins.length = P → Grp K f G H σ ρ i g → CS K W f G D (m ρ g) → t D σ H
def gPut (g : GX) (k : Int) (x : D) : GX := if (g.any fun t => decide (t.1 = k)) = true then g.map (fun t => if t.1 = k then (t.1, t.2 ++ [x]) else t) else g ++ [(k, [x])]
def forD (b : D → Env → Option Env) (body : Env → GX → Option (Env × GX)) : List D → Env → GX → Option (Env × GX)
  | [], ρ, g => some (ρ, g)
  | d :: ds, ρ, g => match b d ρ with
    | none => none
    | some ρ1 => (match body ρ1 g with
      | some (ρ2, g2) => forD b body ds ρ2 g2
      | none => none)
def dFor (mi : Env → Res (List D)) (b : D → Env → Option Env) (body : Env → GX → Option (Env × GX)) : Env → GX → Option (Env × GX) := fun ρ g => match mi ρ with
  | .ok ds ρ1 => forD b body ds ρ1 g
  | _ => none
def dApp (P : Nat) (mi me : Env → Res R) : Env → GX → Option (Env × GX) := fun ρ g => match mi ρ with
  | .ok r1 ρ1 => (match opd ρ1 r1 with
    | some (.int k) => (match me ρ1 with
      | .ok r ρ2 => (match frz1 P ρ2 r with
        | some ρ3 => (match dopd ρ3 r with
          | some y => if g.length < 1000000 ∧ (∀ t ∈ g, t.2.length < 1000000) then some (ρ3, gPut g k y) else none
          | none => none)
        | _ => none)
      | _ => none)
    | _ => none)
  | _ => none
def rSeqD (m1 : Env → GX → Option (Env × GX)) (m2 : Env → GX → Out) : Env → GX → Out := fun ρ g => match m1 ρ g with
  | some (ρ1, g1) => m2 ρ1 g1
  | none => .no
def gM (g : GX) : List (D × D) := g.map fun t => (PyData.int t.1, PyData.list t.2)
def rGiveD (i : Nat) (m : Env → Out) : Env → GX → Out := fun ρ g => m (ρ.set i (some (.m false (gM g))))
def mGrp (i : Nat) (m : Env → GX → Out) : Env → Out := fun ρ => if i < ρ.length then m (ρ.set i none) [] else .no
section
variable {K : PySem.W.Frag} {P i : Nat} {W : Wish} {f : Fx} {G H G' H' N : Hp} {σ : L2.St} {ρ : Env}
theorem CD.same {D : Ends} {o : Option (Env × GX)} (e : Same G G') (h : CD K f G D i o) : CD K f G' D i o := by
  cases o with
  | none => exact h
  | some x => exact fun G1 H1 σ1 s => h G1 H1 σ1 (e.trans s)
theorem grp_mono {p : Addr} {L : GL} {ρ1 : Env} {H1 : Hp} (np : GrpP K f G H σ ρ p L N) (s : Same G G') (rl : Rel K (f.over N) G' H1 σ ρ1) : GrpP K f G' H1 σ ρ1 p L N :=
  ⟨rl, np.own, np.top, np.out, np.nd, np.ndk, fun t ht => let ⟨ws, h1, h2⟩ := np.inn t ht; ⟨ws, h1, dpAll_same s _ _ h2⟩⟩
theorem grp_kv (key : ∀ a o, N a = some o → G' a = some o) (s : Same G G') : ∀ (L : GL), (∀ t ∈ L, ∃ ws, N t.2.1 = some (.lst ws) ∧ DpAll K G ws t.2.2) → KvI K G' (L.map fun t => (t.1, V.ref t.2.1)) (gM (gxOf L))
  | [], _ => .nil
  | t :: L, h => by
    obtain ⟨ws, h1, h2⟩ := h t List.mem_cons_self
    exact .cons (.lst (.inl (.inl (key _ _ h1))) (dpAll_same s _ _ h2)) (grp_kv key s L fun z hz => h z (List.mem_cons_of_mem _ hz))
theorem grp_give {g : GX} (h : Grp K f G H σ ρ i g) (hp : f.pins.length = P) (hi : P ≤ i) : ∃ G', Same G G' ∧ Rel K f G' H σ (ρ.set i (some (.m false (gM g)))) := by
  obtain ⟨p, N, L, h1, rfl, h⟩ := h
  have np := h.own p (ne_none_of h.top)
  have e : f.over N = (f.add p (.dK (gKv L))).over (fun a => if a = p then none else N a) := by
    unfold Fx.over Fx.add
    congr 1
    funext b
    by_cases hb : b = p
    · subst hb
      simp only [h.top, if_true, upd_same]
    · simp only [if_neg hb, upd_ne hb]
  have rl := h.rl
  have Hp' := over_at rl h.top
  rw [e] at rl
  obtain ⟨G', s, rl2, key⟩ := over_give rl fun a ha => by
    by_cases hb : a = p
    · subst hb
      rw [if_pos rfl] at ha
      exact absurd rfl ha
    · rw [if_neg hb] at ha
      refine ⟨?_, (h.own a ha).2⟩
      show upd f.F p (.dK (gKv L)) a = none
      rw [upd_ne hb]
      exact (h.own a ha).1
  have Gp : G' p = none := by
    cases q : G' p with
    | none => rfl
    | some x =>
      refine absurd np.2 (rl2.gf p ?_ (ne_none_of q))
      show upd f.F p (.dK (gKv L)) p ≠ none
      rw [upd_same]
      exact fun z => nomatch z
  obtain ⟨rl3, far⟩ := rl2.unadd np.1
  refine ⟨G', s, ?_⟩
  have kv := grp_kv (N := fun a => if a = p then none else N a) key s L fun t ht => by
    rw [if_neg (h.out t ht)]
    exact h.inn t ht
  have ow : OwnR K G' p (.dK (gKv L)) (.m false (gM (gxOf L))) := by
    have := OwnR.i (p := p) kv
    rw [List.map_map] at this
    exact this
  have := rl3.putS (xs := .m false (gM (gxOf L))) hp hi rfl Hp' ow Gp np.1 far
  rw [set_same σ i _ h1] at this
  exact this
theorem simRD_give {t : TS} {m : Env → Out} (hi : P ≤ i) (h : SimS K P W t m) : SimRD K P W i t (rGiveD i m) := by
  intro f G H σ ρ g D hp nst hq
  obtain ⟨G', s, rl⟩ := grp_give nst hp hi
  exact h f G' H σ _ D hp rl (CS.same s hq)
theorem simRD_seq {t u : TS} {m1 : Env → GX → Option (Env × GX)} {m2 : Env → GX → Out} (h1 : SimD K P i t m1) (h2 : SimRD K P W i u m2) : SimRD K P W i (tSeq t u) (rSeqD m1 m2) := by
  intro f G H σ ρ g D hp rl hq
  refine h1 f G H σ ρ g _ hp rl ?_
  unfold rSeqD at hq
  cases e : m1 ρ g with
  | none => rw [e] at hq; exact hq
  | some x =>
    rw [e] at hq
    exact fun G1 H1 σ1 s1 rl1 => h2 f G1 H1 σ1 x.1 x.2 D hp rl1 (CS.same s1 hq)
theorem simD_for {wi : TI} {mi : Env → Res (List D)} {g : TG} {b : D → Env → Option Env} {ts : List Nat} {tb : TS} {mb : Env → GX → Option (Env × GX)} (hi : SimI0 K P W wi mi) (hg : SimG K P g b ts) (hb : SimD K P i tb mb) (hit : i ∉ ts) : SimD K P i (tFor wi g tb) (dFor mi b mb) := by
  intro f G H σ ρ xss D hp nst hq
  obtain ⟨p, N, L, e0, eL, np⟩ := nst
  refine hi (f.over N) G H σ ρ _ hp np.rl ?_
  unfold dFor at hq
  cases e : mi ρ with
  | no => rw [e] at hq; exact hq.elim
  | exc c ρ1 => rw [e] at hq; exact hq.elim
  | ok ds ρ1 =>
    rw [e] at hq
    intro J G1 H1 s1 rl1 wk
    have hq1 : CD K f G1 D i (forD b mb ds ρ1 xss) := CD.same s1 hq
    have ns1 : Grp K f G1 H1 σ ρ1 i xss := ⟨p, N, L, e0, eL, grp_mono np s1 rl1⟩
    refine ⟨fun j m σ' H' => ∃ G' ρ' yss, Same G1 G' ∧ Grp K f G' H' σ' ρ' i yss ∧ j + m = ds.length ∧ CD K f G' D i (forD b mb (ds.drop j) ρ' yss), ⟨ds.length, G1, ρ1, xss, .refl _, ns1, by omega, hq1⟩, fun j m σ' H' hW => ?_⟩
    obtain ⟨G2, ρ2, yss, s2, ns2, em, hc⟩ := hW
    obtain ⟨p2, N2, L2', e2, eL2, np2⟩ := ns2
    obtain ⟨wk1, wk2⟩ := wk G2 H' s2 np2.rl.gh (none_same _)
    by_cases hlt : j < ds.length
    · have ed : ds.drop j = ds[j] :: ds.drop (j + 1) := List.drop_eq_getElem_cons hlt
      obtain ⟨go, yl⟩ := wk1 j ds[j] (List.getElem?_eq_getElem hlt)
      refine .inr ⟨go, fun σ3 H3 => ∃ G' ρ' yss, Same G1 G' ∧ Grp K f G' H3 σ3 ρ' i yss ∧ CD K f G' D i (forD b mb (ds.drop (j + 1)) ρ' yss), fun σ3 H3 hN => ?_, fun x H3 hy => ?_⟩
      · obtain ⟨G', ρ', zss, a1, a2, a3⟩ := hN
        exact ⟨m - 1, by omega, G', ρ', zss, a1, a2, by omega, a3⟩
      · obtain ⟨G3, gr, hd⟩ := yl x H3 hy
        have rl3 := np2.rl.grow gr
        have hc3 := CD.same gr.1 hc
        rw [ed] at hc3
        simp only [forD] at hc3
        split at hc3
        · exact hc3.elim
        · next ρ3 e3 =>
          refine hg (f.over N2) G3 H3 σ' ρ2 ρ3 x ds[j] _ hp rl3 hd e3 fun σ4 rl4 _ k4 => ?_
          refine hb f G3 H3 σ4 ρ3 yss _ hp ⟨p2, N2, L2', by rw [k4 i hit]; exact e2, eL2, rl4, np2.own, np2.top, np2.out, np2.nd, np2.ndk, fun t ht => let ⟨ws, h1, h2⟩ := np2.inn t ht; ⟨ws, h1, dpAll_same gr.1 _ _ h2⟩⟩ ?_
          have s3 := s2.trans gr.1
          cases e4 : mb ρ3 yss with
          | none => rw [e4] at hc3; exact hc3.elim
          | some z => rw [e4] at hc3; exact fun G5 H5 σ5 s5 ns5 => ⟨G5, z.1, z.2, s3.trans s5, ns5, CD.same s5 hc3⟩
    · have ed : ds.drop j = [] := List.drop_of_length_le (by omega)
      rw [ed] at hc
      exact .inl ⟨wk2 j (by omega), hc G2 H' σ' (.refl _) ⟨p2, N2, L2', e2, eL2, np2⟩⟩
theorem sim_grp {t : TS} {m : Env → GX → Out} (hr : SimRD K P W i t m) (hP : P ≤ i) : SimS K P W (tSeq (tAsg (tNewM false) (gName i)) t) (mGrp i m) := by
  intro f G H σ ρ D hp rl hq p np
  unfold mGrp at hq
  split at hq
  case isFalse => exact hq.elim
  next hlen =>
  have gA : G p = none := rl.gh.free np
  have e : f.over (fun _ => none) = f := rfl
  have rl1 : Rel K (f.over (upd (fun _ => none) p (.dK []))) G (upd H p (.dK [])) σ ρ := over_add (by rw [e]; exact rl) np
  refine hr f G (upd H p (.dK [])) (σ.set i (some (.ref p))) (ρ.set i none) [] D hp ⟨p, upd (fun _ => none) p (.dK []), [], List.getElem?_set_self (by rw [rl.len]; exact hlen), rfl, rl1.setAny (f := f.over _) hp hP _, fun a ha => ?_, upd_same, (fun _ h => nomatch h), .nil, .nil, fun _ h => nomatch h⟩ hq
  by_cases h : a = p
  · subst h
    exact ⟨rl.fh.free np, rl.g0.free gA⟩
  · rw [upd_ne h] at ha
    exact absurd rfl ha
theorem gKv_val (k : Int) : ∀ (L : GL), match valV (gKv L) (.inl k) with
    | some v => ∃ t ∈ L, t.1 = k ∧ v = V.ref t.2.1 ∧ ((gxOf L).any fun t => decide (t.1 = k)) = true
    | none => (∀ t ∈ L, t.1 ≠ k) ∧ ((gxOf L).any fun t => decide (t.1 = k)) = false
  | [] => by
    show (∀ t ∈ ([] : GL), t.1 ≠ k) ∧ _
    exact ⟨fun _ h => (nomatch h), rfl⟩
  | t :: L => by
    have ih := gKv_val k L
    by_cases h : t.1 = k
    · have e : valV (gKv (t :: L)) (.inl k) = some (V.ref t.2.1) := valV_pos (by show (Sum.inl t.1 : Key) = _; rw [h])
      rw [e]
      exact ⟨t, List.mem_cons_self, h, rfl, by simp [gxOf, h]⟩
    · have e : valV (gKv (t :: L)) (.inl k) = valV (gKv L) (.inl k) := valV_neg (fun z => h (by cases z; rfl))
      rw [e]
      have ea : ((gxOf (t :: L)).any fun t => decide (t.1 = k)) = ((gxOf L).any fun t => decide (t.1 = k)) := by
        show (decide (t.1 = k) || _) = _
        rw [decide_eq_false h, Bool.false_or]
        rfl
      rw [ea]
      cases q : valV (gKv L) (.inl k) with
      | none =>
        rw [q] at ih
        refine ⟨fun z hz => ?_, ih.2⟩
        rcases List.mem_cons.mp hz with rfl | hz
        · exact h
        · exact ih.1 z hz
      | some v =>
        rw [q] at ih
        obtain ⟨z, h1, h2⟩ := ih
        exact ⟨z, List.mem_cons_of_mem _ h1, h2⟩
theorem key_one {L : GL} (nd : (L.map fun t => t.1).Nodup) {t u : Int × Addr × List D} (ht : t ∈ L) (hu : u ∈ L) (e : t.1 = u.1) : t = u := by
  induction L with
  | nil => cases ht
  | cons a L ih =>
    rw [List.map_cons, List.nodup_cons] at nd
    have no : ∀ z ∈ L, z.1 ≠ a.1 := fun z hz q => nd.1 (q ▸ List.mem_map_of_mem (f := fun t : Int × Addr × List D => t.1) hz)
    rcases List.mem_cons.mp ht with h1 | h1
    · rcases List.mem_cons.mp hu with h2 | h2
      · rw [h1, h2]
      · rw [h1] at e
        exact absurd e.symm (no u h2)
    · rcases List.mem_cons.mp hu with h2 | h2
      · rw [h2] at e
        exact absurd e (no t h1)
      · exact ih nd.2 h1 h2
theorem addr_one {L : GL} (nd : (L.map fun t => t.2.1).Nodup) {t u : Int × Addr × List D} (ht : t ∈ L) (hu : u ∈ L) (e : t.2.1 = u.2.1) : t = u := by
  induction L with
  | nil => cases ht
  | cons a L ih =>
    rw [List.map_cons, List.nodup_cons] at nd
    have no : ∀ z ∈ L, z.2.1 ≠ a.2.1 := fun z hz q => nd.1 (q ▸ List.mem_map_of_mem (f := fun t : Int × Addr × List D => t.2.1) hz)
    rcases List.mem_cons.mp ht with h1 | h1
    · rcases List.mem_cons.mp hu with h2 | h2
      · rw [h1, h2]
      · rw [h1] at e
        exact absurd e.symm (no u h2)
    · rcases List.mem_cons.mp hu with h2 | h2
      · rw [h2] at e
        exact absurd e (no t h1)
      · exact ih nd.2 h1 h2
def gAdd1 (L : GL) (k : Int) (d : D) : GL := L.map fun t => if t.1 = k then (t.1, t.2.1, t.2.2 ++ [d]) else t
theorem gAdd1_kv (L : GL) (k : Int) (d : D) : gKv (gAdd1 L k d) = gKv L := by
  unfold gKv gAdd1
  rw [List.map_map]
  refine List.map_congr_left fun t _ => ?_
  show (Sum.inl (if t.1 = k then (t.1, t.2.1, t.2.2 ++ [d]) else t).1, _) = _
  by_cases h : t.1 = k
  · simp [h]
  · simp [h]
theorem gAdd1_gx (L : GL) (k : Int) (d : D) (h : ((gxOf L).any fun t => decide (t.1 = k)) = true) : gxOf (gAdd1 L k d) = gPut (gxOf L) k d := by
  unfold gPut
  rw [if_pos h]
  unfold gxOf gAdd1
  rw [List.map_map, List.map_map]
  refine List.map_congr_left fun t _ => ?_
  show ((if t.1 = k then (t.1, t.2.1, t.2.2 ++ [d]) else t).1, (if t.1 = k then (t.1, t.2.1, t.2.2 ++ [d]) else t).2.2) = if t.1 = k then (t.1, t.2.2 ++ [d]) else (t.1, t.2.2)
  by_cases h : t.1 = k
  · simp [h]
  · simp [h]
theorem simD_app {ti te : TE} {mi me : Env → Res R} (h1 : SimE K P W ti mi) (h2 : SimE K P W te me) : SimD K P i (tDrop (tBM K "list" rAppend (tDSetd (tVar i) ti (tLst tNil)) (tCons te tNil))) (dApp P mi me) := by
  intro f G H σ ρ g D hp nst hq
  obtain ⟨p, N, L, e0, rfl, np⟩ := nst
  have Hp' := over_at np.rl np.top
  refine ⟨.ref p, e0, p, rfl, .inl ⟨_, .inl Hp'⟩, SimE.op (f := f.over N) h1 hp np.rl ?_⟩
  unfold dApp at hq
  cases e : mi ρ with
  | no => rw [e] at hq; exact hq.elim
  | exc c ρ1 => rw [e] at hq; exact hq.elim
  | ok r1 ρ1 =>
    rw [e] at hq
    intro v G1 H1 s1 rl1 a1
    simp only at hq
    split at hq
    · next k ek =>
      have hv := (a1.got rl1 ek).int
      subst hv
      refine ⟨Nat.zero_le _, fun q hq3 => ?_⟩
      have Hp1 := over_at rl1 np.top
      have qp : q ≠ p := fun z => by
        subst z
        rw [Hp1] at hq3
        cases hq3
      have Nq : N q = none := by
        cases e : N q with
        | none => rfl
        | some o =>
          have := over_at rl1 e
          rw [hq3] at this
          cases this
      cases e2 : me ρ1 with
      | no => rw [e2] at hq; exact hq.elim
      | exc c ρ2 => rw [e2] at hq; exact hq.elim
      | ok r ρ2 =>
      rw [e2] at hq
      simp only at hq
      split at hq
      case h_2 => exact hq.elim
      next ρ3 e3 =>
      split at hq
      case h_2 => exact hq.elim
      next d e4 =>
      split at hq
      case isFalse => exact hq.elim
      next hl =>
      have gl : (gKv L).length < sizeLine := by
        have : (gKv L).length = (gxOf L).length := by unfold gKv gxOf; rw [List.length_map, List.length_map]
        rw [this]
        exact Nat.lt_of_lt_of_le hl.1 (by decide)
      have gv := gKv_val k L
      refine ⟨gKv L, .inl k, by rw [upd_ne (Ne.symm qp)]; exact Hp1, rfl, gl, fun v hv => ?_, fun hv => ?_⟩
      · rw [hv] at gv
        obtain ⟨t, ht, tk, rfl, ha⟩ := gv
        obtain ⟨ws, w2, w3⟩ := np.inn t ht
        have tq : t.2.1 ≠ q := fun z => by rw [z, Nq] at w2; cases w2
        have rl3 := rl1.grow (Grow.fresh (o := .lst []) rl1.gh hq3)
        have Ht := over_at rl3 w2
        refine ⟨.inl ⟨rfl, ws, .inl (.inl Ht)⟩, SimE.op (f := f.over N) h2 hp rl3 ?_⟩
        rw [e2]
        intro y G2 H2 s2 rl2 a2
        obtain ⟨G3, s3, rl4⟩ := rl2.frz1 hp e3
        have hd : Dp K G3 y d := (a2.same s3).dat rl4 e4
        have g0 := (np.own t.2.1 (ne_none_of w2)).2
        have Ht2 := over_at rl4 w2
        have sA := (s1.trans s2).trans s3
        refine ⟨t.2.1, ws, y, rfl, rfl, Ht2, ?_, ?_⟩
        · rw [dpAll_len w3]
          exact Nat.lt_of_lt_of_le (hl.2 _ (List.mem_map.mpr ⟨t, ht, rfl⟩)) (by decide)
        · have rl5 := over_swap (o' := .lst (ws ++ [y])) rl4 w2 g0
          have pt : p ≠ t.2.1 := fun z => np.out t ht z.symm
          have addrs : (gAdd1 L k d).map (fun t => t.2.1) = L.map fun t => t.2.1 := by
            unfold gAdd1
            rw [List.map_map]
            refine List.map_congr_left fun t _ => ?_
            show (if t.1 = k then (t.1, t.2.1, t.2.2 ++ [d]) else t).2.1 = _
            by_cases h : t.1 = k
            · simp [h]
            · simp [h]
          have keys : (gAdd1 L k d).map (fun t => t.1) = L.map fun t => t.1 := by
            unfold gAdd1
            rw [List.map_map]
            refine List.map_congr_left fun t _ => ?_
            show (if t.1 = k then (t.1, t.2.1, t.2.2 ++ [d]) else t).1 = _
            by_cases h : t.1 = k
            · simp [h]
            · simp [h]
          refine hq G3 _ σ sA ⟨p, upd N t.2.1 (.lst (ws ++ [y])), gAdd1 L k d, e0, (gAdd1_gx L k d ha).symm, rl5, fun a ha => ?_, by rw [upd_ne pt, gAdd1_kv]; exact np.top, fun u hu => ?_, by rw [addrs]; exact np.nd, by rw [keys]; exact np.ndk, fun u hu => ?_⟩
          · by_cases ha' : a = t.2.1
            · rw [ha']
              exact np.own _ (ne_none_of w2)
            · rw [upd_ne ha'] at ha
              exact np.own a ha
          · obtain ⟨u0, hu0, rfl⟩ := List.mem_map.mp hu
            have := np.out u0 hu0
            by_cases h : u0.1 = k
            · rw [if_pos h]; exact this
            · rw [if_neg h]; exact this
          · obtain ⟨u0, hu0, rfl⟩ := List.mem_map.mp hu
            by_cases h : u0.1 = k
            · have := key_one np.ndk hu0 ht (h.trans tk.symm)
              subst this
              rw [if_pos h]
              exact ⟨_, upd_same, dpAll_append (dpAll_same sA _ _ w3) (.cons hd .nil)⟩
            · rw [if_neg h]
              obtain ⟨ws', z1, z2⟩ := np.inn u0 hu0
              refine ⟨ws', ?_, dpAll_same sA _ _ z2⟩
              rw [upd_ne fun z => h (by rw [addr_one np.nd hu0 ht z]; exact tk)]
              exact z1
      · rw [hv] at gv
        have ep : putK (gKv L) (Sum.inl k : Key) (V.ref q) = gKv (L ++ [(k, q, [])]) := by
          unfold putK
          rw [valV_any, hv]
          show gKv L ++ _ = _
          unfold gKv
          rw [List.map_append]
          rfl
        rw [ep]
        have rl3 := over_add (o := .lst []) rl1 hq3
        have top3 : upd N q (.lst []) p = some (.dK (gKv L)) := by rw [upd_ne (Ne.symm qp)]; exact np.top
        have own_p := np.own p (ne_none_of np.top)
        have rl5 := over_swap (o' := .dK (gKv (L ++ [(k, q, [])]))) rl3 top3 own_p.2
        have Gq : G1 q = none := rl1.gh.free hq3
        have Fq : f.F q = none := (over_F rl1 np.own).free hq3
        have G0q : f.G0 q = none := rl1.g0.free Gq
        have Nq5 : upd (upd N q (.lst [])) p (.dK (gKv (L ++ [(k, q, [])]))) q = some (.lst []) := by rw [upd_ne qp, upd_same]
        have Hq5 := over_at rl5 Nq5
        refine ⟨.inl ⟨rfl, [], .inl (.inl Hq5)⟩, SimE.op (f := f.over _) h2 hp rl5 ?_⟩
        rw [e2]
        intro y G2 H2 s2 rl2 a2
        obtain ⟨G3, s3, rl4⟩ := rl2.frz1 hp e3
        have hd : Dp K G3 y d := (a2.same s3).dat rl4 e4
        have sA := (s1.trans s2).trans s3
        have Hq6 := over_at rl4 Nq5
        refine ⟨q, [], y, rfl, rfl, Hq6, by decide, ?_⟩
        have rl6 := over_swap (o' := .lst ([] ++ [y])) rl4 Nq5 G0q
        have eg : gPut (gxOf L) k d = gxOf (L ++ [(k, q, [d])]) := by
          unfold gPut
          rw [if_neg (by rw [gv.2]; exact Bool.false_ne_true)]
          unfold gxOf
          rw [List.map_append]
          rfl
        have ek2 : gKv (L ++ [(k, q, [d])]) = gKv (L ++ [(k, q, [])]) := by
          unfold gKv
          rw [List.map_append, List.map_append]
          rfl
        have qL : ∀ u ∈ L, u.2.1 ≠ q := fun u hu z => by
          obtain ⟨ws', z1, _⟩ := np.inn u hu
          rw [z, Nq] at z1
          cases z1
        refine hq G3 _ σ sA ⟨p, _, L ++ [(k, q, [d])], e0, eg, rl6, fun a ha => ?_, by rw [upd_ne (Ne.symm qp), upd_same, ek2], fun u hu => ?_, ?_, ?_, fun u hu => ?_⟩
        · by_cases h1 : a = q
          · subst h1
            exact ⟨Fq, G0q⟩
          · rw [upd_ne h1] at ha
            by_cases h2 : a = p
            · subst h2
              exact own_p
            · rw [upd_ne h2, upd_ne h1] at ha
              exact np.own a ha
        · rcases List.mem_append.mp hu with hu | hu
          · exact np.out u hu
          · rw [List.mem_singleton.mp hu]
            exact qp
        · rw [List.map_append, List.nodup_append]
          refine ⟨np.nd, by simp, fun a ha b hb z => ?_⟩
          obtain ⟨u, hu, rfl⟩ := List.mem_map.mp ha
          simp only [List.map_cons, List.map_nil, List.mem_singleton] at hb
          subst hb
          exact qL u hu z
        · rw [List.map_append, List.nodup_append]
          refine ⟨np.ndk, by simp, fun a ha b hb z => ?_⟩
          obtain ⟨u, hu, rfl⟩ := List.mem_map.mp ha
          simp only [List.map_cons, List.map_nil, List.mem_singleton] at hb
          subst hb
          exact gv.1 u hu z
        · rcases List.mem_append.mp hu with hu | hu
          · obtain ⟨ws', z1, z2⟩ := np.inn u hu
            refine ⟨ws', ?_, dpAll_same sA _ _ z2⟩
            rw [upd_ne (qL u hu), upd_ne (np.out u hu), upd_ne (qL u hu)]
            exact z1
          · rw [List.mem_singleton.mp hu]
            exact ⟨_, upd_same, .cons hd .nil⟩
    · exact hq.elim
end
end Z
namespace Z
open PySem PySem.Spec PyProof.Rows L2
/-! x.get(k, []) -/
def mGetD (j : Nat) (mi : Env → Res R) : Env → Res R := fun ρ => match ρ[j]? with
  | some (some (S.m false _)) => (mi ρ).bind fun r ρ1 => (match opd ρ1 r, ρ1[j]? with
    | some (.int k), some (some (S.m false kvs)) => (match atM kvs (.int k) with
        | some z => .ok (.d z) ρ1
        | none => .ok (.o []) ρ1)
    | _, _ => .no)
  | _ => .no
section
variable {K : PySem.W.Frag} {P : Nat} {W : Wish} {ti : TE} {mi : Env → Res R}
theorem sim_getD {j : Nat} (h : SimE K P W ti mi) : SimE K P W (tDGet2 (tVar j) ti (tLst tNil)) (mGetD j mi) := by
  intro f G H σ ρ Q hp rl hq
  unfold mGetD at hq
  split at hq
  · next kvs0 e0 =>
    obtain ⟨p, o, w1, w2, w3, w4, w5⟩ := rl.ow j _ e0 rfl
    refine ⟨_, w1, p, rfl, ?_, ?_⟩
    · cases w3 with
      | i _ => exact .inl ⟨_, .inl w2⟩
    refine h.op hp rl ?_
    cases e : mi ρ with
    | no => rw [e] at hq; exact hq
    | exc c ρ1 => rw [e] at hq; exact hq
    | ok r ρ1 =>
      rw [e] at hq
      intro v G1 H1 s1 rl1 h1
      simp only [Res.bind] at hq
      refine ⟨Nat.zero_le _, fun q nq => ?_⟩
      split at hq
      · next k kvs e1 e2 =>
        have ev := (h1.got rl1 e1).int
        subst ev
        obtain ⟨p', o', z1, z2, z3, z4, z5⟩ := rl1.ow j _ e2 rfl
        rw [w1] at z1
        cases z1
        have qp : q ≠ p := fun z => by
          subst z
          rw [z2] at nq
          cases nq
        have rl2 := rl1.grow (Grow.fresh (o := .lst []) rl1.gh nq)
        cases z3 with
        | i hkv =>
          have at' := at_int hkv k
          refine ⟨_, DGet.k (k := .inl k) (by rw [upd_ne (Ne.symm qp)]; exact z2), ?_⟩
          cases ea : atM kvs (.int k) with
          | some d =>
            rw [ea] at at' hq
            obtain ⟨w, w6, w7⟩ := at'
            rw [w6]
            exact hq w G1 _ s1 rl2 w7
          | none =>
            rw [ea] at at' hq
            rw [at']
            refine hq (.ref q) G1 _ s1 rl2 ⟨q, [], rfl, upd_same, .nil, rl1.gh.free nq, rl1.fh.free nq, fun k s e hs z => ?_⟩
            obtain ⟨p'', o'', y1, y2, _⟩ := rl1.ow k s e hs
            rw [z] at y1
            cases y1
            rw [nq] at y2
            cases y2
      · exact hq.elim
  · exact hq.elim
end
end Z
namespace Z
open PySem PySem.Spec PyProof.Rows L2
/-! x.index(y), of numbers and pairs -/
def rIdxD (K : PySem.W.Frag) : V → List V → Hp → VK → Prop := fun x vs H Q => ∃ (l : Addr) (xs : List V) (ds : List D) (y : V) (d : D) (ks : List NestedKey) (k : NestedKey), x = .ref l ∧ vs = [y] ∧ SqL K H l xs ∧ DpAll K H xs ds ∧ Dp K H y d ∧
  toNK.toNKs ds = some ks ∧ toNK d = some k ∧ k.depth ≤ 8 ∧ k ∈ ks ∧ ks.length ≤ 1000000 ∧ Q (.int ((ks.idxOf k : Nat) : Int)) H
theorem mt_idxD {X : Cx} {K : PySem.W.Frag} (hu : X.A.units + 64 < cLine) (hK : X.K = K := by rfl) : MtR X "list.index" (rIdxD K) := by
  subst hK
  intro pins s σ H x xs v us Q I rx rxs h
  obtain ⟨l, ys, ds, y, d, ks, k, rfl, rfl, hs, hds, hd, eks, ek, hk, hm, hl, q⟩ := h
  cases rx
  cases rxs with
  | cons ry rt =>
    cases rt
    obtain ⟨its, rv, isl, _⟩ := I.list hs
    have ha : NestedAll s.heap ks its := nested_all I ds ks ys its eks hds rv
    have hx := nested_is I d k y _ ek hd ry
    have hu1 : X.A.in1.units + k.depth < cLine := by
      have : X.A.in1.units ≤ X.A.units + 1 := by simp
      omega
    obtain ⟨o, n, ho, hc, hdn, hd2⟩ := isl
    exact SeqAt.call_list_index (show s.heap.IsList l its.toArray from ⟨o, ho, hc, n, hd2⟩) (SeqAt.ItemsEq.nested ha hx hu1) (Nat.le_trans hl (by decide)) hm ⟨.int ((ks.idxOf k : Nat) : Int), H, I.tok _, ⟨s.toks, rfl⟩, q⟩
def mIdx (i : Nat) (me : Env → Res R) : Env → Res R := fun ρ => match cont ρ i with
  | some (.list _) => (me ρ).bind fun r ρ1 => (match cont ρ1 i, opd ρ1 r with
    | some (.list ds), some d => (match toNK.toNKs ds, toNK d with
      | some ks, some k => if k.depth ≤ 8 ∧ k ∈ ks ∧ ks.length ≤ 1000000 then .ok (.d (.int ((ks.idxOf k : Nat) : Int))) ρ1 else .no
      | _, _ => .no)
    | _, _ => .no)
  | _ => .no
section
variable {K : PySem.W.Frag} {P : Nat} {W : Wish} {te : TE} {me : Env → Res R}
theorem sim_idx {i : Nat} (h : SimE K P W te me) : SimE K P W (tBM K "list" (rIdxD K) (tVar i) (tCons te tNil)) (mIdx i me) := by
  intro f G H σ ρ Q hp rl hq
  unfold mIdx at hq
  split at hq
  · next ds0 e0 =>
    obtain ⟨u, w1, w2⟩ := rl.got e0
    obtain ⟨a, xs, rfl, s1, _⟩ := w2.lst rl.gh
    refine ⟨_, w1, .inl ⟨rfl, xs, s1⟩, h.op hp rl ?_⟩
    cases e : me ρ with
    | no => rw [e] at hq; exact hq
    | exc c ρ1 => rw [e] at hq; exact hq
    | ok r ρ1 =>
      rw [e] at hq
      intro v G1 H1 s1 rl1 h1
      simp only [Res.bind] at hq
      split at hq
      · next ds d e1 e2 =>
        split at hq
        · next ks k e3 e4 =>
          split at hq
          · next hc =>
            obtain ⟨u', z1, z2⟩ := rl1.got e1
            rw [w1] at z1
            cases z1
            obtain ⟨a', xs', ea, s2, d2⟩ := z2.lst rl1.gh
            cases ea
            exact ⟨a, xs', ds, v, d, ks, k, rfl, rfl, s2, dpAll_same rl1.gh _ _ d2, (h1.got rl1 e2).dp rl1.gh, e3, e4, hc.1, hc.2.1, hc.2.2, hq _ G1 H1 s1 rl1 (.int _)⟩
          · exact hq.elim
        · exact hq.elim
      · exact hq.elim
  · exact hq.elim
end
end Z
namespace Z
open PySem PySem.Spec PyProof.Rows L2
theorem hu1 {A : Around} {k : Nat} (hr : Room k A) : A.units + 1 < cLine := by have := hu64 hr; omega
end Z
namespace Z
open PySem PySem.Spec PyProof.Rows L2
theorem pe_reK {X : Cx} {K : PySem.W.Frag} {e : Expr} {T : String} {r : V → List V → Hp → VK → Prop} {to : TE} {t : TA} (h : PE X e (tBM X.K T r to t)) (hK : X.K = K := by rfl) : PE X e (tBM K T r to t) := by
  subst hK
  exact h
end Z
namespace Z
open PySem PySem.Spec PyProof.Rows L2
/-! ### dict comprehensions, whatever the keys -/
section
variable {X : Cx} {pins : List (Addr × Obj)} {σ : L2.St} {H : Hp} {s : Shared}
/-- a store by a comprehension -/
theorem dset_M (hu : X.A.units + 64 < cLine) {q0 : Addr} {y z : V} {u r : Value} {Nx : Hp → Prop} {E : Value → Shared → Prop} (I : Inv X pins σ H s) (ry : RelV y u) (rz : RelV z r) (h : rSetM X.K (.ref q0) y z H Nx) :
    wpAny (model X.prog X.w) X.A (dictSet q0 u r) (fun _ s' => ∃ H', Inv X pins σ H' s' ∧ Nx H') E s := by
  obtain ⟨a, ob, tk, kvs, d, dv, G, ea, ha, sg, ho, hd, hk, hv, hl, q⟩ := h
  cases ea
  cases ho with
  | i hkv =>
    rcases keyOk_i hk with ⟨_, j, rfl⟩ | ⟨h, _⟩
    · have ev := dp_int hd
      subst ev
      obtain ⟨ks', e1, e2⟩ := put_int hkv j hv
      refine d_dictSet (k := .inl j) (v := z) I ha (by rw [List.length_map, kvI_len hkv, sizeLine_eq]; omega) ry rz fun s' I' => ?_
      rw [e1] at I'
      exact ⟨_, I', q _ (.i e2)⟩
    · cases h
  | n hkv =>
    rcases keyOk_i hk with ⟨h, _⟩ | ⟨_, ds, n, rfl, en, hn⟩
    · cases h
    · have hkv' := kvN_same sg hkv
      obtain ⟨z1, hs, xs, lx, dd⟩ := nest_of I ha hkv'
      obtain ⟨b, vs, rfl, _, _⟩ := dp_tup hd
      cases ry
      have hd' := dp_same sg _ _ hd
      obtain ⟨L', l1, l2, l3⟩ := put_nest hkv lx en hn hd hv rz
      have hz : xs.length ≤ sizeLine := by rw [← Paired.length lx]; exact z1
      have ll := kvN_len hkv
      refine wpAny_dictSet_heap (hsz := hz) (roomA hu) ⟨nested_is I _ _ _ _ en hd' rfl, hn⟩ dd fun h' dd' hsb => ⟨_, ?_, q _ (.n l2)⟩
      obtain ⟨qo, es, ep, hq, h2, h3, h4, _, h5⟩ := dd'
      refine d_write I (by rw [ha]; exact True.intro) hsb ⟨qo, hq⟩ (nest_ok ⟨by rw [sizeLine_eq]; omega, hs, _, l1, ⟨qo, es, ep, hq, h2, h3, fun w' => ?_⟩, h5⟩)
      rw [h4]
      refine List.map_congr_left fun x hx => ?_
      have nt : ∀ (L : List (NestedKey × Addr × V)) (kvs : List (D × D)) (xs : List (NestedKey × Addr × Value)), KvN X.K G L kvs → LX L xs → ∀ x ∈ xs, ∃ k, toNK k = some x.1 := by
        intro L kvs xs hk
        induction hk generalizing xs with
        | nil => intro hp x hx; cases hp; cases hx
        | cons q1 _ _ _ _ ih =>
          intro hp x hx
          cases hp with
          | cons r t =>
            rcases List.mem_cons.mp hx with rfl | hx
            · exact ⟨_, by rw [← r.1]; exact q1⟩
            · exact ih _ t x hx
      obtain ⟨k, ek⟩ := nt _ _ _ l2 l1 x hx
      show (⟨x.1.hash X.w, .ref x.2.1, x.2.2⟩ : DictEntry) = ⟨x.1.hash w', .ref x.2.1, x.2.2⟩
      rw [hash_any ek]
/-- the turns: where the walk is, what is in the new dict -/
def Turns (J : It) (g : TG) (tt : TT) (sto : L2.St → Hp → (Hp → Prop) → Prop) (vs : List Nat) (σ : L2.St) (fin : Hp → Prop) (W : Nat → Nat → Hp → Prop) : Prop := ∀ i m H, W i m H →
  (J.stop i H ∧ fin H) ∨ (J.go i H ∧ ∃ Nx : Hp → Prop, (∀ H', Nx H' → ∃ m', m' < m ∧ W (i + 1) m' H') ∧ ∀ x H', J.yld i H x H' → g x (wipe σ vs) H' fun σ2 H2 => wipe σ2 vs = wipe σ vs ∧ tt σ2 H2 fun b H3 => if b = true then sto σ2 H3 Nx else Nx H3)
def tDcM (K : PySem.W.Frag) (kd : Bool) (wi : TI) (g : TG) (tt : TT) (tk tv : TE) (vs : List Nat) : TE := fun σ H Q => wi σ H fun J H1 => ∀ a, H1 a = none → ∃ W : Nat → Nat → Hp → Prop, (∃ m, W 0 m (upd H1 a (emptyM kd a))) ∧
  Turns J g tt (fun σ2 H3 Nx => tk σ2 H3 fun y H4 => tv σ2 H4 fun z H5 => rSetM K (.ref a) y z H5 Nx) vs σ (fun H => Q (.ref a) H) W
theorem empty_ok {P : Program} {w : World} {H' : Hp} {h : Heap} (kd : Bool) (big : sysModules < h.objs.size) : ObjOk P w H' (h.push { cls := .type "dict", data := .dict #[] }) h.objs.size (emptyM kd h.objs.size) := by
  cases kd with
  | false => exact dk_empty h big
  | true => exact nest_ok ⟨Nat.zero_le _, beq_eq_false_iff_ne.mpr (Ne.symm (Nat.ne_of_lt big)), [], .nil, ⟨_, #[], 0, Heap.get?_push_size _ rfl, ⟨rfl, rfl, rfl⟩, rfl, fun _ => rfl⟩, List.nodup_nil⟩
theorem pe_dcM {K : PySem.W.Frag} (kd : Bool) {kx vx tg iter : Expr} {ifs : List Expr} {scope : Scope} {own : List (Str × Nat)} {pos : Pos} {wi : TI} {g : TG} {tt : TT} {tk tv : TE} (hu : X.A.units + 64 < cLine) (hc : X.calm = true) (hN : X.N.Nodup) (hi : PI X tg iter wi) (ok : BlkOk X.N X.env.scope scope own)
    (hg : ∀ (s : Shared) (H : Hp) (C : Addr) (cl : List (Str × Addr)) (fp : List Addr), PG (X.blk s H scope (compEnvC scope cl C X.env) fp) tg g) (ht : ∀ (s : Shared) (H : Hp) (C : Addr) (cl : List (Str × Addr)) (fp : List Addr), PTs (X.blk s H scope (compEnvC scope cl C X.env) fp) ifs tt)
    (hk : ∀ (s : Shared) (H : Hp) (C : Addr) (cl : List (Str × Addr)) (fp : List Addr), PE (X.blk s H scope (compEnvC scope cl C X.env) fp) kx tk)
    (he : ∀ (s : Shared) (H : Hp) (C : Addr) (cl : List (Str × Addr)) (fp : List Addr), PE (X.blk s H scope (compEnvC scope cl C X.env) fp) vx tv) (hs : ∀ x, foldedSetIterable iter X.env x = pure x := by intro _; rfl) (hK : X.K = K := by rfl) :
    PE X (.DictComp kx vx [⟨tg, iter, ifs, 0⟩] scope pos) (tDcM K kd wi g tt tk tv (own.map (·.2))) := by
  subst hK
  refine ⟨fun pins s σ H Q I h => ?_⟩
  rw [arm_eval_DictComp]
  have hfree : ∀ y ∈ scope.names, y.2 = .free → ∃ c, X.env.cells.lookup y.1 = some c := fun y hy e => (ok.free y hy e).elim (fun k => I.ok.has _ (.inl k)) fun k => I.ok.has _ (.inr k)
  refine wpAny_comprehension_free (use := none) rfl hs (closure_ok hfree) ok.kind (fun y hy e => by rw [ok.uniq y hy, e]) (thn (hi.run pins s σ H _ I h) fun xv s1 hx => thn hx fun itv s2 h2 => ?_)
  obtain ⟨it, fp, tn, J, H2, rfl, I2, T, st2, f2, q⟩ := h2
  refine wpAny_newObj_type (newEnv_comp ?_)
  generalize hD : s2.heap.objs.size = a
  obtain ⟨W, ⟨m0, w0⟩, turn⟩ := q a (I2.hok.fresh (Nat.le_of_eq hD))
  generalize hs3 : ({ s2 with heap := s2.heap.push { cls := .type "dict", data := .dict #[] } } : Shared) = s3
  have h3 : s3.heap = s2.heap.push { cls := .type "dict", data := .dict #[] } := by rw [← hs3]
  have I3 : Inv X pins σ (upd H2 a (emptyM kd a)) s3 := by
    rw [← hs3, ← hD]
    exact I2.laid (t' := s2.toks) (fun b o e => Heap.get?_push_of_some _ e) (Nat.le_refl _) (empty_ok kd I2.big)
  have f3 : ∀ b ∈ fp, FpOk X pins (upd H2 a (emptyM kd a)) b ∧ b < s3.heap.objs.size := fun b hb => by
    have hlt : b < s2.heap.objs.size := by
      obtain ⟨o, e, _⟩ := T.obj _ _ st2 b hb
      exact Heap.lt_size e
    refine ⟨⟨?_, (f2 b hb).2⟩, by rw [h3, Heap.size_push]; exact Nat.lt_succ_of_lt hlt⟩
    rw [upd_ne (by rw [← hD]; exact Nat.ne_of_lt hlt)]
    exact (f2 b hb).1
  have st3 : tn 0 s3.heap := T.keep _ _ _ st2 fun b _ o e => by rw [h3]; exact Heap.get?_push_of_some _ e
  have I4 := block_start I3 ok hN f3
  have nfp : ∀ b ∈ fp, (upd H2 a (emptyM kd a)) b = none := fun b hb => (f3 b hb).1.1
  generalize hH3 : upd H2 a (emptyM kd a) = H3 at I3 I4 w0 nfp f3
  have pg := hg s3 H3 s3.heap.objs.size (cellsFrom (s3.heap.objs.size + 1) scope.names (cloFrom X.env.cells scope.names [])) fp
  have pt := ht s3 H3 s3.heap.objs.size (cellsFrom (s3.heap.objs.size + 1) scope.names (cloFrom X.env.cells scope.names [])) fp
  have pk := hk s3 H3 s3.heap.objs.size (cellsFrom (s3.heap.objs.size + 1) scope.names (cloFrom X.env.cells scope.names [])) fp
  have pv := he s3 H3 s3.heap.objs.size (cellsFrom (s3.heap.objs.size + 1) scope.names (cloFrom X.env.cells scope.names [])) fp
  show codeAny _ _ (.compStart (.DictComp kx vx [⟨tg, iter, ifs, 0⟩] scope pos) 0 (.ref it) (.ref a) (compEnvC scope (cellsFrom (s3.heap.objs.size + 1) scope.names (cloFrom X.env.cells scope.names [])) s3.heap.objs.size X.env)) (compPost (model X.prog X.w) X.A X.xe none (EP X pins σ Q) (.ref a) s3.heap.objs.size) { s3 with heap := pushCells (s3.heap.push { cls := .type "dict", data := .dict #[] }) scope.names }
  generalize hce : compEnvC scope (cellsFrom (s3.heap.objs.size + 1) scope.names (cloFrom X.env.cells scope.names [])) s3.heap.objs.size X.env = ce at I4 pg pt pk pv ⊢
  have cL : ce.locals = s3.heap.objs.size := by rw [← hce]; rfl
  generalize hs4 : ({ s3 with heap := pushCells (s3.heap.push { cls := .type "dict", data := .dict #[] }) scope.names } : Shared) = s4 at I4 ⊢
  have st4 : tn 0 s4.heap := T.keep _ _ _ st3 fun b _ o e => by rw [← hs4]; exact pushCells_keeps _ _ _ _ (Heap.get?_push_of_some _ e)
  have stat : ∀ {σ' : L2.St} {H' : Hp} {s' : Shared}, Inv (X.blk s3 H3 scope ce fp) [] σ' H' s' → (∀ b ∈ fp, H' b = none) → ∀ b ∈ fp, FpOk (X.blk s3 H3 scope ce fp) [] H' b := fun {σ' H' s'} I' hn b hb =>
    ⟨hn b hb, (I'.ok.exf b hb).1, I'.ok.exfs b hb, .inl hb, fun x c e => (I'.ok.exf b hb).2 x c e, fun p hp => absurd (show p ∈ ([] : List (Addr × Obj)) ++ [] from hp) (by simp)⟩
  have loop : codeAny (model X.prog X.w) X.A (.compLoop (.DictComp kx vx [⟨tg, iter, ifs, 0⟩] scope pos) 0 (.ref it) (.ref a) ce) (compPost (model X.prog X.w) X.A X.xe none (EP X pins σ Q) (.ref a) s3.heap.objs.size) s4 := by
    refine compLoop_anyD (fun n s' => ∃ i H', Inv (X.blk s3 H3 scope ce fp) [] (wipe σ (own.map (·.2))) H' s' ∧ tn i s'.heap ∧ (∀ b ∈ fp, H' b = none) ∧ W i n H') ?_ m0 ⟨0, H3, I4, st4, nfp, w0⟩
    rintro n s5 ⟨i, H5, I5, st5, n5, w5⟩
    rcases turn i n H5 w5 with ⟨stop, qq⟩ | ⟨go, Nx, hNx, step⟩
    · refine thnF (T.done (X.blk s3 H3 scope ce fp) rfl rfl rfl hc i [] s5 _ H5 (fun _ _ => False) I5 (stat I5 n5) st5 stop) fun r s6 ⟨hr, I6⟩ => ?_
      subst hr
      have I7 : Inv X pins σ H5 s6 := I3.call' (ch := fp) I6.os I6.base I6.hok I6.bare fun b hb => ⟨(f3 b hb).1.2.2.2.1, (f3 b hb).1.2.1, (f3 b hb).1.2.2.2.2.1, (f3 b hb).1.2.2.2.2.2⟩
      have nC : H5 s3.heap.objs.size = none := cL ▸ (show H5 ce.locals = none from I6.free)
      obtain ⟨m, hn, _⟩ := I6.loc
      have hn : s6.heap.Ns s3.heap.objs.size m := cL ▸ (show s6.heap.Ns ce.locals m from hn)
      refine ⟨m, hn, fun h'' sb => ?_⟩
      obtain ⟨f0, f1, f2', f3', f4, f5⟩ := I3.fpOk (Nat.le_refl _) nC
      exact ⟨.ref a, H5, I7.turned (t' := s6.toks) (fun b o hb e => (sb.2 b hb).trans e) f0 f1 f3' f4 f5, rfl, qq⟩
    · refine thnF (T.item (X.blk s3 H3 scope ce fp) rfl rfl rfl hc i [] s5 _ H5 (fun _ _ => False) I5 (stat I5 n5) st5 go) fun r s6 ⟨u, hr, h6⟩ => ?_
      subst hr
      refine thnF h6 fun _ s7 ⟨x, H7, I7, r7, y7, st7, n7⟩ => ?_
      refine thnF (pg.run _ s7 _ H7 x u _ (I7.pinned (stat I7 n7) (T.obj _ _ st7)) r7 (step x H7 y7)) fun _ s8 ⟨σ8, H8, I8, hw8, q8⟩ => ?_
      have fin : ∀ {s' : Shared} {H' : Hp}, Inv (X.blk s3 H3 scope ce fp) ([] ++ pinsAt fp s7.heap) σ8 H' s' → Nx H' → ∃ m, m < n ∧ ∃ i H', Inv (X.blk s3 H3 scope ce fp) [] (wipe σ (own.map (·.2))) H' s' ∧ tn i s'.heap ∧ (∀ b ∈ fp, H' b = none) ∧ W i m H' := fun {s' H'} I' nx => by
        obtain ⟨m', hm, w'⟩ := hNx H' nx
        have pin' : ∀ b ∈ fp, ∀ o, s7.heap.get? b = some o → s'.heap.get? b = some o ∧ H' b = none := fun b hb o e =>
          let z := I'.pin (b, o) (List.mem_append_right _ (List.mem_append_right _ (mem_pinsAt hb e)))
          ⟨z.1, z.2.1⟩
        refine ⟨m', hm, i + 1, H', (I'.unpinned (pins := [])).weak (by rw [← hw8, wipe_length]) (fun j v e => (wipe_some (vs := own.map (·.2)) (hw8 ▸ e)).1), T.keep _ _ _ st7 fun b hb o e => (pin' b hb o e).1, fun b hb => ?_, w'⟩
        obtain ⟨o, e, _⟩ := T.obj _ _ st7 b hb
        exact (pin' b hb o e).2
      refine thnF (pt.run _ s8 σ8 H8 _ I8 q8) fun b s9 ⟨H9, I9, q9⟩ => ?_
      cases b with
      | false =>
        simp only [Bool.false_eq_true, if_false] at q9 ⊢
        exact fin I9 q9
      | true =>
        simp only [if_true] at q9 ⊢
        refine thnF (pk.run _ s9 σ8 H9 _ I9 q9) fun z s10 ⟨yk, H10, I10, r10, q10⟩ => ?_
        refine thnF (pv.run _ s10 σ8 H10 _ I10 q10) fun z2 s11 ⟨yv, H11, I11, r11, st11⟩ => ?_
        exact wpAny_mono (dset_M (X := X.blk s3 H3 scope ce fp) (E := fun _ _ => False) hu I11 r10 r11 st11) (fun _ s12 ⟨H12, I12, nx⟩ => fin I12 nx) fun _ _ z => z.elim
  exact codeAny_compStart_dict loop (T.self X.A 0 _ _ _ st4 loop)
end
end Z
namespace Z
open PySem PySem.Spec PyProof.Rows L2
def dcLM (P : Nat) (kd : Bool) (b : D → Env → Option Env) (mt : Env → Res Bool) (mk mv : Env → Res R) (vs : List Nat) : List D → List (D × D) → Env → Res (List (D × D))
  | [], acc, ρ => .ok acc ρ
  | d :: ds, acc, ρ => match b d ρ with
    | none => .no
    | some ρ1 => (match mt ρ1 with
      | .ok true ρ2 => (match mk ρ2 with
        | .ok r1 ρ3 => (match mv ρ3 with
          | .ok r ρ4 => (match frzA P [r1, r] ρ4 with
            | some ρ5 => (match dopd ρ5 r1, dopd ρ5 r with
              | some k, some y => if keyOk kd k = true ∧ acc.length < 1000000 then dcLM P kd b mt mk mv vs ds (putM acc k y) (wipeE ρ5 vs) else .no
              | _, _ => .no)
            | none => .no)
          | _ => .no)
        | _ => .no)
      | .ok false ρ2 => dcLM P kd b mt mk mv vs ds acc (wipeE ρ2 vs)
      | _ => .no)
def mDcM (P : Nat) (kd : Bool) (i : Nat) (mi : Env → Res (List D)) (b : D → Env → Option Env) (mt : Env → Res Bool) (mk mv : Env → Res R) (vs : List Nat) : Env → Out := fun ρ => match mi ρ with
  | .ok ds ρ1 => (match dcLM P kd b mt mk mv vs ds [] (wipeE ρ1 vs) with
    | .ok acc ρw => .nx ((back ρ1 vs ρw).set i (some (.m kd acc)))
    | _ => .no)
  | .exc c ρ1 => .exc c ρ1
  | .no => .no
theorem empty_own {K : PySem.W.Frag} {G : Hp} (kd : Bool) (a : Addr) : OwnR K G a (emptyM kd a) (.m kd []) := by
  cases kd with
  | true => exact .n .nil
  | false => exact .i (ks := []) .nil
section
variable {K : PySem.W.Frag} {P : Nat} {W : Wish}
theorem sim_dcM {kd : Bool} {wi : TI} {mi : Env → Res (List D)} {g : TG} {b : D → Env → Option Env} {ts vs : List Nat} {tt : TT} {mt : Env → Res Bool} {tk tv : TE} {mk mv : Env → Res R} {i : Nat}
    (hi : SimI K P W wi mi) (hg : SimG K P g b ts) (ht : SimT K P W tt mt) (hk : SimE K P W tk mk) (he : SimE K P W tv mv) (hts : ∀ i ∈ ts, i ∈ vs) (hvs : ∀ i ∈ vs, P ≤ i) (hP : P ≤ i) : SimS K P W (tAsg (tDcM K kd wi g tt tk tv vs) (gName i)) (mDcM P kd i mi b mt mk mv vs) := by
  intro f G H σ ρ D hp rl hq
  refine hi f G H σ ρ _ hp rl ?_
  unfold mDcM at hq
  cases e : mi ρ with
  | no => rw [e] at hq; exact hq
  | exc c ρ1 => rw [e] at hq; exact fun G1 H1 s1 rl1 => hq G1 H1 σ s1 rl1
  | ok ds ρ1 =>
    rw [e] at hq
    simp only at hq
    intro J G1 H1 s1 rl1 wk
    split at hq
    case h_2 => exact hq.elim
    next accF ρF hres =>
    intro A nA
    have gA : G1 A = none := rl1.gh.free nA
    have fA : f.F A = none := rl1.fh.free nA
    have g0A : f.G0 A = none := rl1.g0.free gA
    refine ⟨fun i m H' => ∃ G' ρ' acc ob, Same G1 G' ∧ Rel K (f.add A ob) G' H' (wipe σ vs) ρ' ∧ OwnR K G' A ob (.m kd acc) ∧ i + m = ds.length ∧ dcLM P kd b mt mk mv vs (ds.drop i) acc ρ' = .ok accF ρF,
      ⟨ds.length, G1, wipeE ρ1 vs, [], _, .refl _, (rl1.wiped hp hvs).addF nA, empty_own kd A, by omega, hres⟩, fun i m H' hW => ?_⟩
    obtain ⟨G2, ρ2, acc, ob, s2, rl2, hacc, em, hc⟩ := hW
    have sF : Same f.F H' := fun b o q => rl2.fh b o (by
      show upd f.F A _ b = some o
      rw [upd_ne (fun z => by subst z; rw [fA] at q; cases q)]
      exact q)
    obtain ⟨wk1, wk2⟩ := wk G2 H' s2 rl2.gh sF
    by_cases hlt : i < ds.length
    · have ed : ds.drop i = ds[i] :: ds.drop (i + 1) := List.drop_eq_getElem_cons hlt
      obtain ⟨go, yl⟩ := wk1 i ds[i] (List.getElem?_eq_getElem hlt)
      refine .inr ⟨go, fun H3 => ∃ G' ρ' acc ob, Same G1 G' ∧ Rel K (f.add A ob) G' H3 (wipe σ vs) ρ' ∧ OwnR K G' A ob (.m kd acc) ∧ dcLM P kd b mt mk mv vs (ds.drop (i + 1)) acc ρ' = .ok accF ρF,
        fun H3 hN => ?_, fun x H3 hy => ?_⟩
      · obtain ⟨G', ρ', acc', ob', a1, a2, a3, a4⟩ := hN
        exact ⟨m - 1, by omega, G', ρ', acc', ob', a1, a2, a3, by omega, a4⟩
      · obtain ⟨G3, gr, hd⟩ := yl x H3 hy
        have rl3 := rl2.grow gr
        have s3 := s2.trans gr.1
        rw [ed] at hc
        simp only [dcLM] at hc
        split at hc
        · cases hc
        · next ρ3 e3 =>
          refine hg (f.add A ob) G3 H3 (wipe σ vs) ρ2 ρ3 x ds[i] _ hp rl3 hd e3 fun σ4 rl4 l4 k4 => ?_
          have ew := wipe_same l4 k4 hts
          refine ⟨ew, ht (f.add A ob) G3 H3 σ4 ρ3 _ hp rl4 ?_⟩
          cases e4 : mt ρ3 with
          | no => rw [e4] at hc; cases hc
          | exc c ρ4 => rw [e4] at hc; cases hc
          | ok k ρ4 =>
            rw [e4] at hc
            intro G5 H5 s5 rl5
            cases k with
            | false =>
              rw [if_neg Bool.false_ne_true]
              have r6 := rl5.wiped hp hvs
              rw [ew] at r6
              exact ⟨G5, _, acc, ob, s3.trans s5, r6, hacc.same (gr.1.trans s5), hc⟩
            | true =>
              rw [if_pos rfl]
              simp only at hc
              refine SimE.op (f := f.add A ob) hk hp rl5 ?_
              cases e5 : mk ρ4 with
              | no => rw [e5] at hc; cases hc
              | exc c ρ5 => rw [e5] at hc; cases hc
              | ok r1 ρ5 =>
                rw [e5] at hc
                intro v1 G6 H6 s6 rl6 h6
                simp only at hc
                refine SimE.op (f := f.add A ob) he hp rl6 ?_
                cases e6 : mv ρ5 with
                | no => rw [e6] at hc; cases hc
                | exc c ρ6 => rw [e6] at hc; cases hc
                | ok r ρ6 =>
                  rw [e6] at hc
                  intro v G7 H7 s7 rl7 h7
                  simp only at hc
                  split at hc
                  case h_2 => cases hc
                  next ρ7 e7 =>
                  obtain ⟨G8, s8, rl8⟩ := rl7.frzA hp e7
                  split at hc
                  case h_2 => cases hc
                  next kk y e8 e9 =>
                  split at hc
                  case isFalse => cases hc
                  next hlen =>
                  have s28 := (((gr.1.trans s5).trans s6).trans s7).trans s8
                  have hv1 : Dp K G8 v1 kk := ((h6.same s7).same s8).dat rl8 e8
                  have hv : Dp K G8 v y := (h7.same s8).dat rl8 e9
                  refine ⟨A, ob, kd, acc, kk, y, G8, rfl, rl8.atF, rl8.gh, hacc.same s28, hv1, hlen.1, hv, hlen.2, fun ob' ho' => ?_⟩
                  have r9 := (rl8.swapF (o' := ob') g0A).wiped hp hvs
                  rw [ew] at r9
                  exact ⟨G8, _, putM acc kk y, ob', s2.trans s28, r9, ho', hc⟩
    · have ed : ds.drop i = [] := List.drop_of_length_le (by omega)
      rw [ed] at hc
      simp only [dcLM] at hc
      cases hc
      refine .inl ⟨wk2 i (by omega), ?_⟩
      have rl' := rl1.restore hp hvs s2 rl2 fA
      refine hq G2 _ _ (s1.trans s2) (rl'.putS (xs := .m kd accF) hp hP rfl rl2.atF hacc (rl2.noG g0A) fA fun k ys q hs z => ?_)
      by_cases hj : k ∈ vs
      · obtain ⟨x, e, _⟩ := back_in ρ1 hj q
        subst e
        cases hs
      · rw [back_out ρ1 hj] at q
        obtain ⟨p, us, q1, q2, q3, q4, q5⟩ := rl2.ow k ys q hs
        rw [wipe_out' hj, z] at q1
        cases q1
        have q5 : upd f.F A _ A = none := q5
        rw [upd_same] at q5
        cases q5
end
end Z
namespace Z
open PySem PySem.Spec PyProof.Rows L2 Srt
/-! ### sorted, of three ints each -/
abbrev T3 := Int × Int × Int
def IsTri (h : Heap) (v : Value) (p : T3) : Prop := ∃ a o t u w n, v = .ref a ∧ h.get? a = some o ∧ o.cls = .type "tuple" ∧ o.data = .seq #[.int p.1 t, .int p.2.1 u, .int p.2.2 w] n
theorem IsTri.keeps {h h' : Heap} {v : Value} {p : T3} (x : IsTri h v p) (k : ∀ b o, h.get? b = some o → o.cls = .type "tuple" → h'.get? b = some o) : IsTri h' v p := by
  obtain ⟨a, o, t, u, w, n, e, ho, hc, hd⟩ := x
  exact ⟨a, o, t, u, w, n, e, k _ _ ho hc, hc, hd⟩
abbrev lt3 (p q : T3) : Prop := p.1 < q.1 ∨ (p.1 = q.1 ∧ (p.2.1 < q.2.1 ∨ (p.2.1 = q.2.1 ∧ p.2.2 < q.2.2)))
abbrev le3 (p q : T3) : Prop := p.1 < q.1 ∨ (p.1 = q.1 ∧ (p.2.1 < q.2.1 ∨ (p.2.1 = q.2.1 ∧ p.2.2 ≤ q.2.2)))
def lexB3 (p q : T3) : Bool := if p.1 = q.1 then SrtO.lexB p.2 q.2 else decide (p.1 < q.1)
theorem lexB3_iff {p q : T3} : lexB3 p q = true ↔ lt3 p q := by
  unfold lexB3
  by_cases e : p.1 = q.1
  · rw [if_pos e, SrtO.lexB_iff]
    unfold lt3
    omega
  · rw [if_neg e, decide_eq_true_eq]
    unfold lt3
    omega
theorem lexB3_no {p q : T3} : lexB3 p q = false ↔ ¬ lt3 p q := by
  rw [← lexB3_iff]
  cases lexB3 p q <;> simp
theorem swo_lex3 (k : Value → T3) : SrtO.Swo fun v u => lexB3 (k v) (k u) := by
  refine ⟨fun x y h => ?_, fun x y z h1 h2 => ?_⟩
  · have a := lexB3_iff.mp h
    refine lexB3_no.mpr ?_
    unfold lt3 at a ⊢
    omega
  · have a := lexB3_no.mp h1
    have b := lexB3_no.mp h2
    refine lexB3_no.mpr ?_
    unfold lt3 at a b ⊢
    omega
section
variable {prog : Program} {w : World} {A : Around} {E : Value → Shared → Prop} {s : Shared}
/-- what is left of a comparison of ints, from the second place on -/
theorem kat_pairs {b : Bool} {fin : Bool} {y y' z z' : Int} {u u' v v' : Tok} {i : Nat} (hf : fin = false) : PySem.W.KatLex prog w A b fin (fun r s' => s' = s ∧ r = SrtO.lexB (y, z) (y', z')) [(.int y u, .int y' u'), (.int z v, .int z' v')] i s := by
  subst hf
  refine PySem.W.kat_cons (SeqAt.EqAt.int_int y u y' u' prog w _ _ ?_)
  refine PySem.W.kat_go (fun e1 => ?_) (fun e1 => ?_)
  · have ey : y = y' := by simpa using e1
    refine PySem.W.kat_yes (PySem.W.kat_cons (SeqAt.EqAt.int_int z v z' v' prog w _ _ ?_))
    refine PySem.W.kat_go (fun e2 => ?_) (fun e2 => ?_)
    · have ez : z = z' := by simpa using e2
      refine PySem.W.kat_yes (PySem.W.kat_nil ⟨rfl, ?_⟩)
      unfold SrtO.lexB
      rw [if_pos ey, ez]
      exact (decide_eq_false (Int.lt_irrefl _)).symm
    · refine PySem.W.kat_no (TS.oneLt_ints _ ⟨rfl, ?_⟩)
      unfold SrtO.lexB
      rw [if_pos ey]
  · have ey : ¬ y = y' := by simpa using e1
    refine PySem.W.kat_no (TS.oneLt_ints _ ⟨rfl, ?_⟩)
    unfold SrtO.lexB
    rw [if_neg ey]
theorem tri_cmp {vs : List Value} {k : Value → T3} (hp : ∀ v ∈ vs, IsTri s.heap v (k v)) : SrtO.Cmp prog w A s (tuples' true) (fun p => p.1 ∈ vs) (SrtO.lt2 fun v u => lexB3 (k v) (k u)) := by
  intro p q hm hm'
  have h1 := hp _ hm
  have h2 := hp _ hm'
  show wpAny (model prog w) A (keyLt' (tuples' true) p.1 q.1) (fun r s' => s' = s ∧ r = lexB3 (k p.1) (k q.1)) (fun _ _ => False) s
  obtain ⟨⟨x, y, z⟩, e1⟩ : ∃ t : T3, t = k p.1 := ⟨_, rfl⟩
  obtain ⟨⟨x', y', z'⟩, e2⟩ : ∃ t : T3, t = k q.1 := ⟨_, rfl⟩
  rw [← e1] at h1 ⊢
  rw [← e2] at h2 ⊢
  obtain ⟨a, o, t, u, v, n, e, ho, hc, hd⟩ := h1
  obtain ⟨a', o', t', u', v', n', e', ho', hc', hd'⟩ := h2
  rw [e, e']
  refine PySem.W.kat_lt ho hd ho' hd' ?_
  show PySem.W.KatLex prog w A true (decide (3 < 3)) _ [(.int x t, .int x' t'), (.int y u, .int y' u'), (.int z v, .int z' v')] 0 s
  refine PySem.W.kat_cons (SeqAt.EqAt.int_int x t x' t' prog w _ _ ?_)
  refine PySem.W.kat_go (fun e1 => ?_) (fun e1 => ?_)
  · have ex : x = x' := by simpa using e1
    have el : lexB3 (x, y, z) (x', y', z') = SrtO.lexB (y, z) (y', z') := by
      unfold lexB3
      rw [if_pos ex]
    rw [el]
    exact PySem.W.kat_yes (kat_pairs rfl)
  · have ex : ¬ x = x' := by simpa using e1
    have el : lexB3 (x, y, z) (x', y', z') = decide (x < x') := by
      unfold lexB3
      rw [if_neg ex]
    rw [el]
    exact PySem.W.kat_no (TS.oneLt_ints _ ⟨rfl, rfl⟩)
theorem tri_firsts {h : Heap} : ∀ {vs : List Value}, (∀ v ∈ vs, ∃ p, IsTri h v p) → ∃ fs : List Value, PySem.W.KatTups h vs fs ∧ fs.length = vs.length ∧ ∀ f ∈ fs, ∃ x t, f = Value.int x t
  | [], _ => ⟨[], PySem.W.KatTups.nil, rfl, fun _ hm => by simp at hm⟩
  | v :: vs, hp => by
    obtain ⟨fs, h1, h2, h3⟩ := tri_firsts (vs := vs) fun v' hm => hp v' (List.mem_cons_of_mem _ hm)
    obtain ⟨p, a, o, t, u, w, n, rfl, ho, hc, hd⟩ := hp v List.mem_cons_self
    refine ⟨.int p.1 t :: fs, PySem.W.KatTups.cons ho hc hd rfl h1, by rw [List.length_cons, List.length_cons, h2], fun f hm => ?_⟩
    rcases List.mem_cons.mp hm with rfl | hm
    · exact ⟨_, t, rfl⟩
    · exact h3 f hm
theorem tri_sortable {a : Addr} {vs : List Value} {k : Value → T3} (h0 : 0 < vs.length) (hp : ∀ v ∈ vs, IsTri s.heap v (k v)) (ha : ∀ o, s.heap.get? a = some o → o.cls ≠ .type "tuple") : SrtO.SortableO prog w A s a vs fun v u => lexB3 (k v) (k u) := by
  intro h' keep
  have hp' : ∀ v ∈ vs, IsTri h' v (k v) := fun v hm => (hp v hm).keeps fun b o e c => keep b o (fun z => by subst z; exact ha o e c) e
  obtain ⟨fs, h1, h2, h3⟩ := tri_firsts fun v hm => ⟨_, hp' v hm⟩
  refine ⟨tuples' true, fun Q E hq => ?_, tri_cmp hp'⟩
  refine PySem.W.kat_kind (T := .type "int") h1 (by omega) (fun f hm => ?_) (by rfl) ?_
  · obtain ⟨x, t, rfl⟩ := h3 f hm
    exact PySem.W.Looks.now
  · have e : (Value.type "int" != Value.type "tuple") = true := by first | decide +kernel | rfl | decide
    rw [e]
    exact hq
theorem sorted_tri {l : Addr} {vs : List Value} {k : Value → T3} {Q : Value → Shared → Prop} (hl : s.heap.IsList l vs.toArray) (hz : vs.length ≤ sizeLine) (hp : ∀ v ∈ vs, IsTri s.heap v (k v))
    (h : ∀ (h' : Heap) (d : Addr) (out : List Value), SrtO.Srtd (fun v u => lexB3 (k v) (k u)) out → SrtO.Stb (fun v u => lexB3 (k v) (k u)) out vs → (∀ b o, s.heap.get? b = some o → h'.get? b = some o) → s.heap.objs.size ≤ d → (∃ n, h'.get? d = some (seqObj "list" out.toArray n)) → Q (.ref d) { s with heap := h' }) :
    wpAny (model prog w) A (call (.builtin "sorted") [.ref l]) Q E s := by
  refine SrtO.sorted_ord (swo_lex3 k) hl hz (fun h2 h₁ a ha kk => ?_) fun out hs hb => ?_
  · refine tri_sortable (s := { s with heap := h₁ }) (by omega) (fun v hm => (hp v hm).keeps fun b o e _ => (kk b o e).2) fun o e => ?_
    have e' : some o = some (seqObj "list" vs.toArray 0) := e.symm.trans ha
    cases e'
    intro c
    exact absurd (Value.type.inj c) (by decide)
  · exact h _ _ out hs hb (fun b o e => sortedAll_old e) (Nat.le_succ _) (sortedAll_at s.heap vs out.toArray)
end
end Z
namespace Z
open PySem PySem.Spec PyProof.Rows L2
def rSort3 (K : PySem.W.Frag) : List V → Hp → VK → Prop := fun vs H Q => ∃ (a : Addr) (L : List (V × T3)), vs = [V.ref a] ∧ SqL K H a (L.map (·.1)) ∧ (∀ q ∈ L, ∃ t, q.1 = V.ref t ∧ SqT K H t [.int q.2.1, .int q.2.2.1, .int q.2.2.2]) ∧
  ∀ (M : List (V × T3)) (p : Addr), M.Perm L → (M.map (·.2)).Pairwise le3 → H p = none → Q (.ref p) (upd H p (.lst (M.map (·.1))))
theorem isTri_one {h : Heap} {v : Value} {p q : T3} (a : IsTri h v p) (b : IsTri h v q) : p = q := by
  obtain ⟨a, o, t, u, w, n, rfl, h1, _, h3⟩ := a
  obtain ⟨a', o', t', u', w', n', e, h1', _, h3'⟩ := b
  cases e
  rw [h1] at h1'
  cases h1'
  rw [h3] at h3'
  injection h3' with e1 e2
  have := congrArg Array.toList e1
  simp only [List.cons.injEq, Value.int.injEq] at this
  exact Prod.ext this.1.1 (Prod.ext this.2.1.1 this.2.2.1.1)
open Classical in
noncomputable def triAt (h : Heap) (v : Value) : T3 := if q : ∃ p : T3, IsTri h v p then choose q else (0, 0, 0)
theorem triAt_eq {h : Heap} {v : Value} {p : T3} (q : IsTri h v p) : triAt h v = p := by
  have ex : ∃ p : T3, IsTri h v p := ⟨p, q⟩
  unfold triAt
  rw [dif_pos ex]
  exact isTri_one (Classical.choose_spec ex) q
theorem vals_valR3 : ∀ {L : List (V × T3)} {its : List Value}, Vals (L.map (·.1)) its → (∀ q ∈ L, ∃ t, q.1 = V.ref t) → its = L.map fun q => valR q.1
  | [], _, .nil, _ => rfl
  | q :: L, u :: us, .cons r t, h => by
    obtain ⟨a, e⟩ := h q List.mem_cons_self
    have r : RelV q.1 u := r
    rw [e] at r
    have r : u = Value.ref a := r
    rw [List.map_cons, ← vals_valR3 t fun z hz => h z (List.mem_cons_of_mem _ hz), e, r]
    rfl
theorem vals3 {x y z : V} {us : List Value} (h : Vals [x, y, z] us) : ∃ u v w, us = [u, v, w] ∧ RelV x u ∧ RelV y v ∧ RelV z w := by
  cases h with
  | cons h1 h2 =>
    cases h2 with
    | cons h3 h4 =>
      cases h4 with
      | cons h5 h6 =>
        cases h6
        exact ⟨_, _, _, rfl, h1, h3, h5⟩
theorem zcr_sort3 {X : Cx} : CallR X (.builtin "sorted") (rSort3 X.K) := by
  intro pins s σ H vs us Q I r h
  obtain ⟨a, L, rfl, hs, hx, q⟩ := h
  obtain ⟨its, rv, hl, hz⟩ := I.list hs
  rw [Vals.ref1 r]
  have hr : ∀ q ∈ L, ∃ t, q.1 = V.ref t := fun q hq => by
    obtain ⟨t, e, _⟩ := hx q hq
    exact ⟨t, e⟩
  have ei := vals_valR3 rv hr
  have pr : ∀ q ∈ L, IsTri s.heap (valR q.1) q.2 := fun q hq => by
    obtain ⟨t, e, ht⟩ := hx q hq
    rw [e]
    obtain ⟨its2, r2, ⟨o, ho, hc, n, hd⟩, _⟩ := I.tuple ht
    obtain ⟨u1, u2, u3, rfl, ri, rj, rk⟩ := vals3 r2
    obtain ⟨t1, rfl⟩ := ri
    obtain ⟨t2, rfl⟩ := rj
    obtain ⟨t3, rfl⟩ := rk
    exact ⟨t, o, t1, t2, t3, n, rfl, ho, hc, hd⟩
  have eL : its.map (fun u => (backV u, triAt s.heap u)) = L := by
    rw [ei, List.map_map]
    refine (List.map_congr_left fun q hq => ?_).trans (List.map_id L)
    obtain ⟨t, e⟩ := hr q hq
    have e2 : triAt s.heap (valR q.1) = q.2 := triAt_eq (pr q hq)
    show (backV (valR q.1), triAt s.heap (valR q.1)) = q
    rw [e2, e]
    show (V.ref t, q.2) = q
    rw [← e]
  refine sorted_tri (k := triAt s.heap) hl.isList (by rw [← rv.length]; exact hz) (fun v hv => ?_) fun h' d out h1 h2 kp hd hn => ?_
  · rw [ei] at hv
    obtain ⟨q, hq, rfl⟩ := List.mem_map.mp hv
    have p := pr q hq
    rw [triAt_eq p]
    exact p
  · obtain ⟨n, hn⟩ := hn
    have h3 : ∀ u ∈ out, ∃ a, u = Value.ref a := fun u hu => by
      have hm := h2.perm.mem_iff.mp hu
      rw [ei] at hm
      obtain ⟨q, hq, rfl⟩ := List.mem_map.mp hm
      obtain ⟨t, e⟩ := hr q hq
      exact ⟨t, by rw [e]; rfl⟩
    have pm : (out.map fun u => (backV u, triAt s.heap u)).Perm L := by
      have := h2.perm.map fun u => (backV u, triAt s.heap u)
      rw [eL] at this
      exact this
    have m1 : (out.map fun u => (backV u, triAt s.heap u)).map (·.1) = out.map backV := by rw [List.map_map]; rfl
    have m2 : (out.map fun u => (backV u, triAt s.heap u)).map (·.2) = out.map (triAt s.heap) := by rw [List.map_map]; rfl
    have fin := q (out.map fun u => (backV u, triAt s.heap u)) d pm (by
      rw [m2]
      refine List.pairwise_map.mpr (h1.imp fun {x y} z => ?_)
      have z := lexB3_no.mp z
      unfold lt3 at z
      unfold le3
      omega) (I.hok.fresh hd)
    rw [m1] at fin
    refine ⟨.ref d, upd H d (.lst (out.map backV)), I.laid (t' := s.toks) kp hd ⟨?_, out, n, vals_back h3, hn⟩, rfl, fin⟩
    have := pm.length_eq
    rw [List.length_map] at this
    rw [List.length_map, this]
    rw [List.length_map] at hz
    exact hz
theorem zsort3 {K : PySem.W.Frag} {X : Cx} (hK : X.K = K := by rfl) : CallR X (.builtin "sorted") (rSort3 K) := by subst hK; exact zcr_sort3
def triD (p : T3) : D := .tuple [.int p.1, .int p.2.1, .int p.2.2]
def trisOf : List D → Option (List T3)
  | [] => some []
  | .tuple [.int i, .int j, .int k] :: ds => (match trisOf ds with
    | some ps => some ((i, j, k) :: ps)
    | none => none)
  | _ => none
theorem trisOf_map : ∀ ps : List T3, trisOf (ps.map triD) = some ps
  | [] => rfl
  | p :: ps => by
    show (match trisOf (ps.map triD) with
      | some ps => some ((p.1, p.2.1, p.2.2) :: ps)
      | none => none) = _
    rw [trisOf_map ps]
theorem trisOf_eq : ∀ {ds : List D} {ps : List T3}, trisOf ds = some ps → ds = ps.map triD := by
  intro ds
  induction ds with
  | nil => intro ps h; cases h; rfl
  | cons d ds ih =>
    intro ps h
    unfold trisOf at h
    split at h
    · next e => cases e
    · next i j k ds' e =>
      cases e
      split at h
      · next qs eq =>
        cases h
        rw [ih eq]
        rfl
      · cases h
    · cases h
def ins3 (p : T3) : List T3 → List T3
  | [] => [p]
  | q :: qs => if le3 p q then p :: q :: qs else q :: ins3 p qs
def tsort (ps : List T3) : List T3 := ps.foldr ins3 []
theorem ins3_perm (p : T3) : ∀ qs : List T3, (ins3 p qs).Perm (p :: qs)
  | [] => .refl _
  | q :: qs => by
    unfold ins3
    split
    · exact .refl _
    · exact ((ins3_perm p qs).cons q).trans (.swap p q qs)
theorem tsort_perm : ∀ ps : List T3, (tsort ps).Perm ps
  | [] => .refl _
  | p :: ps => (ins3_perm p (tsort ps)).trans ((tsort_perm ps).cons p)
theorem ins3_up (p : T3) : ∀ qs : List T3, qs.Pairwise le3 → (ins3 p qs).Pairwise le3
  | [], _ => by simp [ins3]
  | q :: qs, h => by
    unfold ins3
    rw [List.pairwise_cons] at h
    split
    · next hk =>
      rw [List.pairwise_cons, List.pairwise_cons]
      refine ⟨fun y hy => ?_, h⟩
      rcases List.mem_cons.mp hy with e | hy
      · subst e; exact hk
      · have this := h.1 y hy
        unfold le3 at this hk ⊢
        omega
    · next hk =>
      rw [List.pairwise_cons]
      refine ⟨fun y hy => ?_, ins3_up p qs h.2⟩
      rcases List.mem_cons.mp ((ins3_perm p qs).mem_iff.mp hy) with e | hy
      · subst e
        unfold le3 at hk ⊢
        omega
      · exact h.1 y hy
theorem tsort_up : ∀ ps : List T3, (tsort ps).Pairwise le3
  | [] => by simp [tsort]
  | p :: ps => ins3_up p _ (tsort_up ps)
theorem le3_one : ∀ {xs ys : List T3}, xs.Pairwise le3 → ys.Pairwise le3 → xs.Perm ys → xs = ys := fun h1 h2 p => p.eq_of_pairwise (fun a b _ _ q1 q2 => by
  unfold le3 at q1 q2
  exact Prod.ext (by omega) (Prod.ext (by omega) (by omega))) h1 h2
/-- what rises stays -/
theorem tsort_id {ps : List T3} (h : ps.Pairwise le3) : tsort ps = ps := le3_one (tsort_up ps) h (tsort_perm ps)
theorem dp_tris {K : PySem.W.Frag} {G : Hp} : ∀ {ps : List T3} {vs : List V}, DpAll K G vs (ps.map triD) → ∃ L : List (V × T3), L.map (·.1) = vs ∧ L.map (·.2) = ps ∧ ∀ q ∈ L, Dp K G q.1 (triD q.2)
  | [], _, h => by cases h; exact ⟨[], rfl, rfl, fun q hq => nomatch hq⟩
  | p :: ps, _, h => by
    cases h with
    | cons h1 h2 =>
      obtain ⟨L, e1, e2, e3⟩ := dp_tris h2
      refine ⟨(_, p) :: L, by rw [List.map_cons, e1], by rw [List.map_cons, e2], fun q hq => ?_⟩
      rcases List.mem_cons.mp hq with e | hq
      · subst e; exact h1
      · exact e3 q hq
theorem dp_tris' {K : PySem.W.Frag} {G : Hp} : ∀ (M : List (V × T3)), (∀ q ∈ M, Dp K G q.1 (triD q.2)) → DpAll K G (M.map (·.1)) ((M.map (·.2)).map triD)
  | [], _ => .nil
  | q :: M, h => .cons (h q List.mem_cons_self) (dp_tris' M fun z hz => h z (List.mem_cons_of_mem _ hz))
def cSort3 : List D → Option R
  | [.list xs] => (match trisOf xs with
    | some ps => some (.o ((tsort ps).map triD))
    | none => none)
  | _ => none
theorem cSort3_t (ps : List T3) : cSort3 [.list (ps.map triD)] = some (.o ((tsort ps).map triD)) := by
  show (match trisOf (ps.map triD) with
    | some ps => some (R.o ((tsort ps).map triD))
    | none => none) = _
  rw [trisOf_map]
theorem s_sort3 {K : PySem.W.Frag} : CallS K (rSort3 K) cSort3 := by
  intro G H xs ds z Q s h eg hq
  unfold cSort3 at eg
  split at eg
  · next es =>
    split at eg
    · next ps ep =>
      cases eg
      cases h with
      | cons h1 h2 =>
        cases h2
        obtain ⟨a, vs, rfl, w1, w2⟩ := h1.lst s
        rw [trisOf_eq ep] at w2
        obtain ⟨L, e1, e2, e3⟩ := dp_tris w2
        rw [← e1] at w1
        refine ⟨a, L, rfl, w1, fun q hq => ?_, fun M p pm up np => ?_⟩
        · obtain ⟨t, us, et, w3, w4⟩ := dp_tup (e3 q hq)
          cases w4 with
          | cons w5 w6 =>
            cases w6 with
            | cons w7 w8 =>
              cases w8 with
              | cons w9 w10 =>
                cases w10
                rw [dp_int w5, dp_int w7, dp_int w9] at w3
                exact ⟨t, et, sqT_same s w3⟩
        · have em : M.map (·.2) = tsort ps := le3_one up (tsort_up ps) (((pm.map (·.2)).trans (by rw [e2])).trans (tsort_perm ps).symm)
          refine hq _ G _ (Grow.fresh s np) ⟨p, _, rfl, np, upd_same, ?_, s.free np⟩
          rw [← em]
          exact dp_tris' M fun q hq => e3 q (pm.mem_iff.mp hq)
    · cases eg
  · cases eg
end Z
namespace K05
open PySem L2 Z
def m_hd : Nat → Option D := fun c => match c with
  | 2 => some (.str (PySem.Str.ofString "letters"))
  | 0 => some (.str (PySem.Str.ofString "machine"))
  | 7 => some (.str (PySem.Str.ofString "much"))
  | _ => none
def m__law_box_e1 : Z.Env → Z.Res Z.R := (mCB cAbs (mCons (mCB cInt (mCons (mVar 1) mNil)) mNil))
def m__law_box_s1 : Z.Env → Z.Out := (mRet 0 (mLst 0 (mCons (mC (.int 0)) (mCons (mC (.int 0)) (mCons (mC (.int 0)) (mCons (mLcH 0 0 (bName 1) mYes m__law_box_e1 [1]) mNil))))))
/-- _law_box: 0 script 1 x -/
def m__law_box : Z.Env → Z.Out := m__law_box_s1
def m__law_take_s1 : Z.Env → Z.Out := (mIfS (mTest (mBin gEq (mBin gIx (mVar 0) (mC (.int 1))) (mC (.int 0)))) (mSeq (mAsg 1 2 (mBin gIx (mVar 0) (mC (.int 2))))
  (mSeq (mAsg 1 3 (mC (.int 0)))
  (mSeq (mIfS (mTest (mBin gLt (mVar 2) (mCB cLen (mCons (mBin gIx (mVar 0) (mC (.int 3))) mNil)))) (mSeq (mAsg 1 3 (mBin gIx (mBin gIx (mVar 0) (mC (.int 3))) (mVar 2)))
  (mSetI 1 0 (mIf (mTest (mBin gGe (mVar 3) (mBin gPow (mC (.int 10)) (mC (.int 18))))) (mC (.int 60)) (mUn gNeg (mC (.int 9)))) (mC (.int 1)))) mNext)
  (mSeq (mSetI 1 0 (mBin gAdd (mVar 2) (mC (.int 1))) (mC (.int 2)))
  (mSeq (mSetI 1 0 (mVar 3) (mC (.int 0)))
  (mIfS (mTest (mBin gEq (mBin gIx (mVar 0) (mC (.int 1))) (mC (.int 0)))) (mRet 1 (mC (.int 0))) mNext)))))) mNext)
def m__law_take_s2 : Z.Env → Z.Out := (mIfS (mTest (mBin gGt (mBin gIx (mVar 0) (mC (.int 1))) (mC (.int 0)))) (mSeq (mAsg 1 4 (mBin gMod (mCB cInt (mCons (mBin gIx (mVar 0) (mC (.int 0))) mNil)) (mVar 1)))
  (mSeq (mSetI 1 0 (mBin gDiv (mBin gIx (mVar 0) (mC (.int 0))) (mVar 1)) (mC (.int 0)))
  (mSeq (mSetI 1 0 (mIf (mTest (mBin gGt (mBin gIx (mVar 0) (mC (.int 0))) (mC (.int 0)))) (mBin gSub (mBin gIx (mVar 0) (mC (.int 1))) (mC (.int 1))) (mC (.int 0))) (mC (.int 1)))
  (mRet 1 (mVar 4))))) mNext)
def m__law_take_s3 : Z.Env → Z.Out := (mSetI 1 0 (mBin gAdd (mBin gIx (mVar 0) (mC (.int 1))) (mC (.int 1))) (mC (.int 1)))
def m__law_take_s4 : Z.Env → Z.Out := (mSetI 1 0 (mBin gMod (mCB cInt (mCons (mBin gAdd (mBin gMul (mBin gIx (mVar 0) (mC (.int 0))) (mC (.int 48271))) (mBin gMul (mC (.int 69621)) (mBin gAdd (mBin gIx (mVar 0) (mC (.int 1))) (mC (.int 20))))) mNil)) (mC (.int 2147483647))) (mC (.int 0)))
def m__law_take_s5 : Z.Env → Z.Out := (mRet 1 (mBin gMod (mBin gMod (mCB cInt (mCons (mBin gAdd (mBin gDiv (mBin gIx (mVar 0) (mC (.int 0))) (mC (.int 7))) (mBin gIx (mVar 0) (mC (.int 0)))) mNil)) (mC (.int 1000003))) (mVar 1)))
/-- _law_take: 0 box 1 m 2 at 3 cell 4 told -/
def m__law_take : Z.Env → Z.Out := mSeq m__law_take_s1 (mSeq m__law_take_s2 (mSeq m__law_take_s3 (mSeq m__law_take_s4 (m__law_take_s5))))
def m__law_pick_s1 : Z.Env → Z.Out := (mRet 1 (mBin gIx (mVar 1) (mCallM 1 [true] 2 5 m__law_take (mCons (mVar 0) (mCons (mCB cLen (mCons (mVar 1) mNil)) mNil)))))
/-- _law_pick: 0 box 1 menu -/
def m__law_pick : Z.Env → Z.Out := m__law_pick_s1
def m__law_machine_b1 : Z.Env → Z.Out := (mSeq (mAsg 1 9 (mCallM 1 [true] 2 5 m__law_take (mCons (mVar 0) (mCons (mVar 3) mNil))))
  (mIfS (mTest (mBin (gAlt gNotIn gNotInT) (mTup 1 (mCons (mVar 7) (mCons (mVar 9) mNil))) (mVar 6))) (mMut 1 6 uAppend (mCons (mTup 1 (mCons (mVar 7) (mCons (mVar 9) mNil))) mNil)) mNext))
def m__law_machine_b2 : Z.Env → Z.Out := (mFor (mRng1 (mCons (mCallM 1 [true] 2 2 m__law_pick (mCons (mVar 0) (mCons (mLst 1 (mCons (mC (.int 0)) (mCons (mC (.int 1)) (mCons (mC (.int 1)) (mCons (mC (.int 1)) (mCons (mC (.int 2)) mNil)))))) mNil))) mNil)) (bName 8) m__law_machine_b1)
def m__law_machine_b3 : Z.Env → Z.Out := (mSeq (mAsg 1 6 (mLst 1 mNil))
  (mSeq (mFor (mRng1 (mCons (mVar 1) mNil)) (bName 7) m__law_machine_b2)
  (mMut 1 4 uAppend (mCons (mCB cTuple (mCons (mCB cSortA (mCons (mVar 6) mNil)) mNil)) mNil))))
def m__law_machine_s1 : Z.Env → Z.Out := (mAsg 1 3 (mBin gAdd (mC (.int 1)) (mCallM 1 [true] 2 5 m__law_take (mCons (mVar 0) (mCons (mVar 2) mNil)))))
def m__law_machine_s2 : Z.Env → Z.Out := (mAsg 1 4 (mLst 1 mNil))
def m__law_machine_s3 : Z.Env → Z.Out := (mFor (mRng1 (mCons (mVar 3) mNil)) (bName 5) m__law_machine_b3)
def m__law_machine_s4 : Z.Env → Z.Out := (mRet 1 (mTup 1 (mCons (mVar 1) (mCons (mCB cTuple (mCons (mVar 4) mNil)) mNil))))
/-- _law_machine: 0 box 1 n 2 most 3 size 4 rows 5 p 6 edges 7 a 8 k 9 to -/
def m__law_machine : Z.Env → Z.Out := mSeq m__law_machine_s1 (mSeq m__law_machine_s2 (mSeq m__law_machine_s3 (m__law_machine_s4)))
def m__law_due_b1 : Z.Env → Z.Out := (mIfS (mTest (mBin gEq (mVar 8) (mVar 10))) (mMut 0 7 uAppend (mCons (mTup 0 (mCons (mVar 8) (mCons (mVar 9) (mCons (mVar 11) mNil)))) mNil)) mNext)
def m__law_due_b2 : Z.Env → Z.Out := (mFor (mIter 0 (mBin gIx (mBin gIx (mVar 1) (mC (.int 1))) (mVar 6))) (bTup 2 (bCons (bName 10) (bCons (bName 11) bNil))) m__law_due_b1)
def m__law_due_b3 : Z.Env → Z.Out := (mIfS (mTest (mBin (gAlt gNotIn gNotInT) (mTup 0 (mCons (mVar 9) (mCons (mVar 11) mNil))) (mVar 2))) (mMut 0 2 uAppend (mCons (mTup 0 (mCons (mVar 9) (mCons (mVar 11) mNil))) mNil)) mNext)
def m__law_due_b4 : Z.Env → Z.Out := (mSeq (mIfS (mTest (mBin gGe (mVar 4) (mCB cLen (mCons (mVar 2) mNil)))) mBrk mNext)
  (mSeq (mAsgG 0 (bTup 2 (bCons (bName 5) (bCons (bName 6) bNil))) (mBin gIx (mVar 2) (mVar 4)))
  (mSeq (mAsg 0 7 (mLst 0 mNil))
  (mSeq (mFor (mIter 0 (mBin gIx (mBin gIx (mVar 0) (mC (.int 1))) (mVar 5))) (bTup 2 (bCons (bName 8) (bCons (bName 9) bNil))) m__law_due_b2)
  (mSeq (mFor (mIter 0 (mCB cSort3 (mCons (mVar 7) mNil))) (bTup 3 (bCons (bName 8) (bCons (bName 9) (bCons (bName 11) bNil)))) m__law_due_b3)
  (mMut 0 3 uAppend (mCons (mVar 7) mNil)))))))
def m__law_due_e1 : Z.Env → Z.Res Z.R := (mTup 0 (mCons (mVar 8) (mCons (mIdx 2 (mTup 0 (mCons (mVar 9) (mCons (mVar 11) mNil)))) mNil)))
def m__law_due_b5 : Z.Env → Z.Out := (mMut 0 12 uAppend (mCons (mCB cTuple (mCons (mCB cSortA (mCons (mLcH 0 7 (bTup 3 (bCons (bName 8) (bCons (bName 9) (bCons (bName 11) bNil)))) mYes m__law_due_e1 [8, 9, 11]) mNil)) mNil)) mNil))
def m__law_due_s1 : Z.Env → Z.Out := (mAsg 0 2 (mLst 0 (mCons (mTup 0 (mCons (mC (.int 0)) (mCons (mC (.int 0)) mNil))) mNil)))
def m__law_due_s2 : Z.Env → Z.Out := (mAsg 0 3 (mLst 0 mNil))
def m__law_due_s3 : Z.Env → Z.Out := (mFor (mRng1 (mCons (mBin gMul (mCB cLen (mCons (mBin gIx (mVar 0) (mC (.int 1))) mNil)) (mCB cLen (mCons (mBin gIx (mVar 1) (mC (.int 1))) mNil))) mNil)) (bName 4) m__law_due_b4)
def m__law_due_s4 : Z.Env → Z.Out := (mAsg 0 12 (mLst 0 mNil))
def m__law_due_s5 : Z.Env → Z.Out := (mFor (mIter 0 (mVar 3)) (bName 7) m__law_due_b5)
def m__law_due_s6 : Z.Env → Z.Out := (mRet 0 (mTup 0 (mCons (mVar 2) (mCons (mTup 0 (mCons (mBin gIx (mVar 0) (mC (.int 0))) (mCons (mCB cTuple (mCons (mVar 12) mNil)) mNil))) mNil))))
/-- _law_due: 0 one 1 two 2 found 3 rows 4 k 5 p 6 q 7 edges 8 a 9 x 10 b 11 y 12 told -/
def m__law_due : Z.Env → Z.Out := mSeq m__law_due_s1 (mSeq m__law_due_s2 (mSeq m__law_due_s3 (mSeq m__law_due_s4 (mSeq m__law_due_s5 (m__law_due_s6)))))
def m_is_number_s1 : Z.Env → Z.Out := (mRet 0 (mAndV (mIsi "int" (mVar 0)) (mNotV (mIsi "bool" (mVar 0)))))
/-- is_number: 0 thing -/
def m_is_number : Z.Env → Z.Out := m_is_number_s1
def m_is_below_s1 : Z.Env → Z.Out := (mRet 0 (mAndV (mCall0 false 0 1 1 m_is_number (mCons (mVar 0) mNil)) (mChain gLe gLt (mC (.int 0)) (mVar 0) (mVar 1))))
/-- is_below: 0 thing 1 many -/
def m_is_below : Z.Env → Z.Out := m_is_below_s1
def m_is_letter_count_s1 : Z.Env → Z.Out := (mRet 0 (mCall0 false 0 2 2 m_is_below (mCons (mVar 0) (mCons (mBin gAdd (mC (.int 5)) (mC (.int 1))) mNil))))
/-- is_letter_count: 0 thing -/
def m_is_letter_count : Z.Env → Z.Out := m_is_letter_count_s1
def m__is_edge_s1 : Z.Env → Z.Out := (mIfS (mOr (mNot (mTru (mIsi "tuple" (mVar 2)))) (mTest (mBin gNe (mCB cLen (mCons (mVar 2) mNil)) (mC (.int 2))))) (mRet 0 (mC (.bool false))) mNext)
def m__is_edge_s2 : Z.Env → Z.Out := (mRet 0 (mAndV (mCall0 false 0 2 2 m_is_below (mCons (mBin gIx (mVar 2) (mC (.int 0))) (mCons (mVar 0) mNil))) (mCall0 false 0 2 2 m_is_below (mCons (mBin gIx (mVar 2) (mC (.int 1))) (mCons (mVar 1) mNil)))))
/-- _is_edge: 0 n 1 many 2 edge -/
def m__is_edge : Z.Env → Z.Out := mSeq m__is_edge_s1 (m__is_edge_s2)
def m__is_row_b1 : Z.Env → Z.Out := (mIfS (mNot (mTru (mCall0 false 0 3 3 m__is_edge (mCons (mVar 0) (mCons (mVar 1) (mCons (mVar 3) mNil)))))) (mRet 0 (mC (.bool false))) mNext)
def m__is_row_e1 : Z.Env → Z.Res Z.R := (mBin (gAlt gLt gLtT) (mBin gIx (mVar 2) (mBin gSub (mVar 4) (mC (.int 1)))) (mBin gIx (mVar 2) (mVar 4)))
def m__is_row_s1 : Z.Env → Z.Out := (mFor (mIter 0 (mVar 2)) (bName 3) m__is_row_b1)
def m__is_row_s2 : Z.Env → Z.Out := (mRet 0 (mCB cAll (mCons (mLc 0 (mRng2 (mCons (mC (.int 1)) (mCons (mCB cLen (mCons (mVar 2) mNil)) mNil))) (bName 4) mYes m__is_row_e1 [4]) mNil)))
/-- _is_row: 0 n 1 many 2 row 3 edge 4 at -/
def m__is_row : Z.Env → Z.Out := mSeq m__is_row_s1 (m__is_row_s2)
def m__is_machine_e1 : Z.Env → Z.Res Z.R := (mIsi "tuple" (mVar 3))
def m__is_machine_e2 : Z.Env → Z.Res Z.R := (mCB cLen (mCons (mVar 3) mNil))
def m__is_machine_e3 : Z.Env → Z.Res Z.R := (mCall0 false 0 3 5 m__is_row (mCons (mVar 1) (mCons (mCB cLen (mCons (mVar 2) mNil)) (mCons (mVar 3) mNil))))
def m__is_machine_s1 : Z.Env → Z.Out := (mIfS (mOr (mNot (mTru (mIsi "tuple" (mVar 0)))) (mTest (mBin gNe (mCB cLen (mCons (mVar 0) mNil)) (mC (.int 2))))) (mRet 0 (mC (.bool false))) mNext)
def m__is_machine_s2 : Z.Env → Z.Out := (mAsgG 0 (bTup 2 (bCons (bName 1) (bCons (bName 2) bNil))) (mVar 0))
def m__is_machine_s3 : Z.Env → Z.Out := (mIfS (mOr (mNot (mTru (mCall0 false 0 1 1 m_is_letter_count (mCons (mVar 1) mNil)))) (mNot (mTru (mIsi "tuple" (mVar 2))))) (mRet 0 (mC (.bool false))) mNext)
def m__is_machine_s4 : Z.Env → Z.Out := (mIfS (mNot (mTest (mChain gLe gLe (mC (.int 1)) (mCB cLen (mCons (mVar 2) mNil)) (mC (.int 400))))) (mRet 0 (mC (.bool false))) mNext)
def m__is_machine_s5 : Z.Env → Z.Out := (mIfS (mNot (mTru (mCB cAll (mCons (mLcH 0 2 (bName 3) mYes m__is_machine_e1 [3]) mNil)))) (mRet 0 (mC (.bool false))) mNext)
def m__is_machine_s6 : Z.Env → Z.Out := (mIfS (mTest (mBin gGt (mCB cSum (mCons (mLcH 0 2 (bName 3) mYes m__is_machine_e2 [3]) mNil)) (mC (.int 6000)))) (mRet 0 (mC (.bool false))) mNext)
def m__is_machine_s7 : Z.Env → Z.Out := (mRet 0 (mCB cAll (mCons (mLc 0 (mIter 0 (mVar 2)) (bName 3) mYes m__is_machine_e3 [3]) mNil)))
/-- _is_machine: 0 m 1 n 2 rows 3 row -/
def m__is_machine : Z.Env → Z.Out := mSeq m__is_machine_s1 (mSeq m__is_machine_s2 (mSeq m__is_machine_s3 (mSeq m__is_machine_s4 (mSeq m__is_machine_s5 (mSeq m__is_machine_s6 (m__is_machine_s7))))))
def m_check_machine_s1 : Z.Env → Z.Out := (mIfS (mNot (mTru (mCall0 false 0 1 4 m__is_machine (mCons (mVar 0) mNil)))) (mRaise 0) mNext)
/-- check_machine: 0 m -/
def m_check_machine : Z.Env → Z.Out := m_check_machine_s1
def m_check_same_letters_s1 : Z.Env → Z.Out := (mIfS (mTest (mBin gNe (mBin gIx (mVar 0) (mC (.int 0))) (mBin gIx (mVar 1) (mC (.int 0))))) (mRaise 2) mNext)
/-- check_same_letters: 0 a 1 b -/
def m_check_same_letters : Z.Env → Z.Out := m_check_same_letters_s1
def m__check_both_s1 : Z.Env → Z.Out := (mDrop (mCall0 true 0 1 1 m_check_machine (mCons (mVar 0) mNil)))
def m__check_both_s2 : Z.Env → Z.Out := (mDrop (mCall0 true 0 1 1 m_check_machine (mCons (mVar 1) mNil)))
def m__check_both_s3 : Z.Env → Z.Out := (mDrop (mCall0 true 0 2 2 m_check_same_letters (mCons (mVar 0) (mCons (mVar 1) mNil))))
/-- _check_both: 0 a 1 b -/
def m__check_both : Z.Env → Z.Out := mSeq m__check_both_s1 (mSeq m__check_both_s2 (m__check_both_s3))
def m__edges_of_both_e1 : Z.Env → Z.Res Z.R := (mTup 0 (mCons (mVar 3) (mCons (mTup 0 (mCons (mVar 5) (mCons (mVar 6) mNil))) mNil)))
def m__edges_of_both_s1 : Z.Env → Z.Out := (mGrp 2 (rSeqD (dFor (mIter 0 (mVar 1)) (bTup 2 (bCons (bName 3) (bCons (bName 4) bNil))) (dApp 0 (mVar 3) (mVar 4))) (rGiveD 2 (mRet 0 (mLc2 0 (mIter 0 (mVar 0)) (bTup 2 (bCons (bName 3) (bCons (bName 5) bNil))) mYes (mIter 0 (mGetD 2 (mVar 3))) (bName 6) mYes m__edges_of_both_e1 [3, 5, 6] [6])))))
/-- _edges_of_both: 0 row 1 other 2 ends 3 letter 4 to 5 p 6 q -/
def m__edges_of_both : Z.Env → Z.Out := m__edges_of_both_s1
def m_pairs_of_b1 : Z.Env → Z.Out := (mIfS (mTest (mInM true (mVar 8) 3)) (mSeq (mPutM 0 3 (mC (.bool true)) (mVar 8))
  (mMut 0 2 uAppend (mCons (mVar 8) mNil))) mNext)
def m_pairs_of_t1 : Z.Env → Z.Res Bool := (mTest (mBin gLt (mVar 4) (mCB cLen (mCons (mVar 2) mNil))))
def m_pairs_of_b2 : Z.Env → Z.Out := (mSeq (mAsgG 0 (bTup 2 (bCons (bName 5) (bCons (bName 6) bNil))) (mBin gIx (mVar 2) (mVar 4)))
  (mSeq (mFor (mIter 0 (mCall0 false 0 2 7 m__edges_of_both (mCons (mBin gIx (mBin gIx (mVar 0) (mC (.int 1))) (mVar 5)) (mCons (mBin gIx (mBin gIx (mVar 1) (mC (.int 1))) (mVar 6)) mNil)))) (bTup 2 (bCons (bName 7) (bCons (bName 8) bNil))) m_pairs_of_b1)
  (mSeq (mIfS (mTest (mBin gGt (mCB cLen (mCons (mVar 2) mNil)) (mC (.int 400)))) (mRaise 7) mNext)
  (mAug 4 (gI cAny fun i j => .int (i + j)) (mC (.int 1))))))
def m_pairs_of_s1 : Z.Env → Z.Out := (mDrop (mCall0 true 0 2 2 m__check_both (mCons (mVar 0) (mCons (mVar 1) mNil))))
def m_pairs_of_s2 : Z.Env → Z.Out := (mAsg 0 2 (mLst 0 (mCons (mTup 0 (mCons (mC (.int 0)) (mCons (mC (.int 0)) mNil))) mNil)))
def m_pairs_of_s3 : Z.Env → Z.Out := (mDisp 0 true 3 (mTup 0 (mCons (mC (.int 0)) (mCons (mC (.int 0)) mNil))) (mC (.bool true)))
def m_pairs_of_s4 : Z.Env → Z.Out := (mAsg 0 4 (mC (.int 0)))
def m_pairs_of_s5 : Z.Env → Z.Out := (whileN m_pairs_of_t1 m_pairs_of_b2 fuel)
def m_pairs_of_s6 : Z.Env → Z.Out := (mRet 0 (mVar 2))
/-- pairs_of: 0 a 1 b 2 pairs 3 found 4 at 5 p 6 q 7 _ 8 pair -/
def m_pairs_of : Z.Env → Z.Out := mSeq m_pairs_of_s1 (mSeq m_pairs_of_s2 (mSeq m_pairs_of_s3 (mSeq m_pairs_of_s4 (mSeq m_pairs_of_s5 (m_pairs_of_s6)))))
def m_product_e1 : Z.Env → Z.Res Z.R := (mTup 0 (mCons (mVar 11) (mCons (mGetM 3 (mVar 5)) mNil)))
def m_product_b1 : Z.Env → Z.Out := (mSeq (mAsg 0 10 (mCall0 false 0 2 7 m__edges_of_both (mCons (mBin gIx (mBin gIx (mVar 0) (mC (.int 1))) (mVar 8)) (mCons (mBin gIx (mBin gIx (mVar 1) (mC (.int 1))) (mVar 9)) mNil))))
  (mSeq (mAug 7 (gI cAny fun i j => .int (i + j)) (mCB cLen (mCons (mVar 10) mNil)))
  (mSeq (mIfS (mTest (mBin gGt (mVar 7) (mC (.int 6000)))) (mRaise 7) mNext)
  (mMut 0 6 uAppend (mCons (mCB cTuple (mCons (mCB cSortA (mCons (mLcH 0 10 (bTup 2 (bCons (bName 11) (bCons (bName 5) bNil))) mYes m_product_e1 [11, 5]) mNil)) mNil)) mNil)))))
def m_product_s1 : Z.Env → Z.Out := (mAsg 0 2 (mCall0 true 0 2 9 m_pairs_of (mCons (mVar 0) (mCons (mVar 1) mNil))))
def m_product_s2 : Z.Env → Z.Out := (mDcM 0 true 3 (mEnum 0 (mCons (mVar 2) mNil)) (bTup 2 (bCons (bName 4) (bCons (bName 5) bNil))) mYes (mVar 5) (mVar 4) [4, 5])
def m_product_s3 : Z.Env → Z.Out := (mAsg 0 6 (mLst 0 mNil))
def m_product_s4 : Z.Env → Z.Out := (mAsg 0 7 (mC (.int 0)))
def m_product_s5 : Z.Env → Z.Out := (mFor (mIter 0 (mVar 2)) (bTup 2 (bCons (bName 8) (bCons (bName 9) bNil))) m_product_b1)
def m_product_s6 : Z.Env → Z.Out := (mRet 0 (mTup 0 (mCons (mBin gIx (mVar 0) (mC (.int 0))) (mCons (mCB cTuple (mCons (mVar 6) mNil)) mNil))))
/-- product: 0 a 1 b 2 pairs 3 number 4 at 5 pair 6 rows 7 many 8 p 9 q 10 both 11 letter -/
def m_product : Z.Env → Z.Out := mSeq m_product_s1 (mSeq m_product_s2 (mSeq m_product_s3 (mSeq m_product_s4 (mSeq m_product_s5 (m_product_s6)))))
def m__law_told_s1 : Z.Env → Z.Out := (mTry 3 (mRet 0 (mIf (mTest (mBin gEq (mVar 0) (mC (.int 0)))) (mCall0 true 0 2 12 m_product (mCons (mVar 1) (mCons (mVar 2) mNil))) (mCall0 true 0 2 9 m_pairs_of (mCons (mVar 1) (mCons (mVar 2) mNil))))) m_hd)
/-- _law_told: 0 way 1 one 2 two 3 e -/
def m__law_told : Z.Env → Z.Out := m__law_told_s1
def m__law_common_b1 : Z.Env → Z.Out := (mIfS (mTest (mBin gEq (mBin gMod (mCB cInt (mCons (mBin gMul (mVar 0) (mVar 2)) mNil)) (mVar 1)) (mC (.int 0)))) (mRet 0 (mBin gMul (mVar 0) (mVar 2))) mNext)
def m__law_common_s1 : Z.Env → Z.Out := (mFor (mRng2 (mCons (mC (.int 1)) (mCons (mBin gAdd (mVar 1) (mC (.int 1))) mNil))) (bName 2) m__law_common_b1)
def m__law_common_s2 : Z.Env → Z.Out := (mRet 0 (mBin gMul (mVar 0) (mVar 1)))
/-- _law_common: 0 a 1 b 2 k -/
def m__law_common : Z.Env → Z.Out := mSeq m__law_common_s1 (m__law_common_s2)
def m__law_ring_e1 : Z.Env → Z.Res Z.R := (mTup 0 (mCons (mTup 0 (mCons (mC (.int 0)) (mCons (mBin gMod (mCB cInt (mCons (mBin gAdd (mVar 1) (mC (.int 1))) mNil)) (mVar 0)) mNil))) mNil))
def m__law_ring_s1 : Z.Env → Z.Out := (mRet 0 (mTup 0 (mCons (mC (.int 1)) (mCons (mCB cTuple (mCons (mLc 0 (mRng1 (mCons (mVar 0) mNil)) (bName 1) mYes m__law_ring_e1 [1]) mNil)) mNil))))
/-- _law_ring: 0 size 1 k -/
def m__law_ring : Z.Env → Z.Out := m__law_ring_s1
def m_law_e1 : Z.Env → Z.Res Z.R := (mIsi "tuple" (mVar 8))
def m_law_e2 : Z.Env → Z.Res Z.R := (mTup 0 (mCons (mBin gMod (mCB cInt (mCons (mVar 12) mNil)) (mVar 9)) (mCons (mBin gMod (mCB cInt (mCons (mVar 12) mNil)) (mVar 10)) mNil)))
def m_law_e3 : Z.Env → Z.Res Z.R := (mTup 0 (mCons (mC (.int 0)) (mCons (mVar 17) mNil)))
def m_law_s1 : Z.Env → Z.Out := (mAsg 0 1 (mCall0 false 0 1 2 m__law_box (mCons (mVar 0) mNil)))
def m_law_s2 : Z.Env → Z.Out := (mAsg 0 2 (mCallM 0 [true] 2 5 m__law_take (mCons (mVar 1) (mCons (mC (.int 6)) mNil))))
def m_law_s3 : Z.Env → Z.Out := (mPar 0 3 4 (mCons (mCallM 0 [true] 3 10 m__law_machine (mCons (mVar 1) (mCons (mVar 2) (mCons (mC (.int 6)) mNil)))) (mCons (mCallM 0 [true] 3 10 m__law_machine (mCons (mVar 1) (mCons (mVar 2) (mCons (mC (.int 6)) mNil)))) mNil)))
def m_law_s4 : Z.Env → Z.Out := (mAsgG 0 (bTup 2 (bCons (bName 5) (bCons (bName 6) bNil))) (mCall0 false 0 2 13 m__law_due (mCons (mVar 3) (mCons (mVar 4) mNil))))
def m_law_s5 : Z.Env → Z.Out := (mAsg 0 7 (mCall0 false 0 3 4 m__law_told (mCons (mC (.int 1)) (mCons (mVar 3) (mCons (mVar 4) mNil)))))
def m_law_s6 : Z.Env → Z.Out := (mIfS (mOr (mNot (mTru (mIsi "list" (mVar 7)))) (mOr (mTest (mBin gNe (mVar 7) (mVar 5))) (mTest (mBin gNe (mCB cRepr (mCons (mCall0 false 0 3 4 m__law_told (mCons (mC (.int 0)) (mCons (mVar 3) (mCons (mVar 4) mNil)))) mNil)) (mCB cRepr (mCons (mVar 6) mNil)))))) (mRet 0 (mC (.bool false))) mNext)
def m_law_s7 : Z.Env → Z.Out := (mMut 0 7 uAppend (mCons (mTup 0 (mCons (mC (.int 0)) (mCons (mC (.int 0)) mNil))) mNil))
def m_law_s8 : Z.Env → Z.Out := (mIfS (mOr (mTest (mBin gNe (mCall0 false 0 2 9 m_pairs_of (mCons (mVar 3) (mCons (mVar 4) mNil))) (mVar 5))) (mTest (mBin gIn (mC (.bool false)) (mLc 0 (mIter 0 (mCall0 false 0 2 9 m_pairs_of (mCons (mVar 3) (mCons (mVar 4) mNil)))) (bName 8) mYes m_law_e1 [8])))) (mRet 0 (mC (.bool false))) mNext)
def m_law_s9 : Z.Env → Z.Out := (mAsgG 0 (bTup 2 (bCons (bName 9) (bCons (bName 10) bNil))) (mTup 0 (mCons (mBin gAdd (mC (.int 1)) (mCallM 0 [true] 2 5 m__law_take (mCons (mVar 1) (mCons (mC (.int 30)) mNil)))) (mCons (mBin gAdd (mC (.int 1)) (mCallM 0 [true] 2 5 m__law_take (mCons (mVar 1) (mCons (mC (.int 30)) mNil)))) mNil))))
def m_law_s10 : Z.Env → Z.Out := (mAsg 0 11 (mCall0 false 0 2 3 m__law_common (mCons (mVar 9) (mCons (mVar 10) mNil))))
def m_law_s11 : Z.Env → Z.Out := (mAsg 0 5 (mCall0 false 0 3 4 m__law_told (mCons (mC (.int 1)) (mCons (mCall0 false 0 1 2 m__law_ring (mCons (mVar 9) mNil)) (mCons (mCall0 false 0 1 2 m__law_ring (mCons (mVar 10) mNil)) mNil)))))
def m_law_s12 : Z.Env → Z.Out := (mIfS (mAnd (mTest (mBin gGt (mVar 11) (mC (.int 400)))) (mOr (mTest (mBin gNe (mVar 5) (mC (.str (PySem.Str.ofString "much"))))) (mTest (mBin gNe (mCall0 false 0 3 4 m__law_told (mCons (mC (.int 0)) (mCons (mCall0 false 0 1 2 m__law_ring (mCons (mVar 9) mNil)) (mCons (mCall0 false 0 1 2 m__law_ring (mCons (mVar 10) mNil)) mNil)))) (mC (.str (PySem.Str.ofString "much"))))))) (mRet 0 (mC (.bool false))) mNext)
def m_law_s13 : Z.Env → Z.Out := (mIfS (mAnd (mTest (mBin gLe (mVar 11) (mC (.int 400)))) (mTest (mBin gNe (mVar 5) (mLc 0 (mRng1 (mCons (mVar 11) mNil)) (bName 12) mYes m_law_e2 [12])))) (mRet 0 (mC (.bool false))) mNext)
def m_law_s14 : Z.Env → Z.Out := (mAsg 0 13 (mBin gAdd (mC (.int 100)) (mBin gMul (mC (.int 2)) (mCallM 0 [true] 2 5 m__law_take (mCons (mVar 1) (mCons (mC (.int 151)) mNil))))))
def m_law_s15 : Z.Env → Z.Out := (mAsg 0 14 (mCall0 false 0 1 2 m__law_ring (mCons (mVar 13) mNil)))
def m_law_s16 : Z.Env → Z.Out := (mIfS (mOr (mTest (mBin gNe (mCall0 false 0 3 4 m__law_told (mCons (mC (.int 0)) (mCons (mVar 14) (mCons (mCallM 0 [true] 2 2 m__law_pick (mCons (mVar 1) (mCons (mLst 0 (mCons (mVar 14) (mCons (mCall0 false 0 1 2 m__law_ring (mCons (mBin gDiv (mVar 13) (mC (.int 2))) mNil)) mNil))) mNil))) mNil)))) (mVar 14))) (mTest (mBin gNe (mCB cLen (mCons (mCall0 false 0 2 9 m_pairs_of (mCons (mVar 14) (mCons (mVar 14) mNil))) mNil)) (mVar 13)))) (mRet 0 (mC (.bool false))) mNext)
def m_law_s17 : Z.Env → Z.Out := (mAsg 0 15 (mCallM 0 [true] 2 2 m__law_pick (mCons (mVar 1) (mCons (mLst 0 (mCons (mC (.int 2)) (mCons (mC (.int 3)) (mCons (mC (.int 8)) (mCons (mC (.int 9)) mNil))))) mNil))))
def m_law_s18 : Z.Env → Z.Out := (mAsg 0 16 (mTup 0 (mCons (mC (.int 1)) (mCons (mBin gRepA (mTup 0 (mCons (mCB cTuple (mCons (mLc 0 (mRng1 (mCons (mVar 15) mNil)) (bName 17) mYes m_law_e3 [17]) mNil)) mNil)) (mVar 15)) mNil))))
def m_law_s19 : Z.Env → Z.Out := (mAsg 0 7 (mCall0 false 0 3 4 m__law_told (mCons (mC (.int 0)) (mCons (mVar 16) (mCons (mVar 16) mNil)))))
def m_law_s20 : Z.Env → Z.Out := (mIfS (mTest (mBin gEq (mVar 15) (mC (.int 9)))) (mRet 0 (mAndV (mBin gEq (mVar 7) (mC (.str (PySem.Str.ofString "much")))) (mBin gEq (mCB cLen (mCons (mCall0 false 0 2 9 m_pairs_of (mCons (mVar 16) (mCons (mVar 16) mNil))) mNil)) (mC (.int 81))))) mNext)
def m_law_s21 : Z.Env → Z.Out := (mIfS (mTest (mBin gEq (mVar 15) (mC (.int 8)))) (mRet 0 (mAndV (mIsi "tuple" (mVar 7)) (mAndV (mBin gEq (mCB cLen (mCons (mBin gIx (mVar 7) (mC (.int 1))) mNil)) (mC (.int 64))) (mBin gEq (mCB cLen (mCons (mBin gIx (mBin gIx (mVar 7) (mC (.int 1))) (mC (.int 63))) mNil)) (mC (.int 64)))))) mNext)
def m_law_s22 : Z.Env → Z.Out := (mRet 0 (mBin gEq (mCB cRepr (mCons (mVar 7) mNil)) (mCB cRepr (mCons (mBin gIx (mCall0 false 0 2 13 m__law_due (mCons (mVar 16) (mCons (mVar 16) mNil))) (mC (.int 1))) mNil))))
/-- law: 0 script 1 box 2 n 3 one 4 two 5 pairs 6 due 7 told 8 pair 9 a 10 b 11 many 12 k 13 large 14 ring 15 size 16 full 17 to -/
def m_law : Z.Env → Z.Out := mSeq m_law_s1 (mSeq m_law_s2 (mSeq m_law_s3 (mSeq m_law_s4 (mSeq m_law_s5 (mSeq m_law_s6 (mSeq m_law_s7 (mSeq m_law_s8 (mSeq m_law_s9 (mSeq m_law_s10 (mSeq m_law_s11 (mSeq m_law_s12 (mSeq m_law_s13 (mSeq m_law_s14 (mSeq m_law_s15 (mSeq m_law_s16 (mSeq m_law_s17 (mSeq m_law_s18 (mSeq m_law_s19 (mSeq m_law_s20 (mSeq m_law_s21 (m_law_s22)))))))))))))))))))))


end K05
local macro_rules | `(tactic| walk_at "ev") => `(tactic| simp only [Z.mSeq_k, Z.seqK_nx, Z.seqK_rt, Z.seqK_bk, Z.seqK_ct, Z.seqK_exc, Z.mIfS_k, Z.ifK_t, Z.ifK_f, Z.ifK_exc, Z.mRet_k, Z.retK_d, Z.retK_o, Z.retK_b, Z.retK_exc, Z.mAsg_k, Z.asgK_d, Z.asgK_o, Z.asgK_b, Z.asgK_exc, Z.mDrop_k, Z.dropK_ok, Z.dropK_exc, Z.mAsgG_k, Z.asgGK_ok, Z.asgGK_exc, Z.mMut_k, Z.mutK_ok,
  Z.mTest_k, Z.mTru_k, Z.mNot_k, Z.mAnd_k, Z.mOr_k, Z.mNotV_k, Z.mAndV_k, Z.mOrV_k, Z.mIf_k, Z.mNil_k, Z.mCons_k, Z.mTup_k, Z.mLst_k, Z.mCB_k, Z.mBin_k, Z.mUn_k, Z.mIsi_k, Z.mChain_k, Z.mTry_k, Z.tryK_exc, Z.tryK_rt, Z.mSl_k, Z.mPart_k, Z.mNoPart,
  Z.mVar, Z.mC, Z.mSetI, Z.mNext, Z.mAug, Z.mYes, Z.bTup, Z.bCons, Z.bNil, Z.mRaise, Z.mBrk, Z.mCt,
  Z.bind_ok, Z.bind_exc, Z.bind_no, Z.opd, Z.cont, Z.opds, Z.dopd, Z.dopds, Z.frz1, Z.frzA, Z.tru, Z.cLen, Z.cAbs, Z.cInt, Z.cMax2, Z.cMin2, Z.cList, Z.uAppend, Z.bName, Z.cTuple,
  List.getElem?_cons_zero, List.getElem?_cons_succ, List.set_cons_zero, List.set_cons_succ, List.length_cons, List.length_nil, List.map_cons, List.map_nil, List.cons_append, List.nil_append,
  Z.gEq_int, Z.gNe_int, Z.gAdd_int, Z.gSub_int, Z.gLt_int, Z.gLe_int, Z.gGt_int, Z.gGe_int, Z.gNeg_int, Z.gMod_int, Z.gDiv_int, Z.gMul_r, Z.gMul_l, Z.gPow_18, Z.gIx_l, Z.gIx_t, Z.atI_lit, Z.ixN_lit, Nat.reduceAdd, Nat.reduceLT, Nat.reduceLeDiff, Int.reduceLT, Int.reduceNeg, Int.reduceLE, Int.reduceAdd, Int.reduceEq, Int.reduceToNat, List.length_map, Z.wipeE, Z.back, Z.tyN, Z.kit_ll, Z.kit_ii, Z.kit_ib, Z.gI_any, Z.gEq_ints, Z.gNe_ints, Z.gIn_ints,
  Z.mCall0_k, Z.callK_eq, Z.callR_nx, Z.callR_exc, Z.callR_o, Z.callR_d, Z.flat_n, Z.flat_b, Z.flat_i, Z.flat_s, Z.flat_t, Z.flat_l, Z.mCallM_k, Z.lentK_eq, Z.frzM, Z.lendS, Z.lentR_d, Z.lentR_o, Z.lentR_n, Z.takeB, Z.ndJ, Z.hasJ, Z.S.own, and_true, true_and, Z.mRng1_k, Z.rngK_nat, Z.rngK_lit, Z.mIter_k, Z.iterK_t, Z.iterK_l, Z.iterK_o, Z.mFor_k, Z.forK_ok, Z.mRng2_k, Z.rng2K_1, Z.gAltLt_int, Z.gAltLt_pair, Z.gAltIn_l, Z.gAltIn_t, Z.gAltNotIn_l, Z.gAltNotIn_t, Z.gIsN, Z.gNotN, Z.isNone, Z.cutD_take, Z.cutD_drop, Z.gCatT_t, Z.gCatL_l, Z.gCatL_t, Z.gCatT_l, Z.gAltCat_t, Z.gAltCat_l, Z.mRgE_k, Z.rgEK_t, Z.rgEK_f, Z.gRepA_1, Z.gRepA_lit, Z.natsD_len, Z.mLc2_k, Z.mLc_k, Z.lcK_eq, Z.mLcH_eq, Z.mInM_k, Z.inMK_eq, Z.mGetM_k, Z.getMK_eq, Z.mPutM_k, Z.putK1_ok, Z.putK2_ok, Z.mNewM_k, Z.mListM_k, Option.isSome_none, Option.isSome_some, Bool.true_xor, Bool.false_xor,
  Z.mEnum_k, Z.mPop_k, Z.mRev_k, Z.revK_o, Z.revK_d, Z.mDisp_k, Z.dispK1_ok, Z.dispK_ok, Z.mDc_k, Z.dcK_ok, Z.mSortM_k, Z.mPar_k, Z.parK_ok, Z.uExtend_l, Z.keyOk_int, Z.keyOk_pair, Z.gAnd_int, Z.at_uD, Z.at_pD, Z.cast_lit, and_self, if_true, if_false, Bool.false_eq_true, reduceIte, ite_self, decide_true, decide_false, decide_eq_true_eq, not_true_eq_false, not_false_eq_true, Bool.not_true, Bool.not_false, Bool.true_and, Bool.false_and, *])
local macro_rules | `(tactic| walk_at "st") => `(tactic| simp only [Z.env0, List.length_cons, List.length_nil, List.map_cons, List.map_nil, List.cons_append, List.nil_append, Nat.reduceAdd, Nat.reduceSub, List.replicate, Nat.sub_self, List.append_nil])

namespace K05
open PySem L2 Z
def isT : Z.D → Bool
  | .tuple _ => true
  | _ => false
theorem kit_t (d : Z.D) : kitB (tyN d) "tuple" = some (isT d) := by
  cases d
  case none => exact (by decide +kernel : kitB "NoneType" "tuple" = some false)
  case bool => exact (by decide +kernel : kitB "bool" "tuple" = some false)
  case int => exact (by decide +kernel : kitB "int" "tuple" = some false)
  case str => exact (by decide +kernel : kitB "str" "tuple" = some false)
  case list => exact (by decide +kernel : kitB "list" "tuple" = some false)
  case tuple => exact (by decide +kernel : kitB "tuple" "tuple" = some true)
  case dict => exact (by decide +kernel : kitB "dict" "tuple" = some false)
theorem kit_tt : kitB "tuple" "tuple" = some true := by decide +kernel
theorem kit_td : kitB "dict" "tuple" = some false := by decide +kernel
/-- no dict -/
def noM : Z.D → Bool
  | .dict _ => false
  | _ => true
/-! ### numbers -/
def isI : Z.D → Bool
  | .int _ => true
  | _ => false
theorem isnum (d : Z.D) (hd : noM d = true) : m_is_number (env0 1 [.d d]) = .rt (.d (.bool (isI d))) [some (.d d)] := by
  cases d with
  | dict x => cases hd
  | none => rfl
  | bool b => rfl
  | int i => rfl
  | str s => rfl
  | list l => rfl
  | tuple l => rfl
def inR (i k : Int) : Bool := decide (0 ≤ i) && decide (i < k)
def below (d : Z.D) (k : Int) : Bool := match d with
  | .int i => inR i k
  | _ => false
theorem below_ok (d : Z.D) (k : Int) (hd : noM d = true) : m_is_below (env0 2 [.d d, .d (.int k)]) = .rt (.d (.bool (below d k))) [some (.d d), some (.d (.int k))] := by
  have e := isnum d hd
  unfold m_is_below m_is_below_s1
  walk_at "st"
  cases d with
  | int i =>
    simp only [isI] at e
    simp only [below, inR]
    by_cases h : 0 ≤ i
    · walk_at "ev"
    · walk_at "ev"
  | _ => simp only [isI] at e; walk_at "ev"; rfl
theorem lcount_ok (d : Z.D) (hd : noM d = true) : m_is_letter_count (env0 1 [.d d]) = .rt (.d (.bool (below d 6))) [some (.d d)] := by
  have e := below_ok d 6 hd
  unfold m_is_letter_count m_is_letter_count_s1
  walk_at "st"
  walk_at "ev"
/-- no dict in the sequence, not too long -/
def okD : Z.D → Bool
  | .tuple ds => ds.all noM && decide (ds.length < 1000000)
  | .dict _ => false
  | _ => true
theorem okD_noM {d : Z.D} (h : okD d = true) : noM d = true := by cases d <;> first | rfl | cases h
def toI : Z.D → Int
  | .int i => i
  | _ => 0
theorem below_I {d : Z.D} {k : Int} (h : below d k = true) : d = .int (toI d) ∧ 0 ≤ toI d ∧ toI d < k := by
  cases d with
  | int i =>
    simp only [below, inR, Bool.and_eq_true, decide_eq_true_eq] at h
    exact ⟨rfl, h⟩
  | _ => cases h
def okN : Nat → Z.D → Bool
  | _, .dict _ => false
  | k + 1, .tuple ds => ds.all (okN k) && decide (ds.length < 1000000)
  | _, _ => true
theorem okN_noM {k : Nat} {d : Z.D} (h : okN k d = true) : noM d = true := by
  cases d <;> first | rfl | (cases k <;> cases h)
theorem okN_1 {d : Z.D} (h : okN 1 d = true) : okD d = true := by
  cases d with
  | tuple ds =>
    simp only [okN, Bool.and_eq_true] at h
    simp only [okD, Bool.and_eq_true]
    refine ⟨?_, h.2⟩
    have h1 := h.1
    rw [List.all_eq_true] at h1 ⊢
    exact fun x hx => okN_noM (h1 x hx)
  | dict _ => cases h
  | _ => rfl
def tupL : Z.D → List Z.D
  | .tuple ds => ds
  | _ => []
theorem okN_down {k : Nat} : ∀ {d : Z.D}, okN (k + 1) d = true → okN k d = true := by
  induction k with
  | zero =>
    intro d h
    cases d with
    | tuple ds => rfl
    | dict _ => cases h
    | _ => rfl
  | succ k ih =>
    intro d h
    cases d with
    | tuple ds =>
      simp only [okN, Bool.and_eq_true] at h ⊢
      refine ⟨?_, h.2⟩
      have h1 := h.1
      rw [List.all_eq_true] at h1 ⊢
      exact fun x hx => ih (h1 x hx)
    | dict _ => cases h
    | _ => rfl
theorem okN_mono {j k : Nat} (hjk : j ≤ k) {d : Z.D} (h : okN k d = true) : okN j d = true := by
  induction hjk with
  | refl => exact h
  | step _ ih => exact ih (okN_down h)
theorem okN_mem {k : Nat} {ds : List Z.D} (h : okN (k + 1) (.tuple ds) = true) : ∀ d ∈ ds, okN k d = true := by
  simp only [okN, Bool.and_eq_true] at h
  exact List.all_eq_true.mp h.1
theorem map_all {α : Type} {p : Z.D → Bool} {f : α → Z.D} {xs : List α} (h : ∀ x ∈ xs, p (f x) = true) : (xs.map f).all p = true := by
  rw [List.all_map, List.all_eq_true]
  exact fun x hx => h x hx
theorem toI_map (xs : List Int) : (xs.map PyData.int).map toI = xs := by
  rw [List.map_map]
  exact List.map_id' xs
theorem okN_int (k : Nat) (i : Int) : okN k (.int i) = true := by cases k <;> rfl
theorem okN_ints (k : Nat) (xs : List Int) (h : xs.length < 1000000) : okN k (.tuple (xs.map .int)) = true := by
  cases k with
  | zero => rfl
  | succ k =>
    simp only [okN, Bool.and_eq_true, List.length_map, decide_eq_true_eq]
    exact ⟨map_all fun x _ => okN_int k x, h⟩
theorem okN_tup {k : Nat} {ds : List Z.D} (h : ∀ d ∈ ds, okN k d = true) (hl : ds.length < 1000000) : okN (k + 1) (.tuple ds) = true := by
  simp only [okN, Bool.and_eq_true, decide_eq_true_eq]
  exact ⟨List.all_eq_true.mpr h, hl⟩
end K05
namespace K05
open PySem L2 Z
/-! ### machines -/
def edgeB (n many : Int) : Z.D → Bool
  | .tuple [a, b] => below a n && below b many
  | _ => false
theorem below_no (d : Z.D) (k : Int) : ∀ a, below d k = a → a = true → d = .int (toI d) := fun a h1 h2 => (below_I (h1.trans h2)).1
theorem isedge_ok (n many : Int) (w : Z.D) (hw : okN 1 w = true) : ∃ r, m__is_edge (env0 3 [.d (.int n), .d (.int many), .d w]) = .rt (.d (.bool (edgeB n many w))) r := by
  have k := kit_t w
  unfold m__is_edge m__is_edge_s1 m__is_edge_s2
  walk_at "st"
  cases w with
  | dict _ => cases hw
  | none => simp only [isT, tyN] at k; walk_at "ev"; exact ⟨_, rfl⟩
  | bool _ => simp only [isT, tyN] at k; walk_at "ev"; exact ⟨_, rfl⟩
  | int _ => simp only [isT, tyN] at k; walk_at "ev"; exact ⟨_, rfl⟩
  | str _ => simp only [isT, tyN] at k; walk_at "ev"; exact ⟨_, rfl⟩
  | list _ => simp only [isT, tyN] at k; walk_at "ev"; exact ⟨_, rfl⟩
  | tuple ds =>
    simp only [isT, tyN] at k
    by_cases hl : (ds.length : Int) = 2
    · obtain ⟨a, b, rfl⟩ : ∃ a h, ds = [a, h] := by
        match ds, hl with
        | [a, h], _ => exact ⟨a, h, rfl⟩
        | [], hl => simp at hl
        | [_], hl => simp at hl
        | _ :: _ :: _ :: _, hl => simp at hl; omega
      have e1 := below_ok a n (okN_noM (okN_mem hw a (by simp)))
      have e2 := below_ok b many (okN_noM (okN_mem hw b (by simp)))
      clear hl hw
      simp only [edgeB]
      cases ca : below a n with
      | false =>
        rw [ca] at e1
        walk_at "ev"
        exact ⟨_, rfl⟩
      | true =>
        rw [ca] at e1
        walk_at "ev"
        exact ⟨_, rfl⟩
    · have : edgeB n many (.tuple ds) = false := by
        unfold edgeB
        split
        · next n ss h =>
          cases h
          exact absurd rfl hl
        · rfl
      rw [this]
      clear hw
      walk_at "ev"
      exact ⟨_, rfl⟩
/-- a valid edge as a pair -/
def toP : Z.D → Int × Int
  | .tuple [a, b] => (toI a, toI b)
  | _ => (0, 0)
theorem edge_P {n many : Int} {d : Z.D} (h : edgeB n many d = true) : d = .tuple [.int (toP d).1, .int (toP d).2] ∧ inR (toP d).1 n = true ∧ inR (toP d).2 many = true := by
  unfold edgeB at h
  split at h
  · next a b =>
    rw [Bool.and_eq_true] at h
    obtain ⟨h1, h2⟩ := h
    have e1 := below_I h1
    have e2 := below_I h2
    refine ⟨?_, ?_, ?_⟩
    · simp only [toP]
      rw [← e1.1, ← e2.1]
    · simp only [toP, inR, Bool.and_eq_true]; exact ⟨decide_eq_true e1.2.1, decide_eq_true e1.2.2⟩
    · simp only [toP, inR, Bool.and_eq_true]; exact ⟨decide_eq_true e2.2.1, decide_eq_true e2.2.2⟩
  · cases h
def lexB (a b : Int × Int) : Bool := HT.lexLt [a.1, a.2] [b.1, b.2]
def risP (ps : List (Int × Int)) : Bool := (List.range (ps.length - 1)).all fun k => lexB (ps.getD k (0, 0)) (ps.getD (k + 1) (0, 0))
def rowB (n many : Int) : Z.D → Bool
  | .tuple es => es.all (edgeB n many) && risP (es.map toP)
  | _ => false
theorem row_loop (n many : Int) (x2 x4 : Option Z.S) : ∀ (es : List Z.D) (x3 : Option Z.S), (∀ e ∈ es, okN 1 e = true) →
    (es.all (edgeB n many) = true ∧ ∃ y3, forL (bName 3) m__is_row_b1 es [some (.d (.int n)), some (.d (.int many)), x2, x3, x4] = .nx [some (.d (.int n)), some (.d (.int many)), x2, y3, x4]) ∨
    (es.all (edgeB n many) = false ∧ ∃ r, forL (bName 3) m__is_row_b1 es [some (.d (.int n)), some (.d (.int many)), x2, x3, x4] = .rt (.d (.bool false)) r)
  | [], x3, _ => .inl ⟨rfl, x3, rfl⟩
  | e :: es, x3, h => by
    obtain ⟨r, e1⟩ := isedge_ok n many e (h e List.mem_cons_self)
    rw [List.all_cons]
    cases hb : edgeB n many e with
    | false =>
      rw [hb] at e1
      right
      have st : ∃ r, m__is_row_b1 [some (.d (.int n)), some (.d (.int many)), x2, some (.d e), x4] = .rt (.d (.bool false)) r := by
        unfold m__is_row_b1
        clear h hb
        walk_at "ev"
        exact ⟨_, rfl⟩
      obtain ⟨r, st⟩ := st
      refine ⟨by rw [Bool.false_and], ?_⟩
      simp only [forL, bName, List.set_cons_succ, List.set_cons_zero, st]
      exact ⟨_, rfl⟩
    | true =>
      rw [hb] at e1
      have st : m__is_row_b1 [some (.d (.int n)), some (.d (.int many)), x2, some (.d e), x4] = .nx [some (.d (.int n)), some (.d (.int many)), x2, some (.d e), x4] := by
        unfold m__is_row_b1
        clear h hb
        walk_at "ev"
      have ih := row_loop n many x2 x4 es (some (.d e)) fun x hx => h x (List.mem_cons_of_mem _ hx)
      simp only [forL, bName, List.set_cons_succ, List.set_cons_zero, st, Bool.true_and] at ih ⊢
      exact ih
theorem isrow_ok (n many : Int) (es : List Z.D) (hw : okN 2 (.tuple es) = true) : ∃ r, m__is_row (env0 5 [.d (.int n), .d (.int many), .d (.tuple es)]) = .rt (.d (.bool (rowB n many (.tuple es)))) r := by
  have hl : es.length < 1000000 := by
    simp only [okN, Bool.and_eq_true, decide_eq_true_eq] at hw
    exact hw.2
  unfold m__is_row m__is_row_s1 m__is_row_s2
  walk_at "st"
  simp only [rowB]
  rcases row_loop n many (some (.d (.tuple es))) none es none (okN_mem hw) with ⟨ha, y3, e⟩ | ⟨ha, r, e⟩
  · have hi : ∀ (j : Nat) (hj : j < es.length), es[j]? = some (.tuple [.int ((es.map toP).getD j (0, 0)).1, .int ((es.map toP).getD j (0, 0)).2]) := fun j hj => by
      have h1 := List.all_eq_true.mp ha _ (List.getElem_mem hj)
      rw [List.getElem?_eq_getElem hj, List.getD_eq_getElem?_getD, List.getElem?_map, List.getElem?_eq_getElem hj]
      exact congrArg some (edge_P h1).1
    have lc := lcL_from1 (P := 0) 4 (me := m__is_row_e1) (ρ := [some (.d (.int n)), some (.d (.int many)), some (.d (.tuple es)), y3, none]) es.length (fun k => .bool (lexB ((es.map toP).getD k (0, 0)) ((es.map toP).getD (k + 1) (0, 0)))) rfl (fun k hk => by
      have i1 : atI es (1 + (k : Int) - 1) = some (.tuple [.int ((es.map toP).getD k (0, 0)).1, .int ((es.map toP).getD k (0, 0)).2]) := by
        rw [atI_nn _ _ (by omega), show (1 + (k : Int) - 1).toNat = k by omega, hi k (by omega)]
      have i2 : atI es (1 + (k : Int)) = some (.tuple [.int ((es.map toP).getD (k + 1) (0, 0)).1, .int ((es.map toP).getD (k + 1) (0, 0)).2]) := by
        rw [atI_nn _ _ (by omega), show (1 + (k : Int)).toNat = k + 1 by omega, hi (k + 1) hk]
      unfold m__is_row_e1 lexB
      clear hw ha
      walk_at "ev") (Nat.le_of_lt hl)
    have cb := cAll_g (List.range (es.length - 1)) fun k => lexB ((es.map toP).getD k (0, 0)) ((es.map toP).getD (k + 1) (0, 0))
    have eu : risP (es.map toP) = (List.range (es.length - 1)).all fun k => lexB ((es.map toP).getD k (0, 0)) ((es.map toP).getD (k + 1) (0, 0)) := by
      unfold risP
      rw [List.length_map]
    rw [ha, Bool.true_and]
    clear hw ha hi
    walk_at "ev"
    exact ⟨_, rfl⟩
  · rw [ha, Bool.false_and]
    clear hw
    walk_at "ev"
    exact ⟨_, rfl⟩
def lenT : Z.D → Int
  | .tuple es => es.length
  | _ => 0
def machB : Z.D → Bool
  | .tuple [n, .tuple rs] => below n 6 && (decide (1 ≤ rs.length) && decide (rs.length ≤ 400)) && (rs.all isT && (decide ((rs.map lenT).sum ≤ 6000) && rs.all (rowB (toI n) rs.length)))
  | _ => false
theorem ismach_ok (d : Z.D) (hd : okN 4 d = true) : ∃ r, m__is_machine (env0 4 [.d d]) = .rt (.d (.bool (machB d))) r := by
  have k := kit_t d
  unfold m__is_machine m__is_machine_s1
  walk_at "st"
  cases d with
  | dict _ => cases hd
  | none => simp only [isT, tyN] at k; walk_at "ev"; exact ⟨_, rfl⟩
  | bool _ => simp only [isT, tyN] at k; walk_at "ev"; exact ⟨_, rfl⟩
  | int _ => simp only [isT, tyN] at k; walk_at "ev"; exact ⟨_, rfl⟩
  | str _ => simp only [isT, tyN] at k; walk_at "ev"; exact ⟨_, rfl⟩
  | list _ => simp only [isT, tyN] at k; walk_at "ev"; exact ⟨_, rfl⟩
  | tuple ds =>
    simp only [isT, tyN] at k
    by_cases hl : (ds.length : Int) = 2
    · obtain ⟨n, s, rfl⟩ : ∃ a h, ds = [a, h] := by
        match ds, hl with
        | [a, h], _ => exact ⟨a, h, rfl⟩
        | [], hl => simp at hl
        | [_], hl => simp at hl
        | _ :: _ :: _ :: _, hl => simp at hl; omega
      have hn := okN_noM (okN_mem hd n (by simp))
      have hs := okN_mem hd s (by simp)
      have e1 := lcount_ok n hn
      have k2 := kit_t s
      clear hl
      unfold m__is_machine_s2 m__is_machine_s3 m__is_machine_s4 m__is_machine_s5 m__is_machine_s6 m__is_machine_s7
      cases ca : below n 6 with
      | false =>
        rw [ca] at e1
        have : machB (.tuple [n, s]) = false := by
          unfold machB
          split
          · next ss h => cases h; rw [ca]; rfl
          · rfl
        rw [this]
        clear hd hs
        walk_at "ev"
        exact ⟨_, rfl⟩
      | true =>
        rw [ca] at e1
        cases s with
        | dict _ => cases hs
        | none => simp only [isT, tyN] at k2; clear hd hs; walk_at "ev"; exact ⟨_, rfl⟩
        | bool _ => simp only [isT, tyN] at k2; clear hd hs; walk_at "ev"; exact ⟨_, rfl⟩
        | int _ => simp only [isT, tyN] at k2; clear hd hs; walk_at "ev"; exact ⟨_, rfl⟩
        | str _ => simp only [isT, tyN] at k2; clear hd hs; walk_at "ev"; exact ⟨_, rfl⟩
        | list _ => simp only [isT, tyN] at k2; clear hd hs; walk_at "ev"; exact ⟨_, rfl⟩
        | tuple rs =>
          simp only [isT, tyN] at k2
          obtain ⟨en, n0, n6⟩ := below_I ca
          obtain ⟨N, eN⟩ : ∃ N : Int, toI n = N := ⟨_, rfl⟩
          rw [eN] at en n0 n6
          subst en
          simp only [machB, ca, Bool.true_and]
          rw [show toI (PyData.int N) = N from rfl]
          by_cases h1 : (1 : Int) ≤ (rs.length : Int)
          · by_cases h4 : (rs.length : Int) ≤ 400
            · rw [decide_eq_true (show 1 ≤ rs.length by omega), decide_eq_true (show rs.length ≤ 400 by omega), Bool.true_and, Bool.true_and]
              have lc := lcL_nm (P := 0) 3 (me := m__is_machine_e1) (ρ := [some (.d (.tuple [.int N, .tuple rs])), some (.d (.int N)), some (.d (.tuple rs)), none]) (ds := rs) (fun s => .bool (isT s)) rfl (fun s hs' => by
                have k3 := kit_t s
                simp only [tyN] at k3
                unfold m__is_machine_e1
                clear hd hs
                walk_at "ev") (by omega)
              have cb := cAll_g rs isT
              cases ct : rs.all isT with
              | false =>
                rw [ct] at cb
                clear hd hs
                walk_at "ev"
                exact ⟨_, rfl⟩
              | true =>
                rw [ct] at cb
                have ct' := List.all_eq_true.mp ct
                have tup : ∀ s ∈ rs, ∃ es, s = .tuple es := fun s hs' => by
                  have := ct' s hs'
                  cases s with
                  | tuple es => exact ⟨es, rfl⟩
                  | _ => cases this
                have lc2 := lcL_nm (P := 0) 3 (me := m__is_machine_e2) (ρ := [some (.d (.tuple [.int N, .tuple rs])), some (.d (.int N)), some (.d (.tuple rs)), none]) (ds := rs) (fun s => .int (lenT s)) rfl (fun s hs' => by
                  obtain ⟨es, rfl⟩ := tup s hs'
                  unfold m__is_machine_e2
                  simp only [lenT]
                  clear hd hs ct ct' tup
                  walk_at "ev") (by omega)
                have cs := cSum_g rs lenT
                rw [Bool.true_and]
                by_cases h6 : (6000 : Int) < (rs.map lenT).sum
                · rw [decide_eq_false (show ¬ (rs.map lenT).sum ≤ 6000 by omega), Bool.false_and]
                  clear hd hs ct ct' tup
                  walk_at "ev"
                  exact ⟨_, rfl⟩
                · rw [decide_eq_true (show (rs.map lenT).sum ≤ 6000 by omega), Bool.true_and]
                  have lc3 := lcL_nm (P := 0) 3 (me := m__is_machine_e3) (ρ := [some (.d (.tuple [.int N, .tuple rs])), some (.d (.int N)), some (.d (.tuple rs)), none]) (ds := rs) (fun s => .bool (rowB N rs.length s)) rfl (fun s hs' => by
                    obtain ⟨es, rfl⟩ := tup s hs'
                    obtain ⟨r, e⟩ := isrow_ok N rs.length es (okN_mem hs _ hs')
                    unfold m__is_machine_e3
                    clear hd hs ct ct' tup
                    walk_at "ev") (by omega)
                  have cb3 := cAll_g rs (rowB N rs.length)
                  clear hd hs ct ct' tup
                  walk_at "ev"
                  exact ⟨_, rfl⟩
            · rw [decide_eq_true (show 1 ≤ rs.length by omega), decide_eq_false (show ¬ rs.length ≤ 400 by omega), Bool.and_false, Bool.false_and]
              clear hd hs
              walk_at "ev"
              exact ⟨_, rfl⟩
          · rw [decide_eq_false (show ¬ 1 ≤ rs.length by omega), Bool.false_and, Bool.false_and]
            clear hd hs
            walk_at "ev"
            exact ⟨_, rfl⟩
    · have : machB (.tuple ds) = false := by
        unfold machB
        split
        · next n ss h =>
          cases h
          exact absurd rfl hl
        · rfl
      rw [this]
      clear hd
      walk_at "ev"
      exact ⟨_, rfl⟩
theorem checkmach_ok (d : Z.D) (hd : okN 4 d = true) (h : machB d = true) : m_check_machine (env0 1 [.d d]) = .nx [some (.d d)] := by
  obtain ⟨r, e⟩ := ismach_ok d hd
  rw [h] at e
  unfold m_check_machine m_check_machine_s1
  walk_at "st"
  clear hd
  walk_at "ev"
theorem checkmach_bad (d : Z.D) (hd : okN 4 d = true) (h : machB d = false) : m_check_machine (env0 1 [.d d]) = .exc 0 [some (.d d)] := by
  obtain ⟨r, e⟩ := ismach_ok d hd
  rw [h] at e
  unfold m_check_machine m_check_machine_s1
  walk_at "st"
  clear hd
  walk_at "ev"
end K05
namespace K05
open PySem L2 Z
abbrev Row := List (Int × Int)
def rowD (r : Row) : Z.D := .tuple (r.map pairD)
def machD (n : Nat) (rows : List Row) : Z.D := .tuple [.int n, .tuple (rows.map rowD)]
abbrev lexS (a b : Int × Int) : Prop := a.1 < b.1 ∨ (a.1 = b.1 ∧ a.2 < b.2)
def totR (rows : List Row) : Nat := (rows.map List.length).sum
structure MOk (n : Nat) (rows : List Row) : Prop where
  n5 : n ≤ 5
  one : 1 ≤ rows.length
  most : rows.length ≤ 400
  edge : ∀ r ∈ rows, ∀ e ∈ r, 0 ≤ e.1 ∧ e.1 < (n : Int) ∧ 0 ≤ e.2 ∧ e.2 < (rows.length : Int)
  up : ∀ r ∈ rows, r.Pairwise lexS
  few : totR rows ≤ 6000
theorem row_few {rows : List Row} {r : Row} (h : r ∈ rows) : r.length ≤ totR rows := by
  unfold totR
  induction rows with
  | nil => cases h
  | cons x xs ih =>
    rw [List.map_cons, List.sum_cons]
    rcases List.mem_cons.mp h with rfl | h
    · omega
    · have := ih h
      omega
theorem lexB_of {a b : Int × Int} (h : lexS a b) : lexB a b = true := by
  have h : a.1 < b.1 ∨ (a.1 = b.1 ∧ a.2 < b.2) := h
  unfold lexB
  rw [HT.lexLt_cons]
  by_cases q : a.1 = b.1
  · rw [if_pos q, HT.lexLt_cons, if_neg (by omega)]
    exact decide_eq_true (by omega)
  · rw [if_neg q]
    exact decide_eq_true (by omega)
theorem risP_of {ps : List (Int × Int)} (h : ps.Pairwise lexS) : risP ps = true := by
  unfold risP
  rw [List.all_eq_true]
  intro k hk
  have hk := List.mem_range.mp hk
  rw [List.pairwise_iff_getElem] at h
  have := h k (k + 1) (by omega) (by omega) (by omega)
  rw [List.getD_eq_getElem?_getD, List.getD_eq_getElem?_getD, List.getElem?_eq_getElem (show k < ps.length by omega), List.getElem?_eq_getElem (show k + 1 < ps.length by omega)]
  exact lexB_of this
theorem toP_map (r : Row) : (r.map pairD).map toP = r := by
  rw [List.map_map]
  exact List.map_id' r
theorem row_rowB {n many : Int} {r : Row} (h : ∀ e ∈ r, 0 ≤ e.1 ∧ e.1 < n ∧ 0 ≤ e.2 ∧ e.2 < many) (hu : r.Pairwise lexS) : rowB n many (rowD r) = true := by
  simp only [rowD, rowB, Bool.and_eq_true, toP_map]
  refine ⟨map_all fun e he => ?_, risP_of hu⟩
  have := h e he
  simp only [pairD, edgeB, below, inR, Bool.and_eq_true]
  exact ⟨⟨decide_eq_true this.1, decide_eq_true this.2.1⟩, decide_eq_true this.2.2.1, decide_eq_true this.2.2.2⟩
theorem lenT_sum (rows : List Row) : ((rows.map rowD).map lenT).sum = (totR rows : Int) := by
  unfold totR
  induction rows with
  | nil => rfl
  | cons r rows ih =>
    simp only [List.map_cons, List.sum_cons, ih]
    simp only [rowD, lenT, List.length_map]
    push_cast
    rfl
theorem pair_okN (k : Nat) (e : Int × Int) : okN k (pairD e) = true := by
  cases k with
  | zero => rfl
  | succ k =>
    refine okN_tup (fun d hd => ?_) (by simp)
    simp only [List.mem_cons, List.not_mem_nil, or_false] at hd
    rcases hd with rfl | rfl <;> exact okN_int k _
theorem row_okN (k : Nat) (r : Row) (h : r.length < 1000000) : okN k (rowD r) = true := by
  cases k with
  | zero => rfl
  | succ k =>
    refine okN_tup (fun d hd => ?_) (by rw [List.length_map]; exact h)
    obtain ⟨e, _, rfl⟩ := List.mem_map.mp hd
    exact pair_okN k e
theorem mach_okN' {n : Nat} {rows : List Row} (h1 : rows.length < 1000000) (h2 : ∀ r ∈ rows, r.length < 1000000) (k : Nat) : okN k (machD n rows) = true := by
  cases k with
  | zero => rfl
  | succ k =>
    refine okN_tup (fun d hd => ?_) (by simp)
    simp only [List.mem_cons, List.not_mem_nil, or_false] at hd
    rcases hd with rfl | rfl
    · exact okN_int k _
    · cases k with
      | zero => rfl
      | succ k =>
        refine okN_tup (fun d hd => ?_) (by rw [List.length_map]; exact h1)
        obtain ⟨r, hr, rfl⟩ := List.mem_map.mp hd
        exact row_okN k r (h2 r hr)
theorem mach_okN {n : Nat} {rows : List Row} (h : MOk n rows) (k : Nat) : okN k (machD n rows) = true :=
  mach_okN' (by have := h.most; omega) (fun r hr => by have := row_few hr; have := h.few; omega) k
theorem mach_machB {n : Nat} {rows : List Row} (h : MOk n rows) : machB (machD n rows) = true := by
  have h5 := h.n5
  have h1 := h.one
  have h4 := h.most
  have h6 := h.few
  simp only [machD, machB, List.length_map, Bool.and_eq_true]
  refine ⟨⟨?_, decide_eq_true h1, decide_eq_true h4⟩, map_all fun r _ => rfl, ?_, map_all fun r hr => ?_⟩
  · simp only [below, inR, Bool.and_eq_true]
    exact ⟨decide_eq_true (by omega), decide_eq_true (by omega)⟩
  · rw [lenT_sum]
    exact decide_eq_true (by omega)
  · exact row_rowB (h.edge r hr) (h.up r hr)
theorem check_mach {n : Nat} {rows : List Row} (h : MOk n rows) : m_check_machine (env0 1 [.d (machD n rows)]) = .nx [some (.d (machD n rows))] := checkmach_ok _ (mach_okN h 4) (mach_machB h)
theorem row_ix {rows : List Row} {p : Int} (h0 : 0 ≤ p) (h1 : p < rows.length) : atI (rows.map rowD) p = some (.tuple ((rows.getD p.toNat []).map pairD)) := by
  have hl : p.toNat < rows.length := by omega
  rw [atI_map _ _ _ h0, List.getElem?_eq_getElem hl, List.getD_eq_getElem?_getD, List.getElem?_eq_getElem hl]
  rfl
theorem row_mem {rows : List Row} {p : Nat} (h : p < rows.length) : rows.getD p [] ∈ rows := by
  rw [List.getD_eq_getElem?_getD, List.getElem?_eq_getElem h]
  exact List.getElem_mem h
end K05
namespace K05
open PySem L2 Z
/-! ### the box -/
def BoxL (c mode pl : Int) (cells : List Int) : List Z.D := [.int c, .int mode, .int pl, .list (cells.map .int)]
structure BoxP (c mode pl : Int) (cells : List Int) : Prop where
  cells0 : ∀ x ∈ cells, (0 : Int) ≤ x
  pl0 : 0 ≤ pl
  c0 : 0 ≤ c
  c1 : mode < 0 → c < 1000000000000000000
  lo : -9 ≤ mode
  hi : mode ≤ 60
def Box (xs : List Z.D) : Prop := ∃ (c mode pl : Int) (cells : List Int), xs = BoxL c mode pl cells ∧ BoxP c mode pl cells
/-- what a draw does -/
def Told (o : Z.Out) (m : Int) : Prop := ∃ (t : Int) (ys : List Z.D) (r : Z.Env), o = .rt (.d (.int t)) (some (.o ys) :: r) ∧ Box ys ∧ 0 ≤ t ∧ t < m
theorem told_of {m t c mode pl : Int} {cells : List Int} {r : Z.Env} (h : BoxP c mode pl cells) (h1 : 0 ≤ t) (h2 : t < m) : Told (.rt (.d (.int t)) (some (.o [.int c, .int mode, .int pl, .list (cells.map .int)]) :: r)) m :=
  ⟨t, _, r, rfl, ⟨c, mode, pl, cells, rfl, h⟩, h1, h2⟩
theorem take_up (c mode pl m : Int) (cells : List Int) (r2 r3 r4 : Option Z.S) (h : BoxP c mode pl cells) (hm : 0 < m) (hm2 : m < 1073741824) (h0 : ¬ mode = 0) :
    Told (mSeq m__law_take_s2 (mSeq m__law_take_s3 (mSeq m__law_take_s4 m__law_take_s5)) [some (.o (BoxL c mode pl cells)), some (.d (.int m)), r2, r3, r4]) m := by
  unfold m__law_take_s2 m__law_take_s3 m__law_take_s4 m__law_take_s5 BoxL
  obtain ⟨h1, h2, h3, h4, h5, h6⟩ := h
  have k0 := Int.emod_nonneg c (show m ≠ 0 by omega)
  have k1 := Int.emod_lt_of_pos c hm
  have k2 : 0 ≤ c / m := Int.ediv_nonneg h3 (by omega)
  by_cases up : 0 < mode
  · by_cases q : 0 < c / m
    · walk_at "ev"
      exact told_of ⟨h1, h2, k2, fun z => by omega, by omega, by omega⟩ k0 k1
    · walk_at "ev"
      exact told_of ⟨h1, h2, k2, fun z => by omega, by omega, by omega⟩ k0 k1
  · walk_at "ev"
    have k3 := Int.emod_nonneg (c * 48271 + 69621 * (mode + 1 + 20)) (show (2147483647 : Int) ≠ 0 by decide)
    have k4 := Int.emod_lt_of_pos (c * 48271 + 69621 * (mode + 1 + 20)) (show (0 : Int) < 2147483647 by decide)
    refine told_of ⟨h1, h2, k3, fun z => by omega, by omega, by omega⟩ (Int.emod_nonneg _ (by omega)) (Int.emod_lt_of_pos _ hm)
theorem take_ok0 (c mode pl m : Int) (cells : List Int) (h : BoxP c mode pl cells) (hm : 0 < m) (hm2 : m < 1073741824) :
    Told (m__law_take (env0 5 [.o (BoxL c mode pl cells), .d (.int m)])) m := by
  obtain ⟨h1, h2, h3, h4, h5, h6⟩ := id h
  unfold m__law_take
  rw [mSeq_k]
  by_cases z : mode = 0
  · subst z
    by_cases q : pl < cells.length
    · have hq : cells[pl.toNat]? = some cells[pl.toNat] := List.getElem?_eq_getElem (by omega)
      have hx : 0 ≤ cells[pl.toNat] := h1 _ (List.getElem_mem _)
      generalize cells[pl.toNat] = x at hq hx
      have ha := atI_map PyData.int cells pl h2
      rw [hq] at ha
      replace ha : atI (cells.map PyData.int) pl = some (.int x) := ha
      by_cases big : 1000000000000000000 ≤ x
      · have e : m__law_take_s1 (env0 5 [.o (BoxL c 0 pl cells), .d (.int m)]) = .nx [some (.o (BoxL x 60 (pl + 1) cells)), some (.d (.int m)), some (.d (.int pl)), some (.d (.int x)), none] := by
          unfold m__law_take_s1 BoxL
          walk_at "st"
          walk_at "ev"
        rw [e, seqK_nx]
        exact take_up x 60 (pl + 1) m cells _ _ _ ⟨h1, by omega, hx, fun z => by omega, by omega, by omega⟩ hm hm2 (by decide)
      · have e : m__law_take_s1 (env0 5 [.o (BoxL c 0 pl cells), .d (.int m)]) = .nx [some (.o (BoxL x (-9) (pl + 1) cells)), some (.d (.int m)), some (.d (.int pl)), some (.d (.int x)), none] := by
          unfold m__law_take_s1 BoxL
          walk_at "st"
          walk_at "ev"
        rw [e, seqK_nx]
        exact take_up x (-9) (pl + 1) m cells _ _ _ ⟨h1, by omega, hx, fun z => by omega, by omega, by omega⟩ hm hm2 (by decide)
    · have e : m__law_take_s1 (env0 5 [.o (BoxL c 0 pl cells), .d (.int m)]) = .rt (.d (.int 0)) [some (.o (BoxL 0 0 (pl + 1) cells)), some (.d (.int m)), some (.d (.int pl)), some (.d (.int 0)), none] := by
        unfold m__law_take_s1 BoxL
        walk_at "st"
        walk_at "ev"
      rw [e, seqK_rt]
      exact told_of ⟨h1, by omega, by omega, fun z => by omega, by omega, by omega⟩ (by omega) hm
  · have e : m__law_take_s1 (env0 5 [.o (BoxL c mode pl cells), .d (.int m)]) = .nx [some (.o (BoxL c mode pl cells)), some (.d (.int m)), none, none, none] := by
      unfold m__law_take_s1 BoxL
      walk_at "st"
      walk_at "ev"
    rw [e, seqK_nx]
    exact take_up c mode pl m cells _ _ _ h hm hm2 z
/-- a draw: a number below m, as a natural one -/
theorem take_ok (bx : List Z.D) (hb : Box bx) (m : Nat) (hm : 0 < m) (hm2 : m < 1000000) : ∃ (t : Nat) (bx' : List Z.D) (r : Z.Env), m__law_take (env0 5 [.o bx, .d (.int m)]) = .rt (.d (.int t)) (some (.o bx') :: r) ∧ Box bx' ∧ t < m := by
  obtain ⟨c, mode, pl, cells, rfl, hp⟩ := hb
  obtain ⟨t, ys, r, e, h1, h2, h3⟩ := take_ok0 c mode pl m cells hp (by omega) (by omega)
  refine ⟨t.toNat, ys, r, ?_, h1, by omega⟩
  rw [show ((t.toNat : Nat) : Int) = t by omega]
  exact e
theorem take_lit (bx : List Z.D) (hb : Box bx) (m : Nat) (hm : 0 < m) (hm2 : m < 1000000) : ∃ (t : Nat) (bx' : List Z.D) (r : Z.Env), m__law_take (env0 5 [.o bx, .d (.int (OfNat.ofNat m))]) = .rt (.d (.int t)) (some (.o bx') :: r) ∧ Box bx' ∧ t < m := take_ok bx hb m hm hm2
theorem pick_ok (bx : List Z.D) (hb : Box bx) (menu : List Z.D) (hm : 0 < menu.length) (hm2 : menu.length < 1000) : ∃ (t : Nat) (ht : t < menu.length) (bx' : List Z.D) (r : Z.Env), m__law_pick (env0 2 [.o bx, .d (.list menu)]) = .rt (.d menu[t]) (some (.o bx') :: r) ∧ Box bx' := by
  obtain ⟨t, ys, r, e, h1, h2⟩ := take_ok bx hb menu.length hm (by omega)
  refine ⟨t, h2, ys, [some (.d (.list menu))], ?_, h1⟩
  have ix : atI menu (t : Int) = some menu[t] := by rw [atI_nn _ _ (by omega), show ((t : Nat) : Int).toNat = t by omega, List.getElem?_eq_getElem h2]
  unfold m__law_pick m__law_pick_s1
  walk_at "st"
  walk_at "ev"
def absI (i : Int) : Int := if i < 0 then -i else i
theorem absI0 (i : Int) : 0 ≤ absI i := by unfold absI; split <;> omega
theorem box_ok (ns : List Int) (h : ns.length ≤ 63) : ∃ r bx, m__law_box (env0 2 [.d (.list (ns.map .int))]) = .rt (.o bx) r ∧ Box bx := by
  have lc := lcL_enc (P := 0) 1 PyData.int (mt := mYes) (me := m__law_box_e1) (ρ := [some (.d (.list (ns.map .int))), none]) ns (fun _ => true) (fun i => .int (absI i)) rfl (fun _ _ => rfl) (fun i _ _ => by
    unfold m__law_box_e1
    walk_at "ev"
    rfl) (by omega)
  rw [filter_yes] at lc
  refine ⟨[some (.d (.list (ns.map .int))), none], BoxL 0 0 0 (ns.map absI), ?_, ⟨0, 0, 0, ns.map absI, rfl, ⟨fun x hx => by
    obtain ⟨i, _, rfl⟩ := List.mem_map.mp hx
    exact absI0 i, by decide, by decide, by decide, by decide, by decide⟩⟩⟩
  unfold m__law_box m__law_box_s1 BoxL
  rw [List.map_map]
  walk_at "st"
  walk_at "ev"
  rfl
end K05
namespace K05
open PySem L2 Z
/-! ### a drawn machine -/
theorem pick_ints (bx : List Z.D) (hb : Box bx) (ms : List Nat) (hm : 0 < ms.length) (hm2 : ms.length < 1000) (B : Nat) (hB : ∀ m ∈ ms, m ≤ B) :
    ∃ (c : Nat) (bx' : List Z.D) (r : Z.Env), m__law_pick (env0 2 [.o bx, .d (.list (ms.map fun c : Nat => PyData.int c))]) = .rt (.d (.int c)) (some (.o bx') :: r) ∧ Box bx' ∧ c ≤ B ∧ c ∈ ms := by
  obtain ⟨t, ht, bx', r, e, hb'⟩ := pick_ok bx hb (ms.map fun c : Nat => PyData.int c) (by rw [List.length_map]; exact hm) (by rw [List.length_map]; exact hm2)
  rw [List.length_map] at ht
  refine ⟨ms[t], bx', r, ?_, hb', hB _ (List.getElem_mem ht), List.getElem_mem ht⟩
  rw [e, List.getElem_map]
theorem eqv_pair (x y : Int × Int) : PyData.eqv (pairD x) (pairD y) = decide (x = y) := by
  obtain ⟨a, b⟩ := x
  obtain ⟨c, d⟩ := y
  simp only [pairD, PyData.eqv, PyData.eqvAll, eqv_int, Prod.mk.injEq]
  by_cases h1 : a = c <;> by_cases h2 : b = d <;> simp [h1, h2]
theorem sh_pair (x : Int × Int) : Sh 1 (pairD x) := Sh.tuple fun d hd => by
  simp only [List.mem_cons, List.not_mem_nil, or_false] at hd
  rcases hd with rfl | rfl <;> exact .int _
theorem any_pairs (x : Int × Int) (es : Row) : ((es.map pairD).any fun z => PyData.eqv z (pairD x)) = decide (x ∈ es) := by
  rw [List.any_map, Bool.eq_iff_iff, List.any_eq_true, decide_eq_true_eq]
  constructor
  · rintro ⟨e, he, h⟩
    have h : PyData.eqv (pairD e) (pairD x) = true := h
    rw [eqv_pair, decide_eq_true_eq] at h
    subst h
    exact he
  · intro he
    refine ⟨x, he, ?_⟩
    show PyData.eqv (pairD x) (pairD x) = true
    rw [eqv_pair]
    simp
theorem sh_pairsL (es : Row) : SeqAt.shaped (.list (es.map pairD)) = true := (Sh.list (k := 1) fun d hd => by
  obtain ⟨e, _, rfl⟩ := List.mem_map.mp hd
  exact sh_pair e).shaped (by decide)
theorem sh_pairsT (es : Row) : SeqAt.shaped (.tuple (es.map pairD)) = true := (Sh.tuple (k := 1) fun d hd => by
  obtain ⟨e, _, rfl⟩ := List.mem_map.mp hd
  exact sh_pair e).shaped (by decide)
theorem notIn_pairs (x : Int × Int) (es : Row) : gAlt gNotIn gNotInT (.tuple [.int x.1, .int x.2]) (.list (es.map pairD)) = some (.d (.bool (!decide (x ∈ es)))) := by
  refine gAlt_l ?_
  have h1 : SeqAt.shaped (pairD x) = true := (sh_pair x).shaped (by decide)
  show (if (SeqAt.shaped (pairD x) && SeqAt.shaped (.list (es.map pairD))) = true then some (R.d (.bool (!(es.map pairD).any fun z => PyData.eqv z (pairD x)))) else none) = _
  rw [h1, sh_pairsL, any_pairs]
  rfl
theorem in_pairsT (x : Int × Int) (es : Row) : gAlt gIn gInT (.tuple [.int x.1, .int x.2]) (.tuple (es.map pairD)) = some (.d (.bool (decide (x ∈ es)))) := by
  rw [gAlt_r (by rfl)]
  have h1 : SeqAt.shaped (pairD x) = true := (sh_pair x).shaped (by decide)
  show (if (SeqAt.shaped (pairD x) && SeqAt.shaped (.tuple (es.map pairD))) = true then some (R.d (.bool ((es.map pairD).any fun z => PyData.eqv z (pairD x)))) else none) = _
  rw [h1, sh_pairsT, any_pairs]
  rfl
/-- what is known of a row under way -/
structure RowU (n size most : Nat) (es : Row) : Prop where
  nd : es.Nodup
  rg : ∀ e ∈ es, 0 ≤ e.1 ∧ e.1 < (n : Int) ∧ 0 ≤ e.2 ∧ e.2 < (size : Int)
  len : es.length ≤ most
theorem RowU.mono {n size a b : Nat} {es : Row} (h : RowU n size a es) (hab : a ≤ b) : RowU n size b es := ⟨h.nd, h.rg, Nat.le_trans h.len hab⟩
abbrev ED (bx : List Z.D) (n : Nat) (x2 : Option Z.S) (size : Nat) (x4 x5 x6 x7 x8 x9 : Option Z.S) : Z.Env := [some (.o bx), some (.d (.int n)), x2, some (.d (.int size)), x4, x5, x6, x7, x8, x9]
theorem edge_turn (bx : List Z.D) (hb : Box bx) (n size a c : Nat) (x2 x4 x5 x8 x9 : Option Z.S) (es : Row) (hs : 0 < size) (hs2 : size < 1000) (ha : a < n) (hc : c < 1000) (hr : RowU n size c es) :
    ∃ (bx' : List Z.D) (es' : Row), Box bx' ∧ RowU n size (c + 1) es' ∧ ∃ y9, m__law_machine_b1 [some (.o bx), some (.d (.int n)), x2, some (.d (.int size)), x4, x5, some (.o (es.map pairD)), some (.d (.int a)), x8, x9]
      = .nx [some (.o bx'), some (.d (.int n)), x2, some (.d (.int size)), x4, x5, some (.o (es'.map pairD)), some (.d (.int a)), x8, y9] := by
  obtain ⟨t, bx', r, e, hb', ht⟩ := take_ok bx hb size hs (by omega)
  have ni := notIn_pairs ((a : Int), (t : Int)) es
  have lE : es.length < 1000000 := by have := hr.len; omega
  have one : es.map pairD ++ [.tuple [.int (a : Int), .int (t : Int)]] = (es ++ [((a : Int), (t : Int))]).map pairD := by rw [List.map_append]; rfl
  simp only [] at ni
  unfold m__law_machine_b1
  by_cases q : ((a : Int), (t : Int)) ∈ es
  · refine ⟨bx', es, hb', hr.mono (by omega), ?_⟩
    clear hs hs2 ha hc hr one
    walk_at "ev"
    exact ⟨_, rfl⟩
  · refine ⟨bx', es ++ [((a : Int), (t : Int))], hb', ⟨?_, ?_, ?_⟩, ?_⟩
    · rw [List.nodup_append]
      exact ⟨hr.nd, by simp, fun x hx y hy z => by
        simp only [List.mem_singleton] at hy
        subst hy
        subst z
        exact q hx⟩
    · intro z hz
      rcases List.mem_append.mp hz with hz | hz
      · exact hr.rg z hz
      · simp only [List.mem_singleton] at hz
        subst hz
        exact ⟨by omega, by omega, by omega, by omega⟩
    · rw [List.length_append, List.length_singleton]
      have := hr.len
      omega
    · clear hs hs2 ha hc hr
      walk_at "ev"
      exact ⟨_, rfl⟩
theorem letter_turn (bx : List Z.D) (hb : Box bx) (n size a c : Nat) (x2 x4 x5 x8 x9 : Option Z.S) (es : Row) (hs : 0 < size) (hs2 : size < 1000) (ha : a < n) (hc : c < 900) (hr : RowU n size c es) :
    ∃ (bx' : List Z.D) (es' : Row), Box bx' ∧ RowU n size (c + 2) es' ∧ ∃ y8 y9, m__law_machine_b2 [some (.o bx), some (.d (.int n)), x2, some (.d (.int size)), x4, x5, some (.o (es.map pairD)), some (.d (.int a)), x8, x9]
      = .nx [some (.o bx'), some (.d (.int n)), x2, some (.d (.int size)), x4, x5, some (.o (es'.map pairD)), some (.d (.int a)), y8, y9] := by
  obtain ⟨v, bx1, r, e1, hb1, hv, _⟩ := pick_ints bx hb [0, 1, 1, 1, 2] (by decide) (by decide) 2 (by decide)
  simp only [List.map_cons, List.map_nil, cast_lit] at e1
  obtain ⟨ρ', e2, bx', es', h1, h2, y8, y9, rfl⟩ := forL_nats (b := bName 8) (body := m__law_machine_b1) (fun k ρ => ∃ (bx' : List Z.D) (es' : Row), Box bx' ∧ RowU n size (c + k) es' ∧ ∃ y8 y9, ρ = [some (.o bx'), some (.d (.int n)), x2, some (.d (.int size)), x4, x5, some (.o (es'.map pairD)), some (.d (.int a)), y8, y9]) v
    [some (.o bx1), some (.d (.int n)), x2, some (.d (.int size)), x4, x5, some (.o (es.map pairD)), some (.d (.int a)), x8, x9] ⟨bx1, es, hb1, hr, _, _, rfl⟩ fun k hk ρ hρ => by
      obtain ⟨bx2, es2, h1, h2, y8, y9, rfl⟩ := hρ
      obtain ⟨bx3, es3, q1, q2, z9, q4⟩ := edge_turn bx2 h1 n size a (c + k) x2 x4 x5 (some (.d (.int k))) y9 es2 hs hs2 ha (by omega) h2
      exact ⟨_, _, rfl, q4, bx3, es3, q1, q2, _, _, rfl⟩
  refine ⟨bx', es', h1, h2.mono (by omega), ?_⟩
  have hv2 : v < 1000000 := by omega
  have c0 : ((0 : Nat) : Int) = 0 := rfl
  have c1 : ((1 : Nat) : Int) = 1 := rfl
  clear hs hs2 ha hc hr hv
  unfold m__law_machine_b2
  walk_at "ev"
  exact ⟨_, _, rfl⟩
structure RowF (n size : Nat) (r : Row) : Prop where
  pw : r.Pairwise lexS
  rg : ∀ e ∈ r, 0 ≤ e.1 ∧ e.1 < (n : Int) ∧ 0 ≤ e.2 ∧ e.2 < (size : Int)
  len : r.length ≤ 10
theorem rowF_of {n size : Nat} {es : Row} (h : RowU n size 10 es) : RowF n size (psort es) := by
  have p := psort_perm es
  refine ⟨?_, fun e he => h.rg e (p.mem_iff.mp he), by rw [p.length_eq]; exact h.len⟩
  have nd : (psort es).Nodup := p.nodup_iff.mpr h.nd
  refine ((psort_up es).and nd).imp fun {a b} hab => ?_
  obtain ⟨h1, h2⟩ := hab
  have h1 : a.1 < b.1 ∨ (a.1 = b.1 ∧ a.2 ≤ b.2) := h1
  show a.1 < b.1 ∨ (a.1 = b.1 ∧ a.2 < b.2)
  by_cases q : a.2 = b.2
  · by_cases q1 : a.1 = b.1
    · exact absurd (Prod.ext q1 q) h2
    · omega
  · omega
theorem row_turn (n size : Nat) (hn : n ≤ 5) (hs : 0 < size) (hs2 : size < 1000) (bx : List Z.D) (hb : Box bx) (rows : List Row) (hl : rows.length < 1000) (hrs : ∀ r ∈ rows, RowF n size r) (x2 x5 x6 x7 x8 x9 : Option Z.S) :
    ∃ (bx' : List Z.D) (rows' : List Row), Box bx' ∧ (∀ r ∈ rows', RowF n size r) ∧ rows'.length = rows.length + 1 ∧ ∃ y6 y7 y8 y9, m__law_machine_b3 [some (.o bx), some (.d (.int n)), x2, some (.d (.int size)), some (.o (rows.map rowD)), x5, x6, x7, x8, x9]
      = .nx [some (.o bx'), some (.d (.int n)), x2, some (.d (.int size)), some (.o (rows'.map rowD)), x5, y6, y7, y8, y9] := by
  obtain ⟨ρ', e2, bx', es, h1, h2, y7, y8, y9, rfl⟩ := forL_nats (b := bName 7) (body := m__law_machine_b2) (fun k ρ => ∃ (bx' : List Z.D) (es' : Row), Box bx' ∧ RowU n size (2 * k) es' ∧ ∃ y7 y8 y9, ρ = [some (.o bx'), some (.d (.int n)), x2, some (.d (.int size)), some (.o (rows.map rowD)), x5, some (.o (es'.map pairD)), y7, y8, y9]) n
    [some (.o bx), some (.d (.int n)), x2, some (.d (.int size)), some (.o (rows.map rowD)), x5, some (.o []), x7, x8, x9] ⟨bx, [], hb, ⟨.nil, (fun _ h => nomatch h), Nat.le_refl _⟩, _, _, _, rfl⟩ fun k hk ρ hρ => by
      obtain ⟨bx2, es2, h1, h2, y7, y8, y9, rfl⟩ := hρ
      obtain ⟨bx3, es3, q1, q2, z8, z9, q4⟩ := letter_turn bx2 h1 n size k (2 * k) x2 (some (.o (rows.map rowD))) x5 y8 y9 es2 hs hs2 hk (by omega) h2
      exact ⟨_, _, rfl, q4, bx3, es3, q1, q2.mono (by omega), _, _, _, rfl⟩
  refine ⟨bx', rows ++ [psort es], h1, fun r hr => ?_, by simp, ?_⟩
  · rcases List.mem_append.mp hr with h | h
    · exact hrs r h
    · rw [List.mem_singleton.mp h]
      exact rowF_of (h2.mono (by omega))
  · have hn2 : n < 1000000 := by omega
    have hl2 : rows.length < 1000000 := by omega
    have so := cSortA_p es
    have ap : rows.map rowD ++ [.tuple ((psort es).map pairD)] = (rows ++ [psort es]).map rowD := by rw [List.map_append]; rfl
    clear hs hs2 hn hl hrs h2
    unfold m__law_machine_b3
    walk_at "ev"
    exact ⟨_, _, _, _, rfl⟩
theorem tot_le (rows : List Row) (h : ∀ r ∈ rows, r.length ≤ 25) : totR rows ≤ 25 * rows.length := by
  unfold totR
  induction rows with
  | nil => simp
  | cons r rows ih =>
    have := ih fun z hz => h z (List.mem_cons_of_mem _ hz)
    have := h r List.mem_cons_self
    rw [List.map_cons, List.sum_cons, List.length_cons]
    omega
theorem mok_of {n : Nat} {rows : List Row} (hN : n ≤ 5) (h1 : 1 ≤ rows.length) (h6 : rows.length ≤ 40) (h : ∀ r ∈ rows, RowF n rows.length r) : MOk n rows :=
  ⟨hN, h1, by omega, fun r hr e he => (h r hr).rg e he, fun r hr => (h r hr).pw, by have := tot_le rows fun r hr => Nat.le_trans (h r hr).len (by decide); omega⟩
theorem machine_runB (bx : List Z.D) (hb : Box bx) (n : Nat) (hn : n ≤ 5) (most : Nat) (hm : 0 < most) (hm2 : most ≤ 40) :
    ∃ (bx' : List Z.D) (rows : List Row) (r : Z.Env), Box bx' ∧ MOk n rows ∧ rows.length ≤ most ∧ (∀ r ∈ rows, r.length ≤ 10) ∧ m__law_machine (env0 10 [.o bx, .d (.int n), .d (.int most)]) = .rt (.d (machD n rows)) (some (.o bx') :: r) := by
  obtain ⟨t, bx1, r1, e1, hb1, ht⟩ := take_ok bx hb most hm (by omega)
  obtain ⟨ρ', e, bx', rows, hb', hss, hl, y5, y6, y7, y8, y9, rfl⟩ := forL_nats (b := bName 5) (body := m__law_machine_b3)
    (fun k ρ => ∃ (bx' : List Z.D) (rows' : List Row), Box bx' ∧ (∀ r ∈ rows', RowF n (1 + t) r) ∧ rows'.length = k ∧ ∃ y5 y6 y7 y8 y9, ρ = [some (.o bx'), some (.d (.int n)), some (.d (.int most)), some (.d (.int ((1 + t : Nat) : Int))), some (.o (rows'.map rowD)), y5, y6, y7, y8, y9]) (1 + t)
    [some (.o bx1), some (.d (.int n)), some (.d (.int most)), some (.d (.int ((1 + t : Nat) : Int))), some (.o []), none, none, none, none, none] ⟨bx1, [], hb1, (fun _ h => nomatch h), rfl, _, _, _, _, _, rfl⟩ fun k hk ρ hρ => by
      obtain ⟨bx1, ss1, h1, h2, h3, y5, y6, y7, y8, y9, rfl⟩ := hρ
      obtain ⟨bx2, ss2, q1, q2, q3, z6, z7, z8, z9, q4⟩ := row_turn n (1 + t) hn (by omega) (by omega) bx1 h1 ss1 (by omega) h2 (some (.d (.int most))) (some (.d (.int k))) y6 y7 y8 y9
      exact ⟨_, _, rfl, q4, bx2, ss2, q1, q2, by omega, _, _, _, _, _, rfl⟩
  have hD : MOk n rows := mok_of hn (by omega) (by omega) (by rw [hl]; exact hss)
  have c1 : (1 : Int) + (t : Int) = ((1 + t : Nat) : Int) := by push_cast; rfl
  have t2 : 1 + t < 1000000 := by omega
  have ex : ∃ r, m__law_machine (env0 10 [.o bx, .d (.int n), .d (.int most)]) = .rt (.d (machD n rows)) (some (.o bx') :: r) := by
    clear hss hl hD ht hm hm2 hn
    unfold m__law_machine m__law_machine_s1 m__law_machine_s2 m__law_machine_s3 m__law_machine_s4 machD
    walk_at "st"
    walk_at "ev"
    exact ⟨_, rfl⟩
  obtain ⟨r, er⟩ := ex
  exact ⟨bx', rows, r, hb', hD, by omega, fun r hr => (hss r hr).len, er⟩
theorem machine_run (bx : List Z.D) (hb : Box bx) (n : Nat) (hn : n ≤ 5) (most : Nat) (hm : 0 < most) (hm2 : most ≤ 40) :
    ∃ (bx' : List Z.D) (rows : List Row) (r : Z.Env), Box bx' ∧ MOk n rows ∧ rows.length ≤ most ∧ (∀ r ∈ rows, r.length ≤ 25) ∧ m__law_machine (env0 10 [.o bx, .d (.int n), .d (.int most)]) = .rt (.d (machD n rows)) (some (.o bx') :: r) := by
  obtain ⟨bx', rows, r, h1, h2, h3, h4, h5⟩ := machine_runB bx hb n hn most hm hm2
  exact ⟨bx', rows, r, h1, h2, h3, fun r hr => Nat.le_trans (h4 r hr) (by decide), h5⟩
end K05
namespace K05
open PySem L2 Z
/-! ### the edges of a pair of states -/
def eob (r1 r2 : Row) : List (Int × (Int × Int)) := r1.flatMap fun e => (r2.filter fun e2 => decide (e2.1 = e.1)).map fun e2 => (e.1, (e.2, e2.2))
def eobD (x : Int × (Int × Int)) : Z.D := .tuple [.int x.1, .tuple [.int x.2.1, .int x.2.2]]
def look (g : GX) (k : Int) : List Z.D := ((g.find? fun t => decide (t.1 = k)).map (·.2)).getD []
theorem look_new (g : GX) (k : Int) (x : Z.D) (h : (g.any fun t => decide (t.1 = k)) = false) (k' : Int) : look (g ++ [(k, [x])]) k' = if k' = k then look g k ++ [x] else look g k' := by
  have hn : g.find? (fun t => decide (t.1 = k)) = none := by
    rw [List.find?_eq_none]
    intro t ht
    have := List.any_eq_false.mp h t ht
    simpa using this
  unfold look
  rw [List.find?_append]
  by_cases c : k' = k
  · subst c
    rw [hn, if_pos rfl]
    simp
  · rw [if_neg c]
    have e : ([(k, [x])] : GX).find? (fun t => decide (t.1 = k')) = none := by
      simp [List.find?_cons, Ne.symm c]
    rw [e]
    cases g.find? (fun t => decide (t.1 = k')) <;> rfl
theorem look_old (k : Int) (x : Z.D) (k' : Int) : ∀ g : GX, (g.any fun t => decide (t.1 = k)) = true → look (g.map fun t => if t.1 = k then (t.1, t.2 ++ [x]) else t) k' = if k' = k then look g k ++ [x] else look g k'
  | [], h => by simp at h
  | t :: g, h => by
    have cons : ∀ (u : Int × List Z.D) (g : GX) (q : Int), look (u :: g) q = if u.1 = q then u.2 else look g q := fun u g q => by
      unfold look
      rw [List.find?_cons]
      by_cases hq : u.1 = q
      · rw [decide_eq_true hq, if_pos hq]
        rfl
      · rw [decide_eq_false hq, if_neg hq]
    rw [List.map_cons, cons, cons, cons]
    by_cases h1 : t.1 = k
    · rw [if_pos h1, if_pos h1]
      by_cases c : k' = k
      · rw [if_pos c, if_pos (show ((t.1, t.2 ++ [x]) : Int × List Z.D).1 = k' from h1.trans c.symm)]
      · have c2 : ¬ t.1 = k' := fun z => c (z.symm.trans h1)
        rw [if_neg c, if_neg (show ¬ ((t.1, t.2 ++ [x]) : Int × List Z.D).1 = k' from c2), if_neg c2]
        have rest : ∀ g : GX, look (g.map fun t => if t.1 = k then (t.1, t.2 ++ [x]) else t) k' = look g k' := by
          intro g
          induction g with
          | nil => rfl
          | cons u g ih =>
            rw [List.map_cons, cons, cons, ih]
            by_cases hu : u.1 = k
            · have e1 : ¬ u.1 = k' := fun z => c (z.symm.trans hu)
              rw [if_pos hu, if_neg e1, if_neg (show ¬ ((u.1, u.2 ++ [x]) : Int × List Z.D).1 = k' from e1)]
            · rw [if_neg hu]
        exact rest g
    · have h2 : (g.any fun t => decide (t.1 = k)) = true := by
        rw [List.any_cons, decide_eq_false h1, Bool.false_or] at h
        exact h
      rw [if_neg h1, if_neg h1, look_old k x k' g h2]
      by_cases c : k' = k
      · rw [if_pos c, if_pos c, if_neg (fun z => h1 (z.trans c))]
      · rw [if_neg c, if_neg c]
theorem look_put (g : GX) (k : Int) (x : Z.D) (k' : Int) : look (gPut g k x) k' = if k' = k then look g k ++ [x] else look g k' := by
  unfold gPut
  cases h : (g.any fun t => decide (t.1 = k)) with
  | true => rw [if_pos rfl]; exact look_old k x k' g h
  | false => rw [if_neg Bool.false_ne_true]; exact look_new g k x h k'
def grps (r : Row) (g : GX) : GX := r.foldl (fun g e => gPut g e.1 (.int e.2)) g
theorem look_grps (k : Int) : ∀ (r : Row) (g : GX), look (grps r g) k = look g k ++ (r.filter fun e => decide (e.1 = k)).map fun e => PyData.int e.2
  | [], g => by simp [grps]
  | e :: r, g => by
    have ih := look_grps k r (gPut g e.1 (.int e.2))
    show look (grps r (gPut g e.1 (.int e.2))) k = _
    rw [ih, look_put, List.filter_cons]
    by_cases c : k = e.1
    · rw [if_pos c, if_pos (decide_eq_true c.symm), List.map_cons, c, List.append_assoc]
      rfl
    · rw [if_neg c, if_neg (by rw [decide_eq_true_eq]; exact fun z => c z.symm)]
theorem at_gM (g : GX) (k : Int) : atM (gM g) (.int k) = (g.find? fun t => decide (t.1 = k)).map fun t => PyData.list t.2 := by
  unfold atM gM
  rw [List.find?_map, Option.map_map]
  have e : ((fun q : Z.D × Z.D => decide (toNK q.1 = toNK (.int k))) ∘ fun t : Int × List Z.D => (PyData.int t.1, PyData.list t.2)) = fun t => decide (t.1 = k) := by
    funext t
    show decide (toNK (.int t.1) = toNK (.int k)) = decide (t.1 = k)
    simp [toNK]
  rw [e]
  rfl
theorem gPut_len (g : GX) (k : Int) (x : Z.D) (N M : Nat) (h1 : g.length ≤ N) (h2 : ∀ t ∈ g, t.2.length ≤ M) : (gPut g k x).length ≤ N + 1 ∧ ∀ t ∈ gPut g k x, t.2.length ≤ M + 1 := by
  unfold gPut
  split
  · refine ⟨by rw [List.length_map]; omega, fun t ht => ?_⟩
    obtain ⟨u, hu, rfl⟩ := List.mem_map.mp ht
    have := h2 u hu
    split
    · rw [List.length_append, List.length_singleton]; omega
    · omega
  · refine ⟨by rw [List.length_append, List.length_singleton]; omega, fun t ht => ?_⟩
    rcases List.mem_append.mp ht with ht | ht
    · have := h2 t ht
      omega
    · rw [List.mem_singleton.mp ht]
      simp
abbrev EE (x0 x1 x3 x4 : Option Z.S) : Z.Env := [x0, x1, none, x3, x4, none, none]
theorem grp_loop (x0 x1 : Option Z.S) : ∀ (r : Row) (g : GX) (x3 x4 : Option Z.S), g.length + r.length ≤ 100000 → (∀ t ∈ g, t.2.length + r.length ≤ 100000) →
    ∃ y3 y4, forD (bTup 2 (bCons (bName 3) (bCons (bName 4) bNil))) (dApp 0 (mVar 3) (mVar 4)) (r.map pairD) (EE x0 x1 x3 x4) g = some (EE x0 x1 y3 y4, grps r g)
  | [], g, x3, x4, _, _ => ⟨x3, x4, rfl⟩
  | e :: r, g, x3, x4, h1, h2 => by
    rw [List.length_cons] at h1
    have h2' : ∀ t ∈ g, t.2.length ≤ 100000 - (r.length + 1) := fun t ht => by
      have := h2 t ht
      rw [List.length_cons] at this
      omega
    obtain ⟨k1, k2⟩ := gPut_len g e.1 (.int e.2) (100000 - (r.length + 1)) (100000 - (r.length + 1)) (by omega) h2'
    obtain ⟨y3, y4, ih⟩ := grp_loop x0 x1 r (gPut g e.1 (.int e.2)) (some (.d (.int e.1))) (some (.d (.int e.2))) (by omega) fun t ht => by
      have := k2 t ht
      omega
    refine ⟨y3, y4, ?_⟩
    have st : dApp 0 (mVar 3) (mVar 4) (EE x0 x1 (some (.d (.int e.1))) (some (.d (.int e.2)))) g = some (EE x0 x1 (some (.d (.int e.1))) (some (.d (.int e.2))), gPut g e.1 (.int e.2)) := by
      have hb : g.length < 1000000 ∧ ∀ t ∈ g, t.2.length < 1000000 := ⟨by omega, fun t ht => by have := h2' t ht; omega⟩
      show (if g.length < 1000000 ∧ (∀ t ∈ g, t.2.length < 1000000) then some (EE x0 x1 (some (.d (.int e.1))) (some (.d (.int e.2))), gPut g e.1 (.int e.2)) else none) = _
      rw [if_pos hb]
    rw [List.map_cons]
    show (match dApp 0 (mVar 3) (mVar 4) (EE x0 x1 (some (.d (.int e.1))) (some (.d (.int e.2)))) g with
      | some (ρ2, g2) => forD (bTup 2 (bCons (bName 3) (bCons (bName 4) bNil))) (dApp 0 (mVar 3) (mVar 4)) (r.map pairD) ρ2 g2
      | none => none) = _
    rw [st]
    exact ih
end K05
namespace K05
open PySem L2 Z
abbrev EG (x0 x1 : Option Z.S) (g : GX) (x3 x4 x5 x6 : Option Z.S) : Z.Env := [x0, x1, some (.m false (gM g)), x3, x4, x5, x6]
theorem get_ok (x0 x1 x4 x5 x6 : Option Z.S) (g : GX) (k : Int) : mIter 0 (mGetD 2 (mVar 3)) (EG x0 x1 g (some (.d (.int k))) x4 x5 x6) = .ok (look g k) (EG x0 x1 g (some (.d (.int k))) x4 x5 x6) := by
  have at' := at_gM g k
  have e : mGetD 2 (mVar 3) (EG x0 x1 g (some (.d (.int k))) x4 x5 x6) = (match atM (gM g) (.int k) with
        | some z => .ok (.d z) (EG x0 x1 g (some (.d (.int k))) x4 x5 x6)
        | none => .ok (.o []) (EG x0 x1 g (some (.d (.int k))) x4 x5 x6)) := rfl
  rw [mIter_k, e, at']
  unfold look
  cases g.find? fun t => decide (t.1 = k) with
  | none => rfl
  | some t => rfl
theorem edg_loop (x0 x1 x4 : Option Z.S) (g : GX) (r2 : Row) (hg : ∀ k, look g k = (r2.filter fun e => decide (e.1 = k)).map fun e => PyData.int e.2) : ∀ (r1 : Row) (acc : List Z.D), acc.length + (eob r1 r2).length ≤ 1000000 →
    lcL2 0 (bTup 2 (bCons (bName 3) (bCons (bName 5) bNil))) mYes (mIter 0 (mGetD 2 (mVar 3))) (bName 6) mYes m__edges_of_both_e1 [3, 5, 6] [6] (r1.map pairD) acc (EG x0 x1 g none x4 none none) = .ok (acc ++ (eob r1 r2).map eobD) (EG x0 x1 g none x4 none none)
  | [], acc, _ => by simp [lcL2, eob]
  | e :: r1, acc, hl => by
    have ec : eob (e :: r1) r2 = ((r2.filter fun e2 => decide (e2.1 = e.1)).map fun e2 => (e.1, (e.2, e2.2))) ++ eob r1 r2 := by
      unfold eob
      rw [List.flatMap_cons]
    rw [ec, List.length_append, List.length_map] at hl
    have in1 : lcL 0 (bName 6) mYes m__edges_of_both_e1 [6] (look g e.1) acc (EG x0 x1 g (some (.d (.int e.1))) x4 (some (.d (.int e.2))) none) = .ok (acc ++ ((r2.filter fun e2 => decide (e2.1 = e.1)).map fun e2 => eobD (e.1, (e.2, e2.2)))) (EG x0 x1 g (some (.d (.int e.1))) x4 (some (.d (.int e.2))) none) := by
      rw [hg]
      have := lcL_over (P := 0) (b := bName 6) (mt := mYes) (me := m__edges_of_both_e1) (vs := [6]) (ρ := EG x0 x1 g (some (.d (.int e.1))) x4 (some (.d (.int e.2))) none) (fun e2 : Int × Int => PyData.int e2.2) (fun _ => true) (fun e2 : Int × Int => eobD (e.1, (e.2, e2.2))) (r2.filter fun e2 => decide (e2.1 = e.1)) acc
        (fun d hd => ⟨EG x0 x1 g (some (.d (.int e.1))) x4 (some (.d (.int e.2))) (some (.d (.int d.2))), rfl, rfl, fun _ => by
          unfold m__edges_of_both_e1 EG
          walk_at "ev"
          rfl, rfl⟩) (by omega)
      rw [filter_yes] at this
      exact this
    have ih := edg_loop x0 x1 x4 g r2 hg r1 (acc ++ ((r2.filter fun e2 => decide (e2.1 = e.1)).map fun e2 => eobD (e.1, (e.2, e2.2)))) (by rw [List.length_append, List.length_map]; omega)
    rw [List.map_cons]
    show (match mIter 0 (mGetD 2 (mVar 3)) (EG x0 x1 g (some (.d (.int e.1))) x4 (some (.d (.int e.2))) none) with
      | .ok es ρ3 => (match lcL 0 (bName 6) mYes m__edges_of_both_e1 [6] es acc (wipeE ρ3 [6]) with
        | .ok acc' ρ4 => lcL2 0 (bTup 2 (bCons (bName 3) (bCons (bName 5) bNil))) mYes (mIter 0 (mGetD 2 (mVar 3))) (bName 6) mYes m__edges_of_both_e1 [3, 5, 6] [6] (r1.map pairD) acc' (wipeE ρ4 [3, 5, 6])
        | _ => .no)
      | _ => .no) = _
    rw [get_ok]
    show (match lcL 0 (bName 6) mYes m__edges_of_both_e1 [6] (look g e.1) acc (EG x0 x1 g (some (.d (.int e.1))) x4 (some (.d (.int e.2))) none) with
        | .ok acc' ρ4 => lcL2 0 (bTup 2 (bCons (bName 3) (bCons (bName 5) bNil))) mYes (mIter 0 (mGetD 2 (mVar 3))) (bName 6) mYes m__edges_of_both_e1 [3, 5, 6] [6] (r1.map pairD) acc' (wipeE ρ4 [3, 5, 6])
        | _ => .no) = _
    rw [in1]
    show lcL2 0 _ mYes _ (bName 6) mYes m__edges_of_both_e1 [3, 5, 6] [6] (r1.map pairD) _ (EG x0 x1 g none x4 none none) = _
    rw [ih, ec, List.map_append, List.map_map, List.append_assoc]
    rfl
theorem eob_ok (r1 r2 : Row) (h2 : r2.length ≤ 100000) (hl : (eob r1 r2).length ≤ 1000000) : ∃ r, m__edges_of_both (env0 7 [.d (rowD r1), .d (rowD r2)]) = .rt (.o ((eob r1 r2).map eobD)) r := by
  obtain ⟨y3, y4, e⟩ := grp_loop (some (.d (rowD r1))) (some (.d (rowD r2))) r2 [] none none (by simpa using h2) (fun t ht => nomatch ht)
  have hg : ∀ k, look (grps r2 []) k = (r2.filter fun e => decide (e.1 = k)).map fun e => PyData.int e.2 := fun k => by
    rw [look_grps]
    rfl
  have e2 := edg_loop (some (.d (rowD r1))) (some (.d (rowD r2))) y4 (grps r2 []) r2 hg r1 [] (by simpa using hl)
  rw [List.nil_append] at e2
  refine ⟨back (EG (some (.d (rowD r1))) (some (.d (rowD r2))) (grps r2 []) y3 y4 none none) [3, 5, 6] (EG (some (.d (rowD r1))) (some (.d (rowD r2))) (grps r2 []) none y4 none none), ?_⟩
  have s1 : dFor (mIter 0 (mVar 1)) (bTup 2 (bCons (bName 3) (bCons (bName 4) bNil))) (dApp 0 (mVar 3) (mVar 4)) (EE (some (.d (rowD r1))) (some (.d (rowD r2))) none none) [] = some (EE (some (.d (rowD r1))) (some (.d (rowD r2))) y3 y4, grps r2 []) := e
  have s2 : mLc2 0 (mIter 0 (mVar 0)) (bTup 2 (bCons (bName 3) (bCons (bName 5) bNil))) mYes (mIter 0 (mGetD 2 (mVar 3))) (bName 6) mYes m__edges_of_both_e1 [3, 5, 6] [6] (EG (some (.d (rowD r1))) (some (.d (rowD r2))) (grps r2 []) y3 y4 none none)
      = .ok (.o ((eob r1 r2).map eobD)) (back (EG (some (.d (rowD r1))) (some (.d (rowD r2))) (grps r2 []) y3 y4 none none) [3, 5, 6] (EG (some (.d (rowD r1))) (some (.d (rowD r2))) (grps r2 []) none y4 none none)) := by
    rw [mLc2_k]
    show (match lcL2 0 (bTup 2 (bCons (bName 3) (bCons (bName 5) bNil))) mYes (mIter 0 (mGetD 2 (mVar 3))) (bName 6) mYes m__edges_of_both_e1 [3, 5, 6] [6] (r1.map pairD) [] (EG (some (.d (rowD r1))) (some (.d (rowD r2))) (grps r2 []) none y4 none none) with
      | .ok acc ρw => Z.Res.ok (Z.R.o acc) (back (EG (some (.d (rowD r1))) (some (.d (rowD r2))) (grps r2 []) y3 y4 none none) [3, 5, 6] ρw)
      | _ => Z.Res.no) = _
    rw [e2]
  show (match dFor (mIter 0 (mVar 1)) (bTup 2 (bCons (bName 3) (bCons (bName 4) bNil))) (dApp 0 (mVar 3) (mVar 4)) (EE (some (.d (rowD r1))) (some (.d (rowD r2))) none none) [] with
    | some (ρ1, g1) => rGiveD 2 (mRet 0 (mLc2 0 (mIter 0 (mVar 0)) (bTup 2 (bCons (bName 3) (bCons (bName 5) bNil))) mYes (mIter 0 (mGetD 2 (mVar 3))) (bName 6) mYes m__edges_of_both_e1 [3, 5, 6] [6])) ρ1 g1
    | none => Z.Out.no) = _
  rw [s1]
  show mRet 0 (mLc2 0 (mIter 0 (mVar 0)) (bTup 2 (bCons (bName 3) (bCons (bName 5) bNil))) mYes (mIter 0 (mGetD 2 (mVar 3))) (bName 6) mYes m__edges_of_both_e1 [3, 5, 6] [6]) (EG (some (.d (rowD r1))) (some (.d (rowD r2))) (grps r2 []) y3 y4 none none) = _
  rw [mRet_k, s2, retK_o]
end K05
namespace K05
open PySem L2 Z
/-! ### the pairs that are reached -/
def addP (ps : List (Int × Int)) (es : List (Int × (Int × Int))) : List (Int × Int) := es.foldl (fun ps e => if e.2 ∈ ps then ps else ps ++ [e.2]) ps
theorem addP_nd : ∀ (es : List (Int × (Int × Int))) (ps : List (Int × Int)), ps.Nodup → (addP ps es).Nodup
  | [], _, h => h
  | e :: es, ps, h => by
    show (addP (if e.2 ∈ ps then ps else ps ++ [e.2]) es).Nodup
    refine addP_nd es _ ?_
    split
    · exact h
    · next c =>
      rw [List.nodup_append]
      exact ⟨h, by simp, fun a ha b hb z => by
        rw [List.mem_singleton] at hb
        subst hb
        subst z
        exact c ha⟩
theorem addP_pre : ∀ (es : List (Int × (Int × Int))) (ps : List (Int × Int)), ∃ g, addP ps es = ps ++ g
  | [], ps => ⟨[], by simp [addP]⟩
  | e :: es, ps => by
    show ∃ g, addP (if e.2 ∈ ps then ps else ps ++ [e.2]) es = ps ++ g
    split
    · exact addP_pre es ps
    · obtain ⟨g, h⟩ := addP_pre es (ps ++ [e.2])
      exact ⟨e.2 :: g, by rw [h]; simp⟩
theorem addP_mem : ∀ (es : List (Int × (Int × Int))) (ps : List (Int × Int)) (x : Int × Int), x ∈ addP ps es ↔ x ∈ ps ∨ ∃ e ∈ es, e.2 = x
  | [], ps, x => by simp [addP]
  | e :: es, ps, x => by
    show x ∈ addP (if e.2 ∈ ps then ps else ps ++ [e.2]) es ↔ _
    rw [addP_mem es]
    split
    · next c =>
      constructor
      · rintro (h | ⟨z, hz, ez⟩)
        · exact .inl h
        · exact .inr ⟨z, List.mem_cons_of_mem _ hz, ez⟩
      · rintro (h | ⟨z, hz, ez⟩)
        · exact .inl h
        · rcases List.mem_cons.mp hz with rfl | hz
          · exact .inl (ez ▸ c)
          · exact .inr ⟨z, hz, ez⟩
    · constructor
      · rintro (h | ⟨z, hz, ez⟩)
        · rcases List.mem_append.mp h with h | h
          · exact .inl h
          · exact .inr ⟨e, List.mem_cons_self, (List.mem_singleton.mp h).symm⟩
        · exact .inr ⟨z, List.mem_cons_of_mem _ hz, ez⟩
      · rintro (h | ⟨z, hz, ez⟩)
        · exact .inl (List.mem_append_left _ h)
        · rcases List.mem_cons.mp hz with rfl | hz
          · exact .inl (by rw [ez]; simp)
          · exact .inr ⟨z, hz, ez⟩
abbrev PP (n : Nat) (ra rb : List Row) (ps : List (Int × Int)) (x4 x5 x6 x7 x8 : Option Z.S) : Z.Env := [some (.d (machD n ra)), some (.d (machD n rb)), some (.o (ps.map pairD)), some (.m true (pD ps)), x4, x5, x6, x7, x8]
theorem add_loop (n : Nat) (ra rb : List Row) (x4 x5 x6 : Option Z.S) : ∀ (es : List (Int × (Int × Int))) (ps : List (Int × Int)) (x7 x8 : Option Z.S), ps.length + es.length ≤ 999999 →
    ∃ y7 y8, forL (bTup 2 (bCons (bName 7) (bCons (bName 8) bNil))) m_pairs_of_b1 (es.map eobD) (PP n ra rb ps x4 x5 x6 x7 x8) = .nx (PP n ra rb (addP ps es) x4 x5 x6 y7 y8)
  | [], ps, x7, x8, _ => ⟨x7, x8, rfl⟩
  | e :: es, ps, x7, x8, hl => by
    rw [List.length_cons] at hl
    have rest : ∀ (ps2 : List (Int × Int)), m_pairs_of_b1 (PP n ra rb ps x4 x5 x6 (some (.d (.int e.1))) (some (.d (pairD e.2)))) = .nx (PP n ra rb ps2 x4 x5 x6 (some (.d (.int e.1))) (some (.d (pairD e.2)))) →
        forL (bTup 2 (bCons (bName 7) (bCons (bName 8) bNil))) m_pairs_of_b1 ((e :: es).map eobD) (PP n ra rb ps x4 x5 x6 x7 x8) = forL (bTup 2 (bCons (bName 7) (bCons (bName 8) bNil))) m_pairs_of_b1 (es.map eobD) (PP n ra rb ps2 x4 x5 x6 (some (.d (.int e.1))) (some (.d (pairD e.2)))) := fun ps2 h => by
      rw [List.map_cons]
      show (match m_pairs_of_b1 (PP n ra rb ps x4 x5 x6 (some (.d (.int e.1))) (some (.d (pairD e.2)))) with
        | .nx ρ2 => _
        | .ct ρ2 => _
        | .bk ρ2 => _
        | o => o) = _
      rw [h]
    have im : (atM (pD ps) (.tuple [.int e.2.1, .int e.2.2])).isSome = decide (e.2 ∈ ps) := at_pD ps e.2
    have ea : addP ps (e :: es) = addP (if e.2 ∈ ps then ps else ps ++ [e.2]) es := rfl
    rw [ea]
    by_cases c : e.2 ∈ ps
    · have st : m_pairs_of_b1 (PP n ra rb ps x4 x5 x6 (some (.d (.int e.1))) (some (.d (pairD e.2)))) = .nx (PP n ra rb ps x4 x5 x6 (some (.d (.int e.1))) (some (.d (pairD e.2)))) := by
        rw [decide_eq_true c] at im
        unfold m_pairs_of_b1 PP pairD
        clear c rest hl ea
        walk_at "ev"
      rw [if_pos c, rest _ st]
      exact add_loop n ra rb x4 x5 x6 es ps _ _ (by omega)
    · have st : m_pairs_of_b1 (PP n ra rb ps x4 x5 x6 (some (.d (.int e.1))) (some (.d (pairD e.2)))) = .nx (PP n ra rb (ps ++ [e.2]) x4 x5 x6 (some (.d (.int e.1))) (some (.d (pairD e.2)))) := by
        have pu : putM (pD ps) (.tuple [.int e.2.1, .int e.2.2]) (.bool true) = pD (ps ++ [e.2]) := put_pD ps e.2 c
        have pl : (pD ps).length < 1000000 := by rw [pD_len]; omega
        have nl : ps.length < 1000000 := by omega
        rw [decide_eq_false c] at im
        unfold m_pairs_of_b1 PP pairD
        clear c rest hl ea
        walk_at "ev"
        rw [List.map_append]
        rfl
      rw [if_neg c, rest _ st]
      exact add_loop n ra rb x4 x5 x6 es (ps ++ [e.2]) _ _ (by rw [List.length_append, List.length_singleton]; omega)
/-- the walk: the k-th pair's edges are looked at -/
def turnP (ra rb : List Row) (ps : List (Int × Int)) (k : Nat) : List (Int × Int) := addP ps (eob (ra.getD (ps.getD k (0, 0)).1.toNat []) (rb.getD (ps.getD k (0, 0)).2.toNat []))
def walkP (ra rb : List Row) : Nat → List (Int × Int) → Nat → List (Int × Int)
  | 0, ps, _ => ps
  | m + 1, ps, k => if k < ps.length then walkP ra rb m (turnP ra rb ps k) (k + 1) else ps
theorem eob_len (r1 r2 : Row) : (eob r1 r2).length ≤ r1.length * r2.length := by
  unfold eob
  induction r1 with
  | nil => simp
  | cons e r1 ih =>
    rw [List.flatMap_cons, List.length_append, List.length_map, List.length_cons, Nat.succ_mul]
    have := List.length_filter_le (fun e2 : Int × Int => decide (e2.1 = e.1)) r2
    omega
theorem eob_rg {n : Nat} {ra rb : List Row} (Ma : MOk n ra) (Mb : MOk n rb) {p q : Nat} (hp : p < ra.length) (hq : q < rb.length) : ∀ e ∈ eob (ra.getD p []) (rb.getD q []), (0 ≤ e.2.1 ∧ e.2.1 < (ra.length : Int)) ∧ 0 ≤ e.2.2 ∧ e.2.2 < (rb.length : Int) := fun e he => by
  unfold eob at he
  obtain ⟨x, hx, he⟩ := List.mem_flatMap.mp he
  obtain ⟨y, hy, rfl⟩ := List.mem_map.mp he
  have h1 := Ma.edge _ (row_mem hp) x hx
  have h2 := Mb.edge _ (row_mem hq) y (List.mem_filter.mp hy).1
  exact ⟨⟨h1.2.2.1, h1.2.2.2⟩, h2.2.2.1, h2.2.2.2⟩
end K05
namespace K05
open PySem L2 Z
theorem walkP_pre (ra rb : List Row) : ∀ (m : Nat) (ps : List (Int × Int)) (k : Nat), ∃ g, walkP ra rb m ps k = ps ++ g
  | 0, ps, _ => ⟨[], by simp [walkP]⟩
  | m + 1, ps, k => by
    unfold walkP
    split
    · obtain ⟨g, h⟩ := addP_pre (eob (ra.getD (ps.getD k (0, 0)).1.toNat []) (rb.getD (ps.getD k (0, 0)).2.toNat [])) ps
      obtain ⟨g2, h2⟩ := walkP_pre ra rb m (turnP ra rb ps k) (k + 1)
      refine ⟨g ++ g2, ?_⟩
      rw [h2]
      unfold turnP
      rw [h, List.append_assoc]
    · exact ⟨[], by simp⟩
theorem walkP_len (ra rb : List Row) (m : Nat) (ps : List (Int × Int)) (k : Nat) : ps.length ≤ (walkP ra rb m ps k).length := by
  obtain ⟨g, h⟩ := walkP_pre ra rb m ps k
  rw [h, List.length_append]
  omega
structure PI (ra rb : List Row) (ps : List (Int × Int)) : Prop where
  nd : ps.Nodup
  rg : ∀ p ∈ ps, (0 ≤ p.1 ∧ p.1 < (ra.length : Int)) ∧ 0 ≤ p.2 ∧ p.2 < (rb.length : Int)
theorem PI.turn {n : Nat} {ra rb : List Row} (Ma : MOk n ra) (Mb : MOk n rb) {ps : List (Int × Int)} (h : PI ra rb ps) {k : Nat} (hk : k < ps.length) : PI ra rb (turnP ra rb ps k) := by
  refine ⟨addP_nd _ _ h.nd, fun p hp => ?_⟩
  unfold turnP at hp
  rcases (addP_mem _ _ _).mp hp with hp | ⟨e, he, rfl⟩
  · exact h.rg p hp
  · have em : ps.getD k (0, 0) ∈ ps := by
      rw [List.getD_eq_getElem?_getD, List.getElem?_eq_getElem hk]
      exact List.getElem_mem hk
    have g := h.rg _ em
    exact eob_rg Ma Mb (by omega) (by omega) e he
section
variable {n : Nat} {ra rb : List Row}
theorem pair_turn (Ma : MOk n ra) (Mb : MOk n rb) (hE : ∀ p q : Nat, p < ra.length → q < rb.length → (eob (ra.getD p []) (rb.getD q [])).length ≤ 900000) (ps : List (Int × Int)) (h : PI ra rb ps) (k : Nat) (hk : k < ps.length) (hl : ps.length ≤ 400) (x5 x6 x7 x8 : Option Z.S) :
    ((turnP ra rb ps k).length ≤ 400 ∧ ∃ y5 y6 y7 y8, m_pairs_of_b2 (PP n ra rb ps (some (.d (.int (k : Int)))) x5 x6 x7 x8) = .nx (PP n ra rb (turnP ra rb ps k) (some (.d (.int ((k + 1 : Nat) : Int)))) y5 y6 y7 y8)) ∨
    (400 < (turnP ra rb ps k).length ∧ ∃ ρ, m_pairs_of_b2 (PP n ra rb ps (some (.d (.int (k : Int)))) x5 x6 x7 x8) = .exc 7 ρ) := by
  obtain ⟨⟨p, q⟩, eg⟩ : ∃ g : Int × Int, g = ps[k] := ⟨_, rfl⟩
  have hg : (p, q) ∈ ps := by rw [eg]; exact List.getElem_mem hk
  have rg := h.rg _ hg
  have rp : 0 ≤ p ∧ p < (ra.length : Int) := rg.1
  have rq : 0 ≤ q ∧ q < (rb.length : Int) := rg.2
  have eD : ps.getD k (0, 0) = (p, q) := by
    rw [List.getD_eq_getElem?_getD, List.getElem?_eq_getElem hk, ← eg]
    rfl
  have ix : atI (ps.map pairD) (k : Int) = some (.tuple [.int p, .int q]) := by
    rw [atI_nn _ _ (by omega), Int.toNat_natCast, List.getElem?_map, List.getElem?_eq_getElem hk, ← eg]
    rfl
  have i1 : atI (ra.map rowD) p = some (rowD (ra.getD p.toNat [])) := row_ix rp.1 rp.2
  have i2 : atI (rb.map rowD) q = some (rowD (rb.getD q.toNat [])) := row_ix rq.1 rq.2
  have hE1 := hE p.toNat q.toNat (by omega) (by omega)
  have few := row_few (row_mem (rows := rb) (p := q.toNat) (by omega))
  have mf := Mb.few
  obtain ⟨r, eo⟩ := eob_ok (ra.getD p.toNat []) (rb.getD q.toNat []) (by omega) (by omega)
  obtain ⟨y7, y8, el⟩ := add_loop n ra rb (some (.d (.int (k : Int)))) (some (.d (.int p))) (some (.d (.int q))) (eob (ra.getD p.toNat []) (rb.getD q.toNat [])) ps x7 x8 (by omega)
  have eT : turnP ra rb ps k = addP ps (eob (ra.getD p.toNat []) (rb.getD q.toNat [])) := by
    unfold turnP
    rw [eD]
  rw [← eT] at el
  have m1 : gIx (machD n ra) (.int 1) = some (.d (.tuple (ra.map rowD))) := rfl
  have m2 : gIx (machD n rb) (.int 1) = some (.d (.tuple (rb.map rowD))) := rfl
  have c1 : (k : Int) + 1 = ((k + 1 : Nat) : Int) := by push_cast; rfl
  by_cases c : (turnP ra rb ps k).length ≤ 400
  · left
    refine ⟨c, some (.d (.int p)), some (.d (.int q)), y7, y8, ?_⟩
    have dc : decide ((400 : Int) < ((turnP ra rb ps k).length : Int)) = false := decide_eq_false (by omega)
    unfold m_pairs_of_b2
    unfold PP at el ⊢
    generalize turnP ra rb ps k = T at el dc
    clear c few mf hE1 hE rp rq rg hg eg hk h hl Ma Mb eT eD
    walk_at "ev"
  · right
    refine ⟨by omega, ?_⟩
    have dc : decide ((400 : Int) < ((turnP ra rb ps k).length : Int)) = true := decide_eq_true (by omega)
    unfold m_pairs_of_b2
    unfold PP at el ⊢
    generalize turnP ra rb ps k = T at el dc
    clear c few mf hE1 hE rp rq rg hg eg hk h hl Ma Mb eT eD
    walk_at "ev"
    exact ⟨_, rfl⟩
theorem pairs_while (Ma : MOk n ra) (Mb : MOk n rb) (hE : ∀ p q : Nat, p < ra.length → q < rb.length → (eob (ra.getD p []) (rb.getD q [])).length ≤ 900000) : ∀ (N : Nat) (ps : List (Int × Int)) (k : Nat) (x5 x6 x7 x8 : Option Z.S), 401 < N + k → k ≤ ps.length → ps.length ≤ 400 → PI ra rb ps →
    (∃ W y4 y5 y6 y7 y8, whileN m_pairs_of_t1 m_pairs_of_b2 N (PP n ra rb ps (some (.d (.int (k : Int)))) x5 x6 x7 x8) = .nx (PP n ra rb W y4 y5 y6 y7 y8) ∧ W.length ≤ 400 ∧ PI ra rb W ∧ ∀ M, 401 ≤ M + k → walkP ra rb M ps k = W) ∨
    (∃ ρ, whileN m_pairs_of_t1 m_pairs_of_b2 N (PP n ra rb ps (some (.d (.int (k : Int)))) x5 x6 x7 x8) = .exc 7 ρ ∧ ∀ M, 401 ≤ M + k → 400 < (walkP ra rb M ps k).length)
  | 0, ps, k, x5, x6, x7, x8, h1, h2, h3, _ => by omega
  | N + 1, ps, k, x5, x6, x7, x8, h1, h2, h3, h => by
    by_cases c : k < ps.length
    · have tt : m_pairs_of_t1 (PP n ra rb ps (some (.d (.int (k : Int)))) x5 x6 x7 x8) = .ok true (PP n ra rb ps (some (.d (.int (k : Int)))) x5 x6 x7 x8) := by
        have dc : decide ((k : Int) < (ps.length : Int)) = true := decide_eq_true (by omega)
        unfold m_pairs_of_t1 PP
        clear hE h h1 h2 h3 c Ma Mb
        walk_at "ev"
      have wM : ∀ M, 401 ≤ M + k → ∃ M', M = M' + 1 ∧ 401 ≤ M' + (k + 1) ∧ walkP ra rb M ps k = walkP ra rb M' (turnP ra rb ps k) (k + 1) := fun M hM => by
        obtain ⟨M', rfl⟩ : ∃ M', M = M' + 1 := ⟨M - 1, by omega⟩
        refine ⟨M', rfl, by omega, ?_⟩
        show (if k < ps.length then _ else _) = _
        rw [if_pos c]
      have hT := h.turn Ma Mb c
      have kT : k + 1 ≤ (turnP ra rb ps k).length := by
        obtain ⟨g, e⟩ := addP_pre (eob (ra.getD (ps.getD k (0, 0)).1.toNat []) (rb.getD (ps.getD k (0, 0)).2.toNat [])) ps
        unfold turnP
        rw [e, List.length_append]
        omega
      rcases pair_turn Ma Mb hE ps h k c h3 x5 x6 x7 x8 with ⟨k1, y5, y6, y7, y8, e⟩ | ⟨k1, ρ, e⟩
      · rcases pairs_while Ma Mb hE N (turnP ra rb ps k) (k + 1) y5 y6 y7 y8 (by omega) kT k1 hT with ⟨W, z4, z5, z6, z7, z8, e2, j1, j2, j3⟩ | ⟨ρ, e2, j1⟩
        · left
          refine ⟨W, z4, z5, z6, z7, z8, ?_, j1, j2, fun M hM => ?_⟩
          · simp only [whileN, tt, e]
            exact e2
          · obtain ⟨M', _, hM', ew⟩ := wM M hM
            rw [ew]
            exact j3 M' hM'
        · right
          refine ⟨ρ, ?_, fun M hM => ?_⟩
          · simp only [whileN, tt, e]
            exact e2
          · obtain ⟨M', _, hM', ew⟩ := wM M hM
            rw [ew]
            exact j1 M' hM'
      · right
        refine ⟨ρ, ?_, fun M hM => ?_⟩
        · simp only [whileN, tt, e]
        · obtain ⟨M', _, hM', ew⟩ := wM M hM
          rw [ew]
          exact Nat.lt_of_lt_of_le k1 (walkP_len ra rb M' _ _)
    · left
      have tt : m_pairs_of_t1 (PP n ra rb ps (some (.d (.int (k : Int)))) x5 x6 x7 x8) = .ok false (PP n ra rb ps (some (.d (.int (k : Int)))) x5 x6 x7 x8) := by
        have dc : decide ((k : Int) < (ps.length : Int)) = false := decide_eq_false (by omega)
        unfold m_pairs_of_t1 PP
        clear hE h h1 h2 h3 c Ma Mb
        walk_at "ev"
      refine ⟨ps, some (.d (.int (k : Int))), x5, x6, x7, x8, ?_, h3, h, fun M hM => ?_⟩
      · simp only [whileN, tt]
      · cases M with
        | zero => rfl
        | succ M => 
          show (if k < ps.length then _ else _) = _
          rw [if_neg c]
theorem pairs_ok (Ma : MOk n ra) (Mb : MOk n rb) (hE : ∀ p q : Nat, p < ra.length → q < rb.length → (eob (ra.getD p []) (rb.getD q [])).length ≤ 900000) :
    (∃ W r, m_pairs_of (env0 9 [.d (machD n ra), .d (machD n rb)]) = .rt (.o (W.map pairD)) r ∧ W.length ≤ 400 ∧ PI ra rb W ∧ ∀ M, 401 ≤ M → walkP ra rb M [(0, 0)] 0 = W) ∨
    (∃ ρ, m_pairs_of (env0 9 [.d (machD n ra), .d (machD n rb)]) = .exc 7 ρ ∧ ∀ M, 401 ≤ M → 400 < (walkP ra rb M [(0, 0)] 0).length) := by
  have oa := Ma.one
  have ob := Mb.one
  have h0 : PI ra rb [(0, 0)] := ⟨by simp, fun p hp => by rw [List.mem_singleton] at hp; subst hp; exact ⟨⟨by decide, by show (0 : Int) < _; omega⟩, by decide, by show (0 : Int) < _; omega⟩⟩
  have ca : m_check_machine (env0 1 [.d (machD n ra)]) = .nx [some (.d (machD n ra))] := check_mach Ma
  have cb : m_check_machine (env0 1 [.d (machD n rb)]) = .nx [some (.d (machD n rb))] := check_mach Mb
  have ma0 : gIx (machD n ra) (.int 0) = some (.d (.int (n : Int))) := rfl
  have mb0 : gIx (machD n rb) (.int 0) = some (.d (.int (n : Int))) := rfl
  have sl : m_check_same_letters (env0 2 [.d (machD n ra), .d (machD n rb)]) = .nx [some (.d (machD n ra)), some (.d (machD n rb))] := by
    unfold m_check_same_letters m_check_same_letters_s1
    clear h0 hE Ma Mb oa ob ca cb
    walk_at "st"
    walk_at "ev"
  have bo : ∃ r, m__check_both (env0 2 [.d (machD n ra), .d (machD n rb)]) = .nx r := by
    unfold m__check_both m__check_both_s1 m__check_both_s2 m__check_both_s3
    clear h0 hE Ma Mb oa ob ma0 mb0
    walk_at "st"
    walk_at "ev"
    exact ⟨_, rfl⟩
  obtain ⟨rb', eb⟩ := bo
  have q1 : m_pairs_of_s1 (env0 9 [.d (machD n ra), .d (machD n rb)]) = .nx [some (.d (machD n ra)), some (.d (machD n rb)), none, none, none, none, none, none, none] := by
    unfold m_pairs_of_s1
    clear h0 hE Ma Mb oa ob ca cb ma0 mb0 sl
    walk_at "st"
    walk_at "ev"
  have q2 : m_pairs_of_s2 [some (.d (machD n ra)), some (.d (machD n rb)), none, none, none, none, none, none, none] = .nx [some (.d (machD n ra)), some (.d (machD n rb)), some (.o [.tuple [.int 0, .int 0]]), none, none, none, none, none, none] := by
    unfold m_pairs_of_s2
    clear h0 hE Ma Mb oa ob ca cb ma0 mb0 sl eb q1
    walk_at "ev"
  have q3 : m_pairs_of_s3 [some (.d (machD n ra)), some (.d (machD n rb)), some (.o [.tuple [.int 0, .int 0]]), none, none, none, none, none, none] = .nx [some (.d (machD n ra)), some (.d (machD n rb)), some (.o [.tuple [.int 0, .int 0]]), some (.m true [(.tuple [.int 0, .int 0], .bool true)]), none, none, none, none, none] := by
    unfold m_pairs_of_s3
    clear h0 hE Ma Mb oa ob ca cb ma0 mb0 sl eb q1 q2
    walk_at "ev"
  have q4 : m_pairs_of_s4 [some (.d (machD n ra)), some (.d (machD n rb)), some (.o [.tuple [.int 0, .int 0]]), some (.m true [(.tuple [.int 0, .int 0], .bool true)]), none, none, none, none, none] = .nx (PP n ra rb [(0, 0)] (some (.d (.int ((0 : Nat) : Int)))) none none none none) := by
    unfold m_pairs_of_s4
    clear h0 hE Ma Mb oa ob ca cb ma0 mb0 sl eb q1 q2 q3
    walk_at "ev"
    rfl
  have hf : 401 < fuel + 0 := fuel_gt (by decide)
  unfold m_pairs_of
  rw [seq_nx q1, seq_nx q2, seq_nx q3, seq_nx q4]
  rcases pairs_while Ma Mb hE fuel [(0, 0)] 0 none none none none hf (Nat.zero_le _) (by decide) h0 with ⟨W, y4, y5, y6, y7, y8, e, j1, j2, j3⟩ | ⟨ρ, e, j1⟩
  · left
    refine ⟨W, [some (.d (machD n ra)), some (.d (machD n rb)), none, some (.m true (pD W)), y4, y5, y6, y7, y8], ?_, j1, j2, fun M hM => j3 M (by omega)⟩
    unfold m_pairs_of_s5
    rw [seq_nx e]
    rfl
  · right
    refine ⟨ρ, ?_, fun M hM => j1 M (by omega)⟩
    unfold m_pairs_of_s5
    rw [mSeq_k, e]
    rfl
end
end K05
namespace K05
open PySem L2 Z
/-! ### the pairs' numbers -/
def numL (W : List (Int × Int)) (m : Nat) : List (Z.D × Z.D) := (List.range m).map fun k : Nat => (pairD (W.getD k (0, 0)), PyData.int (k : Int))
theorem key_pair (p q : Int × Int) : decide (toNK (pairD p) = toNK (pairD q)) = decide (p = q) := by
  refine decide_eq_decide.mpr ⟨fun h => ?_, fun h => by rw [h]⟩
  obtain ⟨a, b⟩ := p
  obtain ⟨c, d⟩ := q
  simpa [pairD, toNK, toNK.toNKs] using h
theorem at_numL (W : List (Int × Int)) (p : Int × Int) : ∀ m, (∀ k, k < m → W.getD k (0, 0) ≠ p) → atM (numL W m) (pairD p) = none := fun m h => by
  unfold atM numL
  have : ((List.range m).map fun k : Nat => (pairD (W.getD k (0, 0)), PyData.int (k : Int))).find? (fun q => decide (toNK q.1 = toNK (pairD p))) = none := by
    rw [List.find?_eq_none]
    intro x hx
    obtain ⟨k, hk, rfl⟩ := List.mem_map.mp hx
    rw [key_pair, decide_eq_true_eq]
    exact h k (List.mem_range.mp hk)
  rw [this]
  rfl
theorem put_numL (W : List (Int × Int)) (m : Nat) (h : ∀ k, k < m → W.getD k (0, 0) ≠ W.getD m (0, 0)) : putM (numL W m) (pairD (W.getD m (0, 0))) (.int (m : Int)) = numL W (m + 1) := by
  unfold putM
  rw [at_numL W _ m h, if_neg (by simp)]
  unfold numL
  rw [List.range_succ, List.map_append]
  rfl
theorem at_num (W : List (Int × Int)) (nd : W.Nodup) (j : Nat) (hj : j < W.length) : ∀ m, j < m → m ≤ W.length → atM (numL W m) (pairD (W.getD j (0, 0))) = some (.int (j : Int))
  | 0, h, _ => absurd h (Nat.not_lt_zero _)
  | m + 1, h, hm => by
    have e : numL W (m + 1) = numL W m ++ [(pairD (W.getD m (0, 0)), PyData.int (m : Int))] := by
      unfold numL
      rw [List.range_succ, List.map_append]
      rfl
    by_cases c : j < m
    · have ih := at_num W nd j hj m c (by omega)
      unfold atM at ih ⊢
      rw [e, List.find?_append]
      cases q : (numL W m).find? (fun q => decide (toNK q.1 = toNK (pairD (W.getD j (0, 0))))) with
      | none => rw [q] at ih; cases ih
      | some x => rw [q] at ih; exact ih
    · have jm : j = m := by omega
      subst jm
      have no := at_numL W (W.getD j (0, 0)) j fun k hk z => by
        rw [List.getD_eq_getElem?_getD, List.getD_eq_getElem?_getD, List.getElem?_eq_getElem (show k < W.length by omega), List.getElem?_eq_getElem hj] at z
        exact List.pairwise_iff_getElem.mp nd k j (by omega) hj hk (by simpa using z)
      unfold atM at no ⊢
      rw [e, List.find?_append]
      have q : (numL W j).find? (fun q => decide (toNK q.1 = toNK (pairD (W.getD j (0, 0))))) = none := by
        cases q : (numL W j).find? (fun q => decide (toNK q.1 = toNK (pairD (W.getD j (0, 0))))) with
        | none => rfl
        | some x => rw [q] at no; cases no
      rw [q, List.find?_cons, key_pair]
      simp
theorem num_run (x0 x1 x6 x7 x8 x9 x10 x11 : Option Z.S) (W : List (Int × Int)) (nd : W.Nodup) (hl : W.length ≤ 1000) : ∀ (r m : Nat), m + r = W.length →
    dcLM 0 true (bTup 2 (bCons (bName 4) (bCons (bName 5) bNil))) mYes (mVar 5) (mVar 4) [4, 5] ((List.range' m r).map fun k : Nat => PyData.tuple [.int (k : Int), pairD (W.getD k (0, 0))]) (numL W m) [x0, x1, some (.d (.list (W.map pairD))), none, none, none, x6, x7, x8, x9, x10, x11]
      = .ok (numL W W.length) [x0, x1, some (.d (.list (W.map pairD))), none, none, none, x6, x7, x8, x9, x10, x11]
  | 0, m, h => by
    have : m = W.length := by omega
    subst this
    rfl
  | r + 1, m, h => by
    have hk : keyOk true (pairD (W.getD m (0, 0))) = true := keyOk_pair _ _
    have hm : (numL W m).length < 1000000 := by
      unfold numL
      rw [List.length_map, List.length_range]
      omega
    have pu := put_numL W m fun k hk z => by
      rw [List.getD_eq_getElem?_getD, List.getD_eq_getElem?_getD, List.getElem?_eq_getElem (show k < W.length by omega), List.getElem?_eq_getElem (show m < W.length by omega)] at z
      exact List.pairwise_iff_getElem.mp nd k m (by omega) (by omega) hk (by simpa using z)
    rw [List.range'_succ, List.map_cons]
    show (if keyOk true (pairD (W.getD m (0, 0))) = true ∧ (numL W m).length < 1000000 then dcLM 0 true (bTup 2 (bCons (bName 4) (bCons (bName 5) bNil))) mYes (mVar 5) (mVar 4) [4, 5] ((List.range' (m + 1) r).map fun k : Nat => PyData.tuple [.int (k : Int), pairD (W.getD k (0, 0))]) (putM (numL W m) (pairD (W.getD m (0, 0))) (.int (m : Int))) [x0, x1, some (.d (.list (W.map pairD))), none, none, none, x6, x7, x8, x9, x10, x11] else .no) = _
    rw [if_pos ⟨hk, hm⟩, pu]
    exact num_run x0 x1 x6 x7 x8 x9 x10 x11 W nd hl r (m + 1) (by omega)
end K05
namespace K05
open PySem L2 Z
theorem num_enum (W : List (Int × Int)) : enumD (W.map pairD) = (List.range' 0 W.length).map fun k : Nat => PyData.tuple [.int (k : Int), pairD (W.getD k (0, 0))] := by
  unfold enumD
  rw [List.length_map, List.range_eq_range']
  refine List.map_congr_left fun k hk => ?_
  have hk : k < W.length := by
    rw [← List.range_eq_range', List.mem_range] at hk
    exact hk
  rw [List.getD_eq_getElem?_getD, List.getElem?_map, List.getElem?_eq_getElem hk, List.getD_eq_getElem?_getD, List.getElem?_eq_getElem hk]
  rfl
theorem number_ok (x0 x1 : Option Z.S) (W : List (Int × Int)) (nd : W.Nodup) (hl : W.length ≤ 1000) : m_product_s2 [x0, x1, some (.o (W.map pairD)), none, none, none, none, none, none, none, none, none] = .nx [x0, x1, some (.d (.list (W.map pairD))), some (.m true (numL W W.length)), none, none, none, none, none, none, none, none] := by
  have e := num_run x0 x1 none none none none none none W nd hl W.length 0 (by omega)
  have en : mEnum 0 (mCons (mVar 2) mNil) [x0, x1, some (.o (W.map pairD)), none, none, none, none, none, none, none, none, none] = .ok (enumD (W.map pairD)) [x0, x1, some (.d (.list (W.map pairD))), none, none, none, none, none, none, none, none, none] := rfl
  unfold m_product_s2 mDcM
  rw [en]
  show (match dcLM 0 true (bTup 2 (bCons (bName 4) (bCons (bName 5) bNil))) mYes (mVar 5) (mVar 4) [4, 5] (enumD (W.map pairD)) [] [x0, x1, some (.d (.list (W.map pairD))), none, none, none, none, none, none, none, none, none] with
    | .ok acc ρw => Z.Out.nx ((back [x0, x1, some (.d (.list (W.map pairD))), none, none, none, none, none, none, none, none, none] [4, 5] ρw).set 3 (some (.m true acc)))
    | _ => Z.Out.no) = _
  rw [num_enum]
  have e0 : numL W 0 = [] := rfl
  rw [e0] at e
  rw [e]
  rfl
/-- the number of a pair -/
theorem at_idx (W : List (Int × Int)) (nd : W.Nodup) (p : Int × Int) (hp : p ∈ W) : atM (numL W W.length) (pairD p) = some (.int ((W.idxOf p : Nat) : Int)) := by
  have hj : W.idxOf p < W.length := List.idxOf_lt_length_iff.mpr hp
  have := at_num W nd (W.idxOf p) hj W.length hj (Nat.le_refl _)
  rw [List.getD_eq_getElem?_getD, List.getElem?_eq_getElem hj] at this
  have e : (some W[W.idxOf p]).getD (0, 0) = p := List.getElem_idxOf hj
  rw [e] at this
  exact this
def rowP (ra rb : List Row) (W : List (Int × Int)) (pq : Int × Int) : Row := psort ((eob (ra.getD pq.1.toNat []) (rb.getD pq.2.toNat [])).map fun x => (x.1, ((W.idxOf x.2 : Nat) : Int)))
abbrev QP (n : Nat) (ra rb : List Row) (W : List (Int × Int)) (rs : List Row) (many : Nat) (x8 x9 x10 : Option Z.S) : Z.Env := [some (.d (machD n ra)), some (.d (machD n rb)), some (.d (.list (W.map pairD))), some (.m true (numL W W.length)), none, none, some (.o (rs.map rowD)), some (.d (.int (many : Int))), x8, x9, x10, none]
theorem row_turnP {n : Nat} {ra rb : List Row} (Mb : MOk n rb) (W : List (Int × Int)) (nd : W.Nodup) (p q : Int) (rp : 0 ≤ p ∧ p < (ra.length : Int)) (rq : 0 ≤ q ∧ q < (rb.length : Int)) (hE : (eob (ra.getD p.toNat []) (rb.getD q.toNat [])).length ≤ 900000)
    (hW : ∀ x ∈ eob (ra.getD p.toNat []) (rb.getD q.toNat []), x.2 ∈ W) (rs : List Row) (hrs : rs.length ≤ 1000) (many : Nat) (x10 : Option Z.S) :
    (many + (eob (ra.getD p.toNat []) (rb.getD q.toNat [])).length ≤ 6000 ∧ ∃ y10, m_product_b1 (QP n ra rb W rs many (some (.d (.int p))) (some (.d (.int q))) x10) = .nx (QP n ra rb W (rs ++ [rowP ra rb W (p, q)]) (many + (eob (ra.getD p.toNat []) (rb.getD q.toNat [])).length) (some (.d (.int p))) (some (.d (.int q))) y10)) ∨
    (6000 < many + (eob (ra.getD p.toNat []) (rb.getD q.toNat [])).length ∧ ∃ ρ, m_product_b1 (QP n ra rb W rs many (some (.d (.int p))) (some (.d (.int q))) x10) = .exc 7 ρ) := by
  have i1 : atI (ra.map rowD) p = some (rowD (ra.getD p.toNat [])) := row_ix rp.1 rp.2
  have i2 : atI (rb.map rowD) q = some (rowD (rb.getD q.toNat [])) := row_ix rq.1 rq.2
  have few := row_few (row_mem (rows := rb) (p := q.toNat) (by omega))
  have mf := Mb.few
  obtain ⟨r, eo⟩ := eob_ok (ra.getD p.toNat []) (rb.getD q.toNat []) (by omega) (by omega)
  have m1 : gIx (machD n ra) (.int 1) = some (.d (.tuple (ra.map rowD))) := rfl
  have m2 : gIx (machD n rb) (.int 1) = some (.d (.tuple (rb.map rowD))) := rfl
  have eR : rowP ra rb W (p, q) = psort ((eob (ra.getD p.toNat []) (rb.getD q.toNat [])).map fun x => (x.1, ((W.idxOf x.2 : Nat) : Int))) := rfl
  generalize eob (ra.getD p.toNat []) (rb.getD q.toNat []) = es at hE hW eo eR ⊢
  have c1 : (many : Int) + (es.length : Int) = ((many + es.length : Nat) : Int) := by push_cast; rfl
  by_cases c : many + es.length ≤ 6000
  · left
    refine ⟨c, some (.o (es.map eobD)), ?_⟩
    have dc : decide ((6000 : Int) < ((many + es.length : Nat) : Int)) = false := decide_eq_false (by omega)
    have lc := lcL_over (P := 0) (b := bTup 2 (bCons (bName 11) (bCons (bName 5) bNil))) (mt := mYes) (me := m_product_e1) (vs := [11, 5])
      (ρ := [some (.d (machD n ra)), some (.d (machD n rb)), some (.d (.list (W.map pairD))), some (.m true (numL W W.length)), none, none, some (.o (rs.map rowD)), some (.d (.int ((many + es.length : Nat) : Int))), some (.d (.int p)), some (.d (.int q)), none, none]) eobD (fun _ => true) (fun x => pairD (x.1, ((W.idxOf x.2 : Nat) : Int))) es []
      (fun x hx => ⟨[some (.d (machD n ra)), some (.d (machD n rb)), some (.d (.list (W.map pairD))), some (.m true (numL W W.length)), none, some (.d (pairD x.2)), some (.o (rs.map rowD)), some (.d (.int ((many + es.length : Nat) : Int))), some (.d (.int p)), some (.d (.int q)), none, some (.d (.int x.1))], rfl, rfl, fun _ => by
        have ax := at_idx W nd x.2 (hW x hx)
        have hk : keyOk true (pairD x.2) = true := keyOk_pair _ _
        unfold m_product_e1
        clear eo i1 i2 m1 m2 few mf c dc c1 hW hE eR hx rp rq nd Mb hrs
        walk_at "ev"
        rfl, rfl⟩) (by simp; omega)
    rw [List.nil_append, filter_yes] at lc
    have em : es.map (fun x => pairD (x.1, ((W.idxOf x.2 : Nat) : Int))) = (es.map fun x => (x.1, ((W.idxOf x.2 : Nat) : Int))).map pairD := by
      rw [List.map_map]
      rfl
    rw [em] at lc
    have so := cSortA_p (es.map fun x => (x.1, ((W.idxOf x.2 : Nat) : Int)))
    have rl : rs.length < 1000000 := by omega
    have er : rowD (rowP ra rb W (p, q)) = .tuple ((psort (es.map fun x => (x.1, ((W.idxOf x.2 : Nat) : Int)))).map pairD) := by rw [eR]; rfl
    unfold m_product_b1 QP
    rw [List.map_append, List.map_cons, List.map_nil, er]
    clear few mf c hW hE eR rp rq nd Mb hrs er em
    walk_at "ev"
  · right
    refine ⟨by omega, ?_⟩
    have dc : decide ((6000 : Int) < ((many + es.length : Nat) : Int)) = true := decide_eq_true (by omega)
    unfold m_product_b1 QP
    clear few mf c hW hE eR rp rq nd Mb hrs
    walk_at "ev"
    exact ⟨_, rfl⟩
end K05
namespace K05
open PySem L2 Z
def edg (ra rb : List Row) (pq : Int × Int) : List (Int × (Int × Int)) := eob (ra.getD pq.1.toNat []) (rb.getD pq.2.toNat [])
def Cl (ra rb : List Row) (W : List (Int × Int)) (pq : Int × Int) : Prop := ∀ e ∈ edg ra rb pq, e.2 ∈ W
/-- where the walk has come to its end, nothing leads out -/
theorem walk_closed (ra rb : List Row) : ∀ (M : Nat) (ps : List (Int × Int)) (k : Nat), k ≤ ps.length → (∀ j, j < k → Cl ra rb ps (ps.getD j (0, 0))) → (walkP ra rb M ps k).length ≤ M + k → ∀ j, j < (walkP ra rb M ps k).length → Cl ra rb (walkP ra rb M ps k) ((walkP ra rb M ps k).getD j (0, 0))
  | 0, ps, k, h1, h2, h3, j, hj => by
    have hw : walkP ra rb 0 ps k = ps := rfl
    rw [hw] at h3 hj ⊢
    exact h2 j (by omega)
  | M + 1, ps, k, h1, h2, h3, j, hj => by
    by_cases c : k < ps.length
    · have ew : walkP ra rb (M + 1) ps k = walkP ra rb M (turnP ra rb ps k) (k + 1) := by
        show (if k < ps.length then _ else _) = _
        rw [if_pos c]
      rw [ew] at h3 hj ⊢
      obtain ⟨g, eg⟩ := addP_pre (eob (ra.getD (ps.getD k (0, 0)).1.toNat []) (rb.getD (ps.getD k (0, 0)).2.toNat [])) ps
      have et : turnP ra rb ps k = ps ++ g := eg
      have pre : ∀ i, i < ps.length → (turnP ra rb ps k).getD i (0, 0) = ps.getD i (0, 0) := fun i hi => by
        rw [et, List.getD_eq_getElem?_getD, List.getD_eq_getElem?_getD, List.getElem?_append_left hi]
      refine walk_closed ra rb M (turnP ra rb ps k) (k + 1) (by rw [et, List.length_append]; omega) (fun i hi e he => ?_) (by omega) j hj
      unfold turnP
      rw [addP_mem]
      by_cases ik : i < k
      · rw [pre i (by omega)] at he
        exact .inl (h2 i ik e he)
      · have : i = k := by omega
        subst this
        rw [pre i c] at he
        exact .inr ⟨e, he, rfl⟩
    · have ew : walkP ra rb (M + 1) ps k = ps := by
        show (if k < ps.length then _ else _) = _
        rw [if_neg c]
      rw [ew] at h3 hj ⊢
      exact h2 j (by omega)
theorem all_closed {ra rb : List Row} {W : List (Int × Int)} (hl : W.length ≤ 400) (hw : ∀ M, 401 ≤ M → walkP ra rb M [(0, 0)] 0 = W) : ∀ p ∈ W, Cl ra rb W p := fun p hp => by
  have e := hw 401 (Nat.le_refl _)
  obtain ⟨j, hj, rfl⟩ := List.mem_iff_getElem.mp hp
  have := walk_closed ra rb 401 [(0, 0)] 0 (Nat.zero_le _) (fun j hj => absurd hj (Nat.not_lt_zero _)) (by rw [e]; omega) j (by rw [e]; exact hj)
  rw [e, List.getD_eq_getElem?_getD, List.getElem?_eq_getElem hj] at this
  exact this
def manyP (ra rb : List Row) (l : List (Int × Int)) : Nat := (l.map fun pq => (edg ra rb pq).length).sum
theorem rows_loopP {n : Nat} {ra rb : List Row} (Mb : MOk n rb) (W : List (Int × Int)) (nd : W.Nodup) (hE : ∀ p q : Nat, p < ra.length → q < rb.length → (eob (ra.getD p []) (rb.getD q [])).length ≤ 900000) :
    ∀ (l : List (Int × Int)) (rs : List Row) (many : Nat) (x8 x9 x10 : Option Z.S), (∀ p ∈ l, ((0 ≤ p.1 ∧ p.1 < (ra.length : Int)) ∧ 0 ≤ p.2 ∧ p.2 < (rb.length : Int)) ∧ Cl ra rb W p) → rs.length + l.length ≤ 1000 → many ≤ 6000 →
    (many + manyP ra rb l ≤ 6000 ∧ ∃ y8 y9 y10, forL (bTup 2 (bCons (bName 8) (bCons (bName 9) bNil))) m_product_b1 (l.map pairD) (QP n ra rb W rs many x8 x9 x10) = .nx (QP n ra rb W (rs ++ l.map (rowP ra rb W)) (many + manyP ra rb l) y8 y9 y10)) ∨
    (6000 < many + manyP ra rb l ∧ ∃ ρ, forL (bTup 2 (bCons (bName 8) (bCons (bName 9) bNil))) m_product_b1 (l.map pairD) (QP n ra rb W rs many x8 x9 x10) = .exc 7 ρ)
  | [], rs, many, x8, x9, x10, _, _, hm => .inl ⟨by simpa [manyP] using hm, x8, x9, x10, by simp [forL, manyP]⟩
  | p :: l, rs, many, x8, x9, x10, h, hl, hm => by
    rw [List.length_cons] at hl
    have hp := h p List.mem_cons_self
    have em : manyP ra rb (p :: l) = (edg ra rb p).length + manyP ra rb l := by
      unfold manyP
      rw [List.map_cons, List.sum_cons]
    have b1 : bTup 2 (bCons (bName 8) (bCons (bName 9) bNil)) (pairD p) (QP n ra rb W rs many x8 x9 x10) = some (QP n ra rb W rs many (some (.d (.int p.1))) (some (.d (.int p.2))) x10) := rfl
    rw [em, List.map_cons]
    rcases row_turnP Mb W nd p.1 p.2 hp.1.1 hp.1.2 (hE _ _ (by omega) (by omega)) hp.2 rs (by omega) many x10 with ⟨k1, y10, e⟩ | ⟨k1, ρ, e⟩
    · have k1 : many + (edg ra rb p).length ≤ 6000 := k1
      rcases rows_loopP Mb W nd hE l (rs ++ [rowP ra rb W p]) (many + (edg ra rb p).length) (some (.d (.int p.1))) (some (.d (.int p.2))) y10 (fun q hq => h q (List.mem_cons_of_mem _ hq)) (by rw [List.length_append, List.length_singleton]; omega) k1 with ⟨j1, z8, z9, z10, e2⟩ | ⟨j1, ρ, e2⟩
      · left
        refine ⟨by omega, z8, z9, z10, ?_⟩
        simp only [forL, b1, e]
        have e2' := e2
        rw [List.append_assoc, Nat.add_assoc] at e2'
        exact e2'
      · right
        refine ⟨by omega, ρ, ?_⟩
        simp only [forL, b1, e]
        exact e2
    · right
      have k1 : 6000 < many + (edg ra rb p).length := k1
      refine ⟨by omega, ρ, ?_⟩
      simp only [forL, b1, e]
theorem product_ok {n : Nat} {ra rb : List Row} (Ma : MOk n ra) (Mb : MOk n rb) (hE : ∀ p q : Nat, p < ra.length → q < rb.length → (eob (ra.getD p []) (rb.getD q [])).length ≤ 900000) :
    (∃ W r, m_product (env0 12 [.d (machD n ra), .d (machD n rb)]) = .rt (.d (machD n (W.map (rowP ra rb W)))) r ∧ W.length ≤ 400 ∧ PI ra rb W ∧ manyP ra rb W ≤ 6000 ∧ ∀ M, 401 ≤ M → walkP ra rb M [(0, 0)] 0 = W) ∨
    (∃ ρ, m_product (env0 12 [.d (machD n ra), .d (machD n rb)]) = .exc 7 ρ ∧ ((∀ M, 401 ≤ M → 400 < (walkP ra rb M [(0, 0)] 0).length) ∨ ∃ W, (∀ M, 401 ≤ M → walkP ra rb M [(0, 0)] 0 = W) ∧ W.length ≤ 400 ∧ 6000 < manyP ra rb W)) := by
  have m0 : gIx (machD n ra) (.int 0) = some (.d (.int (n : Int))) := rfl
  rcases pairs_ok Ma Mb hE with ⟨W, r, e, j1, j2, j3⟩ | ⟨ρ, e, j1⟩
  · have q1 : m_product_s1 (env0 12 [.d (machD n ra), .d (machD n rb)]) = .nx [some (.d (machD n ra)), some (.d (machD n rb)), some (.o (W.map pairD)), none, none, none, none, none, none, none, none, none] := by
      unfold m_product_s1
      clear j1 j2 j3 hE Ma Mb
      walk_at "st"
      walk_at "ev"
    have q2 := number_ok (some (.d (machD n ra))) (some (.d (machD n rb))) W j2.nd (by omega)
    have q3 : m_product_s3 [some (.d (machD n ra)), some (.d (machD n rb)), some (.d (.list (W.map pairD))), some (.m true (numL W W.length)), none, none, none, none, none, none, none, none] = .nx [some (.d (machD n ra)), some (.d (machD n rb)), some (.d (.list (W.map pairD))), some (.m true (numL W W.length)), none, none, some (.o []), none, none, none, none, none] := rfl
    have q4 : m_product_s4 [some (.d (machD n ra)), some (.d (machD n rb)), some (.d (.list (W.map pairD))), some (.m true (numL W W.length)), none, none, some (.o []), none, none, none, none, none] = .nx (QP n ra rb W [] 0 none none none) := rfl
    have it : mIter 0 (mVar 2) (QP n ra rb W [] 0 none none none) = .ok (W.map pairD) (QP n ra rb W [] 0 none none none) := rfl
    have cl := all_closed j1 j3
    unfold m_product
    rw [seq_nx q1, seq_nx q2, seq_nx q3, seq_nx q4]
    rcases rows_loopP Mb W j2.nd hE W [] 0 none none none (fun p hp => ⟨j2.rg p hp, cl p hp⟩) (by simp; omega) (Nat.zero_le _) with ⟨k1, y8, y9, y10, e5⟩ | ⟨k1, ρ, e5⟩
    · left
      rw [Nat.zero_add] at k1 e5
      rw [List.nil_append] at e5
      have q5 : m_product_s5 (QP n ra rb W [] 0 none none none) = .nx (QP n ra rb W (W.map (rowP ra rb W)) (manyP ra rb W) y8 y9 y10) := by
        unfold m_product_s5
        rw [mFor_k, it, forK_ok, e5]
      refine ⟨W, QP n ra rb W (W.map (rowP ra rb W)) (manyP ra rb W) y8 y9 y10, ?_, j1, j2, k1, j3⟩
      rw [seq_nx q5]
      unfold m_product_s6 QP
      have ed : machD n (W.map (rowP ra rb W)) = .tuple [.int n, .tuple ((W.map (rowP ra rb W)).map rowD)] := rfl
      rw [ed]
      clear ed q1 q2 q3 q4 q5 e5 it cl e j1 j2 j3 k1 hE Ma Mb
      walk_at "ev"
    · right
      rw [Nat.zero_add] at k1
      refine ⟨ρ, ?_, .inr ⟨W, j3, j1, k1⟩⟩
      have q5 : m_product_s5 (QP n ra rb W [] 0 none none none) = .exc 7 ρ := by
        unfold m_product_s5
        rw [mFor_k, it, forK_ok, e5]
      rw [mSeq_k, q5]
      rfl
  · right
    have q1 : ∃ ρ', m_product_s1 (env0 12 [.d (machD n ra), .d (machD n rb)]) = .exc 7 ρ' := by
      unfold m_product_s1
      clear hE Ma Mb j1
      walk_at "st"
      walk_at "ev"
      exact ⟨_, rfl⟩
    obtain ⟨ρ', q1⟩ := q1
    refine ⟨ρ', ?_, .inl j1⟩
    unfold m_product
    rw [mSeq_k, q1]
    rfl
end K05
namespace K05
open PySem L2 Z
/-! ### the pairs and rows as the law finds them -/
def eo3 (r1 r2 : Row) : List T3 := (eob r1 r2).map fun x => (x.1, x.2.1, x.2.2)
abbrev UE (n : Nat) (ra rb : List Row) (fs : List (Int × Int)) (x3 x4 : Option Z.S) (p q : Int) (es : List T3) (x8 x9 x10 x11 x12 : Option Z.S) : Z.Env := [some (.d (machD n ra)), some (.d (machD n rb)), some (.o (fs.map pairD)), x3, x4, some (.d (.int p)), some (.d (.int q)), some (.o (es.map triD)), x8, x9, x10, x11, x12]
theorem due_in (n : Nat) (ra rb : List Row) (fs : List (Int × Int)) (x3 x4 x12 : Option Z.S) (p q a x : Int) : ∀ (r2 : Row) (es : List T3) (x10 x11 : Option Z.S), es.length + r2.length ≤ 999999 →
    ∃ y10 y11, forL (bTup 2 (bCons (bName 10) (bCons (bName 11) bNil))) m__law_due_b1 (r2.map pairD) (UE n ra rb fs x3 x4 p q es (some (.d (.int a))) (some (.d (.int x))) x10 x11 x12) = .nx (UE n ra rb fs x3 x4 p q (es ++ (r2.filter fun e2 => decide (e2.1 = a)).map fun e2 => (a, x, e2.2)) (some (.d (.int a))) (some (.d (.int x))) y10 y11 x12)
  | [], es, x10, x11, _ => ⟨x10, x11, by simp [forL]⟩
  | e :: r2, es, x10, x11, hl => by
    rw [List.length_cons] at hl
    have b1 : bTup 2 (bCons (bName 10) (bCons (bName 11) bNil)) (pairD e) (UE n ra rb fs x3 x4 p q es (some (.d (.int a))) (some (.d (.int x))) x10 x11 x12) = some (UE n ra rb fs x3 x4 p q es (some (.d (.int a))) (some (.d (.int x))) (some (.d (.int e.1))) (some (.d (.int e.2))) x12) := rfl
    have nl : es.length < 1000000 := by omega
    by_cases c : a = e.1
    · have st : m__law_due_b1 (UE n ra rb fs x3 x4 p q es (some (.d (.int a))) (some (.d (.int x))) (some (.d (.int e.1))) (some (.d (.int e.2))) x12) = .nx (UE n ra rb fs x3 x4 p q (es ++ [(a, x, e.2)]) (some (.d (.int a))) (some (.d (.int x))) (some (.d (.int e.1))) (some (.d (.int e.2))) x12) := by
        have dc : decide (a = e.1) = true := decide_eq_true c
        unfold m__law_due_b1 UE
        clear c hl b1
        walk_at "ev"
        rw [List.map_append]
        rfl
      obtain ⟨y10, y11, ih⟩ := due_in n ra rb fs x3 x4 x12 p q a x r2 (es ++ [(a, x, e.2)]) (some (.d (.int e.1))) (some (.d (.int e.2))) (by rw [List.length_append, List.length_singleton]; omega)
      refine ⟨y10, y11, ?_⟩
      rw [List.map_cons]
      simp only [forL, b1, st]
      rw [ih, List.filter_cons, if_pos (decide_eq_true c.symm), List.map_cons, List.append_assoc]
      rfl
    · have st : m__law_due_b1 (UE n ra rb fs x3 x4 p q es (some (.d (.int a))) (some (.d (.int x))) (some (.d (.int e.1))) (some (.d (.int e.2))) x12) = .nx (UE n ra rb fs x3 x4 p q es (some (.d (.int a))) (some (.d (.int x))) (some (.d (.int e.1))) (some (.d (.int e.2))) x12) := by
        have dc : decide (a = e.1) = false := decide_eq_false c
        unfold m__law_due_b1 UE
        clear c hl b1
        walk_at "ev"
      obtain ⟨y10, y11, ih⟩ := due_in n ra rb fs x3 x4 x12 p q a x r2 es (some (.d (.int e.1))) (some (.d (.int e.2))) (by omega)
      refine ⟨y10, y11, ?_⟩
      rw [List.map_cons]
      simp only [forL, b1, st]
      rw [ih, List.filter_cons, if_neg (by rw [decide_eq_true_eq]; exact fun z => c z.symm)]
theorem due_out (n : Nat) (ra rb : List Row) (fs : List (Int × Int)) (x3 x4 x12 : Option Z.S) (p q : Int) (q0 : 0 ≤ q) (q1 : q < (rb.length : Int)) : ∀ (r1 : Row) (es : List T3) (x8 x9 x10 x11 : Option Z.S), es.length + r1.length * (rb.getD q.toNat []).length ≤ 900000 → (rb.getD q.toNat []).length ≤ 6000 →
    ∃ y8 y9 y10 y11, forL (bTup 2 (bCons (bName 8) (bCons (bName 9) bNil))) m__law_due_b2 (r1.map pairD) (UE n ra rb fs x3 x4 p q es x8 x9 x10 x11 x12) = .nx (UE n ra rb fs x3 x4 p q (es ++ eo3 r1 (rb.getD q.toNat [])) y8 y9 y10 y11 x12)
  | [], es, x8, x9, x10, x11, _, _ => ⟨x8, x9, x10, x11, by simp [forL, eo3, eob]⟩
  | e :: r1, es, x8, x9, x10, x11, hl, h2 => by
    rw [List.length_cons, Nat.succ_mul] at hl
    have b1 : bTup 2 (bCons (bName 8) (bCons (bName 9) bNil)) (pairD e) (UE n ra rb fs x3 x4 p q es x8 x9 x10 x11 x12) = some (UE n ra rb fs x3 x4 p q es (some (.d (.int e.1))) (some (.d (.int e.2))) x10 x11 x12) := rfl
    obtain ⟨y10, y11, ei⟩ := due_in n ra rb fs x3 x4 x12 p q e.1 e.2 (rb.getD q.toNat []) es x10 x11 (by omega)
    have i2 : atI (rb.map rowD) q = some (.tuple ((rb.getD q.toNat []).map pairD)) := row_ix q0 q1
    have m2 : gIx (machD n rb) (.int 1) = some (.d (.tuple (rb.map rowD))) := rfl
    have st : m__law_due_b2 (UE n ra rb fs x3 x4 p q es (some (.d (.int e.1))) (some (.d (.int e.2))) x10 x11 x12) = .nx (UE n ra rb fs x3 x4 p q (es ++ ((rb.getD q.toNat []).filter fun e2 => decide (e2.1 = e.1)).map fun e2 => (e.1, e.2, e2.2)) (some (.d (.int e.1))) (some (.d (.int e.2))) y10 y11 x12) := by
      unfold m__law_due_b2
      unfold UE at ei ⊢
      clear hl h2 b1 q0 q1
      walk_at "ev"
    have fl : ((rb.getD q.toNat []).filter fun e2 => decide (e2.1 = e.1)).length ≤ (rb.getD q.toNat []).length := List.length_filter_le _ _
    obtain ⟨z8, z9, z10, z11, ih⟩ := due_out n ra rb fs x3 x4 x12 p q q0 q1 r1 (es ++ ((rb.getD q.toNat []).filter fun e2 => decide (e2.1 = e.1)).map fun e2 => (e.1, e.2, e2.2)) (some (.d (.int e.1))) (some (.d (.int e.2))) y10 y11 (by rw [List.length_append, List.length_map]; omega) h2
    refine ⟨z8, z9, z10, z11, ?_⟩
    have ec : eo3 (e :: r1) (rb.getD q.toNat []) = (((rb.getD q.toNat []).filter fun e2 => decide (e2.1 = e.1)).map fun e2 => (e.1, e.2, e2.2)) ++ eo3 r1 (rb.getD q.toNat []) := by
      unfold eo3 eob
      rw [List.flatMap_cons, List.map_append, List.map_map]
      rfl
    rw [List.map_cons]
    simp only [forL, b1, st]
    rw [ih, ec, List.append_assoc]
end K05
namespace K05
open PySem L2 Z
/-- both rows rise, so the edges rise -/
theorem eo3_up (r2 : Row) (h2 : r2.Pairwise lexS) : ∀ (r1 : Row), r1.Pairwise lexS → (eo3 r1 r2).Pairwise le3
  | [], _ => by simp [eo3, eob]
  | e :: r1, h1 => by
    rw [List.pairwise_cons] at h1
    have ec : eo3 (e :: r1) r2 = ((r2.filter fun e2 => decide (e2.1 = e.1)).map fun e2 => (e.1, e.2, e2.2)) ++ eo3 r1 r2 := by
      unfold eo3 eob
      rw [List.flatMap_cons, List.map_append, List.map_map]
      rfl
    rw [ec, List.pairwise_append]
    refine ⟨?_, eo3_up r2 h2 r1 h1.2, fun x hx y hy => ?_⟩
    · rw [List.pairwise_map]
      refine (List.Pairwise.and_mem.mp (h2.filter _)).imp fun {a b} hab => ?_
      obtain ⟨ha, hb, hab⟩ := hab
      have ea : a.1 = e.1 := of_decide_eq_true (List.mem_filter.mp ha).2
      have eb : b.1 = e.1 := of_decide_eq_true (List.mem_filter.mp hb).2
      have hab : a.1 < b.1 ∨ (a.1 = b.1 ∧ a.2 < b.2) := hab
      show e.1 < e.1 ∨ (e.1 = e.1 ∧ (e.2 < e.2 ∨ (e.2 = e.2 ∧ a.2 ≤ b.2)))
      omega
    · obtain ⟨e2, he2, rfl⟩ := List.mem_map.mp hx
      unfold eo3 eob at hy
      obtain ⟨z, hz, rfl⟩ := List.mem_map.mp hy
      obtain ⟨e1, he1, hz⟩ := List.mem_flatMap.mp hz
      obtain ⟨e3, he3, rfl⟩ := List.mem_map.mp hz
      have lt : e.1 < e1.1 ∨ (e.1 = e1.1 ∧ e.2 < e1.2) := h1.1 e1 he1
      show e.1 < e1.1 ∨ (e.1 = e1.1 ∧ (e.2 < e1.2 ∨ (e.2 = e1.2 ∧ e2.2 ≤ e3.2)))
      omega
theorem due_add (n : Nat) (ra rb : List Row) (x3 x4 x10 x12 : Option Z.S) (p q : Int) (x7 : Option Z.S) : ∀ (es : List (Int × (Int × Int))) (fs : List (Int × Int)) (x8 x9 x11 : Option Z.S), fs.length + es.length ≤ 999999 →
    ∃ y8 y9 y11, forL (bTup 3 (bCons (bName 8) (bCons (bName 9) (bCons (bName 11) bNil)))) m__law_due_b3 ((es.map fun x => ((x.1, x.2.1, x.2.2) : T3)).map triD) [some (.d (machD n ra)), some (.d (machD n rb)), some (.o (fs.map pairD)), x3, x4, some (.d (.int p)), some (.d (.int q)), x7, x8, x9, x10, x11, x12]
      = .nx [some (.d (machD n ra)), some (.d (machD n rb)), some (.o ((addP fs es).map pairD)), x3, x4, some (.d (.int p)), some (.d (.int q)), x7, y8, y9, x10, y11, x12]
  | [], fs, x8, x9, x11, _ => ⟨x8, x9, x11, rfl⟩
  | e :: es, fs, x8, x9, x11, hl => by
    rw [List.length_cons] at hl
    have b1 : bTup 3 (bCons (bName 8) (bCons (bName 9) (bCons (bName 11) bNil))) (triD (e.1, e.2.1, e.2.2)) [some (.d (machD n ra)), some (.d (machD n rb)), some (.o (fs.map pairD)), x3, x4, some (.d (.int p)), some (.d (.int q)), x7, x8, x9, x10, x11, x12]
        = some [some (.d (machD n ra)), some (.d (machD n rb)), some (.o (fs.map pairD)), x3, x4, some (.d (.int p)), some (.d (.int q)), x7, some (.d (.int e.1)), some (.d (.int e.2.1)), x10, some (.d (.int e.2.2)), x12] := rfl
    have ni := notIn_pairs e.2 fs
    have nl : fs.length < 1000000 := by omega
    have ea : addP fs (e :: es) = addP (if e.2 ∈ fs then fs else fs ++ [e.2]) es := rfl
    rw [ea, List.map_cons, List.map_cons]
    by_cases c : e.2 ∈ fs
    · have st : m__law_due_b3 [some (.d (machD n ra)), some (.d (machD n rb)), some (.o (fs.map pairD)), x3, x4, some (.d (.int p)), some (.d (.int q)), x7, some (.d (.int e.1)), some (.d (.int e.2.1)), x10, some (.d (.int e.2.2)), x12]
          = .nx [some (.d (machD n ra)), some (.d (machD n rb)), some (.o (fs.map pairD)), x3, x4, some (.d (.int p)), some (.d (.int q)), x7, some (.d (.int e.1)), some (.d (.int e.2.1)), x10, some (.d (.int e.2.2)), x12] := by
        rw [decide_eq_true c] at ni
        unfold m__law_due_b3
        clear c hl b1 ea
        walk_at "ev"
      obtain ⟨y8, y9, y11, ih⟩ := due_add n ra rb x3 x4 x10 x12 p q x7 es fs (some (.d (.int e.1))) (some (.d (.int e.2.1))) (some (.d (.int e.2.2))) (by omega)
      refine ⟨y8, y9, y11, ?_⟩
      rw [if_pos c]
      simp only [forL, b1, st]
      exact ih
    · have st : m__law_due_b3 [some (.d (machD n ra)), some (.d (machD n rb)), some (.o (fs.map pairD)), x3, x4, some (.d (.int p)), some (.d (.int q)), x7, some (.d (.int e.1)), some (.d (.int e.2.1)), x10, some (.d (.int e.2.2)), x12]
          = .nx [some (.d (machD n ra)), some (.d (machD n rb)), some (.o ((fs ++ [e.2]).map pairD)), x3, x4, some (.d (.int p)), some (.d (.int q)), x7, some (.d (.int e.1)), some (.d (.int e.2.1)), x10, some (.d (.int e.2.2)), x12] := by
        rw [decide_eq_false c] at ni
        rw [List.map_append]
        unfold m__law_due_b3
        clear c hl b1 ea
        walk_at "ev"
        rfl
      obtain ⟨y8, y9, y11, ih⟩ := due_add n ra rb x3 x4 x10 x12 p q x7 es (fs ++ [e.2]) (some (.d (.int e.1))) (some (.d (.int e.2.1))) (some (.d (.int e.2.2))) (by rw [List.length_append, List.length_singleton]; omega)
      refine ⟨y8, y9, y11, ?_⟩
      rw [if_neg c]
      simp only [forL, b1, st]
      exact ih
end K05
namespace K05
open PySem L2 Z
def lstD (es : List T3) : Z.D := .list (es.map triD)
abbrev VE (n : Nat) (ra rb : List Row) (fs : List (Int × Int)) (rs : List (List T3)) (x4 x5 x6 x7 x8 x9 x10 x11 : Option Z.S) : Z.Env := [some (.d (machD n ra)), some (.d (machD n rb)), some (.o (fs.map pairD)), some (.o (rs.map lstD)), x4, x5, x6, x7, x8, x9, x10, x11, none]
theorem due_turn {n : Nat} {ra rb : List Row} (Ma : MOk n ra) (Mb : MOk n rb) (hE : ∀ p q : Nat, p < ra.length → q < rb.length → (ra.getD p []).length * (rb.getD q []).length ≤ 900000) (fs : List (Int × Int)) (h : PI ra rb fs) (k : Nat) (hk : k < fs.length) (hf : fs.length ≤ 90000) (rs : List (List T3)) (hr : rs.length ≤ 900000) (x5 x6 x7 x8 x9 x10 x11 : Option Z.S) :
    ∃ y5 y6 y7 y8 y9 y10 y11, m__law_due_b4 (VE n ra rb fs rs (some (.d (.int (k : Int)))) x5 x6 x7 x8 x9 x10 x11) = .nx (VE n ra rb (turnP ra rb fs k) (rs ++ [eo3 (ra.getD (fs.getD k (0, 0)).1.toNat []) (rb.getD (fs.getD k (0, 0)).2.toNat [])]) (some (.d (.int (k : Int)))) y5 y6 y7 y8 y9 y10 y11) := by
  obtain ⟨⟨p, q⟩, eg⟩ : ∃ g : Int × Int, g = fs[k] := ⟨_, rfl⟩
  have hg : (p, q) ∈ fs := by rw [eg]; exact List.getElem_mem hk
  have rg := h.rg _ hg
  have rp : 0 ≤ p ∧ p < (ra.length : Int) := rg.1
  have rq : 0 ≤ q ∧ q < (rb.length : Int) := rg.2
  have eD : fs.getD k (0, 0) = (p, q) := by
    rw [List.getD_eq_getElem?_getD, List.getElem?_eq_getElem hk, ← eg]
    rfl
  have ix : atI (fs.map pairD) (k : Int) = some (.tuple [.int p, .int q]) := by
    rw [atI_nn _ _ (by omega), Int.toNat_natCast, List.getElem?_map, List.getElem?_eq_getElem hk, ← eg]
    rfl
  have i1 : atI (ra.map rowD) p = some (.tuple ((ra.getD p.toNat []).map pairD)) := row_ix rp.1 rp.2
  have m1 : gIx (machD n ra) (.int 1) = some (.d (.tuple (ra.map rowD))) := rfl
  have hE1 := hE p.toNat q.toNat (by omega) (by omega)
  have few := row_few (row_mem (rows := rb) (p := q.toNat) (by omega))
  have mf := Mb.few
  obtain ⟨y8, y9, y10, y11, e1⟩ := due_out n ra rb fs (some (.o (rs.map lstD))) (some (.d (.int (k : Int)))) none p q rq.1 rq.2 (ra.getD p.toNat []) [] x8 x9 x10 x11 (by simpa using hE1) (by omega)
  rw [List.nil_append] at e1
  have el := eob_len (ra.getD p.toNat []) (rb.getD q.toNat [])
  have up := eo3_up (rb.getD q.toNat []) (Mb.up _ (row_mem (by omega))) (ra.getD p.toNat []) (Ma.up _ (row_mem (by omega)))
  have so := cSort3_t (eo3 (ra.getD p.toNat []) (rb.getD q.toNat []))
  rw [tsort_id up] at so
  obtain ⟨z8, z9, z11, e2⟩ := due_add n ra rb (some (.o (rs.map lstD))) (some (.d (.int (k : Int)))) y10 none p q (some (.o ((eo3 (ra.getD p.toNat []) (rb.getD q.toNat [])).map triD))) (eob (ra.getD p.toNat []) (rb.getD q.toNat [])) fs y8 y9 y11 (by omega)
  have eT : turnP ra rb fs k = addP fs (eob (ra.getD p.toNat []) (rb.getD q.toNat [])) := by
    unfold turnP
    rw [eD]
  rw [← eT] at e2
  have e2 : forL (bTup 3 (bCons (bName 8) (bCons (bName 9) (bCons (bName 11) bNil)))) m__law_due_b3 ((eo3 (ra.getD p.toNat []) (rb.getD q.toNat [])).map triD) _ = _ := e2
  rw [eD]
  show ∃ y5 y6 y7 y8 y9 y10 y11, _ = Z.Out.nx (VE n ra rb (turnP ra rb fs k) (rs ++ [eo3 (ra.getD p.toNat []) (rb.getD q.toNat [])]) _ y5 y6 y7 y8 y9 y10 y11)
  generalize turnP ra rb fs k = T at e2 ⊢
  generalize eo3 (ra.getD p.toNat []) (rb.getD q.toNat []) = es at e1 e2 so ⊢
  have dk : decide ((fs.length : Int) ≤ (k : Int)) = false := decide_eq_false (by omega)
  have rl : rs.length < 1000000 := by omega
  refine ⟨some (.d (.int p)), some (.d (.int q)), some (.d (.list (es.map triD))), z8, z9, y10, z11, ?_⟩
  have er : (rs ++ [es]).map lstD = rs.map lstD ++ [.list (es.map triD)] := by rw [List.map_append]; rfl
  unfold m__law_due_b4 VE
  rw [er]
  unfold UE at e1
  clear up el few mf hE1 eD rp rq rg hg eg h hk hf hr hE Ma Mb er eT
  simp only [List.map_nil] at e1
  walk_at "ev"
end K05
namespace K05
open PySem L2 Z
def rowOf (ra rb : List Row) (pq : Int × Int) : List T3 := eo3 (ra.getD pq.1.toNat []) (rb.getD pq.2.toNat [])
theorem due_walk {n : Nat} {ra rb : List Row} (Ma : MOk n ra) (Mb : MOk n rb) (hE : ∀ p q : Nat, p < ra.length → q < rb.length → (ra.getD p []).length * (rb.getD q []).length ≤ 900000) (hB : ∀ fs, PI ra rb fs → fs.length ≤ 90000) : ∀ (m k : Nat) (fs : List (Int × Int)) (x4 x5 x6 x7 x8 x9 x10 x11 : Option Z.S), PI ra rb fs → k ≤ fs.length →
    ∃ j y4 y5 y6 y7 y8 y9 y10 y11, forL (bName 4) m__law_due_b4 ((List.range' k m).map fun i : Nat => PyData.int (i : Int)) (VE n ra rb fs ((fs.take k).map (rowOf ra rb)) x4 x5 x6 x7 x8 x9 x10 x11) = .nx (VE n ra rb (walkP ra rb m fs k) (((walkP ra rb m fs k).take j).map (rowOf ra rb)) y4 y5 y6 y7 y8 y9 y10 y11) ∧ PI ra rb (walkP ra rb m fs k) ∧ ((walkP ra rb m fs k).length ≤ m + k → (walkP ra rb m fs k).length ≤ j)
  | 0, k, fs, x4, x5, x6, x7, x8, x9, x10, x11, h, hk => ⟨k, x4, x5, x6, x7, x8, x9, x10, x11, rfl, h, fun z => by rw [Nat.zero_add] at z; exact z⟩
  | m + 1, k, fs, x4, x5, x6, x7, x8, x9, x10, x11, h, hk => by
    have hf := hB fs h
    have b1 : bName 4 (PyData.int (k : Int)) (VE n ra rb fs ((fs.take k).map (rowOf ra rb)) x4 x5 x6 x7 x8 x9 x10 x11) = some (VE n ra rb fs ((fs.take k).map (rowOf ra rb)) (some (.d (.int (k : Int)))) x5 x6 x7 x8 x9 x10 x11) := rfl
    rw [List.range'_succ, List.map_cons]
    by_cases c : k < fs.length
    · obtain ⟨y5, y6, y7, y8, y9, y10, y11, e⟩ := due_turn Ma Mb hE fs h k c hf ((fs.take k).map (rowOf ra rb)) (by rw [List.length_map, List.length_take]; omega) x5 x6 x7 x8 x9 x10 x11
      obtain ⟨g, eg⟩ := addP_pre (eob (ra.getD (fs.getD k (0, 0)).1.toNat []) (rb.getD (fs.getD k (0, 0)).2.toNat [])) fs
      have et : turnP ra rb fs k = fs ++ g := eg
      have er : (fs.take k).map (rowOf ra rb) ++ [eo3 (ra.getD (fs.getD k (0, 0)).1.toNat []) (rb.getD (fs.getD k (0, 0)).2.toNat [])] = ((turnP ra rb fs k).take (k + 1)).map (rowOf ra rb) := by
        have eD : fs.getD k (0, 0) = fs[k] := by
          rw [List.getD_eq_getElem?_getD, List.getElem?_eq_getElem c]
          rfl
        rw [et, List.take_append_of_le_length (by omega), List.take_succ, List.getElem?_eq_getElem c, List.map_append, eD]
        rfl
      rw [er] at e
      have ew : walkP ra rb (m + 1) fs k = walkP ra rb m (turnP ra rb fs k) (k + 1) := by
        show (if k < fs.length then _ else _) = _
        rw [if_pos c]
      rw [ew]
      obtain ⟨j, z4, z5, z6, z7, z8, z9, z10, z11, e2, k1, k2⟩ := due_walk Ma Mb hE hB m (k + 1) (turnP ra rb fs k) (some (.d (.int (k : Int)))) y5 y6 y7 y8 y9 y10 y11 (h.turn Ma Mb c) (by rw [et, List.length_append]; omega)
      refine ⟨j, z4, z5, z6, z7, z8, z9, z10, z11, ?_, k1, fun z => k2 (by omega)⟩
      simp only [forL, b1, e]
      exact e2
    · have ew : walkP ra rb (m + 1) fs k = fs := by
        show (if k < fs.length then _ else _) = _
        rw [if_neg c]
      rw [ew]
      have st : m__law_due_b4 (VE n ra rb fs ((fs.take k).map (rowOf ra rb)) (some (.d (.int (k : Int)))) x5 x6 x7 x8 x9 x10 x11) = .bk (VE n ra rb fs ((fs.take k).map (rowOf ra rb)) (some (.d (.int (k : Int)))) x5 x6 x7 x8 x9 x10 x11) := by
        have dk : decide ((fs.length : Int) ≤ (k : Int)) = true := decide_eq_true (by omega)
        unfold m__law_due_b4 VE
        clear c ew b1 hf hk h hB hE Ma Mb
        walk_at "ev"
      refine ⟨k, some (.d (.int (k : Int))), x5, x6, x7, x8, x9, x10, x11, ?_, h, fun _ => by omega⟩
      simp only [forL, b1, st]
end K05
namespace K05
open PySem L2 Z
/-! ### found.index -/
def keyP (p : Int × Int) : NestedKey := .tup [.num p.1, .num p.2]
theorem keyP_inj {p q : Int × Int} (h : keyP p = keyP q) : p = q := by
  unfold keyP at h
  injection h with h
  simp only [List.cons.injEq, NestedKey.num.injEq, and_true] at h
  exact Prod.ext h.1 h.2
theorem nks_pairs : ∀ W : List (Int × Int), toNK.toNKs (W.map pairD) = some (W.map keyP)
  | [] => rfl
  | p :: W => by
    rw [List.map_cons, List.map_cons]
    simp only [toNK.toNKs, nks_pairs W]
    rfl
theorem idx_key (p : Int × Int) : ∀ W : List (Int × Int), (W.map keyP).idxOf (keyP p) = W.idxOf p
  | [] => rfl
  | q :: W => by
    rw [List.map_cons, List.idxOf_cons, List.idxOf_cons, idx_key p W]
    by_cases c : q = p
    · subst c
      simp
    · have c2 : ¬ keyP q = keyP p := fun z => c (keyP_inj z)
      have e1 : (q == p) = false := by simpa using c
      have e2 : (keyP q == keyP p) = false := by simpa using c2
      rw [e1, e2]
theorem idx_eval (x0 x1 x3 x4 x5 x6 x7 x8 x10 x12 : Option Z.S) (W : List (Int × Int)) (p : Int × Int) (hp : p ∈ W) (hl : W.length ≤ 1000000) :
    mIdx 2 (mTup 0 (mCons (mVar 9) (mCons (mVar 11) mNil))) [x0, x1, some (.o (W.map pairD)), x3, x4, x5, x6, x7, x8, some (.d (.int p.1)), x10, some (.d (.int p.2)), x12] = .ok (.d (.int ((W.idxOf p : Nat) : Int))) [x0, x1, some (.o (W.map pairD)), x3, x4, x5, x6, x7, x8, some (.d (.int p.1)), x10, some (.d (.int p.2)), x12] := by
  show (match toNK.toNKs (W.map pairD), toNK (.tuple [.int p.1, .int p.2]) with
      | some ks, some k => if k.depth ≤ 8 ∧ k ∈ ks ∧ ks.length ≤ 1000000 then Z.Res.ok (Z.R.d (.int ((ks.idxOf k : Nat) : Int))) _ else .no
      | _, _ => .no) = _
  rw [nks_pairs]
  have ek : toNK (.tuple [.int p.1, .int p.2]) = some (keyP p) := rfl
  rw [ek]
  have hd : (keyP p).depth ≤ 8 := by
    unfold keyP
    simp [NestedKey.depth, NestedKey.depthAll]
  show (if (keyP p).depth ≤ 8 ∧ keyP p ∈ W.map keyP ∧ (W.map keyP).length ≤ 1000000 then Z.Res.ok (Z.R.d (.int (((W.map keyP).idxOf (keyP p) : Nat) : Int))) _ else .no) = _
  rw [if_pos ⟨hd, List.mem_map.mpr ⟨p, hp, rfl⟩, by rw [List.length_map]; exact hl⟩, idx_key]
end K05
namespace K05
open PySem L2 Z
def rowL (W : List (Int × Int)) (es : List T3) : Row := psort (es.map fun t => (t.1, ((W.idxOf (t.2.1, t.2.2) : Nat) : Int)))
theorem rowL_eq (ra rb : List Row) (W : List (Int × Int)) (pq : Int × Int) : rowL W (rowOf ra rb pq) = rowP ra rb W pq := by
  unfold rowL rowP rowOf eo3
  rw [List.map_map]
  rfl
abbrev FE (n : Nat) (ra rb : List Row) (W : List (Int × Int)) (rs : List (List T3)) (ts : List Row) (x4 x5 x6 x7 x8 x9 x10 x11 : Option Z.S) : Z.Env := [some (.d (machD n ra)), some (.d (machD n rb)), some (.o (W.map pairD)), some (.d (.list (rs.map lstD))), x4, x5, x6, x7, x8, x9, x10, x11, some (.o (ts.map rowD))]
theorem told_turn (n : Nat) (ra rb : List Row) (W : List (Int × Int)) (hl : W.length ≤ 1000000) (rs : List (List T3)) (ts : List Row) (ht : ts.length ≤ 900000) (es : List T3) (he : es.length ≤ 1000000) (hW : ∀ t ∈ es, (t.2.1, t.2.2) ∈ W) (x4 x5 x6 x8 x9 x10 x11 : Option Z.S) :
    ∃ y8 y9 y11, m__law_due_b5 (FE n ra rb W rs ts x4 x5 x6 (some (.d (lstD es))) x8 x9 x10 x11) = .nx (FE n ra rb W rs (ts ++ [rowL W es]) x4 x5 x6 (some (.d (lstD es))) y8 y9 x10 y11) := by
  have lc := lcL_over (P := 0) (b := bTup 3 (bCons (bName 8) (bCons (bName 9) (bCons (bName 11) bNil)))) (mt := mYes) (me := m__law_due_e1) (vs := [8, 9, 11])
    (ρ := FE n ra rb W rs ts x4 x5 x6 (some (.d (lstD es))) none none x10 none) triD (fun _ => true) (fun t => pairD (t.1, ((W.idxOf (t.2.1, t.2.2) : Nat) : Int))) es []
    (fun t hx => ⟨FE n ra rb W rs ts x4 x5 x6 (some (.d (lstD es))) (some (.d (.int t.1))) (some (.d (.int t.2.1))) x10 (some (.d (.int t.2.2))), rfl, rfl, fun _ => by
      have ax := idx_eval (some (.d (machD n ra))) (some (.d (machD n rb))) (some (.d (.list (rs.map lstD)))) x4 x5 x6 (some (.d (lstD es))) (some (.d (.int t.1))) x10 (some (.o (ts.map rowD))) W (t.2.1, t.2.2) (hW t hx) hl
      unfold m__law_due_e1 FE
      clear hW hx he ht hl
      walk_at "ev"
      rfl, rfl⟩) (by simpa using he)
  rw [List.nil_append, filter_yes] at lc
  have em : es.map (fun t => pairD (t.1, ((W.idxOf (t.2.1, t.2.2) : Nat) : Int))) = (es.map fun t => (t.1, ((W.idxOf (t.2.1, t.2.2) : Nat) : Int))).map pairD := by
    rw [List.map_map]
    rfl
  rw [em] at lc
  have so := cSortA_p (es.map fun t => (t.1, ((W.idxOf (t.2.1, t.2.2) : Nat) : Int)))
  have tl : ts.length < 1000000 := by omega
  have er : rowD (rowL W es) = .tuple ((psort (es.map fun t => (t.1, ((W.idxOf (t.2.1, t.2.2) : Nat) : Int)))).map pairD) := rfl
  unfold m__law_due_b5
  unfold FE lstD at lc ⊢
  rw [List.map_append, List.map_cons, List.map_nil, er]
  clear hW he ht hl er em
  walk_at "ev"
  exact ⟨_, _, _, rfl⟩
theorem told_loop (n : Nat) (ra rb : List Row) (W : List (Int × Int)) (hl : W.length ≤ 1000000) (rs : List (List T3)) : ∀ (l : List (List T3)) (ts : List Row) (x4 x5 x6 x7 x8 x9 x10 x11 : Option Z.S), ts.length + l.length ≤ 900000 → (∀ es ∈ l, es.length ≤ 1000000 ∧ ∀ t ∈ es, (t.2.1, t.2.2) ∈ W) →
    ∃ y7 y8 y9 y11, forL (bName 7) m__law_due_b5 (l.map lstD) (FE n ra rb W rs ts x4 x5 x6 x7 x8 x9 x10 x11) = .nx (FE n ra rb W rs (ts ++ l.map (rowL W)) x4 x5 x6 y7 y8 y9 x10 y11)
  | [], ts, x4, x5, x6, x7, x8, x9, x10, x11, _, _ => ⟨x7, x8, x9, x11, by simp [forL]⟩
  | es :: l, ts, x4, x5, x6, x7, x8, x9, x10, x11, ht, h => by
    rw [List.length_cons] at ht
    have b1 : bName 7 (lstD es) (FE n ra rb W rs ts x4 x5 x6 x7 x8 x9 x10 x11) = some (FE n ra rb W rs ts x4 x5 x6 (some (.d (lstD es))) x8 x9 x10 x11) := rfl
    obtain ⟨y8, y9, y11, e⟩ := told_turn n ra rb W hl rs ts (by omega) es (h es List.mem_cons_self).1 (h es List.mem_cons_self).2 x4 x5 x6 x8 x9 x10 x11
    obtain ⟨z7, z8, z9, z11, e2⟩ := told_loop n ra rb W hl rs l (ts ++ [rowL W es]) x4 x5 x6 (some (.d (lstD es))) y8 y9 x10 y11 (by rw [List.length_append, List.length_singleton]; omega) fun z hz => h z (List.mem_cons_of_mem _ hz)
    refine ⟨z7, z8, z9, z11, ?_⟩
    rw [List.map_cons]
    simp only [forL, b1, e]
    rw [e2, List.map_cons, List.append_assoc]
    rfl
end K05
namespace K05
open PySem L2 Z
theorem due_ok {n : Nat} {ra rb : List Row} (Ma : MOk n ra) (Mb : MOk n rb) (hE : ∀ p q : Nat, p < ra.length → q < rb.length → (ra.getD p []).length * (rb.getD q []).length ≤ 900000) (hB : ∀ fs, PI ra rb fs → fs.length ≤ ra.length * rb.length) (hM : ra.length * rb.length ≤ 90000) :
    ∃ W r, W = walkP ra rb (ra.length * rb.length) [(0, 0)] 0 ∧ PI ra rb W ∧ m__law_due (env0 13 [.d (machD n ra), .d (machD n rb)]) = .rt (.d (.tuple [.list (W.map pairD), machD n (W.map (rowP ra rb W))])) r := by
  have oa := Ma.one
  have ob := Mb.one
  have ha := Ma.most
  have hb := Mb.most
  have h0 : PI ra rb [(0, 0)] := ⟨by simp, fun p hp => by rw [List.mem_singleton] at hp; subst hp; exact ⟨⟨by decide, by show (0 : Int) < _; omega⟩, by decide, by show (0 : Int) < _; omega⟩⟩
  obtain ⟨j, y4, y5, y6, y7, y8, y9, y10, y11, e3, k1, k2⟩ := due_walk Ma Mb hE (fun fs h => Nat.le_trans (hB fs h) hM) (ra.length * rb.length) 0 [(0, 0)] none none none none none none none none h0 (Nat.zero_le _)
  have cl := walk_closed ra rb (ra.length * rb.length) [(0, 0)] 0 (Nat.zero_le _) (fun j hj => absurd hj (Nat.not_lt_zero _)) (hB _ k1)
  have kl := k2 (hB _ k1)
  have wl := hB _ k1
  refine ⟨walkP ra rb (ra.length * rb.length) [(0, 0)] 0, ?_⟩
  generalize eM : ra.length * rb.length = M at *
  generalize walkP ra rb M [(0, 0)] 0 = W at *
  rw [List.take_of_length_le kl] at e3
  have cm : ∀ p ∈ W, Cl ra rb W p := fun p hp => by
    obtain ⟨i, hi, rfl⟩ := List.mem_iff_getElem.mp hp
    have := cl i hi
    rw [List.getD_eq_getElem?_getD, List.getElem?_eq_getElem hi] at this
    exact this
  obtain ⟨z7, z8, z9, z11, e5⟩ := told_loop n ra rb W (by omega) (W.map (rowOf ra rb)) (W.map (rowOf ra rb)) [] y4 y5 y6 y7 y8 y9 y10 y11 (by simp; omega) fun es hes => by
    obtain ⟨p, hp, rfl⟩ := List.mem_map.mp hes
    have rg := k1.rg p hp
    refine ⟨?_, fun t ht => ?_⟩
    · have h1 := eob_len (ra.getD p.1.toNat []) (rb.getD p.2.toNat [])
      have h2 := hE p.1.toNat p.2.toNat (by omega) (by omega)
      unfold rowOf eo3
      rw [List.length_map]
      omega
    · unfold rowOf eo3 at ht
      obtain ⟨x, hx, rfl⟩ := List.mem_map.mp ht
      exact cm p hp x hx
  have er : (W.map (rowOf ra rb)).map (rowL W) = W.map (rowP ra rb W) := by
    rw [List.map_map]
    exact List.map_congr_left fun p _ => rowL_eq ra rb W p
  rw [er, List.nil_append] at e5
  have s12 : ∀ x : Z.Env → Z.Out, mSeq m__law_due_s1 (mSeq m__law_due_s2 x) (env0 13 [.d (machD n ra), .d (machD n rb)]) = x (VE n ra rb [(0, 0)] [] none none none none none none none none) := fun x => rfl
  have m1 : gIx (machD n ra) (.int 1) = some (.d (.tuple (ra.map rowD))) := rfl
  have m2 : gIx (machD n rb) (.int 1) = some (.d (.tuple (rb.map rowD))) := rfl
  have hA : mCB cLen (mCons (mBin gIx (mVar 0) (mC (.int 1))) mNil) (VE n ra rb [(0, 0)] [] none none none none none none none none) = .ok (.d (.int (ra.length : Int))) (VE n ra rb [(0, 0)] [] none none none none none none none none) := by
    unfold VE
    clear e3 e5 cl cm k1 k2 kl wl hE hB hM h0 Ma Mb er s12 eM
    walk_at "ev"
  have hA2 : mCB cLen (mCons (mBin gIx (mVar 1) (mC (.int 1))) mNil) (VE n ra rb [(0, 0)] [] none none none none none none none none) = .ok (.d (.int (rb.length : Int))) (VE n ra rb [(0, 0)] [] none none none none none none none none) := by
    unfold VE
    clear e3 e5 cl cm k1 k2 kl wl hE hB hM h0 Ma Mb er s12 eM hA
    walk_at "ev"
  have ml : gMul (.int (ra.length : Int)) (.int (rb.length : Int)) = some (.d (.int (M : Int))) := by
    rw [gMul_r (ra.length : Int) (rb.length : Int) (by omega) (by omega), ← eM, Int.natCast_mul]
  have hr := mRng1_ok M (mCons_ok (mBin_ok hA hA2 rfl rfl ml) mNil_k) (by omega)
  have e3 : forL (bName 4) m__law_due_b4 (natsD M) (VE n ra rb [(0, 0)] [] none none none none none none none none) = .nx (VE n ra rb W (W.map (rowOf ra rb)) y4 y5 y6 y7 y8 y9 y10 y11) := by
    have en : natsD M = (List.range' 0 M).map fun i : Nat => PyData.int (i : Int) := by unfold natsD; rw [List.range_eq_range']
    rw [en]
    exact e3
  have q3 : m__law_due_s3 (VE n ra rb [(0, 0)] [] none none none none none none none none) = .nx (VE n ra rb W (W.map (rowOf ra rb)) y4 y5 y6 y7 y8 y9 y10 y11) := by
    unfold m__law_due_s3
    rw [mFor_k, hr, forK_ok]
    exact e3
  have q4 : m__law_due_s4 (VE n ra rb W (W.map (rowOf ra rb)) y4 y5 y6 y7 y8 y9 y10 y11) = .nx [some (.d (machD n ra)), some (.d (machD n rb)), some (.o (W.map pairD)), some (.o ((W.map (rowOf ra rb)).map lstD)), y4, y5, y6, y7, y8, y9, y10, y11, some (.o [])] := rfl
  have q5 : m__law_due_s5 [some (.d (machD n ra)), some (.d (machD n rb)), some (.o (W.map pairD)), some (.o ((W.map (rowOf ra rb)).map lstD)), y4, y5, y6, y7, y8, y9, y10, y11, some (.o [])] = .nx (FE n ra rb W (W.map (rowOf ra rb)) (W.map (rowP ra rb W)) y4 y5 y6 z7 z8 z9 y10 z11) := by
    have it : mIter 0 (mVar 3) [some (.d (machD n ra)), some (.d (machD n rb)), some (.o (W.map pairD)), some (.o ((W.map (rowOf ra rb)).map lstD)), y4, y5, y6, y7, y8, y9, y10, y11, some (.o [])] = .ok ((W.map (rowOf ra rb)).map lstD) (FE n ra rb W (W.map (rowOf ra rb)) [] y4 y5 y6 y7 y8 y9 y10 y11) := rfl
    unfold m__law_due_s5
    rw [mFor_k, it, forK_ok, e5]
  have m0 : gIx (machD n ra) (.int 0) = some (.d (.int (n : Int))) := rfl
  have fin : ∃ r, m__law_due_s6 (FE n ra rb W (W.map (rowOf ra rb)) (W.map (rowP ra rb W)) y4 y5 y6 z7 z8 z9 y10 z11) = .rt (.d (.tuple [.list (W.map pairD), machD n (W.map (rowP ra rb W))])) r := by
    have ed : machD n (W.map (rowP ra rb W)) = .tuple [.int n, .tuple ((W.map (rowP ra rb W)).map rowD)] := rfl
    rw [ed]
    unfold m__law_due_s6 FE
    clear ed q3 q4 q5 e3 e5 hr ml hA hA2 s12 er cm cl k1 k2 kl wl hE hB hM h0 Ma Mb eM
    walk_at "ev"
    exact ⟨_, rfl⟩
  obtain ⟨r, q6⟩ := fin
  refine ⟨r, rfl, k1, ?_⟩
  unfold m__law_due
  rw [s12, seq_nx q3, seq_nx q4, seq_nx q5, q6]
end K05
namespace K05
open PySem L2 Z
/-! ### the walk at its end; how many pairs there are -/
theorem nd_len {α : Type} [DecidableEq α] : ∀ (xs ys : List α), xs.Nodup → (∀ x ∈ xs, x ∈ ys) → xs.length ≤ ys.length
  | [], _, _, _ => Nat.zero_le _
  | x :: xs, ys, nd, h => by
    have nd := List.nodup_cons.mp nd
    have := nd_len xs (ys.erase x) nd.2 fun y hy => (List.mem_erase_of_ne (fun e => nd.1 (by rw [← e]; exact hy))).mpr (h y (List.mem_cons_of_mem _ hy))
    have h1 : x ∈ ys := h x List.mem_cons_self
    have h2 := List.length_erase_of_mem h1
    have h3 := List.length_pos_of_mem h1
    rw [List.length_cons]
    omega
theorem few_prs (N M : Nat) (ps : List (Int × Int)) (nd : ps.Nodup) (h : ∀ p ∈ ps, (0 ≤ p.1 ∧ p.1 < (N : Int)) ∧ 0 ≤ p.2 ∧ p.2 < (M : Int)) : ps.length ≤ N * M := by
  have := nd_len ps ((List.range (N * M)).map fun i : Nat => (((i / M : Nat) : Int), ((i % M : Nat) : Int))) nd fun p hp => by
    obtain ⟨⟨a0, a1⟩, b0, b1⟩ := h p hp
    refine List.mem_map.mpr ⟨p.1.toNat * M + p.2.toNat, List.mem_range.mpr ?_, ?_⟩
    · have h1 : (p.1.toNat + 1) * M ≤ N * M := Nat.mul_le_mul_right _ (by omega)
      rw [Nat.succ_mul] at h1
      omega
    · have hM : 0 < M := by omega
      have e1 : (p.1.toNat * M + p.2.toNat) / M = p.1.toNat := by
        rw [Nat.add_comm, Nat.add_mul_div_right _ _ hM, Nat.div_eq_of_lt (by omega), Nat.zero_add]
      have e2 : (p.1.toNat * M + p.2.toNat) % M = p.2.toNat := by
        rw [Nat.add_comm, Nat.add_mul_mod_self_right, Nat.mod_eq_of_lt (by omega)]
      rw [e1, e2]
      exact Prod.ext (by show ((p.1.toNat : Nat) : Int) = p.1; omega) (by show ((p.2.toNat : Nat) : Int) = p.2; omega)
  rw [List.length_map, List.length_range] at this
  exact this
theorem walk_more (ra rb : List Row) : ∀ (M : Nat) (ps : List (Int × Int)) (k : Nat), (walkP ra rb M ps k).length ≤ M + k → ∀ M', M ≤ M' → walkP ra rb M' ps k = walkP ra rb M ps k
  | 0, ps, k, h, M', _ => by
    have h : ps.length ≤ 0 + k := h
    cases M' with
    | zero => rfl
    | succ m =>
      show (if k < ps.length then _ else _) = ps
      rw [if_neg (by omega)]
  | M + 1, ps, k, h, M', hM => by
    obtain ⟨m, rfl⟩ : ∃ m, M' = m + 1 := ⟨M' - 1, by omega⟩
    by_cases c : k < ps.length
    · have e1 : ∀ x, walkP ra rb (x + 1) ps k = walkP ra rb x (turnP ra rb ps k) (k + 1) := fun x => by
        show (if k < ps.length then _ else _) = _
        rw [if_pos c]
      rw [e1] at h
      rw [e1, e1]
      exact walk_more ra rb M _ _ (by omega) m (by omega)
    · have e1 : ∀ x, walkP ra rb (x + 1) ps k = ps := fun x => by
        show (if k < ps.length then _ else _) = _
        rw [if_neg c]
      rw [e1, e1]
/-- two small machines: both walks come to the same end -/
theorem small_product {n : Nat} {ra rb : List Row} (Ma : MOk n ra) (Mb : MOk n rb) (hl : ra.length * rb.length ≤ 81) (hw : ∀ r ∈ ra, ∀ r' ∈ rb, r.length * r'.length ≤ 100) (hm : ∀ W, PI ra rb W → manyP ra rb W ≤ 6000) :
    ∃ W, PI ra rb W ∧ W.length ≤ ra.length * rb.length ∧ (0, 0) ∈ W ∧ (∀ p ∈ W, Cl ra rb W p) ∧ (∃ r, m__law_due (env0 13 [.d (machD n ra), .d (machD n rb)]) = .rt (.d (.tuple [.list (W.map pairD), machD n (W.map (rowP ra rb W))])) r) ∧
      (∃ r, m_product (env0 12 [.d (machD n ra), .d (machD n rb)]) = .rt (.d (machD n (W.map (rowP ra rb W)))) r) ∧ ∃ r, m_pairs_of (env0 9 [.d (machD n ra), .d (machD n rb)]) = .rt (.o (W.map pairD)) r := by
  have hB : ∀ fs, PI ra rb fs → fs.length ≤ ra.length * rb.length := fun fs h => few_prs _ _ fs h.nd h.rg
  have hE0 : ∀ p q : Nat, p < ra.length → q < rb.length → (ra.getD p []).length * (rb.getD q []).length ≤ 900000 := fun p q hp hq => Nat.le_trans (hw _ (row_mem hp) _ (row_mem hq)) (by decide)
  have hE : ∀ p q : Nat, p < ra.length → q < rb.length → (eob (ra.getD p []) (rb.getD q [])).length ≤ 900000 := fun p q hp hq => Nat.le_trans (eob_len _ _) (hE0 p q hp hq)
  obtain ⟨W, r, eW, h1, e1⟩ := due_ok Ma Mb hE0 hB (by omega)
  have lW := hB W h1
  have more := walk_more ra rb (ra.length * rb.length) [(0, 0)] 0 (by rw [← eW]; exact lW)
  rw [← eW] at more
  have cl : ∀ p ∈ W, Cl ra rb W p := fun p hp => by
    have c0 := walk_closed ra rb (ra.length * rb.length) [(0, 0)] 0 (Nat.zero_le _) (fun j hj => absurd hj (Nat.not_lt_zero _)) (by rw [← eW]; exact lW)
    rw [← eW] at c0
    obtain ⟨i, hi, rfl⟩ := List.mem_iff_getElem.mp hp
    have := c0 i hi
    rw [List.getD_eq_getElem?_getD, List.getElem?_eq_getElem hi] at this
    exact this
  have z0 : (0, 0) ∈ W := by
    obtain ⟨g, eg⟩ := walkP_pre ra rb (ra.length * rb.length) [(0, 0)] 0
    rw [eW, eg]
    simp
  refine ⟨W, h1, lW, z0, cl, ⟨r, e1⟩, ?_, ?_⟩
  · rcases product_ok Ma Mb hE with ⟨W', r', e2, j1, j2, j3, j4⟩ | ⟨ρ, e2, j1 | ⟨W', j1, j2, j3⟩⟩
    · have : W' = W := by rw [← j4 401 (Nat.le_refl _)]; exact more 401 (by omega)
      subst this
      exact ⟨r', e2⟩
    · have := j1 401 (Nat.le_refl _)
      rw [more 401 (by omega)] at this
      omega
    · have : W' = W := by rw [← j1 401 (Nat.le_refl _)]; exact more 401 (by omega)
      subst this
      have := hm W' h1
      omega
  · rcases pairs_ok Ma Mb hE with ⟨W', r', e2, j1, j2, j3⟩ | ⟨ρ, e2, j1⟩
    · have : W' = W := by rw [← j3 401 (Nat.le_refl _)]; exact more 401 (by omega)
      subst this
      exact ⟨r', e2⟩
    · have := j1 401 (Nat.le_refl _)
      rw [more 401 (by omega)] at this
      omega
theorem many_le {n : Nat} {ra rb : List Row} (_ : MOk n ra) (_ : MOk n rb) {B : Nat} (hw : ∀ r ∈ ra, ∀ r' ∈ rb, r.length * r'.length ≤ B) : ∀ (W : List (Int × Int)), (∀ p ∈ W, (0 ≤ p.1 ∧ p.1 < (ra.length : Int)) ∧ 0 ≤ p.2 ∧ p.2 < (rb.length : Int)) → manyP ra rb W ≤ B * W.length
  | [], _ => by simp [manyP]
  | p :: W, h => by
    have ih := many_le (n := n) (ra := ra) (rb := rb) ‹_› ‹_› hw W fun q hq => h q (List.mem_cons_of_mem _ hq)
    have hp := h p List.mem_cons_self
    have h1 := eob_len (ra.getD p.1.toNat []) (rb.getD p.2.toNat [])
    have h2 := hw _ (row_mem (rows := ra) (p := p.1.toNat) (by omega)) _ (row_mem (rows := rb) (p := p.2.toNat) (by omega))
    unfold manyP at ih ⊢
    rw [List.map_cons, List.sum_cons, List.length_cons, Nat.mul_succ]
    have : (edg ra rb p).length ≤ B := Nat.le_trans h1 h2
    omega
end K05
namespace K05
open PySem L2 Z
/-! ### two rings -/
def rgR (a b : Nat) (k : Nat) : Int × Int := (((k % a : Nat) : Int), ((k % b : Nat) : Int))
def ringR (s : Nat) : List Row := (List.range s).map fun k => [((0 : Int), (((k + 1) % s : Nat) : Int))]
structure LC (a b L : Nat) : Prop where
  pos : 0 < L
  da : a ∣ L
  db : b ∣ L
  mn : ∀ m, 0 < m → m < L → ¬ (a ∣ m ∧ b ∣ m)
theorem ring_len (s : Nat) : (ringR s).length = s := by unfold ringR; rw [List.length_map, List.length_range]
theorem ring_getD (s k : Nat) (h : k < s) : (ringR s).getD k [] = [((0 : Int), (((k + 1) % s : Nat) : Int))] := by
  unfold ringR
  rw [List.getD_eq_getElem?_getD, List.getElem?_map, List.getElem?_range h]
  rfl
theorem tot_leB {B : Nat} : ∀ (rows : List Row), (∀ r ∈ rows, r.length ≤ B) → totR rows ≤ B * rows.length
  | [], _ => by simp [totR]
  | r :: rows, h => by
    have ih := tot_leB rows fun x hx => h x (List.mem_cons_of_mem _ hx)
    have := h r List.mem_cons_self
    unfold totR at ih ⊢
    rw [List.map_cons, List.sum_cons, List.length_cons, Nat.mul_succ]
    omega
theorem ring_MOk (s : Nat) (h1 : 1 ≤ s) (h2 : s ≤ 400) : MOk 1 (ringR s) := by
  have each : ∀ r ∈ ringR s, ∃ k, k < s ∧ r = [((0 : Int), (((k + 1) % s : Nat) : Int))] := fun r hr => by
    unfold ringR at hr
    obtain ⟨k, hk, rfl⟩ := List.mem_map.mp hr
    exact ⟨k, List.mem_range.mp hk, rfl⟩
  refine ⟨by decide, by rw [ring_len]; exact h1, by rw [ring_len]; exact h2, fun r hr e he => ?_, fun r hr => ?_, ?_⟩
  · obtain ⟨k, hk, rfl⟩ := each r hr
    rw [List.mem_singleton] at he
    subst he
    have := Nat.mod_lt (k + 1) (show 0 < s by omega)
    rw [ring_len]
    refine ⟨Int.le_refl 0, by show (0 : Int) < 1; decide, ?_, ?_⟩
    · show (0 : Int) ≤ (((k + 1) % s : Nat) : Int)
      omega
    · show (((k + 1) % s : Nat) : Int) < _
      omega
  · obtain ⟨k, hk, rfl⟩ := each r hr
    exact List.pairwise_singleton _ _
  · have := tot_leB (B := 1) (ringR s) fun r hr => by
      obtain ⟨k, hk, rfl⟩ := each r hr
      exact Nat.le_refl 1
    rw [ring_len] at this
    omega
section
variable {a b L : Nat}
theorem rg_inj (h : LC a b L) : ∀ {i j : Nat}, i < L → j < L → rgR a b i = rgR a b j → i = j := by
  have one : ∀ i j : Nat, i < j → j < L → rgR a b i = rgR a b j → False := fun i j hij hj e => by
    unfold rgR at e
    have e1 := congrArg Prod.fst e
    have e2 := congrArg Prod.snd e
    simp only [] at e1 e2
    exact h.mn (j - i) (by omega) (by omega) ⟨Nat.dvd_of_mod_eq_zero (Nat.sub_mod_eq_zero_of_mod_eq (by omega)), Nat.dvd_of_mod_eq_zero (Nat.sub_mod_eq_zero_of_mod_eq (by omega))⟩
  intro i j hi hj e
  rcases Nat.lt_trichotomy i j with c | c | c
  · exact absurd (one i j c hj e) id
  · exact c
  · exact absurd (one j i c hi e.symm) id
theorem rg_L (h : LC a b L) : rgR a b L = rgR a b 0 := by
  unfold rgR
  rw [Nat.mod_eq_zero_of_dvd h.da, Nat.mod_eq_zero_of_dvd h.db, Nat.zero_mod, Nat.zero_mod]
theorem eob_ring (ha : 0 < a) (hb : 0 < b) (k : Nat) : eob ((ringR a).getD (rgR a b k).1.toNat []) ((ringR b).getD (rgR a b k).2.toNat []) = [((0 : Int), rgR a b (k + 1))] := by
  have e1 : (rgR a b k).1.toNat = k % a := rfl
  have e2 : (rgR a b k).2.toNat = k % b := rfl
  rw [e1, e2, ring_getD a _ (Nat.mod_lt _ ha), ring_getD b _ (Nat.mod_lt _ hb)]
  unfold eob rgR
  simp [Nat.mod_add_mod]
theorem ring_turn (h : LC a b L) (ha : 0 < a) (hb : 0 < b) (k : Nat) (hk : k + 1 ≤ L) :
    turnP (ringR a) (ringR b) ((List.range (k + 1)).map (rgR a b)) k = (List.range (min (k + 2) L)).map (rgR a b) := by
  have gk : ((List.range (k + 1)).map (rgR a b)).getD k (0, 0) = rgR a b k := by
    rw [List.getD_eq_getElem?_getD, List.getElem?_map, List.getElem?_range (by omega)]
    rfl
  unfold turnP
  rw [gk, eob_ring ha hb]
  show (if rgR a b (k + 1) ∈ _ then _ else _) = _
  by_cases c : k + 1 < L
  · rw [if_neg, show min (k + 2) L = (k + 1) + 1 by omega, List.range_succ (n := k + 1), List.map_append]
    · rfl
    · intro hm
      obtain ⟨i, hi, e⟩ := List.mem_map.mp hm
      have hi := List.mem_range.mp hi
      have := rg_inj h (by omega) c e
      omega
  · have eL : k + 1 = L := by omega
    rw [if_pos, show min (k + 2) L = k + 1 by omega]
    rw [eL, rg_L h]
    exact List.mem_map.mpr ⟨0, List.mem_range.mpr h.pos, rfl⟩
theorem walk_end (ra rb : List Row) (N : Nat) (ps : List (Int × Int)) (k : Nat) (h : ps.length ≤ k) : walkP ra rb N ps k = ps := by
  cases N with
  | zero => rfl
  | succ N =>
    show (if k < ps.length then _ else _) = ps
    rw [if_neg (by omega)]
theorem ring_walk (h : LC a b L) (ha : 0 < a) (hb : 0 < b) : ∀ (N k : Nat), k + 1 ≤ L → walkP (ringR a) (ringR b) N ((List.range (k + 1)).map (rgR a b)) k = (List.range (min (k + 1 + N) L)).map (rgR a b)
  | 0, k, hk => by
    rw [show min (k + 1 + 0) L = k + 1 by omega]
    rfl
  | N + 1, k, hk => by
    show (if k < ((List.range (k + 1)).map (rgR a b)).length then _ else _) = _
    rw [if_pos (by rw [List.length_map, List.length_range]; omega), ring_turn h ha hb k hk]
    by_cases c : k + 1 < L
    · rw [show min (k + 2) L = (k + 1) + 1 by omega, ring_walk h ha hb N (k + 1) (by omega)]
      rw [show k + 1 + 1 + N = k + 1 + (N + 1) by omega]
    · rw [walk_end _ _ _ _ _ (by rw [List.length_map, List.length_range]; omega)]
      rw [show min (k + 2) L = min (k + 1 + (N + 1)) L by omega]
theorem ring_walk0 (h : LC a b L) (ha : 0 < a) (hb : 0 < b) (N : Nat) : walkP (ringR a) (ringR b) N [(0, 0)] 0 = (List.range (min (1 + N) L)).map (rgR a b) := by
  have := ring_walk h ha hb N 0 h.pos
  have e : (List.range (0 + 1)).map (rgR a b) = [(0, 0)] := by
    unfold rgR
    simp [List.range_succ]
  rw [e, Nat.zero_add] at this
  exact this
theorem ring_hE (p q : Nat) (hp : p < (ringR a).length) (hq : q < (ringR b).length) : (eob ((ringR a).getD p []) ((ringR b).getD q [])).length ≤ 900000 := by
  rw [ring_len] at hp hq
  refine Nat.le_trans (eob_len _ _) ?_
  rw [ring_getD a p hp, ring_getD b q hq]
  show 1 * 1 ≤ 900000
  decide
theorem ring_row (h : LC a b L) (ha : 0 < a) (hb : 0 < b) (i : Nat) (hi : i < L) : rowP (ringR a) (ringR b) ((List.range L).map (rgR a b)) (rgR a b i) = [((0 : Int), (((i + 1) % L : Nat) : Int))] := by
  unfold rowP
  rw [eob_ring ha hb]
  have one : ∀ j, j < L → ((List.range L).map (rgR a b)).idxOf (rgR a b j) = j := fun j hj => by
    have hm : rgR a b j ∈ (List.range L).map (rgR a b) := List.mem_map.mpr ⟨j, List.mem_range.mpr hj, rfl⟩
    have lt := List.idxOf_lt_length_iff.mpr hm
    have e := List.getElem_idxOf lt
    rw [List.getElem_map, List.getElem_range] at e
    rw [List.length_map, List.length_range] at lt
    exact rg_inj h lt hj e
  have ix : ((List.range L).map (rgR a b)).idxOf (rgR a b (i + 1)) = (i + 1) % L := by
    by_cases c : i + 1 < L
    · rw [one _ c, Nat.mod_eq_of_lt c]
    · have : i + 1 = L := by omega
      rw [this, rg_L h, one 0 h.pos, Nat.mod_self]
  show psort [((0 : Int), (((((List.range L).map (rgR a b)).idxOf (rgR a b (i + 1)) : Nat) : Int)))] = _
  rw [ix]
  exact List.perm_singleton.mp (psort_perm _)
theorem ring_rows (h : LC a b L) (ha : 0 < a) (hb : 0 < b) : ((List.range L).map (rgR a b)).map (rowP (ringR a) (ringR b) ((List.range L).map (rgR a b))) = ringR L := by
  unfold ringR
  rw [List.map_map]
  exact List.map_congr_left fun i hi => ring_row h ha hb i (List.mem_range.mp hi)
/-- what is told of two rings -/
theorem ring_pairs (h : LC a b L) (ha : 1 ≤ a) (hb : 1 ≤ b) (ha4 : a ≤ 400) (hb4 : b ≤ 400) :
    (L ≤ 400 ∧ ∃ r, m_pairs_of (env0 9 [.d (machD 1 (ringR a)), .d (machD 1 (ringR b))]) = .rt (.o (((List.range L).map (rgR a b)).map pairD)) r) ∨
    (400 < L ∧ ∃ r, m_pairs_of (env0 9 [.d (machD 1 (ringR a)), .d (machD 1 (ringR b))]) = .exc 7 r) := by
  rcases pairs_ok (ring_MOk a ha ha4) (ring_MOk b hb hb4) ring_hE with ⟨W, r, e, j1, _, j3⟩ | ⟨ρ, e, j1⟩
  · left
    have := j3 401 (Nat.le_refl _)
    rw [ring_walk0 h ha hb] at this
    have l1 : W.length = min (1 + 401) L := by rw [← this, List.length_map, List.length_range]
    have l2 : L ≤ 400 := by omega
    refine ⟨l2, r, ?_⟩
    rw [e, ← this, show min (1 + 401) L = L by omega]
  · right
    have := j1 401 (Nat.le_refl _)
    rw [ring_walk0 h ha hb, List.length_map, List.length_range] at this
    exact ⟨by omega, ρ, e⟩
theorem ring_many (h : LC a b L) (ha : 1 ≤ a) (hb : 1 ≤ b) : ∀ l : List Nat, manyP (ringR a) (ringR b) (l.map (rgR a b)) = l.length
  | [] => rfl
  | i :: l => by
    have ih := ring_many h ha hb l
    unfold manyP at ih ⊢
    rw [List.map_cons, List.map_cons, List.sum_cons, ih, List.length_cons]
    unfold edg
    rw [eob_ring ha hb]
    simp
    omega
theorem ring_product (h : LC a b L) (ha : 1 ≤ a) (hb : 1 ≤ b) (ha4 : a ≤ 400) (hb4 : b ≤ 400) :
    (L ≤ 400 ∧ ∃ r, m_product (env0 12 [.d (machD 1 (ringR a)), .d (machD 1 (ringR b))]) = .rt (.d (machD 1 (ringR L))) r) ∨
    (400 < L ∧ ∃ r, m_product (env0 12 [.d (machD 1 (ringR a)), .d (machD 1 (ringR b))]) = .exc 7 r) := by
  rcases product_ok (ring_MOk a ha ha4) (ring_MOk b hb hb4) ring_hE with ⟨W, r, e, j1, _, _, j3⟩ | ⟨ρ, e, j1 | ⟨W, j1, j2, j3⟩⟩
  · left
    have := j3 401 (Nat.le_refl _)
    rw [ring_walk0 h ha hb] at this
    have l1 : W.length = min (1 + 401) L := by rw [← this, List.length_map, List.length_range]
    have l2 : L ≤ 400 := by omega
    refine ⟨l2, r, ?_⟩
    rw [e, ← this, show min (1 + 401) L = L by omega, ring_rows h ha hb]
  · right
    have := j1 401 (Nat.le_refl _)
    rw [ring_walk0 h ha hb, List.length_map, List.length_range] at this
    exact ⟨by omega, ρ, e⟩
  · exfalso
    have := j1 401 (Nat.le_refl _)
    rw [ring_walk0 h ha hb] at this
    subst this
    rw [ring_many h ha hb, List.length_range] at j3
    omega
end
end K05
namespace K05
open PySem L2 Z
/-! ### what repr tells of a machine -/
structure Shb (k w : Nat) (d : Z.D) : Prop where
  l : PyData.leavesShort 8 d = true
  s : d.showable = true
  n : d.hasDict = false
  dp : d.depth ≤ k
  wt : d.bulk ≤ w
  ok : ∀ c ∈ d.shown.cps.toList, c < 0x110000
theorem Shb.mono {k w k' w' : Nat} {d : Z.D} (h : Shb k w d) (hk : k ≤ k') (hw : w ≤ w') : Shb k' w' d := ⟨h.l, h.s, h.n, Nat.le_trans h.dp hk, Nat.le_trans h.wt hw, h.ok⟩
theorem Shb.int {i : Int} (h : -100000 ≤ i ∧ i ≤ 100000) : Shb 0 0 (.int i) := by
  refine ⟨?_, ?_, ?_, ?_, ?_, fun c hc => ?_⟩
  · unfold PyData.leavesShort
    refine decide_eq_true ?_
    have e := int_text_length_le10 (a := i) (k := 6) (by decide) (by omega)
    show (Str.ofString (toString i)).length ≤ 8
    rw [ofString_length]
    exact Nat.le_trans e (by decide)
  · simp only [PyData.showable]
    have h2 := Nat.log2_le_self i.natAbs
    have h3 : i.natAbs.log2 < 64 := by
      by_cases z : i.natAbs = 0
      · rw [z]; decide
      · rw [Nat.log2_lt z]
        exact Nat.lt_of_le_of_lt (show i.natAbs ≤ 100000 by omega) (by decide)
    exact decide_eq_true (by omega)
  · simp only [PyData.hasDict]
  · simp only [PyData.depth]; omega
  · simp only [PyData.bulk]; omega
  · refine Classical.byContradiction fun z => PyProof.Rows.shown_int_free' (k := c) (by omega) i hc
theorem shbAll (k w : Nat) : ∀ xs : List Z.D, (∀ x ∈ xs, Shb k w x) → PyData.leavesShortAll 8 xs = true ∧ PyData.showableAll xs = true ∧ PyData.hasDictAll xs = false ∧ PyData.depthAll xs ≤ k ∧ PyData.bulkAll xs ≤ (w + 1) * xs.length
  | [], _ => by simp [PyData.leavesShortAll, PyData.showableAll, PyData.hasDictAll, PyData.depthAll, PyData.bulkAll]
  | x :: xs, h => by
    obtain ⟨h1, h2, h3, h4, h5⟩ := shbAll k w xs fun z hz => h z (List.mem_cons_of_mem _ hz)
    obtain ⟨g1, g2, g3, g4, g5⟩ := h x List.mem_cons_self
    simp only [PyData.leavesShortAll, PyData.showableAll, PyData.hasDictAll, PyData.depthAll, PyData.bulkAll, h1, h2, h3, g1, g2, g3, Bool.and_self, Bool.or_self, true_and, List.length_cons, Nat.mul_succ]
    omega
theorem Shb.tuple {k w m : Nat} {xs : List Z.D} (h : ∀ x ∈ xs, Shb k w x) (hm : xs.length ≤ m) : Shb (k + 1) ((w + 1) * m) (.tuple xs) := by
  obtain ⟨h1, h2, h3, h4, h5⟩ := shbAll k w xs h
  have := Nat.mul_le_mul_left (w + 1) hm
  refine ⟨?_, ?_, ?_, ?_, ?_, fun c hc => ?_⟩
  · simp only [PyData.leavesShort]; exact h1
  · simp only [PyData.showable]; exact h2
  · simp only [PyData.hasDict]; exact h3
  · simp only [PyData.depth]; omega
  · simp only [PyData.bulk]; omega
  · have fr : ∀ t ∈ PyData.shownAll xs, ∀ c ∈ t.cps.toList, c < 0x110000 := fun t ht c hc => by
      refine Classical.byContradiction fun z => ?_
      exact PyProof.Rows.shownAll_free (k := c) (fun x hx q => z ((h x hx).ok c q)) t ht hc
    simp only [PyData.shown, tupleText, PyProof.Rows.mem_cps_append, PyProof.Rows.mem_join] at hc
    rcases hc with (hc | ⟨t, ht, hc⟩ | ⟨_, hc⟩) | hc
    · rw [PyProof.Rows.signs_lparen] at hc
      simp only [List.mem_cons, List.not_mem_nil, or_false] at hc
      omega
    · exact fr t ht c hc
    · rw [PyProof.Rows.signs_sep] at hc
      simp only [List.mem_cons, List.not_mem_nil, or_false] at hc
      omega
    · have e1 : ((",)" : String) : Str).cps.toList = [44, 41] := by decide
      have e2 : ((")" : String) : Str).cps.toList = [41] := by decide
      split at hc
      · rw [e1] at hc
        simp only [List.mem_cons, List.not_mem_nil, or_false] at hc
        omega
      · rw [e2] at hc
        simp only [List.mem_cons, List.not_mem_nil, or_false] at hc
        omega
theorem shb_mach {n : Nat} {rows : List Row} {A B : Nat} (hn : n ≤ 5) (hr : ∀ r ∈ rows, r.length ≤ B) (hA : rows.length ≤ A) (hl : A ≤ 100000) (he : ∀ r ∈ rows, ∀ e ∈ r, (0 ≤ e.1 ∧ e.1 ≤ 100000) ∧ 0 ≤ e.2 ∧ e.2 ≤ 100000) : Shb 4 (((3 * B + 1) * A + 1) * 2) (machD n rows) := by
  have rw : ∀ r ∈ rows, Shb 2 (3 * B) (rowD r) := fun r h => by
    refine Shb.tuple (k := 1) (w := 2) (m := B) (fun x hx => ?_) (by rw [List.length_map]; exact hr r h)
    obtain ⟨e, hh, rfl⟩ := List.mem_map.mp hx
    have := he r h e hh
    refine (Shb.tuple (k := 0) (w := 0) (m := 2) (fun y hy => ?_) (by simp)).mono (by decide) (by decide)
    simp only [List.mem_cons, List.not_mem_nil, or_false] at hy
    rcases hy with rfl | rfl
    · exact .int (by omega)
    · exact .int (by omega)
  refine (Shb.tuple (k := 3) (w := (3 * B + 1) * A) (m := 2) (fun x hx => ?_) (by simp)).mono (by decide) (by omega)
  simp only [List.mem_cons, List.not_mem_nil, or_false] at hx
  rcases hx with rfl | rfl
  · exact (Shb.int (by omega)).mono (by decide) (by omega)
  · refine Shb.tuple (k := 2) (w := 3 * B) (m := A) (fun x hx => ?_) (by rw [List.length_map]; exact hA)
    obtain ⟨r, h, rfl⟩ := List.mem_map.mp hx
    exact rw r h
theorem repr_tup {ds : List Z.D} {k w : Nat} (h : Shb k w (.tuple ds)) (hk : k ≤ 60) (hw : 10 * w + 8 ≤ 1000000) : cRepr [.tuple ds] = some (.d (.str (PyData.tuple ds).shown)) := by
  have hl := PyData.shown_le_bulk 8 (by decide) _ h.l
  have hw2 := h.wt
  have hs : shows (.tuple ds) = true := by
    unfold shows
    rw [h.s, h.n]
    have h1 : (PyData.tuple ds).shown.length ≤ 1000000 := by omega
    have h2 : (PyData.tuple ds).depth ≤ 60 := by have := h.dp; omega
    rw [decide_eq_true h1, decide_eq_true h2]
    rfl
  show (if shows (PyData.tuple ds) = true then some (R.d (PyData.str (PyData.tuple ds).shown)) else none) = _
  rw [if_pos hs]
theorem shS {x : Str} (h : ∀ c ∈ x.cps.toList, c < 0x110000) : SeqAt.shaped (.str x) = true := by
  have : x.cps.all (· < 0x110000) = true := by
    rw [← Array.all_toList, List.all_eq_true]
    exact fun c hc => decide_eq_true (h c hc)
  simp only [SeqAt.shaped, PyData.canLay0, PyData.strOk, PyData.depth, this]
  rfl
theorem gNeS {x : Str} (h : ∀ c ∈ x.cps.toList, c < 0x110000) : gNe (.str x) (.str x) = some (.d (.bool false)) := by
  have e : PyData.eqv (.str x) (.str x) = true := by simp [PyData.eqv]
  unfold gNe
  rw [shS h, e]
  rfl
theorem gEqS {x : Str} (h : ∀ c ∈ x.cps.toList, c < 0x110000) : gEq (.str x) (.str x) = some (.d (.bool true)) := by
  have e : PyData.eqv (.str x) (.str x) = true := by simp [PyData.eqv]
  unfold gEq
  rw [shS h, e]
  rfl
theorem gNe_self {k : Nat} {d : Z.D} (h : Sh k d) (hk : k ≤ 60) : gNe d d = some (.d (.bool false)) := by
  have s := h.shaped (by omega)
  have e := SeqAt.eqv_refl d h.1
  unfold gNe
  rw [s, e]
  rfl
theorem gEq_self {k : Nat} {d : Z.D} (h : Sh k d) (hk : k ≤ 60) : gEq d d = some (.d (.bool true)) := by
  have s := h.shaped (by omega)
  have e := SeqAt.eqv_refl d h.1
  unfold gEq
  rw [s, e]
  rfl
theorem sh_mach (n : Nat) (rows : List Row) : Sh 4 (machD n rows) := by
  refine Sh.tuple (k := 3) fun d hd => ?_
  simp only [List.mem_cons, List.not_mem_nil, or_false] at hd
  rcases hd with rfl | rfl
  · exact (Sh.int _).mono (by decide)
  · refine Sh.tuple (k := 2) fun d hd => ?_
    obtain ⟨r, _, rfl⟩ := List.mem_map.mp hd
    refine Sh.tuple (k := 1) fun d hd => ?_
    obtain ⟨e, _, rfl⟩ := List.mem_map.mp hd
    exact sh_pair e
theorem sh_prs (W : List (Int × Int)) : Sh 2 (.list (W.map pairD)) := Sh.list (k := 1) fun d hd => by
  obtain ⟨e, _, rfl⟩ := List.mem_map.mp hd
  exact sh_pair e
end K05
namespace K05
open PySem L2 Z
/-! ### what the law tells of two machines; its rings; its common multiple -/
abbrev sMuch : Z.D := .str (PySem.Str.ofString "much")
theorem told_p0 {A B : Z.D} {x : List Z.D} {r : Z.Env} (e : m_product (env0 12 [.d A, .d B]) = .rt (.d (.tuple x)) r) : ∃ r, m__law_told (env0 4 [.d (.int 0), .d A, .d B]) = .rt (.d (.tuple x)) r := by
  unfold m__law_told m__law_told_s1
  walk_at "st"
  walk_at "ev"
  exact ⟨_, rfl⟩
theorem told_p1 {A B : Z.D} {x : List Z.D} {r : Z.Env} (e : m_pairs_of (env0 9 [.d A, .d B]) = .rt (.o x) r) : ∃ r, m__law_told (env0 4 [.d (.int 1), .d A, .d B]) = .rt (.o x) r := by
  unfold m__law_told m__law_told_s1
  walk_at "st"
  walk_at "ev"
  exact ⟨_, rfl⟩
theorem told_e0 {A B : Z.D} {r : Z.Env} (e : m_product (env0 12 [.d A, .d B]) = .exc 7 r) : ∃ r, m__law_told (env0 4 [.d (.int 0), .d A, .d B]) = .rt (.d sMuch) r := by
  have h5 : m_hd 7 = some sMuch := rfl
  unfold m__law_told m__law_told_s1
  walk_at "st"
  walk_at "ev"
  exact ⟨_, rfl⟩
theorem told_e1 {A B : Z.D} {r : Z.Env} (e : m_pairs_of (env0 9 [.d A, .d B]) = .exc 7 r) : ∃ r, m__law_told (env0 4 [.d (.int 1), .d A, .d B]) = .rt (.d sMuch) r := by
  have h5 : m_hd 7 = some sMuch := rfl
  unfold m__law_told m__law_told_s1
  walk_at "st"
  walk_at "ev"
  exact ⟨_, rfl⟩
theorem ring_ok (s : Nat) (h0 : 0 < s) (hs : s ≤ 1000) : ∃ r, m__law_ring (env0 2 [.d (.int (s : Int))]) = .rt (.d (machD 1 (ringR s))) r := by
  have lc := lcL_nats (P := 0) 1 (mt := mYes) (me := m__law_ring_e1) (ρ := [some (.d (.int (s : Int))), none]) s (fun _ => true) (fun k => .tuple [.tuple [.int 0, .int (((k + 1) % s : Nat) : Int)]]) rfl (fun _ _ => rfl) (fun k hk _ => by
    have em : ((k : Int) + 1) % (s : Int) = (((k + 1) % s : Nat) : Int) := by push_cast; rfl
    have s0 : 0 < (s : Int) := by omega
    unfold m__law_ring_e1
    clear hk hs h0
    walk_at "ev") (by omega)
  rw [filter_yes] at lc
  have s1 : s < 1000000 := by omega
  have ed : machD 1 (ringR s) = .tuple [.int 1, .tuple ((List.range s).map fun k => PyData.tuple [.tuple [.int 0, .int (((k + 1) % s : Nat) : Int)]])] := by
    unfold machD ringR
    rw [List.map_map]
    rfl
  rw [ed]
  unfold m__law_ring m__law_ring_s1
  clear ed h0 hs
  walk_at "st"
  walk_at "ev"
  exact ⟨_, rfl⟩
/-- the first multiple of the one that the other divides -/
theorem common_body (a b k : Nat) (hb : 1 ≤ b) (hb4 : b ≤ 400) (hk : k + 1 ≤ b) : (b ∣ a * (k + 1) → ∃ r, m__law_common_b1 [some (.d (.int (a : Int))), some (.d (.int (b : Int))), some (.d (.int (1 + (k : Int))))] = .rt (.d (.int ((a * (k + 1) : Nat) : Int))) r) ∧
      (¬ b ∣ a * (k + 1) → m__law_common_b1 [some (.d (.int (a : Int))), some (.d (.int (b : Int))), some (.d (.int (1 + (k : Int))))] = .nx [some (.d (.int (a : Int))), some (.d (.int (b : Int))), some (.d (.int (1 + (k : Int))))]) := by
    have ml : gMul (.int (a : Int)) (.int (1 + (k : Int))) = some (.d (.int ((a * (k + 1) : Nat) : Int))) := by
      rw [gMul_r _ _ (by omega) (by omega)]
      have : (a : Int) * (1 + (k : Int)) = ((a * (k + 1) : Nat) : Int) := by push_cast; rw [Int.add_comm]
      rw [this]
    have hM : mBin gMul (mVar 0) (mVar 2) [some (.d (.int (a : Int))), some (.d (.int (b : Int))), some (.d (.int (1 + (k : Int))))] = .ok (.d (.int ((a * (k + 1) : Nat) : Int))) [some (.d (.int (a : Int))), some (.d (.int (b : Int))), some (.d (.int (1 + (k : Int))))] := mBin_ok rfl rfl rfl rfl ml
    clear ml
    generalize a * (k + 1) = m at *
    have md : gMod (.int (m : Int)) (.int (b : Int)) = some (.d (.int ((m % b : Nat) : Int))) := by
      rw [gMod_int _ _ (by omega)]
      push_cast
      rfl
    generalize 1 + (k : Int) = kk at *
    refine ⟨fun h => ?_, fun h => ?_⟩
    · have dc : decide (((m % b : Nat) : Int) = 0) = true := decide_eq_true (by have := Nat.mod_eq_zero_of_dvd h; omega)
      generalize m % b = mm at *
      unfold m__law_common_b1
      clear h hk hb hb4
      generalize mBin gMul (mVar 0) (mVar 2) = f at *
      walk_at "ev"
      exact ⟨_, rfl⟩
    · have dc : decide (((m % b : Nat) : Int) = 0) = false := decide_eq_false fun z => h (Nat.dvd_of_mod_eq_zero (by omega))
      generalize m % b = mm at *
      unfold m__law_common_b1
      clear h hk hb hb4
      generalize mBin gMul (mVar 0) (mVar 2) = f at *
      walk_at "ev"
theorem for_rt {b : Z.D → Z.Env → Option Z.Env} {body : Z.Env → Z.Out} {d : Z.D} {ds : List Z.D} {ρ ρ1 ρ2 : Z.Env} {x : Z.S} (h1 : b d ρ = some ρ1) (h2 : body ρ1 = .rt x ρ2) : forL b body (d :: ds) ρ = .rt x ρ2 := by
  simp only [forL, h1, h2]
theorem for_nx {b : Z.D → Z.Env → Option Z.Env} {body : Z.Env → Z.Out} {d : Z.D} {ds : List Z.D} {ρ ρ1 ρ2 : Z.Env} (h1 : b d ρ = some ρ1) (h2 : body ρ1 = .nx ρ2) : forL b body (d :: ds) ρ = forL b body ds ρ2 := by
  simp only [forL, h1, h2]
theorem common_loop (a b : Nat) (ha : 1 ≤ a) (hb : 1 ≤ b) (ha4 : a ≤ 400) (hb4 : b ≤ 400) : ∀ (m k : Nat), m + k = b → (∀ j, 0 < j → j ≤ k → ¬ b ∣ a * j) → ∀ x2, ∃ L r, forL (bName 2) m__law_common_b1 ((List.range' k m).map fun (k : Nat) => PyData.int (1 + (k : Int))) [some (.d (.int (a : Int))), some (.d (.int (b : Int))), x2] = .rt (.d (.int ((L : Nat) : Int))) r ∧ LC a b L := by
  intro m
  induction m with
  | zero => exact fun k hk hn x2 => absurd (Nat.dvd_mul_left b a) (hn b (by omega) (by omega))
  | succ m ih =>
      intro k hk hn x2
      obtain ⟨h1, h2⟩ := common_body a b k hb hb4 (by omega)
      rw [List.range'_succ, List.map_cons]
      have b1 : bName 2 (.int (1 + (k : Int))) [some (.d (.int (a : Int))), some (.d (.int (b : Int))), x2] = some [some (.d (.int (a : Int))), some (.d (.int (b : Int))), some (.d (.int (1 + (k : Int))))] := rfl
      by_cases c : b ∣ a * (k + 1)
      · obtain ⟨r, e⟩ := h1 c
        refine ⟨a * (k + 1), r, for_rt b1 e, ⟨Nat.mul_pos ha (by omega), Nat.dvd_mul_right a _, c, fun m0 h0 hm d => ?_⟩⟩
        obtain ⟨⟨j, ej⟩, d2⟩ := d
        subst ej
        have jl : j < k + 1 := Nat.lt_of_mul_lt_mul_left hm
        have j0 : 0 < j := by
          rcases Nat.eq_zero_or_pos j with z | z
          · rw [z, Nat.mul_zero] at h0; omega
          · exact z
        exact hn j j0 (by omega) d2
      · obtain ⟨L, r, e, q⟩ := ih (k + 1) (by omega) (fun j h0 hj => by
          by_cases z : j = k + 1
          · rw [z]; exact c
          · exact hn j h0 (by omega)) (some (.d (.int (1 + (k : Int)))))
        exact ⟨L, r, (for_nx b1 (h2 c)).trans e, q⟩
theorem common_ok (a b : Nat) (ha : 1 ≤ a) (hb : 1 ≤ b) (ha4 : a ≤ 400) (hb4 : b ≤ 400) : ∃ L r, m__law_common (env0 3 [.d (.int (a : Int)), .d (.int (b : Int))]) = .rt (.d (.int ((L : Nat) : Int))) r ∧ LC a b L := by
  obtain ⟨L, r, e, q⟩ := common_loop a b ha hb ha4 hb4 b 0 (by omega) (fun j h0 hj => absurd hj (by omega)) none
  refine ⟨L, r, ?_, q⟩
  have e2 : forL (bName 2) m__law_common_b1 (fromOne (b + 1)) [some (.d (.int (a : Int))), some (.d (.int (b : Int))), none] = .rt (.d (.int ((L : Nat) : Int))) r := by
    unfold fromOne
    rw [List.range_eq_range']
    exact e
  have cb : ((b + 1 : Nat) : Int) = (b : Int) + 1 := by push_cast; rfl
  have hA : mBin gAdd (mVar 1) (mC (.int 1)) [some (.d (.int (a : Int))), some (.d (.int (b : Int))), none] = .ok (.d (.int ((b + 1 : Nat) : Int))) [some (.d (.int (a : Int))), some (.d (.int (b : Int))), none] := mBin_ok rfl rfl rfl rfl (by rw [cb]; rfl)
  have hR : mRng2 (mCons (mC (.int 1)) (mCons (mBin gAdd (mVar 1) (mC (.int 1))) mNil)) [some (.d (.int (a : Int))), some (.d (.int (b : Int))), none] = .ok (fromOne (b + 1)) [some (.d (.int (a : Int))), some (.d (.int (b : Int))), none] := by
    rw [mRng2_k, mCons_ok (rfl : mC (.int 1) [some (.d (.int (a : Int))), some (.d (.int (b : Int))), none] = .ok (.d (.int 1)) [some (.d (.int (a : Int))), some (.d (.int (b : Int))), none]) (mCons_ok hA mNil_k)]
    rw [bind_ok, rng2K_1 (b + 1) _ (by omega)]
  have st : m__law_common_s1 [some (.d (.int (a : Int))), some (.d (.int (b : Int))), none] = .rt (.d (.int ((L : Nat) : Int))) r := by
    unfold m__law_common_s1
    rw [mFor_k, hR, forK_ok, e2]
  exact seq_rt st
end K05
namespace K05
open PySem L2 Z
/-! ### small products shown; machines with edges to all -/
theorem rowP_len (ra rb : List Row) (W : List (Int × Int)) (p : Int × Int) : (rowP ra rb W p).length = (edg ra rb p).length := by
  unfold rowP edg
  rw [(psort_perm _).length_eq, List.length_map]
theorem prod_shb {n : Nat} {ra rb : List Row} (Ma : MOk n ra) (Mb : MOk n rb) {W : List (Int × Int)} (h : PI ra rb W) (hl : W.length ≤ 81) (hw : ∀ r ∈ ra, ∀ r' ∈ rb, r.length * r'.length ≤ 100) : Shb 4 48764 (machD n (W.map (rowP ra rb W))) := by
  have h5 := Ma.n5
  have la := Ma.most
  have lb := Mb.most
  refine (shb_mach (A := 81) (B := 100) h5 (fun r hr => ?_) (by rw [List.length_map]; exact hl) (by decide) fun r hr e he => ?_).mono (Nat.le_refl _) (by decide)
  · obtain ⟨p, hp, rfl⟩ := List.mem_map.mp hr
    have rg := h.rg p hp
    rw [rowP_len]
    exact Nat.le_trans (eob_len _ _) (hw _ (row_mem (by omega)) _ (row_mem (by omega)))
  · obtain ⟨p, hp, rfl⟩ := List.mem_map.mp hr
    have rg := h.rg p hp
    unfold rowP at he
    obtain ⟨x, hx, rfl⟩ := List.mem_map.mp ((psort_perm _).mem_iff.mp he)
    unfold eob at hx
    obtain ⟨y, hy, hx⟩ := List.mem_flatMap.mp hx
    obtain ⟨z, hz, rfl⟩ := List.mem_map.mp hx
    have ey := Ma.edge _ (row_mem (rows := ra) (p := p.1.toNat) (by omega)) y hy
    have ix : W.idxOf (y.2, z.2) ≤ W.length := List.idxOf_le_length
    refine ⟨⟨ey.1, by show y.1 ≤ 100000; omega⟩, ?_, ?_⟩
    · show (0 : Int) ≤ ((W.idxOf (y.2, z.2) : Nat) : Int)
      omega
    · show ((W.idxOf (y.2, z.2) : Nat) : Int) ≤ 100000
      omega
def fullRow (s : Nat) : Row := (List.range s).map fun (k : Nat) => ((0 : Int), ((k : Nat) : Int))
def fullR (s : Nat) : List Row := List.replicate s (fullRow s)
theorem full_len (s : Nat) : (fullR s).length = s := by unfold fullR; rw [List.length_replicate]
theorem fullRow_len (s : Nat) : (fullRow s).length = s := by unfold fullRow; rw [List.length_map, List.length_range]
theorem full_mem {s : Nat} {r : Row} (h : r ∈ fullR s) : r = fullRow s := (List.mem_replicate.mp h).2
theorem full_getD (s k : Nat) (h : k < s) : (fullR s).getD k [] = fullRow s := by
  unfold fullR
  rw [List.getD_eq_getElem?_getD, List.getElem?_replicate, if_pos h]
  rfl
theorem full_MOk (s : Nat) (h1 : 1 ≤ s) (h2 : s ≤ 9) : MOk 1 (fullR s) := by
  refine ⟨by decide, by rw [full_len]; exact h1, by rw [full_len]; omega, fun r hr e he => ?_, fun r hr => ?_, ?_⟩
  · rw [full_mem hr] at he
    unfold fullRow at he
    obtain ⟨k, hk, rfl⟩ := List.mem_map.mp he
    have hk := List.mem_range.mp hk
    rw [full_len]
    refine ⟨Int.le_refl 0, by show (0 : Int) < 1; decide, ?_, ?_⟩
    · show (0 : Int) ≤ (k : Int)
      omega
    · show (k : Int) < (s : Int)
      omega
  · rw [full_mem hr]
    unfold fullRow
    refine List.pairwise_map.mpr (List.pairwise_lt_range.imp fun {a b} h => .inr ⟨rfl, ?_⟩)
    show (a : Int) < (b : Int)
    omega
  · have := tot_leB (B := s) (fullR s) fun r hr => by rw [full_mem hr, fullRow_len]; exact Nat.le_refl _
    rw [full_len] at this
    have := Nat.mul_le_mul h2 h2
    omega
theorem eob_full (s : Nat) : (eob (fullRow s) (fullRow s)).length = s * s := by
  have h0 : ∀ e ∈ fullRow s, e.1 = 0 := fun e he => by
    unfold fullRow at he
    obtain ⟨k, _, rfl⟩ := List.mem_map.mp he
    rfl
  have gen : ∀ r : Row, (∀ e ∈ r, e.1 = 0) → (eob r (fullRow s)).length = r.length * s := by
    intro r
    induction r with
    | nil => intro _; simp [eob]
    | cons e r ih =>
      intro h
      have ih := ih fun x hx => h x (List.mem_cons_of_mem _ hx)
      have f : (fullRow s).filter (fun e2 => decide (e2.1 = e.1)) = fullRow s := List.filter_eq_self.mpr fun x hx => by
        rw [h0 x hx, h e List.mem_cons_self]
        rfl
      have ec : eob (e :: r) (fullRow s) = ((fullRow s).filter (fun e2 => decide (e2.1 = e.1))).map (fun e2 => (e.1, (e.2, e2.2))) ++ eob r (fullRow s) := rfl
      rw [ec, f, List.length_append, List.length_map, ih, fullRow_len, List.length_cons, Nat.succ_mul]
      omega
  rw [gen _ h0, fullRow_len]
theorem edg_full (s : Nat) (p : Int × Int) (h : (0 ≤ p.1 ∧ p.1 < (s : Int)) ∧ 0 ≤ p.2 ∧ p.2 < (s : Int)) : edg (fullR s) (fullR s) p = eob (fullRow s) (fullRow s) := by
  unfold edg
  rw [full_getD s _ (by omega), full_getD s _ (by omega)]
theorem full_rg {s : Nat} {W : List (Int × Int)} (h : PI (fullR s) (fullR s) W) : ∀ p ∈ W, (0 ≤ p.1 ∧ p.1 < (s : Int)) ∧ 0 ≤ p.2 ∧ p.2 < (s : Int) := fun p hp => by
  have := h.rg p hp
  rw [full_len] at this
  exact this
theorem full_W {s : Nat} (hs : 1 ≤ s) {W : List (Int × Int)} (h : PI (fullR s) (fullR s) W) (z : (0, 0) ∈ W) (cl : ∀ p ∈ W, Cl (fullR s) (fullR s) W p) : W.length = s * s := by
  have h1 : W.length ≤ s * s := by
    have := few_prs _ _ W h.nd h.rg
    rw [full_len] at this
    exact this
  have h2 := nd_len ((List.range (s * s)).map fun i : Nat => (((i / s : Nat) : Int), ((i % s : Nat) : Int))) W (by
    refine List.pairwise_map.mpr (List.nodup_range.imp fun {a b} hab e => hab ?_)
    have e1 := congrArg Prod.fst e
    have e2 := congrArg Prod.snd e
    simp only [] at e1 e2
    have ea := Nat.div_add_mod a s
    have eb := Nat.div_add_mod b s
    have e3 : a / s = b / s := by omega
    have e4 : a % s = b % s := by omega
    rw [← ea, ← eb, e3, e4]) fun p hp => by
    obtain ⟨i, hi, rfl⟩ := List.mem_map.mp hp
    have hi := List.mem_range.mp hi
    have m1 : i / s < s := Nat.div_lt_of_lt_mul hi
    have m2 : i % s < s := Nat.mod_lt _ (by omega)
    refine cl (0, 0) z ((0 : Int), (((i / s : Nat) : Int), ((i % s : Nat) : Int))) ?_
    rw [edg_full s (0, 0) (by constructor <;> constructor <;> (show _; omega))]
    unfold eob
    refine List.mem_flatMap.mpr ⟨((0 : Int), ((i / s : Nat) : Int)), ?_, List.mem_map.mpr ⟨((0 : Int), ((i % s : Nat) : Int)), List.mem_filter.mpr ⟨?_, by simp⟩, rfl⟩⟩
    · exact List.mem_map.mpr ⟨i / s, List.mem_range.mpr m1, rfl⟩
    · exact List.mem_map.mpr ⟨i % s, List.mem_range.mpr m2, rfl⟩
  rw [List.length_map, List.length_range] at h2
  omega
theorem full_many {s : Nat} : ∀ (W : List (Int × Int)), (∀ p ∈ W, (0 ≤ p.1 ∧ p.1 < (s : Int)) ∧ 0 ≤ p.2 ∧ p.2 < (s : Int)) → manyP (fullR s) (fullR s) W = s * s * W.length
  | [], _ => by simp [manyP]
  | p :: W, h => by
    have ih := full_many W fun q hq => h q (List.mem_cons_of_mem _ hq)
    unfold manyP at ih ⊢
    rw [List.map_cons, List.sum_cons, ih, edg_full s p (h p List.mem_cons_self), eob_full, List.length_cons, Nat.mul_succ]
    omega
theorem full_hw {s : Nat} (h : s ≤ 9) : ∀ r ∈ fullR s, ∀ r' ∈ fullR s, r.length * r'.length ≤ 100 := fun r hr r' hr' => by
  rw [full_mem hr, full_mem hr', fullRow_len]
  exact Nat.le_trans (Nat.mul_le_mul h h) (by decide)
/-- 2, 3 and 8 states -/
theorem full_small {s : Nat} (h1 : 1 ≤ s) (h8 : s ≤ 8) :
    ∃ W, PI (fullR s) (fullR s) W ∧ W.length = s * s ∧ (∀ p ∈ W, (rowP (fullR s) (fullR s) W p).length = s * s) ∧ (∃ r, m__law_due (env0 13 [.d (machD 1 (fullR s)), .d (machD 1 (fullR s))]) = .rt (.d (.tuple [.list (W.map pairD), machD 1 (W.map (rowP (fullR s) (fullR s) W))])) r) ∧
      (∃ r, m_product (env0 12 [.d (machD 1 (fullR s)), .d (machD 1 (fullR s))]) = .rt (.d (machD 1 (W.map (rowP (fullR s) (fullR s) W)))) r) ∧ Shb 4 48764 (machD 1 (W.map (rowP (fullR s) (fullR s) W))) := by
  have M := full_MOk s h1 (by omega)
  have s2 := Nat.mul_le_mul h8 h8
  obtain ⟨W, k1, k2, k3, k4, k5, k6, k7⟩ := small_product M M (by rw [full_len]; omega) (full_hw (by omega)) fun W hW => by
    have l := few_prs _ _ W hW.nd hW.rg
    rw [full_len] at l
    rw [full_many W (full_rg hW)]
    exact Nat.le_trans (Nat.mul_le_mul s2 (Nat.le_trans l s2)) (by decide)
  rw [full_len] at k2
  refine ⟨W, k1, full_W h1 k1 k3 k4, fun p hp => ?_, k5, k6, prod_shb M M k1 (by omega) (full_hw (by omega))⟩
  rw [rowP_len, edg_full s p (full_rg k1 p hp), eob_full]
theorem full_nine (s : Nat) (hs : s = 9) : (∃ r, m_product (env0 12 [.d (machD 1 (fullR s)), .d (machD 1 (fullR s))]) = .exc 7 r) ∧ ∃ (W : List (Int × Int)) (r : Z.Env), W.length = s * s ∧ m_pairs_of (env0 9 [.d (machD 1 (fullR s)), .d (machD 1 (fullR s))]) = .rt (.o (W.map pairD)) r := by
  have h81 : s * s = 81 := by rw [hs]
  have M := full_MOk s (by omega) (by omega)
  have hE : ∀ p q : Nat, p < (fullR s).length → q < (fullR s).length → (eob ((fullR s).getD p []) ((fullR s).getD q [])).length ≤ 900000 := fun p q hp hq =>
    Nat.le_trans (eob_len _ _) (Nat.le_trans (full_hw (by omega) _ (row_mem hp) _ (row_mem hq)) (by decide))
  have len : ∀ W, W.length ≤ 400 → (∀ M, 401 ≤ M → walkP (fullR s) (fullR s) M [(0, 0)] 0 = W) → PI (fullR s) (fullR s) W → W.length = s * s := fun W h1 h2 h3 => full_W (s := s) (by omega) h3 (by
    obtain ⟨g, eg⟩ := walkP_pre (fullR s) (fullR s) 401 [(0, 0)] 0
    rw [← h2 401 (Nat.le_refl _), eg]
    simp) (all_closed h1 h2)
  have big : ¬ ∀ M, 401 ≤ M → 400 < (walkP (fullR s) (fullR s) M [(0, 0)] 0).length := fun h => by
    rcases pairs_ok M M hE with ⟨W, r, e, j1, j2, j3⟩ | ⟨ρ, e, j1⟩
    · have h4 := h 401 (Nat.le_refl _)
      rw [j3 401 (Nat.le_refl _)] at h4
      exact absurd j1 (Nat.not_le.mpr h4)
    · obtain ⟨W, r, hW, hP, _⟩ := due_ok M M (fun p q hp hq => Nat.le_trans (full_hw (by omega) _ (row_mem hp) _ (row_mem hq)) (by decide)) (fun fs hf => few_prs _ _ fs hf.nd hf.rg) (by rw [full_len]; omega)
      have l := few_prs _ _ W hP.nd hP.rg
      rw [full_len] at hW l
      have := walk_more (fullR s) (fullR s) (s * s) [(0, 0)] 0 (by rw [← hW]; exact l) 401 (by omega)
      have h4 := j1 401 (Nat.le_refl _)
      rw [this, ← hW] at h4
      omega
  constructor
  · rcases product_ok M M hE with ⟨W, r, e, j1, j2, j3, j4⟩ | ⟨ρ, e, _⟩
    · exfalso
      have l := len W j1 j4 j2
      rw [full_many W (full_rg j2), l] at j3
      rw [h81] at j3
      exact absurd j3 (by decide)
    · exact ⟨ρ, e⟩
  · rcases pairs_ok M M hE with ⟨W, r, e, j1, j2, j3⟩ | ⟨ρ, e, j1⟩
    · exact ⟨W, r, len W j1 j3 j2, e⟩
    · exact absurd j1 big
end K05
namespace K05
open PySem L2 Z
abbrev LE (sc : Option Z.S) (bx : List Z.D) (n : Nat) (A B : Z.D) (x5 x6 x7 x8 x9 x10 x11 x12 x13 x14 x15 x16 x17 : Option Z.S) : Z.Env := [sc, some (.o bx), some (.d (.int n)), some (.d A), some (.d B), x5, x6, x7, x8, x9, x10, x11, x12, x13, x14, x15, x16, x17]
section
variable {sc : Option Z.S} {bx : List Z.D} {n : Nat} {A B : Z.D}
theorem kit_tupT : kitB "tuple" "tuple" = some true := kit_tt
theorem bools_in : ∀ k : Nat, gIn (.bool false) (.list (List.replicate k (PyData.bool true))) = some (.d (.bool false)) := fun k => by
  have h1 : SeqAt.shaped (.bool false) = true := (Sh.bool false).shaped (by decide)
  have h2 : SeqAt.shaped (.list (List.replicate k (PyData.bool true))) = true := (Sh.list (k := 0) fun x hx => by rw [(List.mem_replicate.mp hx).2]; exact Sh.bool true).shaped (by decide)
  have h3 : ((List.replicate k (PyData.bool true)).any fun z => PyData.eqv z (.bool false)) = false := by
    rw [List.any_eq_false]
    intro x hx
    rw [(List.mem_replicate.mp hx).2]
    decide
  show (if _ then _ else _) = _
  rw [h1, h2, h3]
  rfl
theorem s6_ok (W : List (Int × Int)) (X : List Z.D) (x8 x9 x10 x11 x12 x13 x14 x15 x16 x17 : Option Z.S) (he : ∃ r, m__law_told (env0 4 [.d (.int 0), .d A, .d B]) = .rt (.d (.tuple X)) r) (hs : Shb 4 48764 (.tuple X)) :
    m_law_s6 (LE sc bx n A B (some (.d (.list (W.map pairD)))) (some (.d (.tuple X))) (some (.o (W.map pairD))) x8 x9 x10 x11 x12 x13 x14 x15 x16 x17) = .nx (LE sc bx n A B (some (.d (.list (W.map pairD)))) (some (.d (.tuple X))) (some (.o (W.map pairD))) x8 x9 x10 x11 x12 x13 x14 x15 x16 x17) := by
  obtain ⟨r, e⟩ := he
  have re := repr_tup hs (by decide) (by decide)
  have g1 := gNe_self (sh_prs W) (by decide)
  have g2 := gNeS hs.ok
  generalize W.map pairD = WD at *
  generalize (PyData.tuple X).shown = sh at *
  clear hs
  unfold m_law_s6 LE
  walk_at "ev"
theorem s8_ok (W : List (Int × Int)) (hl : W.length ≤ 1000) (x6 x7 x9 x10 x11 x12 x13 x14 x15 x16 x17 : Option Z.S) (he : ∃ r, m_pairs_of (env0 9 [.d A, .d B]) = .rt (.o (W.map pairD)) r) :
    m_law_s8 (LE sc bx n A B (some (.d (.list (W.map pairD)))) x6 x7 none x9 x10 x11 x12 x13 x14 x15 x16 x17) = .nx (LE sc bx n A B (some (.d (.list (W.map pairD)))) x6 x7 none x9 x10 x11 x12 x13 x14 x15 x16 x17) := by
  obtain ⟨r, e⟩ := he
  have g1 := gNe_self (sh_prs W) (by decide)
  have kt := kit_tupT
  have lc := lcL_enc (P := 0) 8 pairD (mt := mYes) (me := m_law_e1) (ρ := LE sc bx n A B (some (.d (.list (W.map pairD)))) x6 x7 none x9 x10 x11 x12 x13 x14 x15 x16 x17) W (fun _ => true) (fun _ => .bool true) rfl (fun _ _ => rfl) (fun p hp _ => by
    unfold m_law_e1 LE pairD
    clear g1 hl hp e
    walk_at "ev") (by omega)
  rw [filter_yes] at lc
  have em : W.map (fun _ => PyData.bool true) = List.replicate W.length (PyData.bool true) := List.map_const'
  have bi := bools_in W.length
  rw [← em] at bi
  generalize W.map pairD = WD at *
  generalize W.map (fun _ => PyData.bool true) = BD at *
  clear hl em kt
  unfold m_law_s8
  unfold LE at lc ⊢
  walk_at "ev"
theorem s9_ok (hb : Box bx) (x5 x6 x7 x8 x9 x10 x11 x12 x13 x14 x15 x16 x17 : Option Z.S) : ∃ (bx' : List Z.D) (a b : Nat), Box bx' ∧ (1 ≤ a ∧ a ≤ 30) ∧ (1 ≤ b ∧ b ≤ 30) ∧
    m_law_s9 (LE sc bx n A B x5 x6 x7 x8 x9 x10 x11 x12 x13 x14 x15 x16 x17) = .nx (LE sc bx' n A B x5 x6 x7 x8 (some (.d (.int (a : Int)))) (some (.d (.int (b : Int)))) x11 x12 x13 x14 x15 x16 x17) := by
  obtain ⟨a, bx1, r1, e1, hb1, h1⟩ := take_lit bx hb 30 (by decide) (by decide)
  obtain ⟨b, bx2, r2, e2, hb2, h2⟩ := take_lit bx1 hb1 30 (by decide) (by decide)
  have e1 : m__law_take (env0 5 [.o bx, .d (.int 30)]) = .rt (.d (.int a)) (some (.o bx1) :: r1) := e1
  have e2 : m__law_take (env0 5 [.o bx1, .d (.int 30)]) = .rt (.d (.int b)) (some (.o bx2) :: r2) := e2
  refine ⟨bx2, 1 + a, 1 + b, hb2, by omega, by omega, ?_⟩
  have c1 : ((1 + a : Nat) : Int) = 1 + (a : Int) := by push_cast; rfl
  have c2 : ((1 + b : Nat) : Int) = 1 + (b : Int) := by push_cast; rfl
  rw [c1, c2]
  clear c1 c2 h1 h2 hb hb1 hb2
  unfold m_law_s9 LE
  walk_at "ev"
theorem s10_ok (a b : Nat) (h1 : 1 ≤ a ∧ a ≤ 30) (h2 : 1 ≤ b ∧ b ≤ 30) (x5 x6 x7 x8 x11 x12 x13 x14 x15 x16 x17 : Option Z.S) : ∃ L : Nat, LC a b L ∧
    m_law_s10 (LE sc bx n A B x5 x6 x7 x8 (some (.d (.int (a : Int)))) (some (.d (.int (b : Int)))) x11 x12 x13 x14 x15 x16 x17) = .nx (LE sc bx n A B x5 x6 x7 x8 (some (.d (.int (a : Int)))) (some (.d (.int (b : Int)))) (some (.d (.int (L : Int)))) x12 x13 x14 x15 x16 x17) := by
  obtain ⟨L, r, e, q⟩ := common_ok a b h1.1 h2.1 (by omega) (by omega)
  refine ⟨L, q, ?_⟩
  clear q h1 h2
  unfold m_law_s10 LE
  walk_at "ev"
abbrev GE (sc : Option Z.S) (bx : List Z.D) (n : Nat) (A B : Z.D) (a b L : Nat) (x5 x6 x7 x8 x12 x13 x14 x15 x16 x17 : Option Z.S) : Z.Env := LE sc bx n A B x5 x6 x7 x8 (some (.d (.int (a : Int)))) (some (.d (.int (b : Int)))) (some (.d (.int (L : Int)))) x12 x13 x14 x15 x16 x17
theorem sh_much : gNe sMuch sMuch = some (.d (.bool false)) := gNeS (by decide +kernel)
/-- more than 400 pairs -/
theorem big_ok (a b L : Nat) (h1 : 1 ≤ a ∧ a ≤ 30) (h2 : 1 ≤ b ∧ b ≤ 30) (q : LC a b L) (hL : 400 < L) (x5 x6 x7 x8 x12 x13 x14 x15 x16 x17 : Option Z.S) :
    m_law_s11 (GE sc bx n A B a b L x5 x6 x7 x8 x12 x13 x14 x15 x16 x17) = .nx (GE sc bx n A B a b L (some (.d sMuch)) x6 x7 x8 x12 x13 x14 x15 x16 x17) ∧
    m_law_s12 (GE sc bx n A B a b L (some (.d sMuch)) x6 x7 x8 x12 x13 x14 x15 x16 x17) = .nx (GE sc bx n A B a b L (some (.d sMuch)) x6 x7 x8 x12 x13 x14 x15 x16 x17) ∧
    m_law_s13 (GE sc bx n A B a b L (some (.d sMuch)) x6 x7 x8 x12 x13 x14 x15 x16 x17) = .nx (GE sc bx n A B a b L (some (.d sMuch)) x6 x7 x8 x12 x13 x14 x15 x16 x17) := by
  obtain ⟨ra, ea⟩ := ring_ok a (by omega) (by omega)
  obtain ⟨rb, eb⟩ := ring_ok b (by omega) (by omega)
  have g := sh_much
  have p1 : ∃ r, m__law_told (env0 4 [.d (.int 1), .d (machD 1 (ringR a)), .d (machD 1 (ringR b))]) = .rt (.d sMuch) r := by
    rcases ring_pairs q h1.1 h2.1 (by omega) (by omega) with ⟨z, _⟩ | ⟨_, r, e⟩
    · omega
    · exact told_e1 e
  have p0 : ∃ r, m__law_told (env0 4 [.d (.int 0), .d (machD 1 (ringR a)), .d (machD 1 (ringR b))]) = .rt (.d sMuch) r := by
    rcases ring_product q h1.1 h2.1 (by omega) (by omega) with ⟨z, _⟩ | ⟨_, r, e⟩
    · omega
    · exact told_e0 e
  obtain ⟨r1, p1⟩ := p1
  obtain ⟨r0, p0⟩ := p0
  have d1 : decide ((400 : Int) < (L : Int)) = true := decide_eq_true (by omega)
  have d2 : decide ((L : Int) ≤ (400 : Int)) = false := decide_eq_false (by omega)
  generalize machD 1 (ringR a) = RA at *
  generalize machD 1 (ringR b) = RB at *
  clear h1 h2 q hL
  refine ⟨?_, ?_, ?_⟩
  · clear d1 d2 p0 g
    unfold m_law_s11 GE LE
    walk_at "ev"
  · clear d2 p1
    unfold m_law_s12 GE LE
    walk_at "ev"
  · clear d1 p0 p1 g ea eb
    unfold m_law_s13 GE LE
    walk_at "ev"
theorem small_ok (a b L : Nat) (h1 : 1 ≤ a ∧ a ≤ 30) (h2 : 1 ≤ b ∧ b ≤ 30) (q : LC a b L) (hL : L ≤ 400) (x5 x6 x7 x8 x13 x14 x15 x16 x17 : Option Z.S) : ∃ y5 z5,
    m_law_s11 (GE sc bx n A B a b L x5 x6 x7 x8 none x13 x14 x15 x16 x17) = .nx (GE sc bx n A B a b L y5 x6 x7 x8 none x13 x14 x15 x16 x17) ∧
    m_law_s12 (GE sc bx n A B a b L y5 x6 x7 x8 none x13 x14 x15 x16 x17) = .nx (GE sc bx n A B a b L y5 x6 x7 x8 none x13 x14 x15 x16 x17) ∧
    m_law_s13 (GE sc bx n A B a b L y5 x6 x7 x8 none x13 x14 x15 x16 x17) = .nx (GE sc bx n A B a b L z5 x6 x7 x8 none x13 x14 x15 x16 x17) := by
  obtain ⟨ra, ea⟩ := ring_ok a (by omega) (by omega)
  obtain ⟨rb, eb⟩ := ring_ok b (by omega) (by omega)
  have p1 : ∃ r, m__law_told (env0 4 [.d (.int 1), .d (machD 1 (ringR a)), .d (machD 1 (ringR b))]) = .rt (.o (((List.range L).map (rgR a b)).map pairD)) r := by
    rcases ring_pairs q h1.1 h2.1 (by omega) (by omega) with ⟨_, r, e⟩ | ⟨z, _⟩
    · exact told_p1 e
    · omega
  obtain ⟨r1, p1⟩ := p1
  have d1 : decide ((400 : Int) < (L : Int)) = false := decide_eq_false (by omega)
  have d2 : decide ((L : Int) ≤ (400 : Int)) = true := decide_eq_true (by omega)
  have g := gNe_self (sh_prs ((List.range L).map (rgR a b))) (by decide)
  have L2 : L < 1000000 := by omega
  have a0 : 0 < (a : Int) := by omega
  have b0 : 0 < (b : Int) := by omega
  refine ⟨some (.o (((List.range L).map (rgR a b)).map pairD)), some (.o (((List.range L).map (rgR a b)).map pairD)), ?_, ?_, ?_⟩
  · generalize machD 1 (ringR a) = RA at *
    generalize machD 1 (ringR b) = RB at *
    generalize ((List.range L).map (rgR a b)).map pairD = WD at *
    clear d1 d2 g L2 h1 h2 q hL a0 b0
    unfold m_law_s11 GE LE
    walk_at "ev"
  · clear d2 g L2 h1 h2 q hL a0 b0 ea eb p1
    unfold m_law_s12 GE LE
    walk_at "ev"
  · have lc := lcL_nats (P := 0) 12 (mt := mYes) (me := m_law_e2) (ρ := GE sc bx n A B a b L (some (.o (((List.range L).map (rgR a b)).map pairD))) x6 x7 x8 none x13 x14 x15 x16 x17) L (fun _ => true) (fun k => pairD (rgR a b k)) rfl (fun _ _ => rfl) (fun k hk _ => by
      have k1 : (k : Int) % (a : Int) = ((k % a : Nat) : Int) := by push_cast; rfl
      have k2 : (k : Int) % (b : Int) = ((k % b : Nat) : Int) := by push_cast; rfl
      unfold m_law_e2 GE LE pairD rgR
      clear d1 d2 g L2 h1 h2 q hL ea eb p1 hk
      generalize (List.map _ _) = WD
      walk_at "ev") (by omega)
    rw [filter_yes] at lc
    have em : (List.range L).map (fun k => pairD (rgR a b k)) = ((List.range L).map (rgR a b)).map pairD := by rw [List.map_map]; rfl
    rw [em] at lc
    generalize ((List.range L).map (rgR a b)).map pairD = WD at *
    clear d1 h1 h2 q hL a0 b0 ea eb p1 em
    unfold m_law_s13
    unfold GE LE at lc ⊢
    walk_at "ev"
end
end K05
namespace K05
open PySem L2 Z
section
variable {sc : Option Z.S} {bx : List Z.D} {n : Nat} {A B : Z.D}
theorem s14_ok (hb : Box bx) (x5 x6 x7 x8 x9 x10 x11 x12 x13 x14 x15 x16 x17 : Option Z.S) : ∃ (bx' : List Z.D) (h : Nat), Box bx' ∧ (50 ≤ h ∧ h ≤ 200) ∧
    m_law_s14 (LE sc bx n A B x5 x6 x7 x8 x9 x10 x11 x12 x13 x14 x15 x16 x17) = .nx (LE sc bx' n A B x5 x6 x7 x8 x9 x10 x11 x12 (some (.d (.int ((2 * h : Nat) : Int)))) x14 x15 x16 x17) := by
  obtain ⟨t, bx1, r1, e1, hb1, h1⟩ := take_lit bx hb 151 (by decide) (by decide)
  have e1 : m__law_take (env0 5 [.o bx, .d (.int 151)]) = .rt (.d (.int t)) (some (.o bx1) :: r1) := e1
  refine ⟨bx1, 50 + t, hb1, by omega, ?_⟩
  have c1 : ((2 * (50 + t) : Nat) : Int) = 100 + 2 * (t : Int) := by push_cast; omega
  rw [c1]
  clear c1 h1 hb hb1
  unfold m_law_s14 LE
  walk_at "ev"
theorem s15_ok (L : Nat) (h1 : 1 ≤ L ∧ L ≤ 400) (x5 x6 x7 x8 x9 x10 x11 x12 x14 x15 x16 x17 : Option Z.S) :
    m_law_s15 (LE sc bx n A B x5 x6 x7 x8 x9 x10 x11 x12 (some (.d (.int (L : Int)))) x14 x15 x16 x17) = .nx (LE sc bx n A B x5 x6 x7 x8 x9 x10 x11 x12 (some (.d (.int (L : Int)))) (some (.d (machD 1 (ringR L)))) x15 x16 x17) := by
  obtain ⟨ra, ea⟩ := ring_ok L (by omega) (by omega)
  clear h1
  unfold m_law_s15 LE
  walk_at "ev"
theorem lc_self (L : Nat) (h : 0 < L) (a : Nat) (ha : a ∣ L) : LC L a L := ⟨h, Nat.dvd_refl L, ha, fun m h0 h1 d => absurd (Nat.le_of_dvd h0 d.1) (by omega)⟩
theorem s16_ok (h : Nat) (h1 : 50 ≤ h ∧ h ≤ 200) (hb : Box bx) (x5 x6 x7 x8 x9 x10 x11 x12 x15 x16 x17 : Option Z.S) : ∃ bx', Box bx' ∧
    m_law_s16 (LE sc bx n A B x5 x6 x7 x8 x9 x10 x11 x12 (some (.d (.int ((2 * h : Nat) : Int)))) (some (.d (machD 1 (ringR (2 * h))))) x15 x16 x17) = .nx (LE sc bx' n A B x5 x6 x7 x8 x9 x10 x11 x12 (some (.d (.int ((2 * h : Nat) : Int)))) (some (.d (machD 1 (ringR (2 * h))))) x15 x16 x17) := by
  obtain ⟨t, ht, bx', r, e, hb'⟩ := pick_ok bx hb [machD 1 (ringR (2 * h)), machD 1 (ringR h)] (by simp) (by simp)
  refine ⟨bx', hb', ?_⟩
  have hdv : ((2 * h : Nat) : Int) / 2 = (h : Int) := by omega
  obtain ⟨ra, ea⟩ := ring_ok h (by omega) (by omega)
  have g := gNe_self (sh_mach 1 (ringR (2 * h))) (by decide)
  have ex : ∃ a, a ∣ 2 * h ∧ 1 ≤ a ∧ a ≤ 400 ∧ [machD 1 (ringR (2 * h)), machD 1 (ringR h)][t] = machD 1 (ringR a) := by
    have : t = 0 ∨ t = 1 := by simp at ht; omega
    rcases this with rfl | rfl
    · exact ⟨2 * h, Nat.dvd_refl _, by omega, by omega, rfl⟩
    · exact ⟨h, Nat.dvd_mul_left _ _, by omega, by omega, rfl⟩
  obtain ⟨a, da, a1, a4, em⟩ := ex
  rw [em] at e
  have p0 : ∃ r, m__law_told (env0 4 [.d (.int 0), .d (machD 1 (ringR (2 * h))), .d (machD 1 (ringR a))]) = .rt (.d (machD 1 (ringR (2 * h)))) r := by
    rcases ring_product (lc_self (2 * h) (by omega) a da) (by omega) a1 (by omega) a4 with ⟨_, r, e⟩ | ⟨z, _⟩
    · exact told_p0 e
    · omega
  obtain ⟨r0, p0⟩ := p0
  have p1 : ∃ r, m_pairs_of (env0 9 [.d (machD 1 (ringR (2 * h))), .d (machD 1 (ringR (2 * h)))]) = .rt (.o (((List.range (2 * h)).map (rgR (2 * h) (2 * h))).map pairD)) r := by
    rcases ring_pairs (lc_self (2 * h) (by omega) (2 * h) (Nat.dvd_refl _)) (by omega) (by omega) (by omega) (by omega) with ⟨_, r, e⟩ | ⟨z, _⟩
    · exact ⟨r, e⟩
    · omega
  obtain ⟨r1, p1⟩ := p1
  have ln : ((((List.range (2 * h)).map (rgR (2 * h) (2 * h))).map pairD).length : Int) = ((2 * h : Nat) : Int) := by rw [List.length_map, List.length_map, List.length_range]
  generalize ((List.range (2 * h)).map (rgR (2 * h) (2 * h))).map pairD = WD at *
  generalize machD 1 (ringR (2 * h)) = R2 at *
  generalize machD 1 (ringR h) = R1 at *
  generalize machD 1 (ringR a) = Ra at *
  generalize ((2 * h : Nat) : Int) = hh at *
  clear h1 ht da a1 a4 em hb hb'
  unfold m_law_s16 LE
  walk_at "ev"
theorem s17_ok (hb : Box bx) (x5 x6 x7 x8 x9 x10 x11 x12 x13 x14 x15 x16 x17 : Option Z.S) : ∃ (bx' : List Z.D) (s : Nat), (s = 2 ∨ s = 3 ∨ s = 8 ∨ s = 9) ∧
    m_law_s17 (LE sc bx n A B x5 x6 x7 x8 x9 x10 x11 x12 x13 x14 x15 x16 x17) = .nx (LE sc bx' n A B x5 x6 x7 x8 x9 x10 x11 x12 x13 x14 (some (.d (.int (s : Int)))) x16 x17) := by
  obtain ⟨s, bx', r, e, hb', _, hs⟩ := pick_ints bx hb [2, 3, 8, 9] (by decide) (by decide) 9 (by decide)
  simp only [List.map_cons, List.map_nil, cast_lit] at e
  refine ⟨bx', s, by simpa using hs, ?_⟩
  clear hs hb hb'
  unfold m_law_s17 LE
  walk_at "ev"
theorem full_D (s : Nat) : machD 1 (fullR s) = .tuple [.int 1, .tuple (List.replicate s (.tuple ((List.range s).map fun (k : Nat) => PyData.tuple [.int 0, .int (k : Int)])))] := by
  unfold machD fullR
  rw [List.map_replicate]
  have : rowD (fullRow s) = .tuple ((List.range s).map fun (k : Nat) => PyData.tuple [.int 0, .int (k : Int)]) := by
    unfold rowD fullRow
    rw [List.map_map]
    rfl
  rw [this]
  rfl
theorem s18_ok (s : Nat) (hs : s ≤ 9) (x5 x6 x7 x8 x9 x10 x11 x12 x13 x14 x16 : Option Z.S) :
    m_law_s18 (LE sc bx n A B x5 x6 x7 x8 x9 x10 x11 x12 x13 x14 (some (.d (.int (s : Int)))) x16 none) = .nx (LE sc bx n A B x5 x6 x7 x8 x9 x10 x11 x12 x13 x14 (some (.d (.int (s : Int)))) (some (.d (machD 1 (fullR s)))) none) := by
  have lc := lcL_nats (P := 0) 17 (mt := mYes) (me := m_law_e3) (ρ := LE sc bx n A B x5 x6 x7 x8 x9 x10 x11 x12 x13 x14 (some (.d (.int (s : Int)))) x16 none) s (fun _ => true) (fun (k : Nat) => PyData.tuple [.int 0, .int (k : Int)]) rfl (fun _ _ => rfl) (fun k hk _ => by
    unfold m_law_e3 LE
    clear hk hs
    walk_at "ev") (by omega)
  rw [filter_yes] at lc
  have g := gRepA_1 (.tuple ((List.range s).map fun (k : Nat) => PyData.tuple [.int 0, .int (k : Int)])) s (by omega)
  have sl : s < 1000000 := by omega
  rw [full_D]
  generalize ((List.range s).map fun (k : Nat) => PyData.tuple [.int 0, .int (k : Int)]) = RW at *
  clear hs
  unfold m_law_s18
  unfold LE at lc ⊢
  walk_at "ev"
/-- the end, by the size -/
theorem tail_small (s : Nat) (hs : s = 2 ∨ s = 3) (x5 x6 x7 x8 x9 x10 x11 x12 x13 x14 : Option Z.S) :
    ∃ ρ, mSeq m_law_s19 (mSeq m_law_s20 (mSeq m_law_s21 m_law_s22)) (LE sc bx n A B x5 x6 x7 x8 x9 x10 x11 x12 x13 x14 (some (.d (.int (s : Int)))) (some (.d (machD 1 (fullR s)))) none) = .rt (.d (.bool true)) ρ := by
  obtain ⟨W, k1, k2, k3, ⟨r1, e1⟩, ⟨r2, e2⟩, k6⟩ := full_small (s := s) (by omega) (by omega)
  obtain ⟨r3, e3⟩ := told_p0 e2
  have re := repr_tup k6 (by decide) (by decide)
  have g := gEqS k6.ok
  have d1 : decide ((s : Int) = 9) = false := decide_eq_false (by omega)
  have d2 : decide ((s : Int) = 8) = false := decide_eq_false (by omega)
  unfold machD at k6 e1 e3 g
  generalize (W.map (rowP (fullR s) (fullR s) W)).map rowD = X at *
  generalize (PyData.tuple [PyData.int ((1 : Nat) : Int), PyData.tuple X]).shown = sh at *
  generalize eF : PyData.tuple [PyData.int ((1 : Nat) : Int), PyData.tuple ((fullR s).map rowD)] = F at *
  clear k1 k2 k3 hs e2 k6
  have c1 : ((1 : Nat) : Int) = 1 := rfl
  rw [c1] at re e1 e3
  unfold m_law_s19 m_law_s20 m_law_s21 m_law_s22 LE machD
  rw [eF]
  clear eF c1
  walk_at "ev"
  exact ⟨_, rfl⟩
theorem tail_eight (s : Nat) (hs : s = 8) (x5 x6 x7 x8 x9 x10 x11 x12 x13 x14 : Option Z.S) :
    ∃ ρ, mSeq m_law_s19 (mSeq m_law_s20 (mSeq m_law_s21 m_law_s22)) (LE sc bx n A B x5 x6 x7 x8 x9 x10 x11 x12 x13 x14 (some (.d (.int (s : Int)))) (some (.d (machD 1 (fullR s)))) none) = .rt (.d (.bool true)) ρ := by
  obtain ⟨W, k1, k2, k3, ⟨r1, e1⟩, ⟨r2, e2⟩, k6⟩ := full_small (s := s) (by omega) (by omega)
  obtain ⟨r3, e3⟩ := told_p0 e2
  have d1 : decide ((s : Int) = 9) = false := decide_eq_false (by omega)
  have d2 : decide ((s : Int) = 8) = true := decide_eq_true (by omega)
  have h64 : s * s = 64 := by rw [hs]
  have wl : W.length = 64 := by omega
  have l1 : ((((W.map (rowP (fullR s) (fullR s) W)).map rowD).length : Nat) : Int) = 64 := by rw [List.length_map, List.length_map, wl]; rfl
  obtain ⟨Y, hY, ly⟩ : ∃ Y, ((W.map (rowP (fullR s) (fullR s) W)).map rowD)[63]? = some (.tuple Y) ∧ (Y.length : Int) = 64 := by
    have w63 : 63 < W.length := by omega
    refine ⟨(rowP (fullR s) (fullR s) W W[63]).map pairD, ?_, ?_⟩
    · rw [List.map_map, List.getElem?_map, List.getElem?_eq_getElem w63]
      rfl
    · rw [List.length_map, k3 _ (List.getElem_mem w63), h64]
      rfl
  have kt := kit_tupT
  unfold machD at e3
  generalize (W.map (rowP (fullR s) (fullR s) W)).map rowD = X at *
  generalize eF : PyData.tuple [PyData.int ((1 : Nat) : Int), PyData.tuple ((fullR s).map rowD)] = F at *
  clear k1 k2 k3 hs e2 k6 e1 h64 wl
  unfold m_law_s19 m_law_s20 m_law_s21 m_law_s22 LE machD
  rw [eF]
  walk_at "ev"
  exact ⟨_, rfl⟩
theorem tail_nine (s : Nat) (hs : s = 9) (x5 x6 x7 x8 x9 x10 x11 x12 x13 x14 : Option Z.S) :
    ∃ ρ, mSeq m_law_s19 (mSeq m_law_s20 (mSeq m_law_s21 m_law_s22)) (LE sc bx n A B x5 x6 x7 x8 x9 x10 x11 x12 x13 x14 (some (.d (.int (s : Int)))) (some (.d (machD 1 (fullR s)))) none) = .rt (.d (.bool true)) ρ := by
  obtain ⟨⟨r, e⟩, W, r2, wl, e2⟩ := full_nine s hs
  obtain ⟨r3, e3⟩ := told_e0 e
  have d1 : decide ((s : Int) = 9) = true := decide_eq_true (by omega)
  have h81 : s * s = 81 := by rw [hs]
  have l1 : (((W.map pairD).length : Nat) : Int) = 81 := by rw [List.length_map, wl, h81]; rfl
  have g : gEq sMuch sMuch = some (.d (.bool true)) := gEqS (by decide +kernel)
  generalize W.map pairD = WD at *
  generalize machD 1 (fullR s) = F at *
  clear hs wl h81 e
  unfold m_law_s19 m_law_s20 m_law_s21 m_law_s22 LE
  walk_at "ev"
  exact ⟨_, rfl⟩
end
end K05
namespace K05
open PySem L2 Z
theorem law_true : ∀ ns : List Int, ns.length ≤ 63 → ∃ ρ', m_law (env0 18 [.d (.list (ns.map .int))]) = .rt (.d (.bool true)) ρ' := by
  intro ns hns
  obtain ⟨r0, bx0, e0, hb0⟩ := box_ok ns hns
  obtain ⟨n, bx1, r1, e1, hb1, hn⟩ := take_lit bx0 hb0 6 (by decide) (by decide)
  have hn5 : n ≤ 5 := by omega
  have e1 : m__law_take (env0 5 [.o bx0, .d (.int 6)]) = .rt (.d (.int n)) (some (.o bx1) :: r1) := e1
  obtain ⟨bx2, ra, r2, hb2, Ma, la, wa, e2⟩ := machine_runB bx1 hb1 n hn5 6 (by decide) (by decide)
  have e2 : m__law_machine (env0 10 [.o bx1, .d (.int n), .d (.int 6)]) = .rt (.d (machD n ra)) (some (.o bx2) :: r2) := e2
  obtain ⟨bx3, rb, r3, hb3, Mb, lb, wb, e3⟩ := machine_runB bx2 hb2 n hn5 6 (by decide) (by decide)
  have e3 : m__law_machine (env0 10 [.o bx2, .d (.int n), .d (.int 6)]) = .rt (.d (machD n rb)) (some (.o bx3) :: r3) := e3
  have ml : ra.length * rb.length ≤ 6 * 6 := Nat.mul_le_mul la lb
  have hw : ∀ r ∈ ra, ∀ r' ∈ rb, r.length * r'.length ≤ 100 := fun r hr r' hr' => Nat.le_trans (Nat.mul_le_mul (wa r hr) (wb r' hr')) (by decide)
  obtain ⟨W, k1, k2, _, _, ⟨r4, e4⟩, ⟨r5, e5⟩, ⟨r6, e6⟩⟩ := small_product Ma Mb (by omega) hw fun W hW => by
    have l := few_prs _ _ W hW.nd hW.rg
    have := many_le (n := n) Ma Mb hw W hW.rg
    omega
  have sb := prod_shb Ma Mb k1 (by omega) hw
  have t0 := told_p0 e5
  obtain ⟨r7, t1⟩ := told_p1 e6
  have wl : W.length ≤ 1000 := by omega
  have p3 : mSeq m_law_s1 (mSeq m_law_s2 (mSeq m_law_s3 (mSeq m_law_s4 m_law_s5))) (env0 18 [.d (.list (ns.map .int))]) = .nx (LE (some (.d (.list (ns.map .int)))) bx3 n (machD n ra) (machD n rb) (some (.d (.list (W.map pairD)))) (some (.d (machD n (W.map (rowP ra rb W))))) (some (.o (W.map pairD))) none none none none none none none none none none) := by
    generalize machD n ra = A at *
    generalize machD n rb = B at *
    generalize machD n (W.map (rowP ra rb W)) = C at *
    generalize W.map pairD = WD at *
    clear hns hb0 hb1 hb2 hb3 Ma Mb la lb wa wb ml hw k1 k2 sb t0 e5 e6 wl hn hn5
    unfold m_law_s1 m_law_s2 m_law_s3 m_law_s4 m_law_s5 LE
    walk_at "st"
    walk_at "ev"
  have p6 : m_law_s6 (LE (some (.d (.list (ns.map .int)))) bx3 n (machD n ra) (machD n rb) (some (.d (.list (W.map pairD)))) (some (.d (machD n (W.map (rowP ra rb W))))) (some (.o (W.map pairD))) none none none none none none none none none none) = .nx (LE (some (.d (.list (ns.map .int)))) bx3 n (machD n ra) (machD n rb) (some (.d (.list (W.map pairD)))) (some (.d (machD n (W.map (rowP ra rb W))))) (some (.o (W.map pairD))) none none none none none none none none none none) := s6_ok (sc := some (.d (.list (ns.map .int)))) (bx := bx3) (n := n) W _ none none none none none none none none none none t0 sb
  have p7 : m_law_s7 (LE (some (.d (.list (ns.map .int)))) bx3 n (machD n ra) (machD n rb) (some (.d (.list (W.map pairD)))) (some (.d (machD n (W.map (rowP ra rb W))))) (some (.o (W.map pairD))) none none none none none none none none none none)
      = .nx (LE (some (.d (.list (ns.map .int)))) bx3 n (machD n ra) (machD n rb) (some (.d (.list (W.map pairD)))) (some (.d (machD n (W.map (rowP ra rb W))))) (some (.o (W.map pairD ++ [.tuple [.int 0, .int 0]]))) none none none none none none none none none none) := by
    have l7 : W.length < 1000000 := by omega
    generalize machD n ra = A at *
    generalize machD n rb = B at *
    generalize machD n (W.map (rowP ra rb W)) = C at *
    clear hns hb0 hb1 hb2 hb3 Ma Mb la lb wa wb ml hw k1 k2 sb t0 e5 e6 wl hn hn5 p3 p6 t1 e0 e1 e2 e3 e4
    unfold m_law_s7 LE
    walk_at "ev"
  have p8 := s8_ok (sc := some (.d (.list (ns.map .int)))) (bx := bx3) (n := n) (A := machD n ra) (B := machD n rb) W wl (some (.d (machD n (W.map (rowP ra rb W))))) (some (.o (W.map pairD ++ [.tuple [.int 0, .int 0]]))) none none none none none none none none none ⟨r6, e6⟩
  obtain ⟨bx4, a, b, hb4, ha, hbb, p9⟩ := s9_ok (sc := some (.d (.list (ns.map .int)))) (n := n) (A := machD n ra) (B := machD n rb) hb3 (some (.d (.list (W.map pairD)))) (some (.d (machD n (W.map (rowP ra rb W))))) (some (.o (W.map pairD ++ [.tuple [.int 0, .int 0]]))) none none none none none none none none none none
  obtain ⟨L, q, p10⟩ := s10_ok (sc := some (.d (.list (ns.map .int)))) (bx := bx4) (n := n) (A := machD n ra) (B := machD n rb) a b ha hbb (some (.d (.list (W.map pairD)))) (some (.d (machD n (W.map (rowP ra rb W))))) (some (.o (W.map pairD ++ [.tuple [.int 0, .int 0]]))) none none none none none none none none
  have p13 : ∃ z5, mSeq m_law_s11 (mSeq m_law_s12 m_law_s13) (GE (some (.d (.list (ns.map .int)))) bx4 n (machD n ra) (machD n rb) a b L (some (.d (.list (W.map pairD)))) (some (.d (machD n (W.map (rowP ra rb W))))) (some (.o (W.map pairD ++ [.tuple [.int 0, .int 0]]))) none none none none none none none)
      = .nx (GE (some (.d (.list (ns.map .int)))) bx4 n (machD n ra) (machD n rb) a b L z5 (some (.d (machD n (W.map (rowP ra rb W))))) (some (.o (W.map pairD ++ [.tuple [.int 0, .int 0]]))) none none none none none none none) := by
    by_cases c : 400 < L
    · obtain ⟨q1, q2, q3⟩ := big_ok (sc := some (.d (.list (ns.map .int)))) (bx := bx4) (n := n) (A := machD n ra) (B := machD n rb) a b L ha hbb q c (some (.d (.list (W.map pairD)))) (some (.d (machD n (W.map (rowP ra rb W))))) (some (.o (W.map pairD ++ [.tuple [.int 0, .int 0]]))) none none none none none none none
      exact ⟨_, by rw [seq_nx q1, seq_nx q2, q3]⟩
    · obtain ⟨y5, z5, q1, q2, q3⟩ := small_ok (sc := some (.d (.list (ns.map .int)))) (bx := bx4) (n := n) (A := machD n ra) (B := machD n rb) a b L ha hbb q (by omega) (some (.d (.list (W.map pairD)))) (some (.d (machD n (W.map (rowP ra rb W))))) (some (.o (W.map pairD ++ [.tuple [.int 0, .int 0]]))) none none none none none none
      exact ⟨_, by rw [seq_nx q1, seq_nx q2, q3]⟩
  obtain ⟨z5, p13⟩ := p13
  obtain ⟨bx5, h, hb5, hh, p14⟩ := s14_ok (sc := some (.d (.list (ns.map .int)))) (n := n) (A := machD n ra) (B := machD n rb) hb4 z5 (some (.d (machD n (W.map (rowP ra rb W))))) (some (.o (W.map pairD ++ [.tuple [.int 0, .int 0]]))) none (some (.d (.int (a : Int)))) (some (.d (.int (b : Int)))) (some (.d (.int (L : Int)))) none none none none none none
  have p15 := s15_ok (sc := some (.d (.list (ns.map .int)))) (bx := bx5) (n := n) (A := machD n ra) (B := machD n rb) (2 * h) (by omega) z5 (some (.d (machD n (W.map (rowP ra rb W))))) (some (.o (W.map pairD ++ [.tuple [.int 0, .int 0]]))) none (some (.d (.int (a : Int)))) (some (.d (.int (b : Int)))) (some (.d (.int (L : Int)))) none none none none none
  obtain ⟨bx6, hb6, p16⟩ := s16_ok (sc := some (.d (.list (ns.map .int)))) (n := n) (A := machD n ra) (B := machD n rb) h hh hb5 z5 (some (.d (machD n (W.map (rowP ra rb W))))) (some (.o (W.map pairD ++ [.tuple [.int 0, .int 0]]))) none (some (.d (.int (a : Int)))) (some (.d (.int (b : Int)))) (some (.d (.int (L : Int)))) none none none none
  obtain ⟨bx7, s, hs, p17⟩ := s17_ok (sc := some (.d (.list (ns.map .int)))) (n := n) (A := machD n ra) (B := machD n rb) hb6 z5 (some (.d (machD n (W.map (rowP ra rb W))))) (some (.o (W.map pairD ++ [.tuple [.int 0, .int 0]]))) none (some (.d (.int (a : Int)))) (some (.d (.int (b : Int)))) (some (.d (.int (L : Int)))) none (some (.d (.int ((2 * h : Nat) : Int)))) (some (.d (machD 1 (ringR (2 * h))))) none none none
  have p18 := s18_ok (sc := some (.d (.list (ns.map .int)))) (bx := bx7) (n := n) (A := machD n ra) (B := machD n rb) s (by omega) z5 (some (.d (machD n (W.map (rowP ra rb W))))) (some (.o (W.map pairD ++ [.tuple [.int 0, .int 0]]))) none (some (.d (.int (a : Int)))) (some (.d (.int (b : Int)))) (some (.d (.int (L : Int)))) none (some (.d (.int ((2 * h : Nat) : Int)))) (some (.d (machD 1 (ringR (2 * h))))) none
  have p19 : ∃ ρ, mSeq m_law_s19 (mSeq m_law_s20 (mSeq m_law_s21 m_law_s22)) (LE (some (.d (.list (ns.map .int)))) bx7 n (machD n ra) (machD n rb) z5 (some (.d (machD n (W.map (rowP ra rb W))))) (some (.o (W.map pairD ++ [.tuple [.int 0, .int 0]]))) none (some (.d (.int (a : Int)))) (some (.d (.int (b : Int)))) (some (.d (.int (L : Int)))) none (some (.d (.int ((2 * h : Nat) : Int)))) (some (.d (machD 1 (ringR (2 * h))))) (some (.d (.int (s : Int)))) (some (.d (machD 1 (fullR s)))) none) = .rt (.d (.bool true)) ρ := by
    rcases hs with h | h | h | h
    · exact tail_small s (.inl h) _ _ _ _ _ _ _ _ _ _
    · exact tail_small s (.inr h) _ _ _ _ _ _ _ _ _ _
    · exact tail_eight s h _ _ _ _ _ _ _ _ _ _
    · exact tail_nine s h _ _ _ _ _ _ _ _ _ _
  obtain ⟨ρz, p19⟩ := p19
  refine ⟨ρz, ?_⟩
  have inv : ∀ {ms mt : Z.Env → Z.Out} {ρ ρ' : Z.Env}, mSeq ms mt ρ = .nx ρ' → ∃ E, ms ρ = .nx E ∧ mt E = .nx ρ' := fun {ms mt ρ ρ'} h => by
    unfold mSeq at h
    split at h
    · next E e => exact ⟨E, e, h⟩
    · next hne => exact absurd h (hne _)
  obtain ⟨E1, q1, h1⟩ := inv p3
  obtain ⟨E2, q2, h2⟩ := inv h1
  obtain ⟨E3, q3, h3⟩ := inv h2
  obtain ⟨E4, q4, q5⟩ := inv h3
  obtain ⟨E5, q11, h5⟩ := inv p13
  obtain ⟨E6, q12, q13⟩ := inv h5
  have q11 : m_law_s11 (LE (some (.d (.list (ns.map .int)))) bx4 n (machD n ra) (machD n rb) (some (.d (.list (W.map pairD)))) (some (.d (machD n (W.map (rowP ra rb W))))) (some (.o (W.map pairD ++ [.tuple [.int 0, .int 0]]))) none (some (.d (.int (a : Int)))) (some (.d (.int (b : Int)))) (some (.d (.int (L : Int)))) none none none none none none) = .nx E5 := q11
  have q13 : m_law_s13 E6 = .nx (LE (some (.d (.list (ns.map .int)))) bx4 n (machD n ra) (machD n rb) z5 (some (.d (machD n (W.map (rowP ra rb W))))) (some (.o (W.map pairD ++ [.tuple [.int 0, .int 0]]))) none (some (.d (.int (a : Int)))) (some (.d (.int (b : Int)))) (some (.d (.int (L : Int)))) none none none none none none) := q13
  unfold m_law
  rw [seq_nx q1, seq_nx q2, seq_nx q3, seq_nx q4, seq_nx q5, seq_nx p6, seq_nx p7, seq_nx p8, seq_nx p9, seq_nx p10, seq_nx q11, seq_nx q12, seq_nx q13, seq_nx p14, seq_nx p15, seq_nx p16, seq_nx p17, seq_nx p18]
  exact p19
end K05
namespace K05
open PySem L2 L2H Z
def top (i : Nat) : Stmt := PySem.Challenge.pw_spandrel_k05_products_of_machines.main.body.getD i (.Pass ⟨0, 0, 0, 0⟩)
abbrev s__law_box : Stmt := top 28
abbrev s__law_take : Stmt := top 29
abbrev s__law_pick : Stmt := top 30
abbrev s__law_machine : Stmt := top 32
abbrev s__law_due : Stmt := top 40
abbrev s__law_class : Stmt := top 39
abbrev s_is_number : Stmt := top 12
abbrev s_is_below : Stmt := top 13
abbrev s_is_letter_count : Stmt := top 14
abbrev s__is_edge : Stmt := top 25
abbrev s__is_row : Stmt := top 24
abbrev s__is_machine : Stmt := top 23
abbrev s_check_machine : Stmt := top 19
abbrev s_check_same_letters : Stmt := top 15
abbrev s__check_both : Stmt := top 22
abbrev s__edges_of_both : Stmt := top 26
abbrev s_pairs_of : Stmt := top 21
abbrev s_product : Stmt := top 20
abbrev s__law_told : Stmt := top 41
abbrev s__law_common : Stmt := top 43
abbrev s__law_ring : Stmt := top 42
abbrev s_law : Stmt := top 44
theorem m_hd_flat : ∀ c y, m_hd c = some y → flatD y = true := by
  intro c y h
  unfold m_hd at h
  split at h <;> first | (cases h; rfl) | cases h
theorem sc__law_box : FnScope ["script", "x"] ["script"] (defScope s__law_box) := ⟨rfl, rfl, rfl, by decide +kernel, rfl, by decide +kernel, by decide +kernel⟩
theorem sc__law_take : FnScope ["box", "m", "at", "cell", "told"] ["box", "m"] (defScope s__law_take) := ⟨rfl, rfl, rfl, by decide +kernel, rfl, by decide +kernel, by decide +kernel⟩
theorem sc__law_pick : FnScope ["box", "menu"] ["box", "menu"] (defScope s__law_pick) := ⟨rfl, rfl, rfl, by decide +kernel, rfl, by decide +kernel, by decide +kernel⟩
theorem sc__law_machine : FnScope ["box", "n", "most", "size", "rows", "p", "edges", "a", "k", "to"] ["box", "n", "most"] (defScope s__law_machine) := ⟨rfl, rfl, rfl, by decide +kernel, rfl, by decide +kernel, by decide +kernel⟩
theorem sc__law_due : FnScope ["one", "two", "found", "rows", "k", "p", "q", "edges", "a", "x", "b", "y", "told"] ["one", "two"] (defScope s__law_due) := ⟨rfl, rfl, rfl, by decide +kernel, rfl, by decide +kernel, by decide +kernel⟩
theorem sc__law_class : FnScope ["e", "kinds"] ["e"] (defScope s__law_class) := ⟨rfl, rfl, rfl, by decide +kernel, rfl, by decide +kernel, by decide +kernel⟩
theorem sc_is_number : FnScope ["thing"] ["thing"] (defScope s_is_number) := ⟨rfl, rfl, rfl, by decide +kernel, rfl, by decide +kernel, by decide +kernel⟩
theorem sc_is_below : FnScope ["thing", "many"] ["thing", "many"] (defScope s_is_below) := ⟨rfl, rfl, rfl, by decide +kernel, rfl, by decide +kernel, by decide +kernel⟩
theorem sc_is_letter_count : FnScope ["thing"] ["thing"] (defScope s_is_letter_count) := ⟨rfl, rfl, rfl, by decide +kernel, rfl, by decide +kernel, by decide +kernel⟩
theorem sc__is_edge : FnScope ["n", "many", "edge"] ["n", "many", "edge"] (defScope s__is_edge) := ⟨rfl, rfl, rfl, by decide +kernel, rfl, by decide +kernel, by decide +kernel⟩
theorem sc__is_row : FnScope ["n", "many", "row", "edge", "at"] ["n", "many", "row"] (defScope s__is_row) := ⟨rfl, rfl, rfl, by decide +kernel, rfl, by decide +kernel, by decide +kernel⟩
theorem sc__is_machine : FnScope ["m", "n", "rows", "row"] ["m"] (defScope s__is_machine) := ⟨rfl, rfl, rfl, by decide +kernel, rfl, by decide +kernel, by decide +kernel⟩
theorem sc_check_machine : FnScope ["m"] ["m"] (defScope s_check_machine) := ⟨rfl, rfl, rfl, by decide +kernel, rfl, by decide +kernel, by decide +kernel⟩
theorem sc_check_same_letters : FnScope ["a", "b"] ["a", "b"] (defScope s_check_same_letters) := ⟨rfl, rfl, rfl, by decide +kernel, rfl, by decide +kernel, by decide +kernel⟩
theorem sc__check_both : FnScope ["a", "b"] ["a", "b"] (defScope s__check_both) := ⟨rfl, rfl, rfl, by decide +kernel, rfl, by decide +kernel, by decide +kernel⟩
theorem sc__edges_of_both : FnScope ["row", "other", "ends", "letter", "to", "p", "q"] ["row", "other"] (defScope s__edges_of_both) := ⟨rfl, rfl, rfl, by decide +kernel, rfl, by decide +kernel, by decide +kernel⟩
theorem sc_pairs_of : FnScope ["a", "b", "pairs", "found", "at", "p", "q", "_", "pair"] ["a", "b"] (defScope s_pairs_of) := ⟨rfl, rfl, rfl, by decide +kernel, rfl, by decide +kernel, by decide +kernel⟩
theorem sc_product : FnScope ["a", "b", "pairs", "number", "at", "pair", "rows", "many", "p", "q", "both", "letter"] ["a", "b"] (defScope s_product) := ⟨rfl, rfl, rfl, by decide +kernel, rfl, by decide +kernel, by decide +kernel⟩
theorem sc__law_told : FnScope ["way", "one", "two", "e"] ["way", "one", "two"] (defScope s__law_told) := ⟨rfl, rfl, rfl, by decide +kernel, rfl, by decide +kernel, by decide +kernel⟩
theorem sc__law_common : FnScope ["a", "b", "k"] ["a", "b"] (defScope s__law_common) := ⟨rfl, rfl, rfl, by decide +kernel, rfl, by decide +kernel, by decide +kernel⟩
theorem sc__law_ring : FnScope ["size", "k"] ["size"] (defScope s__law_ring) := ⟨rfl, rfl, rfl, by decide +kernel, rfl, by decide +kernel, by decide +kernel⟩
theorem sc_law : FnScope ["script", "box", "n", "one", "two", "pairs", "due", "told", "pair", "a", "b", "many", "k", "large", "ring", "size", "full", "to"] ["script"] (defScope s_law) := ⟨rfl, rfl, rfl, by decide +kernel, rfl, by decide +kernel, by decide +kernel⟩
set_option genInjectivity false in
set_option genSizeOf false in
set_option maxHeartbeats 0 in
structure Tx (K : PySem.W.Frag) (mg : Str → Option Value) where
  a__law_box : Addr
  fd__law_box : FuncData
  F__law_box : Fun K "_law_box" "_law_box" s__law_box a__law_box fd__law_box
  mg__law_box : mg "_law_box" = some (.ref a__law_box)
  b__law_box : Binds K fd__law_box ["script"] []
  a__law_take : Addr
  fd__law_take : FuncData
  F__law_take : Fun K "_law_take" "_law_take" s__law_take a__law_take fd__law_take
  mg__law_take : mg "_law_take" = some (.ref a__law_take)
  b__law_take : Binds K fd__law_take ["box", "m"] []
  a__law_pick : Addr
  fd__law_pick : FuncData
  F__law_pick : Fun K "_law_pick" "_law_pick" s__law_pick a__law_pick fd__law_pick
  mg__law_pick : mg "_law_pick" = some (.ref a__law_pick)
  b__law_pick : Binds K fd__law_pick ["box", "menu"] []
  a__law_machine : Addr
  fd__law_machine : FuncData
  F__law_machine : Fun K "_law_machine" "_law_machine" s__law_machine a__law_machine fd__law_machine
  mg__law_machine : mg "_law_machine" = some (.ref a__law_machine)
  b__law_machine : Binds K fd__law_machine ["box", "n", "most"] []
  a__law_due : Addr
  fd__law_due : FuncData
  F__law_due : Fun K "_law_due" "_law_due" s__law_due a__law_due fd__law_due
  mg__law_due : mg "_law_due" = some (.ref a__law_due)
  b__law_due : Binds K fd__law_due ["one", "two"] []
  a__law_class : Addr
  fd__law_class : FuncData
  F__law_class : Fun K "_law_class" "_law_class" s__law_class a__law_class fd__law_class
  mg__law_class : mg "_law_class" = some (.ref a__law_class)
  b__law_class : Binds K fd__law_class ["e"] []
  a_is_number : Addr
  fd_is_number : FuncData
  F_is_number : Fun K "is_number" "is_number" s_is_number a_is_number fd_is_number
  mg_is_number : mg "is_number" = some (.ref a_is_number)
  b_is_number : Binds K fd_is_number ["thing"] []
  a_is_below : Addr
  fd_is_below : FuncData
  F_is_below : Fun K "is_below" "is_below" s_is_below a_is_below fd_is_below
  mg_is_below : mg "is_below" = some (.ref a_is_below)
  b_is_below : Binds K fd_is_below ["thing", "many"] []
  a_is_letter_count : Addr
  fd_is_letter_count : FuncData
  F_is_letter_count : Fun K "is_letter_count" "is_letter_count" s_is_letter_count a_is_letter_count fd_is_letter_count
  mg_is_letter_count : mg "is_letter_count" = some (.ref a_is_letter_count)
  b_is_letter_count : Binds K fd_is_letter_count ["thing"] []
  a__is_edge : Addr
  fd__is_edge : FuncData
  F__is_edge : Fun K "_is_edge" "_is_edge" s__is_edge a__is_edge fd__is_edge
  mg__is_edge : mg "_is_edge" = some (.ref a__is_edge)
  b__is_edge : Binds K fd__is_edge ["n", "many", "edge"] []
  a__is_row : Addr
  fd__is_row : FuncData
  F__is_row : Fun K "_is_row" "_is_row" s__is_row a__is_row fd__is_row
  mg__is_row : mg "_is_row" = some (.ref a__is_row)
  b__is_row : Binds K fd__is_row ["n", "many", "row"] []
  a__is_machine : Addr
  fd__is_machine : FuncData
  F__is_machine : Fun K "_is_machine" "_is_machine" s__is_machine a__is_machine fd__is_machine
  mg__is_machine : mg "_is_machine" = some (.ref a__is_machine)
  b__is_machine : Binds K fd__is_machine ["m"] []
  a_check_machine : Addr
  fd_check_machine : FuncData
  F_check_machine : Fun K "check_machine" "check_machine" s_check_machine a_check_machine fd_check_machine
  mg_check_machine : mg "check_machine" = some (.ref a_check_machine)
  b_check_machine : Binds K fd_check_machine ["m"] []
  a_check_same_letters : Addr
  fd_check_same_letters : FuncData
  F_check_same_letters : Fun K "check_same_letters" "check_same_letters" s_check_same_letters a_check_same_letters fd_check_same_letters
  mg_check_same_letters : mg "check_same_letters" = some (.ref a_check_same_letters)
  b_check_same_letters : Binds K fd_check_same_letters ["a", "b"] []
  a__check_both : Addr
  fd__check_both : FuncData
  F__check_both : Fun K "_check_both" "_check_both" s__check_both a__check_both fd__check_both
  mg__check_both : mg "_check_both" = some (.ref a__check_both)
  b__check_both : Binds K fd__check_both ["a", "b"] []
  a__edges_of_both : Addr
  fd__edges_of_both : FuncData
  F__edges_of_both : Fun K "_edges_of_both" "_edges_of_both" s__edges_of_both a__edges_of_both fd__edges_of_both
  mg__edges_of_both : mg "_edges_of_both" = some (.ref a__edges_of_both)
  b__edges_of_both : Binds K fd__edges_of_both ["row", "other"] []
  a_pairs_of : Addr
  fd_pairs_of : FuncData
  F_pairs_of : Fun K "pairs_of" "pairs_of" s_pairs_of a_pairs_of fd_pairs_of
  mg_pairs_of : mg "pairs_of" = some (.ref a_pairs_of)
  b_pairs_of : Binds K fd_pairs_of ["a", "b"] []
  a_product : Addr
  fd_product : FuncData
  F_product : Fun K "product" "product" s_product a_product fd_product
  mg_product : mg "product" = some (.ref a_product)
  b_product : Binds K fd_product ["a", "b"] []
  a__law_told : Addr
  fd__law_told : FuncData
  F__law_told : Fun K "_law_told" "_law_told" s__law_told a__law_told fd__law_told
  mg__law_told : mg "_law_told" = some (.ref a__law_told)
  b__law_told : Binds K fd__law_told ["way", "one", "two"] []
  a__law_common : Addr
  fd__law_common : FuncData
  F__law_common : Fun K "_law_common" "_law_common" s__law_common a__law_common fd__law_common
  mg__law_common : mg "_law_common" = some (.ref a__law_common)
  b__law_common : Binds K fd__law_common ["a", "b"] []
  a__law_ring : Addr
  fd__law_ring : FuncData
  F__law_ring : Fun K "_law_ring" "_law_ring" s__law_ring a__law_ring fd__law_ring
  mg__law_ring : mg "_law_ring" = some (.ref a__law_ring)
  b__law_ring : Binds K fd__law_ring ["size"] []
  a_law : Addr
  fd_law : FuncData
  F_law : Fun K "law" "law" s_law a_law fd_law
  mg_law : mg "law" = some (.ref a_law)
  b_law : Binds K fd_law ["script"] []
  z_ValueError : mg "ValueError" = none
  z_abs : mg "abs" = none
  z_all : mg "all" = none
  z_bool : mg "bool" = none
  z_enumerate : mg "enumerate" = none
  z_int : mg "int" = none
  z_isinstance : mg "isinstance" = none
  z_len : mg "len" = none
  z_list : mg "list" = none
  z_range : mg "range" = none
  z_repr : mg "repr" = none
  z_sorted : mg "sorted" = none
  z_sum : mg "sum" = none
  z_tuple : mg "tuple" = none
  t_MOST_EDGES : Tok
  c_MOST_EDGES : mg "MOST_EDGES" = some (.int 6000 t_MOST_EDGES)
  t_MOST_LETTERS : Tok
  c_MOST_LETTERS : mg "MOST_LETTERS" = some (.int 5 t_MOST_LETTERS)
  t_MOST_STATES : Tok
  c_MOST_STATES : mg "MOST_STATES" = some (.int 400 t_MOST_STATES)
  C_BadMachine : Addr
  mg_BadMachine : mg "BadMachine" = some (.ref C_BadMachine)
  f_BadMachine : ClsF K C_BadMachine
  C_BadDemand : Addr
  mg_BadDemand : mg "BadDemand" = some (.ref C_BadDemand)
  f_BadDemand : ClsF K C_BadDemand
  C_BadLetters : Addr
  mg_BadLetters : mg "BadLetters" = some (.ref C_BadLetters)
  f_BadLetters : ClsF K C_BadLetters
  C_BadWord : Addr
  mg_BadWord : mg "BadWord" = some (.ref C_BadWord)
  f_BadWord : ClsF K C_BadWord
  C_BadSet : Addr
  mg_BadSet : mg "BadSet" = some (.ref C_BadSet)
  f_BadSet : ClsF K C_BadSet
  C_BadState : Addr
  mg_BadState : mg "BadState" = some (.ref C_BadState)
  f_BadState : ClsF K C_BadState
  C_BadText : Addr
  mg_BadText : mg "BadText" = some (.ref C_BadText)
  f_BadText : ClsF K C_BadText
  C_TooMuch : Addr
  mg_TooMuch : mg "TooMuch" = some (.ref C_TooMuch)
  f_TooMuch : ClsF K C_TooMuch
  C_SpandrelError : Addr
  mg_SpandrelError : mg "SpandrelError" = some (.ref C_SpandrelError)
  f_SpandrelError : ClsF K C_SpandrelError
  kp_BadLetters : PySem.W.keepIn K (.ref C_BadLetters) = true
  q_BadLetters : PySem.W.excIn K C_BadLetters [.type "ValueError", .type "Exception", .type "BaseException", .type "object"] "ValueError.__new__" = true
  v_BadLetters : PySem.W.subIn K (.ref C_BadLetters) (.type "ValueError") = some true
  w_BadLetters : PySem.W.subIn K (.ref C_BadLetters) (.ref C_SpandrelError) = some true
  s_BadLetters_BadMachine : PySem.W.subIn K (.ref C_BadLetters) (.ref C_BadMachine) = some false
  s_BadLetters_BadDemand : PySem.W.subIn K (.ref C_BadLetters) (.ref C_BadDemand) = some false
  s_BadLetters_BadLetters : PySem.W.subIn K (.ref C_BadLetters) (.ref C_BadLetters) = some true
  s_BadLetters_BadWord : PySem.W.subIn K (.ref C_BadLetters) (.ref C_BadWord) = some false
  s_BadLetters_BadSet : PySem.W.subIn K (.ref C_BadLetters) (.ref C_BadSet) = some false
  s_BadLetters_BadState : PySem.W.subIn K (.ref C_BadLetters) (.ref C_BadState) = some false
  s_BadLetters_BadText : PySem.W.subIn K (.ref C_BadLetters) (.ref C_BadText) = some false
  s_BadLetters_TooMuch : PySem.W.subIn K (.ref C_BadLetters) (.ref C_TooMuch) = some false
  kp_BadMachine : PySem.W.keepIn K (.ref C_BadMachine) = true
  q_BadMachine : PySem.W.excIn K C_BadMachine [.type "ValueError", .type "Exception", .type "BaseException", .type "object"] "ValueError.__new__" = true
  v_BadMachine : PySem.W.subIn K (.ref C_BadMachine) (.type "ValueError") = some true
  w_BadMachine : PySem.W.subIn K (.ref C_BadMachine) (.ref C_SpandrelError) = some true
  s_BadMachine_BadMachine : PySem.W.subIn K (.ref C_BadMachine) (.ref C_BadMachine) = some true
  s_BadMachine_BadDemand : PySem.W.subIn K (.ref C_BadMachine) (.ref C_BadDemand) = some false
  s_BadMachine_BadLetters : PySem.W.subIn K (.ref C_BadMachine) (.ref C_BadLetters) = some false
  s_BadMachine_BadWord : PySem.W.subIn K (.ref C_BadMachine) (.ref C_BadWord) = some false
  s_BadMachine_BadSet : PySem.W.subIn K (.ref C_BadMachine) (.ref C_BadSet) = some false
  s_BadMachine_BadState : PySem.W.subIn K (.ref C_BadMachine) (.ref C_BadState) = some false
  s_BadMachine_BadText : PySem.W.subIn K (.ref C_BadMachine) (.ref C_BadText) = some false
  s_BadMachine_TooMuch : PySem.W.subIn K (.ref C_BadMachine) (.ref C_TooMuch) = some false
  kp_TooMuch : PySem.W.keepIn K (.ref C_TooMuch) = true
  q_TooMuch : PySem.W.excIn K C_TooMuch [.type "ValueError", .type "Exception", .type "BaseException", .type "object"] "ValueError.__new__" = true
  v_TooMuch : PySem.W.subIn K (.ref C_TooMuch) (.type "ValueError") = some true
  w_TooMuch : PySem.W.subIn K (.ref C_TooMuch) (.ref C_SpandrelError) = some true
  s_TooMuch_BadMachine : PySem.W.subIn K (.ref C_TooMuch) (.ref C_BadMachine) = some false
  s_TooMuch_BadDemand : PySem.W.subIn K (.ref C_TooMuch) (.ref C_BadDemand) = some false
  s_TooMuch_BadLetters : PySem.W.subIn K (.ref C_TooMuch) (.ref C_BadLetters) = some false
  s_TooMuch_BadWord : PySem.W.subIn K (.ref C_TooMuch) (.ref C_BadWord) = some false
  s_TooMuch_BadSet : PySem.W.subIn K (.ref C_TooMuch) (.ref C_BadSet) = some false
  s_TooMuch_BadState : PySem.W.subIn K (.ref C_TooMuch) (.ref C_BadState) = some false
  s_TooMuch_BadText : PySem.W.subIn K (.ref C_TooMuch) (.ref C_BadText) = some false
  s_TooMuch_TooMuch : PySem.W.subIn K (.ref C_TooMuch) (.ref C_TooMuch) = some true
def Tx.cl {K : PySem.W.Frag} {mg : Str → Option Value} (T : Tx K mg) : Nat → Addr := fun c => match c with
  | 0 => T.C_BadMachine
  | 1 => T.C_BadDemand
  | 2 => T.C_BadLetters
  | 3 => T.C_BadWord
  | 4 => T.C_BadSet
  | 5 => T.C_BadState
  | 6 => T.C_BadText
  | 7 => T.C_TooMuch
  | _ => T.C_SpandrelError
theorem Tx.caught {K : PySem.W.Frag} {mg : Str → Option Value} (T : Tx K mg) : ∀ c x, m_hd c = some x → flatD x = true ∧ PySem.W.exmOne K (.ref (T.cl c)) (.ref T.C_SpandrelError) = some true := by
  intro c x h
  refine ⟨m_hd_flat c x h, ?_⟩
  unfold m_hd at h
  split at h
  · exact exm_ref T.f_SpandrelError T.w_BadLetters
  · exact exm_ref T.f_SpandrelError T.w_BadMachine
  · exact exm_ref T.f_SpandrelError T.w_TooMuch
  · cases h
section
variable {P : Program} {w : World} {K : PySem.W.Frag} {mg : Str → Option Value} {base : Heap}
set_option maxHeartbeats 4000000 in
theorem ok__law_box (T : Tx K mg) : FnOk P w K mg base CX0 1 T.a__law_box T.fd__law_box ["script"] (spM K 0 1 2 W0 m__law_box) := by
  refine ok0 T.F__law_box sc__law_box rfl rfl fun cdv A outer s H E hr => ⟨_,
    (pss_one (ps_ret (pe_lst (pa_cons pe_int (pa_cons pe_int (pa_cons pe_int (pa_cons (pe_lc (own := [("x", 1)]) rfl sc__law_box.nd (zseq K (pv 0)) (blkOk_by (N := ["script", "x"]) (sc := defScope s__law_box) (by decide +kernel)) (fun _ _ _ _ _ => (pg_name (i := 1) sc__law_box.nd rfl (by first | exact Or.inl rfl | exact Or.inr rfl))) (fun _ _ _ _ _ => pts_nil) (fun _ _ _ _ _ => (pe_callB call_abs (by rfl) T.z_abs (by decide +kernel) (pa_cons (pe_callTy call_int1 (by rfl) T.z_int (by decide +kernel) (pa_cons (pv 1) pa_nil)) pa_nil)))) pa_nil))))))),
    ?_⟩
  exact (sim_ret (sim_lst (sim_cons (sim_c (.int _)) (sim_cons (sim_c (.int _)) (sim_cons (sim_c (.int _)) (sim_cons (sim_lcH (simg_name (by decide)) sim_yes (sim_cb s_abs (sim_cons (sim_cb s_int (sim_cons sim_var sim_nil)) sim_nil)) (by decide) (by decide) (by decide)) sim_nil))))))
set_option maxHeartbeats 4000000 in
theorem ok__law_take (T : Tx K mg) : FnOk P w K mg base CX0 1 T.a__law_take T.fd__law_take ["box", "m"] (spM K 1 2 5 W0 m__law_take) := by
  refine ok0 T.F__law_take sc__law_take rfl rfl fun cdv A outer s H E hr => ⟨_,
    (pss_cons (ps_if (pt_cmpR (zeq K (hu64 hr)) (pe_ix (zix K) (pv 0) pe_int (fun _ _ => rfl)) pe_int (nomark _)) (pss_cons (ps_set (i := 2) sc__law_take.nd rfl (by first | exact Or.inl rfl | exact Or.inr rfl) (pe_ix (zix K) (pv 0) pe_int (fun _ _ => rfl)))
      (pss_cons (ps_set (i := 3) sc__law_take.nd rfl (by first | exact Or.inl rfl | exact Or.inr rfl) pe_int)
      (pss_cons (ps_if (pt_cmpR op_lt (pv 2) (pe_callB (zlen K) (by rfl) T.z_len (by decide +kernel) (pa_cons (pe_ix (zix K) (pv 0) pe_int (fun _ _ => rfl)) pa_nil)) (nomark _)) (pss_cons (ps_set (i := 3) sc__law_take.nd rfl (by first | exact Or.inl rfl | exact Or.inr rfl) (pe_ix (zix K) (pe_ix (zix K) (pv 0) pe_int (fun _ _ => rfl)) (pv 2) (fun _ _ => rfl)))
      (pss_one (ps_asg (pe_ifExp (pt_cmpR op_ge (pv 3) (pe_op op_pow pe_int pe_int) (nomark _)) pe_int (pe_un un_neg pe_int)) (pg_sub (pv 0) pe_int set_list)))) pss_nil)
      (pss_cons (ps_asg (pe_op op_add (pv 2) pe_int) (pg_sub (pv 0) pe_int set_list))
      (pss_cons (ps_asg (pv 3) (pg_sub (pv 0) pe_int set_list))
      (pss_one (ps_if (pt_cmpR (zeq K (hu64 hr)) (pe_ix (zix K) (pv 0) pe_int (fun _ _ => rfl)) pe_int (nomark _)) (pss_one (ps_ret pe_int)) pss_nil))))))) pss_nil)
      (pss_cons (ps_if (pt_cmpR op_gt (pe_ix (zix K) (pv 0) pe_int (fun _ _ => rfl)) pe_int (nomark _)) (pss_cons (ps_set (i := 4) sc__law_take.nd rfl (by first | exact Or.inl rfl | exact Or.inr rfl) (pe_op op_mod (pe_callTy call_int1 (by rfl) T.z_int (by decide +kernel) (pa_cons (pe_ix (zix K) (pv 0) pe_int (fun _ _ => rfl)) pa_nil)) (pv 1)))
      (pss_cons (ps_asg (pe_op op_fdiv (pe_ix (zix K) (pv 0) pe_int (fun _ _ => rfl)) (pv 1)) (pg_sub (pv 0) pe_int set_list))
      (pss_cons (ps_asg (pe_ifExp (pt_cmpR op_gt (pe_ix (zix K) (pv 0) pe_int (fun _ _ => rfl)) pe_int (nomark _)) (pe_op op_sub (pe_ix (zix K) (pv 0) pe_int (fun _ _ => rfl)) pe_int) pe_int) (pg_sub (pv 0) pe_int set_list))
      (pss_one (ps_ret (pv 4)))))) pss_nil)
      (pss_cons (ps_asg (pe_op op_add (pe_ix (zix K) (pv 0) pe_int (fun _ _ => rfl)) pe_int) (pg_sub (pv 0) pe_int set_list))
      (pss_cons (ps_asg (pe_op op_mod (pe_callTy call_int1 (by rfl) T.z_int (by decide +kernel) (pa_cons (pe_op op_add (pe_op op_mul (pe_ix (zix K) (pv 0) pe_int (fun _ _ => rfl)) pe_int) (pe_op op_mul pe_int (pe_op op_add (pe_ix (zix K) (pv 0) pe_int (fun _ _ => rfl)) pe_int))) pa_nil)) pe_int) (pg_sub (pv 0) pe_int set_list))
      (pss_one (ps_ret (pe_op op_mod (pe_op op_mod (pe_callTy call_int1 (by rfl) T.z_int (by decide +kernel) (pa_cons (pe_op op_add (pe_op op_fdiv (pe_ix (zix K) (pv 0) pe_int (fun _ _ => rfl)) pe_int) (pe_ix (zix K) (pv 0) pe_int (fun _ _ => rfl))) pa_nil)) pe_int) (pv 1)))))))),
    ?_⟩
  exact (sim_seq (sim_ifS (sim_test (sim_op s_eq (sim_op s_ix sim_var (sim_c (.int _))) (sim_c (.int _)))) (sim_seq (sim_asg (sim_op s_ix sim_var (sim_c (.int _))) (by decide))
      (sim_seq (sim_asg (sim_c (.int _)) (by decide))
      (sim_seq (sim_ifS (sim_test (sim_op s_lt sim_var (sim_cb s_len (sim_cons (sim_op s_ix sim_var (sim_c (.int _))) sim_nil)))) (sim_seq (sim_asg (sim_op s_ix (sim_op s_ix sim_var (sim_c (.int _))) sim_var) (by decide))
      (sim_setI (sim_if (sim_test (sim_op s_ge sim_var (sim_op s_pow (sim_c (.int _)) (sim_c (.int _))))) (sim_c (.int _)) (sim_un s_neg (sim_c (.int _)))) (sim_c (.int _)))) sim_next)
      (sim_seq (sim_setI (sim_op s_add sim_var (sim_c (.int _))) (sim_c (.int _)))
      (sim_seq (sim_setI sim_var (sim_c (.int _)))
      (sim_ifS (sim_test (sim_op s_eq (sim_op s_ix sim_var (sim_c (.int _))) (sim_c (.int _)))) (sim_ret (sim_c (.int _))) sim_next)))))) sim_next)
      (sim_seq (sim_ifS (sim_test (sim_op s_gt (sim_op s_ix sim_var (sim_c (.int _))) (sim_c (.int _)))) (sim_seq (sim_asg (sim_op s_mod (sim_cb s_int (sim_cons (sim_op s_ix sim_var (sim_c (.int _))) sim_nil)) sim_var) (by decide))
      (sim_seq (sim_setI (sim_op s_div (sim_op s_ix sim_var (sim_c (.int _))) sim_var) (sim_c (.int _)))
      (sim_seq (sim_setI (sim_if (sim_test (sim_op s_gt (sim_op s_ix sim_var (sim_c (.int _))) (sim_c (.int _)))) (sim_op s_sub (sim_op s_ix sim_var (sim_c (.int _))) (sim_c (.int _))) (sim_c (.int _))) (sim_c (.int _)))
      (sim_ret sim_var)))) sim_next)
      (sim_seq (sim_setI (sim_op s_add (sim_op s_ix sim_var (sim_c (.int _))) (sim_c (.int _))) (sim_c (.int _)))
      (sim_seq (sim_setI (sim_op s_mod (sim_cb s_int (sim_cons (sim_op s_add (sim_op s_mul (sim_op s_ix sim_var (sim_c (.int _))) (sim_c (.int _))) (sim_op s_mul (sim_c (.int _)) (sim_op s_add (sim_op s_ix sim_var (sim_c (.int _))) (sim_c (.int _))))) sim_nil)) (sim_c (.int _))) (sim_c (.int _)))
      (sim_ret (sim_op s_mod (sim_op s_mod (sim_cb s_int (sim_cons (sim_op s_add (sim_op s_div (sim_op s_ix sim_var (sim_c (.int _))) (sim_c (.int _))) (sim_op s_ix sim_var (sim_c (.int _)))) sim_nil)) (sim_c (.int _))) sim_var))))))
set_option maxHeartbeats 4000000 in
theorem ok__law_pick (T : Tx K mg) : FnOk P w K mg base CX0 2 T.a__law_pick T.fd__law_pick ["box", "menu"] (spM K 1 2 2 W0 m__law_pick) := by
  refine ok0 T.F__law_pick sc__law_pick rfl rfl fun cdv A outer s H E hr => ⟨_,
    (pss_one (ps_ret (pe_ix (zix K) (pv 1) (pe_call (ok__law_take T) (hr.mono (by decide)) rfl T.mg__law_take T.F__law_take.kp T.b__law_take .nil pass0 (pa_cons (pv 0) (pa_cons (pe_callB (zlen K) (by rfl) T.z_len (by decide +kernel) (pa_cons (pv 1) pa_nil)) pa_nil))) (fun _ _ => rfl)))),
    ?_⟩
  exact (sim_ret (sim_op s_ix sim_var (sim_callM (mask := [true]) (sim_cons sim_var (sim_cons (sim_cb s_len (sim_cons sim_var sim_nil)) sim_nil)))))
set_option maxHeartbeats 4000000 in
theorem ok__law_machine (T : Tx K mg) : FnOk P w K mg base CX0 3 T.a__law_machine T.fd__law_machine ["box", "n", "most"] (spM K 1 3 10 W0 m__law_machine) := by
  refine ok0 T.F__law_machine sc__law_machine rfl rfl fun cdv A outer s H E hr => ⟨_,
    (pss_cons (ps_set (i := 3) sc__law_machine.nd rfl (by first | exact Or.inl rfl | exact Or.inr rfl) (pe_op op_add pe_int (pe_call (ok__law_take T) (hr.mono (by decide)) rfl T.mg__law_take T.F__law_take.kp T.b__law_take .nil pass0 (pa_cons (pv 0) (pa_cons (pv 2) pa_nil)))))
      (pss_cons (ps_set (i := 4) sc__law_machine.nd rfl (by first | exact Or.inl rfl | exact Or.inr rfl) (pe_lst pa_nil))
      (pss_cons (ps_for PassesOwn.never rfl (pi_range1 (by rfl) T.z_range (pa_cons (pv 3) pa_nil)) (pg_name (i := 5) sc__law_machine.nd rfl (by first | exact Or.inl rfl | exact Or.inr rfl)) (pss_cons (ps_set (i := 6) sc__law_machine.nd rfl (by first | exact Or.inl rfl | exact Or.inr rfl) (pe_lst pa_nil))
      (pss_cons (ps_for PassesOwn.never rfl (pi_range1 (by rfl) T.z_range (pa_cons (pv 1) pa_nil)) (pg_name (i := 7) sc__law_machine.nd rfl (by first | exact Or.inl rfl | exact Or.inr rfl)) (pss_one (ps_for PassesOwn.never rfl (pi_range1 (by rfl) T.z_range (pa_cons (pe_call (ok__law_pick T) (hr.mono (by decide)) rfl T.mg__law_pick T.F__law_pick.kp T.b__law_pick .nil pass0 (pa_cons (pv 0) (pa_cons (pe_lst (pa_cons pe_int (pa_cons pe_int (pa_cons pe_int (pa_cons pe_int (pa_cons pe_int pa_nil)))))) pa_nil))) pa_nil)) (pg_name (i := 8) sc__law_machine.nd rfl (by first | exact Or.inl rfl | exact Or.inr rfl)) (pss_cons (ps_set (i := 9) sc__law_machine.nd rfl (by first | exact Or.inl rfl | exact Or.inr rfl) (pe_call (ok__law_take T) (hr.mono (by decide)) rfl T.mg__law_take T.F__law_take.kp T.b__law_take .nil pass0 (pa_cons (pv 0) (pa_cons (pv 3) pa_nil))))
      (pss_one (ps_if (pt_cmpR (zalt (znotIn K (hu65 hr)) (znotInT (K := K) (hu65 hr))) (pe_tup (pa_cons (pv 7) (pa_cons (pv 9) pa_nil))) (pv 6) (by rfl)) (pss_one (ps_expr (pe_bm PySem.F.plainAttrs_list PySem.F.slot_list_append PySem.F.type_list_append mt_append (pv 6) (pa_cons (pe_tup (pa_cons (pv 7) (pa_cons (pv 9) pa_nil))) pa_nil)))) pss_nil))))))
      (pss_one (ps_expr (pe_bm PySem.F.plainAttrs_list PySem.F.slot_list_append PySem.F.type_list_append mt_append (pv 4) (pa_cons (pe_callTy (ztuple (K := K)) (by rfl) T.z_tuple (by decide +kernel) (pa_cons (pe_callB (zsortA (K := K)) (by rfl) T.z_sorted (by decide +kernel) (pa_cons (pv 6) pa_nil)) pa_nil)) pa_nil)))))))
      (pss_one (ps_ret (pe_tup (pa_cons (pv 1) (pa_cons (pe_callTy (ztuple (K := K)) (by rfl) T.z_tuple (by decide +kernel) (pa_cons (pv 4) pa_nil)) pa_nil)))))))),
    ?_⟩
  exact (sim_seq (sim_asg (sim_op s_add (sim_c (.int _)) (sim_callM (mask := [true]) (sim_cons sim_var (sim_cons sim_var sim_nil)))) (by decide))
      (sim_seq (sim_asg (sim_lst sim_nil) (by decide))
      (sim_seq (sim_for (sim_rng1 (sim_cons sim_var sim_nil)) (simg_name (by decide)) (sim_seq (sim_asg (sim_lst sim_nil) (by decide))
      (sim_seq (sim_for (sim_rng1 (sim_cons sim_var sim_nil)) (simg_name (by decide)) (sim_for (sim_rng1 (sim_cons (sim_callM (mask := [true]) (sim_cons sim_var (sim_cons (sim_lst (sim_cons (sim_c (.int _)) (sim_cons (sim_c (.int _)) (sim_cons (sim_c (.int _)) (sim_cons (sim_c (.int _)) (sim_cons (sim_c (.int _)) sim_nil)))))) sim_nil))) sim_nil)) (simg_name (by decide)) (sim_seq (sim_asg (sim_callM (mask := [true]) (sim_cons sim_var (sim_cons sim_var sim_nil))) (by decide))
      (sim_ifS (sim_test (sim_op (s_alt s_notIn s_notInT) (sim_tup (sim_cons sim_var (sim_cons sim_var sim_nil))) sim_var)) (sim_mut s_append (sim_cons (sim_tup (sim_cons sim_var (sim_cons sim_var sim_nil))) sim_nil)) sim_next))))
      (sim_mut s_append (sim_cons (sim_cb s_tuple (sim_cons (sim_cb s_sortA (sim_cons sim_var sim_nil)) sim_nil)) sim_nil)))))
      (sim_ret (sim_tup (sim_cons sim_var (sim_cons (sim_cb s_tuple (sim_cons sim_var sim_nil)) sim_nil)))))))
set_option maxHeartbeats 4000000 in
theorem ok__law_due (T : Tx K mg) : FnOk P w K mg base CX0 1 T.a__law_due T.fd__law_due ["one", "two"] (spM K 0 2 13 W0 m__law_due) := by
  refine ok0 T.F__law_due sc__law_due rfl rfl fun cdv A outer s H E hr => ⟨_,
    (pss_cons (ps_set (i := 2) sc__law_due.nd rfl (by first | exact Or.inl rfl | exact Or.inr rfl) (pe_lst (pa_cons (pe_tup (pa_cons pe_int (pa_cons pe_int pa_nil))) pa_nil)))
      (pss_cons (ps_set (i := 3) sc__law_due.nd rfl (by first | exact Or.inl rfl | exact Or.inr rfl) (pe_lst pa_nil))
      (pss_cons (ps_for PassesOwn.never rfl (pi_range1 (by rfl) T.z_range (pa_cons (pe_op op_mul (pe_callB (zlen K) (by rfl) T.z_len (by decide +kernel) (pa_cons (pe_ix (zix K) (pv 0) pe_int (fun _ _ => rfl)) pa_nil)) (pe_callB (zlen K) (by rfl) T.z_len (by decide +kernel) (pa_cons (pe_ix (zix K) (pv 1) pe_int (fun _ _ => rfl)) pa_nil))) pa_nil)) (pg_name (i := 4) sc__law_due.nd rfl (by first | exact Or.inl rfl | exact Or.inr rfl)) (pss_cons (ps_if (pt_cmpR op_ge (pv 4) (pe_callB (zlen K) (by rfl) T.z_len (by decide +kernel) (pa_cons (pv 2) pa_nil)) (nomark _)) (pss_one ps_break) pss_nil)
      (pss_cons (ps_asg (pe_ix (zix K) (pv 2) (pv 4) (fun _ _ => rfl)) (zpg_tup (K := K) (n := 2) rfl (pgs_cons (pg_name (i := 5) sc__law_due.nd rfl (by first | exact Or.inl rfl | exact Or.inr rfl)) (pgs_cons (pg_name (i := 6) sc__law_due.nd rfl (by first | exact Or.inl rfl | exact Or.inr rfl)) pgs_nil))))
      (pss_cons (ps_set (i := 7) sc__law_due.nd rfl (by first | exact Or.inl rfl | exact Or.inr rfl) (pe_lst pa_nil))
      (pss_cons (ps_for PassesOwn.never rfl (zseq K (pe_ix (zix K) (pe_ix (zix K) (pv 0) pe_int (fun _ _ => rfl)) (pv 5) (fun _ _ => rfl))) (zpg_tup (K := K) (n := 2) rfl (pgs_cons (pg_name (i := 8) sc__law_due.nd rfl (by first | exact Or.inl rfl | exact Or.inr rfl)) (pgs_cons (pg_name (i := 9) sc__law_due.nd rfl (by first | exact Or.inl rfl | exact Or.inr rfl)) pgs_nil))) (pss_one (ps_for PassesOwn.never rfl (zseq K (pe_ix (zix K) (pe_ix (zix K) (pv 1) pe_int (fun _ _ => rfl)) (pv 6) (fun _ _ => rfl))) (zpg_tup (K := K) (n := 2) rfl (pgs_cons (pg_name (i := 10) sc__law_due.nd rfl (by first | exact Or.inl rfl | exact Or.inr rfl)) (pgs_cons (pg_name (i := 11) sc__law_due.nd rfl (by first | exact Or.inl rfl | exact Or.inr rfl)) pgs_nil))) (pss_one (ps_if (pt_cmpR (zeq K (hu64 hr)) (pv 8) (pv 10) (nomark _)) (pss_one (ps_expr (pe_bm PySem.F.plainAttrs_list PySem.F.slot_list_append PySem.F.type_list_append mt_append (pv 7) (pa_cons (pe_tup (pa_cons (pv 8) (pa_cons (pv 9) (pa_cons (pv 11) pa_nil)))) pa_nil)))) pss_nil)))))
      (pss_cons (ps_for PassesOwn.never rfl (zseq K (pe_callB (zsort3 (K := K)) (by rfl) T.z_sorted (by decide +kernel) (pa_cons (pv 7) pa_nil))) (zpg_tup (K := K) (n := 3) rfl (pgs_cons (pg_name (i := 8) sc__law_due.nd rfl (by first | exact Or.inl rfl | exact Or.inr rfl)) (pgs_cons (pg_name (i := 9) sc__law_due.nd rfl (by first | exact Or.inl rfl | exact Or.inr rfl)) (pgs_cons (pg_name (i := 11) sc__law_due.nd rfl (by first | exact Or.inl rfl | exact Or.inr rfl)) pgs_nil)))) (pss_one (ps_if (pt_cmpR (zalt (znotIn K (hu65 hr)) (znotInT (K := K) (hu65 hr))) (pe_tup (pa_cons (pv 9) (pa_cons (pv 11) pa_nil))) (pv 2) (by rfl)) (pss_one (ps_expr (pe_bm PySem.F.plainAttrs_list PySem.F.slot_list_append PySem.F.type_list_append mt_append (pv 2) (pa_cons (pe_tup (pa_cons (pv 9) (pa_cons (pv 11) pa_nil))) pa_nil)))) pss_nil)))
      (pss_one (ps_expr (pe_bm PySem.F.plainAttrs_list PySem.F.slot_list_append PySem.F.type_list_append mt_append (pv 3) (pa_cons (pv 7) pa_nil))))))))))
      (pss_cons (ps_set (i := 12) sc__law_due.nd rfl (by first | exact Or.inl rfl | exact Or.inr rfl) (pe_lst pa_nil))
      (pss_cons (ps_for PassesOwn.never rfl (zseq K (pv 3)) (pg_name (i := 7) sc__law_due.nd rfl (by first | exact Or.inl rfl | exact Or.inr rfl)) (pss_one (ps_expr (pe_bm PySem.F.plainAttrs_list PySem.F.slot_list_append PySem.F.type_list_append mt_append (pv 12) (pa_cons (pe_callTy (ztuple (K := K)) (by rfl) T.z_tuple (by decide +kernel) (pa_cons (pe_callB (zsortA (K := K)) (by rfl) T.z_sorted (by decide +kernel) (pa_cons (pe_lc (own := [("a", 8), ("x", 9), ("y", 11)]) rfl sc__law_due.nd (zseq K (pv 7)) (blkOk_by (N := ["one", "two", "found", "rows", "k", "p", "q", "edges", "a", "x", "b", "y", "told"]) (sc := defScope s__law_due) (by decide +kernel)) (fun _ _ _ _ _ => (zpg_tup (K := K) (n := 3) rfl (pgs_cons (pg_name (i := 8) sc__law_due.nd rfl (by first | exact Or.inl rfl | exact Or.inr rfl)) (pgs_cons (pg_name (i := 9) sc__law_due.nd rfl (by first | exact Or.inl rfl | exact Or.inr rfl)) (pgs_cons (pg_name (i := 11) sc__law_due.nd rfl (by first | exact Or.inl rfl | exact Or.inr rfl)) pgs_nil))))) (fun _ _ _ _ _ => pts_nil) (fun _ _ _ _ _ => (pe_tup (pa_cons (pv 8) (pa_cons (pe_reK (K := K) (pe_bm PySem.F.plainAttrs_list PySem.F.slot_list_index PySem.F.type_list_index (mt_idxD (K := K) (hu64 hr)) (pv 2) (pa_cons (pe_tup (pa_cons (pv 9) (pa_cons (pv 11) pa_nil))) pa_nil))) pa_nil))))) pa_nil)) pa_nil)) pa_nil)))))
      (pss_one (ps_ret (pe_tup (pa_cons (pv 2) (pa_cons (pe_tup (pa_cons (pe_ix (zix K) (pv 0) pe_int (fun _ _ => rfl)) (pa_cons (pe_callTy (ztuple (K := K)) (by rfl) T.z_tuple (by decide +kernel) (pa_cons (pv 12) pa_nil)) pa_nil))) pa_nil)))))))))),
    ?_⟩
  exact (sim_seq (sim_asg (sim_lst (sim_cons (sim_tup (sim_cons (sim_c (.int _)) (sim_cons (sim_c (.int _)) sim_nil))) sim_nil)) (by decide))
      (sim_seq (sim_asg (sim_lst sim_nil) (by decide))
      (sim_seq (sim_for (sim_rng1 (sim_cons (sim_op s_mul (sim_cb s_len (sim_cons (sim_op s_ix sim_var (sim_c (.int _))) sim_nil)) (sim_cb s_len (sim_cons (sim_op s_ix sim_var (sim_c (.int _))) sim_nil))) sim_nil)) (simg_name (by decide)) (sim_seq (sim_ifS (sim_test (sim_op s_ge sim_var (sim_cb s_len (sim_cons sim_var sim_nil)))) sim_brk sim_next)
      (sim_seq (sim_asgG (sim_op s_ix sim_var sim_var) (simg_tup (simgs_cons (simg_name (by decide)) (simgs_cons (simg_name (by decide)) simgs_nil))))
      (sim_seq (sim_asg (sim_lst sim_nil) (by decide))
      (sim_seq (sim_for (sim_iter (sim_op s_ix (sim_op s_ix sim_var (sim_c (.int _))) sim_var)) (simg_tup (simgs_cons (simg_name (by decide)) (simgs_cons (simg_name (by decide)) simgs_nil))) (sim_for (sim_iter (sim_op s_ix (sim_op s_ix sim_var (sim_c (.int _))) sim_var)) (simg_tup (simgs_cons (simg_name (by decide)) (simgs_cons (simg_name (by decide)) simgs_nil))) (sim_ifS (sim_test (sim_op s_eq sim_var sim_var)) (sim_mut s_append (sim_cons (sim_tup (sim_cons sim_var (sim_cons sim_var (sim_cons sim_var sim_nil)))) sim_nil)) sim_next)))
      (sim_seq (sim_for (sim_iter (sim_cb s_sort3 (sim_cons sim_var sim_nil))) (simg_tup (simgs_cons (simg_name (by decide)) (simgs_cons (simg_name (by decide)) (simgs_cons (simg_name (by decide)) simgs_nil)))) (sim_ifS (sim_test (sim_op (s_alt s_notIn s_notInT) (sim_tup (sim_cons sim_var (sim_cons sim_var sim_nil))) sim_var)) (sim_mut s_append (sim_cons (sim_tup (sim_cons sim_var (sim_cons sim_var sim_nil))) sim_nil)) sim_next))
      (sim_mut s_append (sim_cons sim_var sim_nil))))))))
      (sim_seq (sim_asg (sim_lst sim_nil) (by decide))
      (sim_seq (sim_for (sim_iter sim_var) (simg_name (by decide)) (sim_mut s_append (sim_cons (sim_cb s_tuple (sim_cons (sim_cb s_sortA (sim_cons (sim_lcH (simg_tup (simgs_cons (simg_name (by decide)) (simgs_cons (simg_name (by decide)) (simgs_cons (simg_name (by decide)) simgs_nil)))) sim_yes (sim_tup (sim_cons sim_var (sim_cons (sim_idx (sim_tup (sim_cons sim_var (sim_cons sim_var sim_nil)))) sim_nil))) (by decide) (by decide) (by decide)) sim_nil)) sim_nil)) sim_nil)))
      (sim_ret (sim_tup (sim_cons sim_var (sim_cons (sim_tup (sim_cons (sim_op s_ix sim_var (sim_c (.int _))) (sim_cons (sim_cb s_tuple (sim_cons sim_var sim_nil)) sim_nil))) sim_nil)))))))))
set_option maxHeartbeats 4000000 in
theorem der__law_class (T : Tx K mg) {k : Nat} {Ce : Addr} (fC : ClsF K Ce) (cdv : Value) (A : Around) (outer : List PySem.Env) (s : Shared) (H : Hp) (p : Addr × Obj) (hr : RoomH k (A.deeper (PyProof.Rows.envOfC "_law_class" (defScope s__law_class) s.heap.objs.size T.a__law_class cdv))) (hot : Hot1 A p) (zn : L2N.Zn (.ref Ce) none p.2) : PSs (cxH CX0 P w K mg base ["e", "kinds"] "_law_class" (defScope s__law_class) T.a__law_class cdv A outer s H E0 p) (defBody s__law_class) (clsT K Ce p.1 [T.C_BadMachine, T.C_BadDemand, T.C_BadLetters, T.C_BadWord, T.C_BadSet, T.C_BadState, T.C_BadText, T.C_TooMuch] [PySem.Str.ofString "machine", PySem.Str.ofString "demand", PySem.Str.ofString "letters", PySem.Str.ofString "word", PySem.Str.ofString "set", PySem.Str.ofString "state", PySem.Str.ofString "text", PySem.Str.ofString "much"] (PySem.Str.ofString "several")) :=
  (pss_cons (ps_set (i := 1) sc__law_class.nd rfl (by first | exact Or.inl rfl | exact Or.inr rfl) (pe_lst (pa_cons (pe_callB (zisE (a := p.1) (oe := p.2) (by exact List.mem_cons_self) fC.x zn.zc ⟨_, hot.2.choose_spec.1⟩) (by rfl) T.z_isinstance (by decide +kernel) (pa_cons (pv 0) (pa_cons (pe_glob (v := .ref T.C_BadMachine) rfl T.mg_BadMachine rfl) pa_nil)))
      (pa_cons (pe_callB (zisE (a := p.1) (oe := p.2) (by exact List.mem_cons_self) fC.x zn.zc ⟨_, hot.2.choose_spec.1⟩) (by rfl) T.z_isinstance (by decide +kernel) (pa_cons (pv 0) (pa_cons (pe_glob (v := .ref T.C_BadDemand) rfl T.mg_BadDemand rfl) pa_nil)))
      (pa_cons (pe_callB (zisE (a := p.1) (oe := p.2) (by exact List.mem_cons_self) fC.x zn.zc ⟨_, hot.2.choose_spec.1⟩) (by rfl) T.z_isinstance (by decide +kernel) (pa_cons (pv 0) (pa_cons (pe_glob (v := .ref T.C_BadLetters) rfl T.mg_BadLetters rfl) pa_nil)))
      (pa_cons (pe_callB (zisE (a := p.1) (oe := p.2) (by exact List.mem_cons_self) fC.x zn.zc ⟨_, hot.2.choose_spec.1⟩) (by rfl) T.z_isinstance (by decide +kernel) (pa_cons (pv 0) (pa_cons (pe_glob (v := .ref T.C_BadWord) rfl T.mg_BadWord rfl) pa_nil)))
      (pa_cons (pe_callB (zisE (a := p.1) (oe := p.2) (by exact List.mem_cons_self) fC.x zn.zc ⟨_, hot.2.choose_spec.1⟩) (by rfl) T.z_isinstance (by decide +kernel) (pa_cons (pv 0) (pa_cons (pe_glob (v := .ref T.C_BadSet) rfl T.mg_BadSet rfl) pa_nil)))
      (pa_cons (pe_callB (zisE (a := p.1) (oe := p.2) (by exact List.mem_cons_self) fC.x zn.zc ⟨_, hot.2.choose_spec.1⟩) (by rfl) T.z_isinstance (by decide +kernel) (pa_cons (pv 0) (pa_cons (pe_glob (v := .ref T.C_BadState) rfl T.mg_BadState rfl) pa_nil)))
      (pa_cons (pe_callB (zisE (a := p.1) (oe := p.2) (by exact List.mem_cons_self) fC.x zn.zc ⟨_, hot.2.choose_spec.1⟩) (by rfl) T.z_isinstance (by decide +kernel) (pa_cons (pv 0) (pa_cons (pe_glob (v := .ref T.C_BadText) rfl T.mg_BadText rfl) pa_nil)))
      (pa_cons (pe_callB (zisE (a := p.1) (oe := p.2) (by exact List.mem_cons_self) fC.x zn.zc ⟨_, hot.2.choose_spec.1⟩) (by rfl) T.z_isinstance (by decide +kernel) (pa_cons (pv 0) (pa_cons (pe_glob (v := .ref T.C_TooMuch) rfl T.mg_TooMuch rfl) pa_nil)))
      pa_nil))))))))))
    (pss_cons (ps_if (PW.pt (pw_or (pt_cmpR (zne K (huH hr)) (pe_bm PySem.F.plainAttrs_list PySem.F.slot_list_count PySem.F.type_list_count mt_countF (pv 1) (pa_cons pe_bl pa_nil)) pe_int (nomark _)) (pw_or1 (pt_not (zpt_tru K (pe_callB (zisE (a := p.1) (oe := p.2) (by exact List.mem_cons_self) fC.x zn.zc ⟨_, hot.2.choose_spec.1⟩) (by rfl) T.z_isinstance (by decide +kernel) (pa_cons (pv 0) (pa_cons (pe_bltn (v := .ty "ValueError") (by rfl) T.z_ValueError (by decide +kernel) rfl) pa_nil)))))))) (pss_one (ps_ret pe_str)) pss_nil)
    (pss_one (ps_ret (pe_ix (zix K) (pe_lst (pa_cons pe_str (pa_cons pe_str (pa_cons pe_str (pa_cons pe_str (pa_cons pe_str (pa_cons pe_str (pa_cons pe_str (pa_cons pe_str pa_nil))))))))) (pe_bm PySem.F.plainAttrs_list PySem.F.slot_list_index PySem.F.type_list_index mt_index (pv 1) (pa_cons pe_bl pa_nil)) (fun _ _ => rfl))))))
theorem err__law_class (T : Tx K mg) : FnErr P w K mg base T.cl m_hd 1 T.a__law_class T.fd__law_class "e" := by
  refine fnErr_of (k := 0) T.F__law_class sc__law_class fun cdv A outer s H p c y Q hr hot zn hy hq => ?_
  unfold m_hd at hy
  split at hy
  · cases hy
    exact ⟨_, der__law_class T T.f_BadLetters cdv A outer s H p hr hot zn, clsTail (bs := [false, false, true, false, false, false, false, false]) (j := 2) rfl (by show 1 < 2; decide) rfl (zc1 (kit_ref T.f_BadLetters T.f_BadMachine T.s_BadLetters_BadMachine) (zc1 (kit_ref T.f_BadLetters T.f_BadDemand T.s_BadLetters_BadDemand) (zc1 (kit_ref T.f_BadLetters T.f_BadLetters T.s_BadLetters_BadLetters) (zc1 (kit_ref T.f_BadLetters T.f_BadWord T.s_BadLetters_BadWord) (zc1 (kit_ref T.f_BadLetters T.f_BadSet T.s_BadLetters_BadSet) (zc1 (kit_ref T.f_BadLetters T.f_BadState T.s_BadLetters_BadState) (zc1 (kit_ref T.f_BadLetters T.f_BadText T.s_BadLetters_BadText) (zc1 (kit_ref T.f_BadLetters T.f_TooMuch T.s_BadLetters_TooMuch) zc0)))))))) (kit_val T.v_BadLetters) (by show 8 ≤ 100; decide) (by show 8 ≤ 100; decide) rfl rfl (hm_of rfl) rfl hq⟩
  · cases hy
    exact ⟨_, der__law_class T T.f_BadMachine cdv A outer s H p hr hot zn, clsTail (bs := [true, false, false, false, false, false, false, false]) (j := 0) rfl (by show 1 < 2; decide) rfl (zc1 (kit_ref T.f_BadMachine T.f_BadMachine T.s_BadMachine_BadMachine) (zc1 (kit_ref T.f_BadMachine T.f_BadDemand T.s_BadMachine_BadDemand) (zc1 (kit_ref T.f_BadMachine T.f_BadLetters T.s_BadMachine_BadLetters) (zc1 (kit_ref T.f_BadMachine T.f_BadWord T.s_BadMachine_BadWord) (zc1 (kit_ref T.f_BadMachine T.f_BadSet T.s_BadMachine_BadSet) (zc1 (kit_ref T.f_BadMachine T.f_BadState T.s_BadMachine_BadState) (zc1 (kit_ref T.f_BadMachine T.f_BadText T.s_BadMachine_BadText) (zc1 (kit_ref T.f_BadMachine T.f_TooMuch T.s_BadMachine_TooMuch) zc0)))))))) (kit_val T.v_BadMachine) (by show 8 ≤ 100; decide) (by show 8 ≤ 100; decide) rfl rfl (hm_of rfl) rfl hq⟩
  · cases hy
    exact ⟨_, der__law_class T T.f_TooMuch cdv A outer s H p hr hot zn, clsTail (bs := [false, false, false, false, false, false, false, true]) (j := 7) rfl (by show 1 < 2; decide) rfl (zc1 (kit_ref T.f_TooMuch T.f_BadMachine T.s_TooMuch_BadMachine) (zc1 (kit_ref T.f_TooMuch T.f_BadDemand T.s_TooMuch_BadDemand) (zc1 (kit_ref T.f_TooMuch T.f_BadLetters T.s_TooMuch_BadLetters) (zc1 (kit_ref T.f_TooMuch T.f_BadWord T.s_TooMuch_BadWord) (zc1 (kit_ref T.f_TooMuch T.f_BadSet T.s_TooMuch_BadSet) (zc1 (kit_ref T.f_TooMuch T.f_BadState T.s_TooMuch_BadState) (zc1 (kit_ref T.f_TooMuch T.f_BadText T.s_TooMuch_BadText) (zc1 (kit_ref T.f_TooMuch T.f_TooMuch T.s_TooMuch_TooMuch) zc0)))))))) (kit_val T.v_TooMuch) (by show 8 ≤ 100; decide) (by show 8 ≤ 100; decide) rfl rfl (hm_of rfl) rfl hq⟩
  · cases hy
set_option maxHeartbeats 4000000 in
theorem ok_is_number (T : Tx K mg) : FnOk P w K mg base CX0 1 T.a_is_number T.fd_is_number ["thing"] (spM K 0 1 1 W0 m_is_number) := by
  refine ok0 T.F_is_number sc_is_number rfl rfl fun cdv A outer s H E hr => ⟨_,
    (pss_one (ps_ret (pe_and (pe_callB (zisi K) (by rfl) T.z_isinstance (by decide +kernel) (pa_cons (pv 0) (pa_cons (pe_bltn (v := .ty "int") (by rfl) T.z_int (by decide +kernel) rfl) pa_nil))) (pe_one (pe_not (pe_callB (zisi K) (by rfl) T.z_isinstance (by decide +kernel) (pa_cons (pv 0) (pa_cons (pe_bltn (v := .ty "bool") (by rfl) T.z_bool (by decide +kernel) rfl) pa_nil)))))))),
    ?_⟩
  exact (sim_ret (sim_andV (sim_isi sim_var) (sim_notV (sim_isi sim_var))))
set_option maxHeartbeats 4000000 in
theorem ok_is_below (T : Tx K mg) : FnOk P w K mg base CX0 2 T.a_is_below T.fd_is_below ["thing", "many"] (spM K 0 2 2 W0 m_is_below) := by
  refine ok0 T.F_is_below sc_is_below rfl rfl fun cdv A outer s H E hr => ⟨_,
    (pss_one (ps_ret (pe_and (pe_call (ok_is_number T) (hr.mono (by decide)) rfl T.mg_is_number T.F_is_number.kp T.b_is_number .nil pass0 (pa_cons (pv 0) pa_nil)) (pe_one (pe_chain op_le op_lt pe_int (pv 0) (pv 1)))))),
    ?_⟩
  exact (sim_ret (sim_andV (sim_call0 (sim_cons sim_var sim_nil) (by intro h; cases h)) (sim_chain s_le s_lt (sim_c (.int _)) sim_var sim_var)))
set_option maxHeartbeats 4000000 in
theorem ok_is_letter_count (T : Tx K mg) : FnOk P w K mg base CX0 3 T.a_is_letter_count T.fd_is_letter_count ["thing"] (spM K 0 1 1 W0 m_is_letter_count) := by
  refine ok0 T.F_is_letter_count sc_is_letter_count rfl rfl fun cdv A outer s H E hr => ⟨_,
    (pss_one (ps_ret (pe_call (ok_is_below T) (hr.mono (by decide)) rfl T.mg_is_below T.F_is_below.kp T.b_is_below .nil pass0 (pa_cons (pv 0) (pa_cons (pe_op op_add (pe_glob (v := .int 5) rfl T.c_MOST_LETTERS ⟨_, rfl⟩) pe_int) pa_nil))))),
    ?_⟩
  exact (sim_ret (sim_call0 (sim_cons sim_var (sim_cons (sim_op s_add (sim_c (.int _)) (sim_c (.int _))) sim_nil)) (by intro h; cases h)))
set_option maxHeartbeats 4000000 in
theorem ok__is_edge (T : Tx K mg) : FnOk P w K mg base CX0 3 T.a__is_edge T.fd__is_edge ["n", "many", "edge"] (spM K 0 3 3 W0 m__is_edge) := by
  refine ok0 T.F__is_edge sc__is_edge rfl rfl fun cdv A outer s H E hr => ⟨_,
    (pss_cons (ps_if (PW.pt (pw_or (pt_not (zpt_tru K (pe_callB (zisi K) (by rfl) T.z_isinstance (by decide +kernel) (pa_cons (pv 2) (pa_cons (pe_bltn (v := .ty "tuple") (by rfl) T.z_tuple (by decide +kernel) rfl) pa_nil))))) (pw_or1 (pt_cmpR (zne K (hu64 hr)) (pe_callB (zlen K) (by rfl) T.z_len (by decide +kernel) (pa_cons (pv 2) pa_nil)) pe_int (nomark _))))) (pss_one (ps_ret pe_bl)) pss_nil)
      (pss_one (ps_ret (pe_and (pe_call (ok_is_below T) (hr.mono (by decide)) rfl T.mg_is_below T.F_is_below.kp T.b_is_below .nil pass0 (pa_cons (pe_ix (zix K) (pv 2) pe_int (fun _ _ => rfl)) (pa_cons (pv 0) pa_nil))) (pe_one (pe_call (ok_is_below T) (hr.mono (by decide)) rfl T.mg_is_below T.F_is_below.kp T.b_is_below .nil pass0 (pa_cons (pe_ix (zix K) (pv 2) pe_int (fun _ _ => rfl)) (pa_cons (pv 1) pa_nil)))))))),
    ?_⟩
  exact (sim_seq (sim_ifS (sim_or (sim_not (sim_tru (sim_isi sim_var))) (sim_test (sim_op s_ne (sim_cb s_len (sim_cons sim_var sim_nil)) (sim_c (.int _))))) (sim_ret (sim_c (.bl _))) sim_next)
      (sim_ret (sim_andV (sim_call0 (sim_cons (sim_op s_ix sim_var (sim_c (.int _))) (sim_cons sim_var sim_nil)) (by intro h; cases h)) (sim_call0 (sim_cons (sim_op s_ix sim_var (sim_c (.int _))) (sim_cons sim_var sim_nil)) (by intro h; cases h)))))
set_option maxHeartbeats 4000000 in
theorem ok__is_row (T : Tx K mg) : FnOk P w K mg base CX0 4 T.a__is_row T.fd__is_row ["n", "many", "row"] (spM K 0 3 5 W0 m__is_row) := by
  refine ok0 T.F__is_row sc__is_row rfl rfl fun cdv A outer s H E hr => ⟨_,
    (pss_cons (ps_for PassesOwn.never rfl (zseq K (pv 2)) (pg_name (i := 3) sc__is_row.nd rfl (by first | exact Or.inl rfl | exact Or.inr rfl)) (pss_one (ps_if (pt_not (zpt_tru K (pe_call (ok__is_edge T) (hr.mono (by decide)) rfl T.mg__is_edge T.F__is_edge.kp T.b__is_edge .nil pass0 (pa_cons (pv 0) (pa_cons (pv 1) (pa_cons (pv 3) pa_nil)))))) (pss_one (ps_ret pe_bl)) pss_nil)))
      (pss_one (ps_ret (pe_callB (zall (K := K) rfl) (by rfl) T.z_all (by decide +kernel) (pa_cons (pe_lc (own := [("at", 4)]) rfl sc__is_row.nd (pi_range2 (by rfl) T.z_range (pa_cons pe_int (pa_cons (pe_callB (zlen K) (by rfl) T.z_len (by decide +kernel) (pa_cons (pv 2) pa_nil)) pa_nil))) (blkOk_by (N := ["n", "many", "row", "edge", "at"]) (sc := defScope s__is_row) (by decide +kernel)) (fun _ _ _ _ _ => (pg_name (i := 4) sc__is_row.nd rfl (by first | exact Or.inl rfl | exact Or.inr rfl))) (fun _ _ _ _ _ => pts_nil) (fun _ _ _ _ _ => (pe_cmpR (zalt op_lt (zltT (K := K) (hu64 hr))) (pe_ix (zix K) (pv 2) (pe_op op_sub (pv 4) pe_int) (fun _ _ => rfl)) (pe_ix (zix K) (pv 2) (pv 4) (fun _ _ => rfl)) (nomark _)))) pa_nil))))),
    ?_⟩
  exact (sim_seq (sim_for (sim_iter sim_var) (simg_name (by decide)) (sim_ifS (sim_not (sim_tru (sim_call0 (sim_cons sim_var (sim_cons sim_var (sim_cons sim_var sim_nil))) (by intro h; cases h)))) (sim_ret (sim_c (.bl _))) sim_next))
      (sim_ret (sim_cb s_all (sim_cons (sim_lc (sim_rng2 (sim_cons (sim_c (.int _)) (sim_cons (sim_cb s_len (sim_cons sim_var sim_nil)) sim_nil))) (simg_name (by decide)) sim_yes (sim_op (s_alt s_lt s_ltT) (sim_op s_ix sim_var (sim_op s_sub sim_var (sim_c (.int _)))) (sim_op s_ix sim_var sim_var)) (by decide) (by decide)) sim_nil))))
set_option maxHeartbeats 4000000 in
theorem ok__is_machine (T : Tx K mg) : FnOk P w K mg base CX0 5 T.a__is_machine T.fd__is_machine ["m"] (spM K 0 1 4 W0 m__is_machine) := by
  refine ok0 T.F__is_machine sc__is_machine rfl rfl fun cdv A outer s H E hr => ⟨_,
    (pss_cons (ps_if (PW.pt (pw_or (pt_not (zpt_tru K (pe_callB (zisi K) (by rfl) T.z_isinstance (by decide +kernel) (pa_cons (pv 0) (pa_cons (pe_bltn (v := .ty "tuple") (by rfl) T.z_tuple (by decide +kernel) rfl) pa_nil))))) (pw_or1 (pt_cmpR (zne K (hu64 hr)) (pe_callB (zlen K) (by rfl) T.z_len (by decide +kernel) (pa_cons (pv 0) pa_nil)) pe_int (nomark _))))) (pss_one (ps_ret pe_bl)) pss_nil)
      (pss_cons (ps_asg (pv 0) (zpg_tup (K := K) (n := 2) rfl (pgs_cons (pg_name (i := 1) sc__is_machine.nd rfl (by first | exact Or.inl rfl | exact Or.inr rfl)) (pgs_cons (pg_name (i := 2) sc__is_machine.nd rfl (by first | exact Or.inl rfl | exact Or.inr rfl)) pgs_nil))))
      (pss_cons (ps_if (PW.pt (pw_or (pt_not (zpt_tru K (pe_call (ok_is_letter_count T) (hr.mono (by decide)) rfl T.mg_is_letter_count T.F_is_letter_count.kp T.b_is_letter_count .nil pass0 (pa_cons (pv 1) pa_nil)))) (pw_or1 (pt_not (zpt_tru K (pe_callB (zisi K) (by rfl) T.z_isinstance (by decide +kernel) (pa_cons (pv 2) (pa_cons (pe_bltn (v := .ty "tuple") (by rfl) T.z_tuple (by decide +kernel) rfl) pa_nil)))))))) (pss_one (ps_ret pe_bl)) pss_nil)
      (pss_cons (ps_if (pt_not (pt_chain op_le op_le pe_int (pe_callB (zlen K) (by rfl) T.z_len (by decide +kernel) (pa_cons (pv 2) pa_nil)) (pe_glob (v := .int 400) rfl T.c_MOST_STATES ⟨_, rfl⟩))) (pss_one (ps_ret pe_bl)) pss_nil)
      (pss_cons (ps_if (pt_not (zpt_tru K (pe_callB (zall (K := K) rfl) (by rfl) T.z_all (by decide +kernel) (pa_cons (pe_lc (own := [("row", 3)]) rfl sc__is_machine.nd (zseq K (pv 2)) (blkOk_by (N := ["m", "n", "rows", "row"]) (sc := defScope s__is_machine) (by decide +kernel)) (fun _ _ _ _ _ => (pg_name (i := 3) sc__is_machine.nd rfl (by first | exact Or.inl rfl | exact Or.inr rfl))) (fun _ _ _ _ _ => pts_nil) (fun _ _ _ _ _ => (pe_callB (zisi K) (by rfl) T.z_isinstance (by decide +kernel) (pa_cons (pv 3) (pa_cons (pe_bltn (v := .ty "tuple") (by rfl) T.z_tuple (by decide +kernel) rfl) pa_nil))))) pa_nil)))) (pss_one (ps_ret pe_bl)) pss_nil)
      (pss_cons (ps_if (pt_cmpR op_gt (pe_callB (zsum (K := K) rfl) (by rfl) T.z_sum (by decide +kernel) (pa_cons (pe_lc (own := [("row", 3)]) rfl sc__is_machine.nd (zseq K (pv 2)) (blkOk_by (N := ["m", "n", "rows", "row"]) (sc := defScope s__is_machine) (by decide +kernel)) (fun _ _ _ _ _ => (pg_name (i := 3) sc__is_machine.nd rfl (by first | exact Or.inl rfl | exact Or.inr rfl))) (fun _ _ _ _ _ => pts_nil) (fun _ _ _ _ _ => (pe_callB (zlen K) (by rfl) T.z_len (by decide +kernel) (pa_cons (pv 3) pa_nil)))) pa_nil)) (pe_glob (v := .int 6000) rfl T.c_MOST_EDGES ⟨_, rfl⟩) (nomark _)) (pss_one (ps_ret pe_bl)) pss_nil)
      (pss_one (ps_ret (pe_callB (zall (K := K) rfl) (by rfl) T.z_all (by decide +kernel) (pa_cons (pe_lc (own := [("row", 3)]) rfl sc__is_machine.nd (zseq K (pv 2)) (blkOk_by (N := ["m", "n", "rows", "row"]) (sc := defScope s__is_machine) (by decide +kernel)) (fun _ _ _ _ _ => (pg_name (i := 3) sc__is_machine.nd rfl (by first | exact Or.inl rfl | exact Or.inr rfl))) (fun _ _ _ _ _ => pts_nil) (fun _ _ _ _ _ => (pe_call (ok__is_row T) (hr.mono (by decide)) rfl T.mg__is_row T.F__is_row.kp T.b__is_row .nil pass0 (pa_cons (pv 1) (pa_cons (pe_callB (zlen K) (by rfl) T.z_len (by decide +kernel) (pa_cons (pv 2) pa_nil)) (pa_cons (pv 3) pa_nil)))))) pa_nil)))))))))),
    ?_⟩
  exact (sim_seq (sim_ifS (sim_or (sim_not (sim_tru (sim_isi sim_var))) (sim_test (sim_op s_ne (sim_cb s_len (sim_cons sim_var sim_nil)) (sim_c (.int _))))) (sim_ret (sim_c (.bl _))) sim_next)
      (sim_seq (sim_asgG sim_var (simg_tup (simgs_cons (simg_name (by decide)) (simgs_cons (simg_name (by decide)) simgs_nil))))
      (sim_seq (sim_ifS (sim_or (sim_not (sim_tru (sim_call0 (sim_cons sim_var sim_nil) (by intro h; cases h)))) (sim_not (sim_tru (sim_isi sim_var)))) (sim_ret (sim_c (.bl _))) sim_next)
      (sim_seq (sim_ifS (sim_not (sim_test (sim_chain s_le s_le (sim_c (.int _)) (sim_cb s_len (sim_cons sim_var sim_nil)) (sim_c (.int _))))) (sim_ret (sim_c (.bl _))) sim_next)
      (sim_seq (sim_ifS (sim_not (sim_tru (sim_cb s_all (sim_cons (sim_lcH (simg_name (by decide)) sim_yes (sim_isi sim_var) (by decide) (by decide) (by decide)) sim_nil)))) (sim_ret (sim_c (.bl _))) sim_next)
      (sim_seq (sim_ifS (sim_test (sim_op s_gt (sim_cb s_sum (sim_cons (sim_lcH (simg_name (by decide)) sim_yes (sim_cb s_len (sim_cons sim_var sim_nil)) (by decide) (by decide) (by decide)) sim_nil)) (sim_c (.int _)))) (sim_ret (sim_c (.bl _))) sim_next)
      (sim_ret (sim_cb s_all (sim_cons (sim_lc (sim_iter sim_var) (simg_name (by decide)) sim_yes (sim_call0 (sim_cons sim_var (sim_cons (sim_cb s_len (sim_cons sim_var sim_nil)) (sim_cons sim_var sim_nil))) (by intro h; cases h)) (by decide) (by decide)) sim_nil)))))))))
set_option maxHeartbeats 4000000 in
theorem ok_check_machine (T : Tx K mg) : FnOk P w K mg base (L2N.CX P w) 6 T.a_check_machine T.fd_check_machine ["m"] (spM K 0 1 1 (WXc T.cl) m_check_machine) := by
  refine okX T.cl T.F_check_machine sc_check_machine rfl rfl fun cdv A outer s H E hr => ?_
  have tk : L2N.Takes (cxOf (L2N.CX P w) P w K mg base ["m"] "check_machine" (defScope s_check_machine) T.a_check_machine cdv A outer s H E) (fun cls d _ H => E cls d H) := L2N.takes_of rfl rfl rfl rfl
  refine ⟨_,
    (pss_one (ps_if (pt_not (zpt_tru K (pe_call (ok__is_machine T) (hr.mono (by decide)) rfl T.mg__is_machine T.F__is_machine.kp T.b__is_machine .nil pass0 (pa_cons (pv 0) pa_nil)))) (pss_one (L2N.ps_raise rfl tk (zpmk0 PySem.F.excBase_ValueError T.q_BadMachine T.mg_BadMachine T.kp_BadMachine (L2.raises_own T.f_BadMachine.x.hs T.f_BadMachine.ty) rfl))) pss_nil)),
    ?_⟩
  exact (sim_ifS (sim_not (sim_tru (sim_call0 (sim_cons sim_var sim_nil) (by intro h; cases h)))) (sim_raise (C := T.C_BadMachine) (W := WXc T.cl E) (Wx := fun cls d _ H => E cls d H) (fun _ _ h => h)) sim_next)
set_option maxHeartbeats 4000000 in
theorem ok_check_same_letters (T : Tx K mg) : FnOk P w K mg base (L2N.CX P w) 1 T.a_check_same_letters T.fd_check_same_letters ["a", "b"] (spM K 0 2 2 (WXc T.cl) m_check_same_letters) := by
  refine okX T.cl T.F_check_same_letters sc_check_same_letters rfl rfl fun cdv A outer s H E hr => ?_
  have tk : L2N.Takes (cxOf (L2N.CX P w) P w K mg base ["a", "b"] "check_same_letters" (defScope s_check_same_letters) T.a_check_same_letters cdv A outer s H E) (fun cls d _ H => E cls d H) := L2N.takes_of rfl rfl rfl rfl
  refine ⟨_,
    (pss_one (ps_if (pt_cmpR (zne K (hu64 hr)) (pe_ix (zix K) (pv 0) pe_int (fun _ _ => rfl)) (pe_ix (zix K) (pv 1) pe_int (fun _ _ => rfl)) (nomark _)) (pss_one (L2N.ps_raise rfl tk (zpmk0 PySem.F.excBase_ValueError T.q_BadLetters T.mg_BadLetters T.kp_BadLetters (L2.raises_own T.f_BadLetters.x.hs T.f_BadLetters.ty) rfl))) pss_nil)),
    ?_⟩
  exact (sim_ifS (sim_test (sim_op s_ne (sim_op s_ix sim_var (sim_c (.int _))) (sim_op s_ix sim_var (sim_c (.int _))))) (sim_raise (C := T.C_BadLetters) (W := WXc T.cl E) (Wx := fun cls d _ H => E cls d H) (fun _ _ h => h)) sim_next)
set_option maxHeartbeats 4000000 in
theorem ok__check_both (T : Tx K mg) : FnOk P w K mg base (L2N.CX P w) 7 T.a__check_both T.fd__check_both ["a", "b"] (spM K 0 2 2 (WXc T.cl) m__check_both) := by
  refine okX T.cl T.F__check_both sc__check_both rfl rfl fun cdv A outer s H E hr => ?_
  have tk : L2N.Takes (cxOf (L2N.CX P w) P w K mg base ["a", "b"] "_check_both" (defScope s__check_both) T.a__check_both cdv A outer s H E) (fun cls d _ H => E cls d H) := L2N.takes_of rfl rfl rfl rfl
  refine ⟨_,
    (pss_cons (ps_expr (pe_callS (ok_check_machine T) (hr.mono (by decide)) rfl T.mg_check_machine T.F_check_machine.kp T.b_check_machine (fun σ => L2N.passAt tk σ) (pa_cons (pv 0) pa_nil)))
      (pss_cons (ps_expr (pe_callS (ok_check_machine T) (hr.mono (by decide)) rfl T.mg_check_machine T.F_check_machine.kp T.b_check_machine (fun σ => L2N.passAt tk σ) (pa_cons (pv 1) pa_nil)))
      (pss_one (ps_expr (pe_callS (ok_check_same_letters T) (hr.mono (by decide)) rfl T.mg_check_same_letters T.F_check_same_letters.kp T.b_check_same_letters (fun σ => L2N.passAt tk σ) (pa_cons (pv 0) (pa_cons (pv 1) pa_nil))))))),
    ?_⟩
  exact (sim_seq (sim_drop (sim_callS (sim_cons sim_var sim_nil) (fun _ _ _ _ _ h => h)))
      (sim_seq (sim_drop (sim_callS (sim_cons sim_var sim_nil) (fun _ _ _ _ _ h => h)))
      (sim_drop (sim_callS (sim_cons sim_var (sim_cons sim_var sim_nil)) (fun _ _ _ _ _ h => h)))))
set_option maxHeartbeats 4000000 in
theorem ok__edges_of_both (T : Tx K mg) : FnOk P w K mg base CX0 1 T.a__edges_of_both T.fd__edges_of_both ["row", "other"] (spM K 0 2 7 W0 m__edges_of_both) := by
  refine ok0 T.F__edges_of_both sc__edges_of_both rfl rfl fun cdv A outer s H E hr => ⟨_,
    (pss_cons (ps_set (i := 2) sc__edges_of_both.nd rfl (by first | exact Or.inl rfl | exact Or.inr rfl) (pe_newM false))
      (pss_cons (ps_for PassesOwn.never rfl (zseq K (pv 1)) (zpg_tup (K := K) (n := 2) rfl (pgs_cons (pg_name (i := 3) sc__edges_of_both.nd rfl (by first | exact Or.inl rfl | exact Or.inr rfl)) (pgs_cons (pg_name (i := 4) sc__edges_of_both.nd rfl (by first | exact Or.inl rfl | exact Or.inr rfl)) pgs_nil))) (pss_one (ps_expr (pe_bm PySem.F.plainAttrs_list PySem.F.slot_list_append PySem.F.type_list_append mt_append (pe_dsetd (pv 2) (pv 3) (pe_lst pa_nil) ⟨by rfl, by rfl, by rfl, by rfl⟩) (pa_cons (pv 4) pa_nil)))))
      (pss_one (ps_ret (pe_lc2 (own := [("letter", 3), ("p", 5), ("q", 6)]) (vs1 := [6]) rfl sc__edges_of_both.nd (zseq K (pv 0)) (blkOk_by (N := ["row", "other", "ends", "letter", "to", "p", "q"]) (sc := defScope s__edges_of_both) (by decide +kernel)) (by decide) (fun _ _ _ _ _ => (zpg_tup (K := K) (n := 2) rfl (pgs_cons (pg_name (i := 3) sc__edges_of_both.nd rfl (by first | exact Or.inl rfl | exact Or.inr rfl)) (pgs_cons (pg_name (i := 5) sc__edges_of_both.nd rfl (by first | exact Or.inl rfl | exact Or.inr rfl)) pgs_nil)))) (fun _ _ _ _ _ => pts_nil) (fun _ _ _ _ _ => (zseq K (pe_dget2 (hu1 hr) (pv 2) (pv 3) (pe_lst pa_nil) ⟨by rfl, by rfl, by rfl, by rfl⟩))) (fun _ _ _ _ _ => (pg_name (i := 6) sc__edges_of_both.nd rfl (by first | exact Or.inl rfl | exact Or.inr rfl))) (fun _ _ _ _ _ => pts_nil) (fun _ _ _ _ _ => (pe_tup (pa_cons (pv 3) (pa_cons (pe_tup (pa_cons (pv 5) (pa_cons (pv 6) pa_nil))) pa_nil))))))))),
    ?_⟩
  exact (sim_grp (simRD_seq (simD_for (sim0_iter (W := fun _ _ _ => False) sim_var) (simg_tup (simgs_cons (simg_name (by decide)) (simgs_cons (simg_name (by decide)) simgs_nil))) (simD_app (W := fun _ _ _ => False) sim_var sim_var) (by decide)) (simRD_give (by decide) (sim_ret (sim_lc2 (sim_iter sim_var) (simg_tup (simgs_cons (simg_name (by decide)) (simgs_cons (simg_name (by decide)) simgs_nil))) sim_yes (simA_iter (sim_getD sim_var)) (simg_name (by decide)) sim_yes (sim_tup (sim_cons sim_var (sim_cons (sim_tup (sim_cons sim_var (sim_cons sim_var sim_nil))) sim_nil))) (by decide) (by decide) (by decide) (by decide))))) (by decide))
set_option maxHeartbeats 4000000 in
theorem ok_pairs_of (T : Tx K mg) : FnOk P w K mg base (L2N.CX P w) 8 T.a_pairs_of T.fd_pairs_of ["a", "b"] (spM K 0 2 9 (WXc T.cl) m_pairs_of) := by
  refine okX T.cl T.F_pairs_of sc_pairs_of rfl rfl fun cdv A outer s H E hr => ?_
  have tk : L2N.Takes (cxOf (L2N.CX P w) P w K mg base ["a", "b", "pairs", "found", "at", "p", "q", "_", "pair"] "pairs_of" (defScope s_pairs_of) T.a_pairs_of cdv A outer s H E) (fun cls d _ H => E cls d H) := L2N.takes_of rfl rfl rfl rfl
  refine ⟨_,
    (pss_cons (ps_expr (pe_callS (ok__check_both T) (hr.mono (by decide)) rfl T.mg__check_both T.F__check_both.kp T.b__check_both (fun σ => L2N.passAt tk σ) (pa_cons (pv 0) (pa_cons (pv 1) pa_nil))))
      (pss_cons (ps_set (i := 2) sc_pairs_of.nd rfl (by first | exact Or.inl rfl | exact Or.inr rfl) (pe_lst (pa_cons (pe_tup (pa_cons pe_int (pa_cons pe_int pa_nil))) pa_nil)))
      (pss_cons (ps_set (i := 3) sc_pairs_of.nd rfl (by first | exact Or.inl rfl | exact Or.inr rfl) (pe_disp1 true (hu64 hr) (pe_tup (pa_cons pe_int (pa_cons pe_int pa_nil))) pe_bl))
      (pss_cons (ps_set (i := 4) sc_pairs_of.nd rfl (by first | exact Or.inl rfl | exact Or.inr rfl) pe_int)
      (pss_cons (ps_while (L2.passes_of rfl) (pt_cmpR op_lt (pv 4) (pe_callB (zlen K) (by rfl) T.z_len (by decide +kernel) (pa_cons (pv 2) pa_nil)) (nomark _)) (pss_cons (ps_asg (pe_ix (zix K) (pv 2) (pv 4) (fun _ _ => rfl)) (zpg_tup (K := K) (n := 2) rfl (pgs_cons (pg_name (i := 5) sc_pairs_of.nd rfl (by first | exact Or.inl rfl | exact Or.inr rfl)) (pgs_cons (pg_name (i := 6) sc_pairs_of.nd rfl (by first | exact Or.inl rfl | exact Or.inr rfl)) pgs_nil))))
      (pss_cons (ps_for (L2.passes_of rfl) rfl (zseq K (pe_call (ok__edges_of_both T) (hr.mono (by decide)) rfl T.mg__edges_of_both T.F__edges_of_both.kp T.b__edges_of_both .nil pass0 (pa_cons (pe_ix (zix K) (pe_ix (zix K) (pv 0) pe_int (fun _ _ => rfl)) (pv 5) (fun _ _ => rfl)) (pa_cons (pe_ix (zix K) (pe_ix (zix K) (pv 1) pe_int (fun _ _ => rfl)) (pv 6) (fun _ _ => rfl)) pa_nil)))) (zpg_tup (K := K) (n := 2) rfl (pgs_cons (pg_name (i := 7) sc_pairs_of.nd rfl (by first | exact Or.inl rfl | exact Or.inr rfl)) (pgs_cons (pg_name (i := 8) sc_pairs_of.nd rfl (by first | exact Or.inl rfl | exact Or.inr rfl)) pgs_nil))) (pss_one (ps_if (pt_cmpR (znotInM (hu64 hr)) (pv 8) (pv 3) (by rfl)) (pss_cons (ps_asg pe_bl (pg_sub (pv 3) (pv 8) (set_M (hu64 hr))))
      (pss_one (ps_expr (pe_bm PySem.F.plainAttrs_list PySem.F.slot_list_append PySem.F.type_list_append mt_append (pv 2) (pa_cons (pv 8) pa_nil))))) pss_nil)))
      (pss_cons (ps_if (pt_cmpR op_gt (pe_callB (zlen K) (by rfl) T.z_len (by decide +kernel) (pa_cons (pv 2) pa_nil)) (pe_glob (v := .int 400) rfl T.c_MOST_STATES ⟨_, rfl⟩) (nomark _)) (pss_one (L2N.ps_raise rfl tk (zpmk0 PySem.F.excBase_ValueError T.q_TooMuch T.mg_TooMuch T.kp_TooMuch (L2.raises_own T.f_TooMuch.x.hs T.f_TooMuch.ty) rfl))) pss_nil)
      (pss_one (ps_aug (i := 4) sc_pairs_of.nd rfl (by first | exact Or.inl rfl | exact Or.inr rfl) pe_int ip_add))))))
      (pss_one (ps_ret (pv 2)))))))),
    ?_⟩
  exact (sim_seq (sim_drop (sim_callS (sim_cons sim_var (sim_cons sim_var sim_nil)) (fun _ _ _ _ _ h => h)))
      (sim_seq (sim_asg (sim_lst (sim_cons (sim_tup (sim_cons (sim_c (.int _)) (sim_cons (sim_c (.int _)) sim_nil))) sim_nil)) (by decide))
      (sim_seq (sim_disp1 (sim_tup (sim_cons (sim_c (.int _)) (sim_cons (sim_c (.int _)) sim_nil))) (sim_c (.bl _)) (by decide))
      (sim_seq (sim_asg (sim_c (.int _)) (by decide))
      (sim_seq (sim_while fuel (sim_test (sim_op s_lt sim_var (sim_cb s_len (sim_cons sim_var sim_nil)))) (sim_seq (sim_asgG (sim_op s_ix sim_var sim_var) (simg_tup (simgs_cons (simg_name (by decide)) (simgs_cons (simg_name (by decide)) simgs_nil))))
      (sim_seq (sim_for (sim_iter (sim_call0 (sim_cons (sim_op s_ix (sim_op s_ix sim_var (sim_c (.int _))) sim_var) (sim_cons (sim_op s_ix (sim_op s_ix sim_var (sim_c (.int _))) sim_var) sim_nil)) (by intro h; cases h))) (simg_tup (simgs_cons (simg_name (by decide)) (simgs_cons (simg_name (by decide)) simgs_nil))) (sim_ifS (sim_test (sim_inM sim_var)) (sim_seq (sim_putM (sim_c (.bl _)) sim_var)
      (sim_mut s_append (sim_cons sim_var sim_nil))) sim_next))
      (sim_seq (sim_ifS (sim_test (sim_op s_gt (sim_cb s_len (sim_cons sim_var sim_nil)) (sim_c (.int _)))) (sim_raise (C := T.C_TooMuch) (W := WXc T.cl E) (Wx := fun cls d _ H => E cls d H) (fun _ _ h => h)) sim_next)
      (sim_aug s_ipI (sim_c (.int _)) (by decide))))))
      (sim_ret sim_var))))))
set_option maxHeartbeats 4000000 in
theorem ok_product (T : Tx K mg) : FnOk P w K mg base (L2N.CX P w) 9 T.a_product T.fd_product ["a", "b"] (spM K 0 2 12 (WXc T.cl) m_product) := by
  refine okX T.cl T.F_product sc_product rfl rfl fun cdv A outer s H E hr => ?_
  have tk : L2N.Takes (cxOf (L2N.CX P w) P w K mg base ["a", "b", "pairs", "number", "at", "pair", "rows", "many", "p", "q", "both", "letter"] "product" (defScope s_product) T.a_product cdv A outer s H E) (fun cls d _ H => E cls d H) := L2N.takes_of rfl rfl rfl rfl
  refine ⟨_,
    (pss_cons (ps_set (i := 2) sc_product.nd rfl (by first | exact Or.inl rfl | exact Or.inr rfl) (pe_callS (ok_pairs_of T) (hr.mono (by decide)) rfl T.mg_pairs_of T.F_pairs_of.kp T.b_pairs_of (fun σ => L2N.passAt tk σ) (pa_cons (pv 0) (pa_cons (pv 1) pa_nil))))
      (pss_cons (ps_set (i := 3) sc_product.nd rfl (by first | exact Or.inl rfl | exact Or.inr rfl) (pe_dcM (K := K) true (own := [("at", 4), ("pair", 5)]) (hu64 hr) rfl sc_product.nd (zpi_enum (by rfl) T.z_enumerate (pa_cons (pv 2) pa_nil)) (blkOk_by (N := ["a", "b", "pairs", "number", "at", "pair", "rows", "many", "p", "q", "both", "letter"]) (sc := defScope s_product) (by decide +kernel)) (fun _ _ _ _ _ => (zpg_tup (K := K) (n := 2) rfl (pgs_cons (pg_name (i := 4) sc_product.nd rfl (by first | exact Or.inl rfl | exact Or.inr rfl)) (pgs_cons (pg_name (i := 5) sc_product.nd rfl (by first | exact Or.inl rfl | exact Or.inr rfl)) pgs_nil)))) (fun _ _ _ _ _ => pts_nil) (fun _ _ _ _ _ => (pv 5)) (fun _ _ _ _ _ => (pv 4))))
      (pss_cons (ps_set (i := 6) sc_product.nd rfl (by first | exact Or.inl rfl | exact Or.inr rfl) (pe_lst pa_nil))
      (pss_cons (ps_set (i := 7) sc_product.nd rfl (by first | exact Or.inl rfl | exact Or.inr rfl) pe_int)
      (pss_cons (ps_for (L2.passes_of rfl) rfl (zseq K (pv 2)) (zpg_tup (K := K) (n := 2) rfl (pgs_cons (pg_name (i := 8) sc_product.nd rfl (by first | exact Or.inl rfl | exact Or.inr rfl)) (pgs_cons (pg_name (i := 9) sc_product.nd rfl (by first | exact Or.inl rfl | exact Or.inr rfl)) pgs_nil))) (pss_cons (ps_set (i := 10) sc_product.nd rfl (by first | exact Or.inl rfl | exact Or.inr rfl) (pe_call (ok__edges_of_both T) (hr.mono (by decide)) rfl T.mg__edges_of_both T.F__edges_of_both.kp T.b__edges_of_both .nil pass0 (pa_cons (pe_ix (zix K) (pe_ix (zix K) (pv 0) pe_int (fun _ _ => rfl)) (pv 8) (fun _ _ => rfl)) (pa_cons (pe_ix (zix K) (pe_ix (zix K) (pv 1) pe_int (fun _ _ => rfl)) (pv 9) (fun _ _ => rfl)) pa_nil))))
      (pss_cons (ps_aug (i := 7) sc_product.nd rfl (by first | exact Or.inl rfl | exact Or.inr rfl) (pe_callB (zlen K) (by rfl) T.z_len (by decide +kernel) (pa_cons (pv 10) pa_nil)) ip_add)
      (pss_cons (ps_if (pt_cmpR op_gt (pv 7) (pe_glob (v := .int 6000) rfl T.c_MOST_EDGES ⟨_, rfl⟩) (nomark _)) (pss_one (L2N.ps_raise rfl tk (zpmk0 PySem.F.excBase_ValueError T.q_TooMuch T.mg_TooMuch T.kp_TooMuch (L2.raises_own T.f_TooMuch.x.hs T.f_TooMuch.ty) rfl))) pss_nil)
      (pss_one (ps_expr (pe_bm PySem.F.plainAttrs_list PySem.F.slot_list_append PySem.F.type_list_append mt_append (pv 6) (pa_cons (pe_callTy (ztuple (K := K)) (by rfl) T.z_tuple (by decide +kernel) (pa_cons (pe_callB (zsortA (K := K)) (by rfl) T.z_sorted (by decide +kernel) (pa_cons (pe_lc (own := [("letter", 11), ("pair", 5)]) rfl sc_product.nd (zseq K (pv 10)) (blkOk_by (N := ["a", "b", "pairs", "number", "at", "pair", "rows", "many", "p", "q", "both", "letter"]) (sc := defScope s_product) (by decide +kernel)) (fun _ _ _ _ _ => (zpg_tup (K := K) (n := 2) rfl (pgs_cons (pg_name (i := 11) sc_product.nd rfl (by first | exact Or.inl rfl | exact Or.inr rfl)) (pgs_cons (pg_name (i := 5) sc_product.nd rfl (by first | exact Or.inl rfl | exact Or.inr rfl)) pgs_nil)))) (fun _ _ _ _ _ => pts_nil) (fun _ _ _ _ _ => (pe_tup (pa_cons (pv 11) (pa_cons (pe_getM (hu64 hr) (pv 3) (pv 5) (fun _ _ => rfl)) pa_nil))))) pa_nil)) pa_nil)) pa_nil))))))))
      (pss_one (ps_ret (pe_tup (pa_cons (pe_ix (zix K) (pv 0) pe_int (fun _ _ => rfl)) (pa_cons (pe_callTy (ztuple (K := K)) (by rfl) T.z_tuple (by decide +kernel) (pa_cons (pv 6) pa_nil)) pa_nil)))))))))),
    ?_⟩
  exact (sim_seq (sim_asg (sim_callS (sim_cons sim_var (sim_cons sim_var sim_nil)) (fun _ _ _ _ _ h => h)) (by decide))
      (sim_seq (sim_dcM (sim_enum (sim_cons sim_var sim_nil)) (simg_tup (simgs_cons (simg_name (by decide)) (simgs_cons (simg_name (by decide)) simgs_nil))) sim_yes sim_var sim_var (by decide) (by decide) (by decide))
      (sim_seq (sim_asg (sim_lst sim_nil) (by decide))
      (sim_seq (sim_asg (sim_c (.int _)) (by decide))
      (sim_seq (sim_for (sim_iter sim_var) (simg_tup (simgs_cons (simg_name (by decide)) (simgs_cons (simg_name (by decide)) simgs_nil))) (sim_seq (sim_asg (sim_call0 (sim_cons (sim_op s_ix (sim_op s_ix sim_var (sim_c (.int _))) sim_var) (sim_cons (sim_op s_ix (sim_op s_ix sim_var (sim_c (.int _))) sim_var) sim_nil)) (by intro h; cases h)) (by decide))
      (sim_seq (sim_aug s_ipI (sim_cb s_len (sim_cons sim_var sim_nil)) (by decide))
      (sim_seq (sim_ifS (sim_test (sim_op s_gt sim_var (sim_c (.int _)))) (sim_raise (C := T.C_TooMuch) (W := WXc T.cl E) (Wx := fun cls d _ H => E cls d H) (fun _ _ h => h)) sim_next)
      (sim_mut s_append (sim_cons (sim_cb s_tuple (sim_cons (sim_cb s_sortA (sim_cons (sim_lcH (simg_tup (simgs_cons (simg_name (by decide)) (simgs_cons (simg_name (by decide)) simgs_nil))) sim_yes (sim_tup (sim_cons sim_var (sim_cons (sim_getM sim_var) sim_nil))) (by decide) (by decide) (by decide)) sim_nil)) sim_nil)) sim_nil))))))
      (sim_ret (sim_tup (sim_cons (sim_op s_ix sim_var (sim_c (.int _))) (sim_cons (sim_cb s_tuple (sim_cons sim_var sim_nil)) sim_nil)))))))))
set_option maxHeartbeats 4000000 in
theorem ok__law_told (T : Tx K mg) : FnOk P w K mg base CX0 10 T.a__law_told T.fd__law_told ["way", "one", "two"] (spM K 0 3 4 W0 m__law_told) := by
  refine ok0 T.F__law_told sc__law_told rfl rfl fun cdv A outer s H E hr => ⟨_,
    (pss_one (L2N.ps_try_as (ts := tClsN T.cl m_hd 3) (Wout := fun _ _ _ _ => False) (i := 3) rfl rfl sc__law_told.nd rfl rfl ⟨rfl, by decide, .inl T.mg_SpandrelError⟩ takes0 (fun W pn xe tk po => (pss_one (ps_ret (pe_ifExp (pt_cmpR (zeq K (hu64 hr)) (pv 0) pe_int (nomark _)) (pe_callS (ok_product T) (hr.mono (by decide)) rfl T.mg_product T.F_product.kp T.b_product (fun σ => L2N.passAt tk σ) (pa_cons (pv 1) (pa_cons (pv 2) pa_nil))) (pe_callS (ok_pairs_of T) (hr.mono (by decide)) rfl T.mg_pairs_of T.F_pairs_of.kp T.b_pairs_of (fun σ => L2N.passAt tk σ) (pa_cons (pv 1) (pa_cons (pv 2) pa_nil))))))) (fun a oe cls d pn zn hf => pss_when (p := d = none) (t := tCls T.cl m_hd 3 a cls) (fun hd0 => by
        subst hd0
        exact pss_one (ps_ret (te := zsuT T.cl m_hd 3 a cls) (by exact zsuite (err__law_class T) (roomH_of (hr.mono (by decide))) rfl T.mg__law_class T.F__law_class.kp T.b__law_class zn hf rfl (by first | exact Or.inl rfl | exact Or.inr rfl) m_hd_flat)))))),
    ?_⟩
  exact (sim_tryN (fun Wx => (sim_ret (sim_if (sim_test (sim_op s_eq sim_var (sim_c (.int _)))) (sim_callS (sim_cons sim_var (sim_cons sim_var sim_nil)) (fun _ _ _ _ _ h => h)) (sim_callS (sim_cons sim_var (sim_cons sim_var sim_nil)) (fun _ _ _ _ _ h => h))))) T.caught)
set_option maxHeartbeats 4000000 in
theorem ok__law_common (T : Tx K mg) : FnOk P w K mg base CX0 1 T.a__law_common T.fd__law_common ["a", "b"] (spM K 0 2 3 W0 m__law_common) := by
  refine ok0 T.F__law_common sc__law_common rfl rfl fun cdv A outer s H E hr => ⟨_,
    (pss_cons (ps_for PassesOwn.never rfl (pi_range2 (by rfl) T.z_range (pa_cons pe_int (pa_cons (pe_op op_add (pv 1) pe_int) pa_nil))) (pg_name (i := 2) sc__law_common.nd rfl (by first | exact Or.inl rfl | exact Or.inr rfl)) (pss_one (ps_if (pt_cmpR (zeq K (hu64 hr)) (pe_op op_mod (pe_callTy call_int1 (by rfl) T.z_int (by decide +kernel) (pa_cons (pe_op op_mul (pv 0) (pv 2)) pa_nil)) (pv 1)) pe_int (nomark _)) (pss_one (ps_ret (pe_op op_mul (pv 0) (pv 2)))) pss_nil)))
      (pss_one (ps_ret (pe_op op_mul (pv 0) (pv 1))))),
    ?_⟩
  exact (sim_seq (sim_for (sim_rng2 (sim_cons (sim_c (.int _)) (sim_cons (sim_op s_add sim_var (sim_c (.int _))) sim_nil))) (simg_name (by decide)) (sim_ifS (sim_test (sim_op s_eq (sim_op s_mod (sim_cb s_int (sim_cons (sim_op s_mul sim_var sim_var) sim_nil)) sim_var) (sim_c (.int _)))) (sim_ret (sim_op s_mul sim_var sim_var)) sim_next))
      (sim_ret (sim_op s_mul sim_var sim_var)))
set_option maxHeartbeats 4000000 in
theorem ok__law_ring (T : Tx K mg) : FnOk P w K mg base CX0 1 T.a__law_ring T.fd__law_ring ["size"] (spM K 0 1 2 W0 m__law_ring) := by
  refine ok0 T.F__law_ring sc__law_ring rfl rfl fun cdv A outer s H E hr => ⟨_,
    (pss_one (ps_ret (pe_tup (pa_cons pe_int (pa_cons (pe_callTy (ztuple (K := K)) (by rfl) T.z_tuple (by decide +kernel) (pa_cons (pe_lc (own := [("k", 1)]) rfl sc__law_ring.nd (pi_range1 (by rfl) T.z_range (pa_cons (pv 0) pa_nil)) (blkOk_by (N := ["size", "k"]) (sc := defScope s__law_ring) (by decide +kernel)) (fun _ _ _ _ _ => (pg_name (i := 1) sc__law_ring.nd rfl (by first | exact Or.inl rfl | exact Or.inr rfl))) (fun _ _ _ _ _ => pts_nil) (fun _ _ _ _ _ => (pe_tup (pa_cons (pe_tup (pa_cons pe_int (pa_cons (pe_op op_mod (pe_callTy call_int1 (by rfl) T.z_int (by decide +kernel) (pa_cons (pe_op op_add (pv 1) pe_int) pa_nil)) (pv 0)) pa_nil))) pa_nil)))) pa_nil)) pa_nil))))),
    ?_⟩
  exact (sim_ret (sim_tup (sim_cons (sim_c (.int _)) (sim_cons (sim_cb s_tuple (sim_cons (sim_lc (sim_rng1 (sim_cons sim_var sim_nil)) (simg_name (by decide)) sim_yes (sim_tup (sim_cons (sim_tup (sim_cons (sim_c (.int _)) (sim_cons (sim_op s_mod (sim_cb s_int (sim_cons (sim_op s_add sim_var (sim_c (.int _))) sim_nil)) sim_var) sim_nil))) sim_nil)) (by decide) (by decide)) sim_nil)) sim_nil))))
set_option maxHeartbeats 4000000 in
theorem ok_law (T : Tx K mg) : FnG P w K mg base CX0 11 T.a_law T.fd_law ["script"] (spM K 0 1 18 W0 m_law) := by
  refine okT T.F_law sc_law rfl rfl fun cdv s H E hr => ⟨_,
    (pss_cons (ps_set (i := 1) sc_law.nd rfl (by first | exact Or.inl rfl | exact Or.inr rfl) (pe_call (ok__law_box T) (hr.mono (by decide)) rfl T.mg__law_box T.F__law_box.kp T.b__law_box .nil pass0 (pa_cons (pv 0) pa_nil)))
      (pss_cons (ps_set (i := 2) sc_law.nd rfl (by first | exact Or.inl rfl | exact Or.inr rfl) (pe_call (ok__law_take T) (hr.mono (by decide)) rfl T.mg__law_take T.F__law_take.kp T.b__law_take .nil pass0 (pa_cons (pv 1) (pa_cons pe_int pa_nil))))
      (pss_cons (ps_par (i := 3) (j := 4) rfl sc_law.nd rfl rfl (by decide) rfl rfl (pa_cons (pe_call (ok__law_machine T) (hr.mono (by decide)) rfl T.mg__law_machine T.F__law_machine.kp T.b__law_machine .nil pass0 (pa_cons (pv 1) (pa_cons (pv 2) (pa_cons pe_int pa_nil)))) (pa_cons (pe_call (ok__law_machine T) (hr.mono (by decide)) rfl T.mg__law_machine T.F__law_machine.kp T.b__law_machine .nil pass0 (pa_cons (pv 1) (pa_cons (pv 2) (pa_cons pe_int pa_nil)))) pa_nil)) rfl)
      (pss_cons (ps_asg (pe_call (ok__law_due T) (hr.mono (by decide)) rfl T.mg__law_due T.F__law_due.kp T.b__law_due .nil pass0 (pa_cons (pv 3) (pa_cons (pv 4) pa_nil))) (zpg_tup (K := K) (n := 2) rfl (pgs_cons (pg_name (i := 5) sc_law.nd rfl (by first | exact Or.inl rfl | exact Or.inr rfl)) (pgs_cons (pg_name (i := 6) sc_law.nd rfl (by first | exact Or.inl rfl | exact Or.inr rfl)) pgs_nil))))
      (pss_cons (ps_set (i := 7) sc_law.nd rfl (by first | exact Or.inl rfl | exact Or.inr rfl) (pe_call (ok__law_told T) (hr.mono (by decide)) rfl T.mg__law_told T.F__law_told.kp T.b__law_told .nil pass0 (pa_cons pe_int (pa_cons (pv 3) (pa_cons (pv 4) pa_nil)))))
      (pss_cons (ps_if (PW.pt (pw_or (pt_not (zpt_tru K (pe_callB (zisi K) (by rfl) T.z_isinstance (by decide +kernel) (pa_cons (pv 7) (pa_cons (pe_bltn (v := .ty "list") (by rfl) T.z_list (by decide +kernel) rfl) pa_nil))))) (pw_or (pt_cmpR (zne K (hu64 hr)) (pv 7) (pv 5) (nomark _)) (pw_or1 (pt_cmpR (zne K (hu64 hr)) (pe_callB (zrepr (K := K) (hu64 hr) (guards_top _)) (by rfl) T.z_repr (by decide +kernel) (pa_cons (pe_call (ok__law_told T) (hr.mono (by decide)) rfl T.mg__law_told T.F__law_told.kp T.b__law_told .nil pass0 (pa_cons pe_int (pa_cons (pv 3) (pa_cons (pv 4) pa_nil)))) pa_nil)) (pe_callB (zrepr (K := K) (hu64 hr) (guards_top _)) (by rfl) T.z_repr (by decide +kernel) (pa_cons (pv 6) pa_nil)) (nomark _)))))) (pss_one (ps_ret pe_bl)) pss_nil)
      (pss_cons (ps_expr (pe_bm PySem.F.plainAttrs_list PySem.F.slot_list_append PySem.F.type_list_append mt_append (pv 7) (pa_cons (pe_tup (pa_cons pe_int (pa_cons pe_int pa_nil))) pa_nil)))
      (pss_cons (ps_if (PW.pt (pw_or (pt_cmpR (zne K (hu64 hr)) (pe_call (ok_pairs_of T) (hr.mono (by decide)) rfl T.mg_pairs_of T.F_pairs_of.kp T.b_pairs_of .nil passLN (pa_cons (pv 3) (pa_cons (pv 4) pa_nil))) (pv 5) (nomark _)) (pw_or1 (pt_cmpR (zin K (hu65 hr)) pe_bl (pe_lc (own := [("pair", 8)]) rfl sc_law.nd (zseq K (pe_call (ok_pairs_of T) (hr.mono (by decide)) rfl T.mg_pairs_of T.F_pairs_of.kp T.b_pairs_of .nil passLN (pa_cons (pv 3) (pa_cons (pv 4) pa_nil)))) (blkOk_by (N := ["script", "box", "n", "one", "two", "pairs", "due", "told", "pair", "a", "b", "many", "k", "large", "ring", "size", "full", "to"]) (sc := defScope s_law) (by decide +kernel)) (fun _ _ _ _ _ => (pg_name (i := 8) sc_law.nd rfl (by first | exact Or.inl rfl | exact Or.inr rfl))) (fun _ _ _ _ _ => pts_nil) (fun _ _ _ _ _ => (pe_callB (zisi K) (by rfl) T.z_isinstance (by decide +kernel) (pa_cons (pv 8) (pa_cons (pe_bltn (v := .ty "tuple") (by rfl) T.z_tuple (by decide +kernel) rfl) pa_nil))))) (by rfl))))) (pss_one (ps_ret pe_bl)) pss_nil)
      (pss_cons (ps_asg (pe_tup (pa_cons (pe_op op_add pe_int (pe_call (ok__law_take T) (hr.mono (by decide)) rfl T.mg__law_take T.F__law_take.kp T.b__law_take .nil pass0 (pa_cons (pv 1) (pa_cons pe_int pa_nil)))) (pa_cons (pe_op op_add pe_int (pe_call (ok__law_take T) (hr.mono (by decide)) rfl T.mg__law_take T.F__law_take.kp T.b__law_take .nil pass0 (pa_cons (pv 1) (pa_cons pe_int pa_nil)))) pa_nil))) (zpg_tup (K := K) (n := 2) rfl (pgs_cons (pg_name (i := 9) sc_law.nd rfl (by first | exact Or.inl rfl | exact Or.inr rfl)) (pgs_cons (pg_name (i := 10) sc_law.nd rfl (by first | exact Or.inl rfl | exact Or.inr rfl)) pgs_nil))))
      (pss_cons (ps_set (i := 11) sc_law.nd rfl (by first | exact Or.inl rfl | exact Or.inr rfl) (pe_call (ok__law_common T) (hr.mono (by decide)) rfl T.mg__law_common T.F__law_common.kp T.b__law_common .nil pass0 (pa_cons (pv 9) (pa_cons (pv 10) pa_nil))))
      (pss_cons (ps_set (i := 5) sc_law.nd rfl (by first | exact Or.inl rfl | exact Or.inr rfl) (pe_call (ok__law_told T) (hr.mono (by decide)) rfl T.mg__law_told T.F__law_told.kp T.b__law_told .nil pass0 (pa_cons pe_int (pa_cons (pe_call (ok__law_ring T) (hr.mono (by decide)) rfl T.mg__law_ring T.F__law_ring.kp T.b__law_ring .nil pass0 (pa_cons (pv 9) pa_nil)) (pa_cons (pe_call (ok__law_ring T) (hr.mono (by decide)) rfl T.mg__law_ring T.F__law_ring.kp T.b__law_ring .nil pass0 (pa_cons (pv 10) pa_nil)) pa_nil)))))
      (pss_cons (ps_if (PW.pt (pw_and (pt_cmpR op_gt (pv 11) pe_int (nomark _)) (pw_and1 (PW.pt (pw_or (pt_cmpR (zne K (hu64 hr)) (pv 5) pe_str (nomark _)) (pw_or1 (pt_cmpR (zne K (hu64 hr)) (pe_call (ok__law_told T) (hr.mono (by decide)) rfl T.mg__law_told T.F__law_told.kp T.b__law_told .nil pass0 (pa_cons pe_int (pa_cons (pe_call (ok__law_ring T) (hr.mono (by decide)) rfl T.mg__law_ring T.F__law_ring.kp T.b__law_ring .nil pass0 (pa_cons (pv 9) pa_nil)) (pa_cons (pe_call (ok__law_ring T) (hr.mono (by decide)) rfl T.mg__law_ring T.F__law_ring.kp T.b__law_ring .nil pass0 (pa_cons (pv 10) pa_nil)) pa_nil)))) pe_str (nomark _)))))))) (pss_one (ps_ret pe_bl)) pss_nil)
      (pss_cons (ps_if (PW.pt (pw_and (pt_cmpR op_le (pv 11) pe_int (nomark _)) (pw_and1 (pt_cmpR (zne K (hu64 hr)) (pv 5) (pe_lc (own := [("k", 12)]) rfl sc_law.nd (pi_range1 (by rfl) T.z_range (pa_cons (pv 11) pa_nil)) (blkOk_by (N := ["script", "box", "n", "one", "two", "pairs", "due", "told", "pair", "a", "b", "many", "k", "large", "ring", "size", "full", "to"]) (sc := defScope s_law) (by decide +kernel)) (fun _ _ _ _ _ => (pg_name (i := 12) sc_law.nd rfl (by first | exact Or.inl rfl | exact Or.inr rfl))) (fun _ _ _ _ _ => pts_nil) (fun _ _ _ _ _ => (pe_tup (pa_cons (pe_op op_mod (pe_callTy call_int1 (by rfl) T.z_int (by decide +kernel) (pa_cons (pv 12) pa_nil)) (pv 9)) (pa_cons (pe_op op_mod (pe_callTy call_int1 (by rfl) T.z_int (by decide +kernel) (pa_cons (pv 12) pa_nil)) (pv 10)) pa_nil))))) (nomark _))))) (pss_one (ps_ret pe_bl)) pss_nil)
      (pss_cons (ps_set (i := 13) sc_law.nd rfl (by first | exact Or.inl rfl | exact Or.inr rfl) (pe_op op_add pe_int (pe_op op_mul pe_int (pe_call (ok__law_take T) (hr.mono (by decide)) rfl T.mg__law_take T.F__law_take.kp T.b__law_take .nil pass0 (pa_cons (pv 1) (pa_cons pe_int pa_nil))))))
      (pss_cons (ps_set (i := 14) sc_law.nd rfl (by first | exact Or.inl rfl | exact Or.inr rfl) (pe_call (ok__law_ring T) (hr.mono (by decide)) rfl T.mg__law_ring T.F__law_ring.kp T.b__law_ring .nil pass0 (pa_cons (pv 13) pa_nil)))
      (pss_cons (ps_if (PW.pt (pw_or (pt_cmpR (zne K (hu64 hr)) (pe_call (ok__law_told T) (hr.mono (by decide)) rfl T.mg__law_told T.F__law_told.kp T.b__law_told .nil pass0 (pa_cons pe_int (pa_cons (pv 14) (pa_cons (pe_call (ok__law_pick T) (hr.mono (by decide)) rfl T.mg__law_pick T.F__law_pick.kp T.b__law_pick .nil pass0 (pa_cons (pv 1) (pa_cons (pe_lst (pa_cons (pv 14) (pa_cons (pe_call (ok__law_ring T) (hr.mono (by decide)) rfl T.mg__law_ring T.F__law_ring.kp T.b__law_ring .nil pass0 (pa_cons (pe_op op_fdiv (pv 13) pe_int) pa_nil)) pa_nil))) pa_nil))) pa_nil)))) (pv 14) (nomark _)) (pw_or1 (pt_cmpR (zne K (hu64 hr)) (pe_callB (zlen K) (by rfl) T.z_len (by decide +kernel) (pa_cons (pe_call (ok_pairs_of T) (hr.mono (by decide)) rfl T.mg_pairs_of T.F_pairs_of.kp T.b_pairs_of .nil passLN (pa_cons (pv 14) (pa_cons (pv 14) pa_nil))) pa_nil)) (pv 13) (nomark _))))) (pss_one (ps_ret pe_bl)) pss_nil)
      (pss_cons (ps_set (i := 15) sc_law.nd rfl (by first | exact Or.inl rfl | exact Or.inr rfl) (pe_call (ok__law_pick T) (hr.mono (by decide)) rfl T.mg__law_pick T.F__law_pick.kp T.b__law_pick .nil pass0 (pa_cons (pv 1) (pa_cons (pe_lst (pa_cons pe_int (pa_cons pe_int (pa_cons pe_int (pa_cons pe_int pa_nil))))) pa_nil))))
      (pss_cons (ps_set (i := 16) sc_law.nd rfl (by first | exact Or.inl rfl | exact Or.inr rfl) (pe_tup (pa_cons pe_int (pa_cons (pe_op (zrepA (K := K)) (pe_tup (pa_cons (pe_callTy (ztuple (K := K)) (by rfl) T.z_tuple (by decide +kernel) (pa_cons (pe_lc (own := [("to", 17)]) rfl sc_law.nd (pi_range1 (by rfl) T.z_range (pa_cons (pv 15) pa_nil)) (blkOk_by (N := ["script", "box", "n", "one", "two", "pairs", "due", "told", "pair", "a", "b", "many", "k", "large", "ring", "size", "full", "to"]) (sc := defScope s_law) (by decide +kernel)) (fun _ _ _ _ _ => (pg_name (i := 17) sc_law.nd rfl (by first | exact Or.inl rfl | exact Or.inr rfl))) (fun _ _ _ _ _ => pts_nil) (fun _ _ _ _ _ => (pe_tup (pa_cons pe_int (pa_cons (pv 17) pa_nil))))) pa_nil)) pa_nil)) (pv 15)) pa_nil))))
      (pss_cons (ps_set (i := 7) sc_law.nd rfl (by first | exact Or.inl rfl | exact Or.inr rfl) (pe_call (ok__law_told T) (hr.mono (by decide)) rfl T.mg__law_told T.F__law_told.kp T.b__law_told .nil pass0 (pa_cons pe_int (pa_cons (pv 16) (pa_cons (pv 16) pa_nil)))))
      (pss_cons (ps_if (pt_cmpR (zeq K (hu64 hr)) (pv 15) pe_int (nomark _)) (pss_one (ps_ret (pe_and (pe_cmpR (zeq K (hu64 hr)) (pv 7) pe_str (nomark _)) (pe_one (pe_cmpR (zeq K (hu64 hr)) (pe_callB (zlen K) (by rfl) T.z_len (by decide +kernel) (pa_cons (pe_call (ok_pairs_of T) (hr.mono (by decide)) rfl T.mg_pairs_of T.F_pairs_of.kp T.b_pairs_of .nil passLN (pa_cons (pv 16) (pa_cons (pv 16) pa_nil))) pa_nil)) pe_int (nomark _)))))) pss_nil)
      (pss_cons (ps_if (pt_cmpR (zeq K (hu64 hr)) (pv 15) pe_int (nomark _)) (pss_one (ps_ret (pe_and (pe_callB (zisi K) (by rfl) T.z_isinstance (by decide +kernel) (pa_cons (pv 7) (pa_cons (pe_bltn (v := .ty "tuple") (by rfl) T.z_tuple (by decide +kernel) rfl) pa_nil))) (pe_and (pe_cmpR (zeq K (hu64 hr)) (pe_callB (zlen K) (by rfl) T.z_len (by decide +kernel) (pa_cons (pe_ix (zix K) (pv 7) pe_int (fun _ _ => rfl)) pa_nil)) pe_int (nomark _)) (pe_one (pe_cmpR (zeq K (hu64 hr)) (pe_callB (zlen K) (by rfl) T.z_len (by decide +kernel) (pa_cons (pe_ix (zix K) (pe_ix (zix K) (pv 7) pe_int (fun _ _ => rfl)) pe_int (fun _ _ => rfl)) pa_nil)) pe_int (nomark _))))))) pss_nil)
      (pss_one (ps_ret (pe_cmpR (zeq K (hu64 hr)) (pe_callB (zrepr (K := K) (hu64 hr) (guards_top _)) (by rfl) T.z_repr (by decide +kernel) (pa_cons (pv 7) pa_nil)) (pe_callB (zrepr (K := K) (hu64 hr) (guards_top _)) (by rfl) T.z_repr (by decide +kernel) (pa_cons (pe_ix (zix K) (pe_call (ok__law_due T) (hr.mono (by decide)) rfl T.mg__law_due T.F__law_due.kp T.b__law_due .nil pass0 (pa_cons (pv 16) (pa_cons (pv 16) pa_nil))) pe_int (fun _ _ => rfl)) pa_nil)) (nomark _))))))))))))))))))))))))),
    ?_⟩
  exact (sim_seq (sim_asg (sim_call0 (sim_cons sim_var sim_nil) (by intro h; cases h)) (by decide))
      (sim_seq (sim_asg (sim_callM (mask := [true]) (sim_cons sim_var (sim_cons (sim_c (.int _)) sim_nil))) (by decide))
      (sim_seq (sim_par (sim_cons (sim_callM (mask := [true]) (sim_cons sim_var (sim_cons sim_var (sim_cons (sim_c (.int _)) sim_nil)))) (sim_cons (sim_callM (mask := [true]) (sim_cons sim_var (sim_cons sim_var (sim_cons (sim_c (.int _)) sim_nil)))) sim_nil)) (by decide) (by decide))
      (sim_seq (sim_asgG (sim_call0 (sim_cons sim_var (sim_cons sim_var sim_nil)) (by intro h; cases h)) (simg_tup (simgs_cons (simg_name (by decide)) (simgs_cons (simg_name (by decide)) simgs_nil))))
      (sim_seq (sim_asg (sim_call0 (sim_cons (sim_c (.int _)) (sim_cons sim_var (sim_cons sim_var sim_nil))) (by intro h; cases h)) (by decide))
      (sim_seq (sim_ifS (sim_or (sim_not (sim_tru (sim_isi sim_var))) (sim_or (sim_test (sim_op s_ne sim_var sim_var)) (sim_test (sim_op s_ne (sim_cb s_repr (sim_cons (sim_call0 (sim_cons (sim_c (.int _)) (sim_cons sim_var (sim_cons sim_var sim_nil))) (by intro h; cases h)) sim_nil)) (sim_cb s_repr (sim_cons sim_var sim_nil)))))) (sim_ret (sim_c (.bl _))) sim_next)
      (sim_seq (sim_mut s_append (sim_cons (sim_tup (sim_cons (sim_c (.int _)) (sim_cons (sim_c (.int _)) sim_nil))) sim_nil))
      (sim_seq (sim_ifS (sim_or (sim_test (sim_op s_ne (sim_call0 (sim_cons sim_var (sim_cons sim_var sim_nil)) (by intro h; cases h)) sim_var)) (sim_test (sim_op s_in (sim_c (.bl _)) (sim_lc (sim_iter (sim_call0 (sim_cons sim_var (sim_cons sim_var sim_nil)) (by intro h; cases h))) (simg_name (by decide)) sim_yes (sim_isi sim_var) (by decide) (by decide))))) (sim_ret (sim_c (.bl _))) sim_next)
      (sim_seq (sim_asgG (sim_tup (sim_cons (sim_op s_add (sim_c (.int _)) (sim_callM (mask := [true]) (sim_cons sim_var (sim_cons (sim_c (.int _)) sim_nil)))) (sim_cons (sim_op s_add (sim_c (.int _)) (sim_callM (mask := [true]) (sim_cons sim_var (sim_cons (sim_c (.int _)) sim_nil)))) sim_nil))) (simg_tup (simgs_cons (simg_name (by decide)) (simgs_cons (simg_name (by decide)) simgs_nil))))
      (sim_seq (sim_asg (sim_call0 (sim_cons sim_var (sim_cons sim_var sim_nil)) (by intro h; cases h)) (by decide))
      (sim_seq (sim_asg (sim_call0 (sim_cons (sim_c (.int _)) (sim_cons (sim_call0 (sim_cons sim_var sim_nil) (by intro h; cases h)) (sim_cons (sim_call0 (sim_cons sim_var sim_nil) (by intro h; cases h)) sim_nil))) (by intro h; cases h)) (by decide))
      (sim_seq (sim_ifS (sim_and (sim_test (sim_op s_gt sim_var (sim_c (.int _)))) (sim_or (sim_test (sim_op s_ne sim_var (sim_c (.str _)))) (sim_test (sim_op s_ne (sim_call0 (sim_cons (sim_c (.int _)) (sim_cons (sim_call0 (sim_cons sim_var sim_nil) (by intro h; cases h)) (sim_cons (sim_call0 (sim_cons sim_var sim_nil) (by intro h; cases h)) sim_nil))) (by intro h; cases h)) (sim_c (.str _)))))) (sim_ret (sim_c (.bl _))) sim_next)
      (sim_seq (sim_ifS (sim_and (sim_test (sim_op s_le sim_var (sim_c (.int _)))) (sim_test (sim_op s_ne sim_var (sim_lc (sim_rng1 (sim_cons sim_var sim_nil)) (simg_name (by decide)) sim_yes (sim_tup (sim_cons (sim_op s_mod (sim_cb s_int (sim_cons sim_var sim_nil)) sim_var) (sim_cons (sim_op s_mod (sim_cb s_int (sim_cons sim_var sim_nil)) sim_var) sim_nil))) (by decide) (by decide))))) (sim_ret (sim_c (.bl _))) sim_next)
      (sim_seq (sim_asg (sim_op s_add (sim_c (.int _)) (sim_op s_mul (sim_c (.int _)) (sim_callM (mask := [true]) (sim_cons sim_var (sim_cons (sim_c (.int _)) sim_nil))))) (by decide))
      (sim_seq (sim_asg (sim_call0 (sim_cons sim_var sim_nil) (by intro h; cases h)) (by decide))
      (sim_seq (sim_ifS (sim_or (sim_test (sim_op s_ne (sim_call0 (sim_cons (sim_c (.int _)) (sim_cons sim_var (sim_cons (sim_callM (mask := [true]) (sim_cons sim_var (sim_cons (sim_lst (sim_cons sim_var (sim_cons (sim_call0 (sim_cons (sim_op s_div sim_var (sim_c (.int _))) sim_nil) (by intro h; cases h)) sim_nil))) sim_nil))) sim_nil))) (by intro h; cases h)) sim_var)) (sim_test (sim_op s_ne (sim_cb s_len (sim_cons (sim_call0 (sim_cons sim_var (sim_cons sim_var sim_nil)) (by intro h; cases h)) sim_nil)) sim_var))) (sim_ret (sim_c (.bl _))) sim_next)
      (sim_seq (sim_asg (sim_callM (mask := [true]) (sim_cons sim_var (sim_cons (sim_lst (sim_cons (sim_c (.int _)) (sim_cons (sim_c (.int _)) (sim_cons (sim_c (.int _)) (sim_cons (sim_c (.int _)) sim_nil))))) sim_nil))) (by decide))
      (sim_seq (sim_asg (sim_tup (sim_cons (sim_c (.int _)) (sim_cons (sim_op s_repA (sim_tup (sim_cons (sim_cb s_tuple (sim_cons (sim_lc (sim_rng1 (sim_cons sim_var sim_nil)) (simg_name (by decide)) sim_yes (sim_tup (sim_cons (sim_c (.int _)) (sim_cons sim_var sim_nil))) (by decide) (by decide)) sim_nil)) sim_nil)) sim_var) sim_nil))) (by decide))
      (sim_seq (sim_asg (sim_call0 (sim_cons (sim_c (.int _)) (sim_cons sim_var (sim_cons sim_var sim_nil))) (by intro h; cases h)) (by decide))
      (sim_seq (sim_ifS (sim_test (sim_op s_eq sim_var (sim_c (.int _)))) (sim_ret (sim_andV (sim_op s_eq sim_var (sim_c (.str _))) (sim_op s_eq (sim_cb s_len (sim_cons (sim_call0 (sim_cons sim_var (sim_cons sim_var sim_nil)) (by intro h; cases h)) sim_nil)) (sim_c (.int _))))) sim_next)
      (sim_seq (sim_ifS (sim_test (sim_op s_eq sim_var (sim_c (.int _)))) (sim_ret (sim_andV (sim_isi sim_var) (sim_andV (sim_op s_eq (sim_cb s_len (sim_cons (sim_op s_ix sim_var (sim_c (.int _))) sim_nil)) (sim_c (.int _))) (sim_op s_eq (sim_cb s_len (sim_cons (sim_op s_ix (sim_op s_ix sim_var (sim_c (.int _))) (sim_c (.int _))) sim_nil)) (sim_c (.int _)))))) sim_next)
      (sim_ret (sim_op s_eq (sim_cb s_repr (sim_cons sim_var sim_nil)) (sim_cb s_repr (sim_cons (sim_op s_ix (sim_call0 (sim_cons sim_var (sim_cons sim_var sim_nil)) (by intro h; cases h)) (sim_c (.int _))) sim_nil)))))))))))))))))))))))))
end
set_option maxHeartbeats 0 in
theorem all_mk {l : PySem.W.OpenLaw} {w : World} {K : PySem.W.Frag} {h : Heap} {mg : Str → Option Value} {fa : Addr} (X : K.In h) (G : h.Ns mainGlobals mg) (hfa : mg "law" = some (.ref fa))
    {od0 an0 : Option Addr} {sl0 : Array (Option Value)} {oc0 kV0 dc0 pm0 cd0 ct0 : Value} {f0 : Addr}
    (a0 : PySem.W.nsIn K mainGlobals "_law_box" = some (some (.ref f0))) (l0 : K.lookup f0 = some ⟨oc0, od0, .func (PySem.W.fnOf "_law_box" "_law_box" (defArgs s__law_box) (defBody s__law_box) (defScope s__law_box) .none kV0 dc0 pm0 an0 cd0 ct0), sl0⟩) (c0 : PySem.W.codeIn K cd0 "_law_box" = true) (k0 : PySem.W.keepIn K (.ref f0) = true)
    {od1 an1 : Option Addr} {sl1 : Array (Option Value)} {oc1 kV1 dc1 pm1 cd1 ct1 : Value} {f1 : Addr}
    (a1 : PySem.W.nsIn K mainGlobals "_law_take" = some (some (.ref f1))) (l1 : K.lookup f1 = some ⟨oc1, od1, .func (PySem.W.fnOf "_law_take" "_law_take" (defArgs s__law_take) (defBody s__law_take) (defScope s__law_take) .none kV1 dc1 pm1 an1 cd1 ct1), sl1⟩) (c1 : PySem.W.codeIn K cd1 "_law_take" = true) (k1 : PySem.W.keepIn K (.ref f1) = true)
    {od2 an2 : Option Addr} {sl2 : Array (Option Value)} {oc2 kV2 dc2 pm2 cd2 ct2 : Value} {f2 : Addr}
    (a2 : PySem.W.nsIn K mainGlobals "_law_pick" = some (some (.ref f2))) (l2 : K.lookup f2 = some ⟨oc2, od2, .func (PySem.W.fnOf "_law_pick" "_law_pick" (defArgs s__law_pick) (defBody s__law_pick) (defScope s__law_pick) .none kV2 dc2 pm2 an2 cd2 ct2), sl2⟩) (c2 : PySem.W.codeIn K cd2 "_law_pick" = true) (k2 : PySem.W.keepIn K (.ref f2) = true)
    {od3 an3 : Option Addr} {sl3 : Array (Option Value)} {oc3 kV3 dc3 pm3 cd3 ct3 : Value} {f3 : Addr}
    (a3 : PySem.W.nsIn K mainGlobals "_law_machine" = some (some (.ref f3))) (l3 : K.lookup f3 = some ⟨oc3, od3, .func (PySem.W.fnOf "_law_machine" "_law_machine" (defArgs s__law_machine) (defBody s__law_machine) (defScope s__law_machine) .none kV3 dc3 pm3 an3 cd3 ct3), sl3⟩) (c3 : PySem.W.codeIn K cd3 "_law_machine" = true) (k3 : PySem.W.keepIn K (.ref f3) = true)
    {od4 an4 : Option Addr} {sl4 : Array (Option Value)} {oc4 kV4 dc4 pm4 cd4 ct4 : Value} {f4 : Addr}
    (a4 : PySem.W.nsIn K mainGlobals "_law_due" = some (some (.ref f4))) (l4 : K.lookup f4 = some ⟨oc4, od4, .func (PySem.W.fnOf "_law_due" "_law_due" (defArgs s__law_due) (defBody s__law_due) (defScope s__law_due) .none kV4 dc4 pm4 an4 cd4 ct4), sl4⟩) (c4 : PySem.W.codeIn K cd4 "_law_due" = true) (k4 : PySem.W.keepIn K (.ref f4) = true)
    {od5 an5 : Option Addr} {sl5 : Array (Option Value)} {oc5 kV5 dc5 pm5 cd5 ct5 : Value} {f5 : Addr}
    (a5 : PySem.W.nsIn K mainGlobals "_law_class" = some (some (.ref f5))) (l5 : K.lookup f5 = some ⟨oc5, od5, .func (PySem.W.fnOf "_law_class" "_law_class" (defArgs s__law_class) (defBody s__law_class) (defScope s__law_class) .none kV5 dc5 pm5 an5 cd5 ct5), sl5⟩) (c5 : PySem.W.codeIn K cd5 "_law_class" = true) (k5 : PySem.W.keepIn K (.ref f5) = true)
    {od6 an6 : Option Addr} {sl6 : Array (Option Value)} {oc6 kV6 dc6 pm6 cd6 ct6 : Value} {f6 : Addr}
    (a6 : PySem.W.nsIn K mainGlobals "is_number" = some (some (.ref f6))) (l6 : K.lookup f6 = some ⟨oc6, od6, .func (PySem.W.fnOf "is_number" "is_number" (defArgs s_is_number) (defBody s_is_number) (defScope s_is_number) .none kV6 dc6 pm6 an6 cd6 ct6), sl6⟩) (c6 : PySem.W.codeIn K cd6 "is_number" = true) (k6 : PySem.W.keepIn K (.ref f6) = true)
    {od7 an7 : Option Addr} {sl7 : Array (Option Value)} {oc7 kV7 dc7 pm7 cd7 ct7 : Value} {f7 : Addr}
    (a7 : PySem.W.nsIn K mainGlobals "is_below" = some (some (.ref f7))) (l7 : K.lookup f7 = some ⟨oc7, od7, .func (PySem.W.fnOf "is_below" "is_below" (defArgs s_is_below) (defBody s_is_below) (defScope s_is_below) .none kV7 dc7 pm7 an7 cd7 ct7), sl7⟩) (c7 : PySem.W.codeIn K cd7 "is_below" = true) (k7 : PySem.W.keepIn K (.ref f7) = true)
    {od8 an8 : Option Addr} {sl8 : Array (Option Value)} {oc8 kV8 dc8 pm8 cd8 ct8 : Value} {f8 : Addr}
    (a8 : PySem.W.nsIn K mainGlobals "is_letter_count" = some (some (.ref f8))) (l8 : K.lookup f8 = some ⟨oc8, od8, .func (PySem.W.fnOf "is_letter_count" "is_letter_count" (defArgs s_is_letter_count) (defBody s_is_letter_count) (defScope s_is_letter_count) .none kV8 dc8 pm8 an8 cd8 ct8), sl8⟩) (c8 : PySem.W.codeIn K cd8 "is_letter_count" = true) (k8 : PySem.W.keepIn K (.ref f8) = true)
    {od9 an9 : Option Addr} {sl9 : Array (Option Value)} {oc9 kV9 dc9 pm9 cd9 ct9 : Value} {f9 : Addr}
    (a9 : PySem.W.nsIn K mainGlobals "_is_edge" = some (some (.ref f9))) (l9 : K.lookup f9 = some ⟨oc9, od9, .func (PySem.W.fnOf "_is_edge" "_is_edge" (defArgs s__is_edge) (defBody s__is_edge) (defScope s__is_edge) .none kV9 dc9 pm9 an9 cd9 ct9), sl9⟩) (c9 : PySem.W.codeIn K cd9 "_is_edge" = true) (k9 : PySem.W.keepIn K (.ref f9) = true)
    {od10 an10 : Option Addr} {sl10 : Array (Option Value)} {oc10 kV10 dc10 pm10 cd10 ct10 : Value} {f10 : Addr}
    (a10 : PySem.W.nsIn K mainGlobals "_is_row" = some (some (.ref f10))) (l10 : K.lookup f10 = some ⟨oc10, od10, .func (PySem.W.fnOf "_is_row" "_is_row" (defArgs s__is_row) (defBody s__is_row) (defScope s__is_row) .none kV10 dc10 pm10 an10 cd10 ct10), sl10⟩) (c10 : PySem.W.codeIn K cd10 "_is_row" = true) (k10 : PySem.W.keepIn K (.ref f10) = true)
    {od11 an11 : Option Addr} {sl11 : Array (Option Value)} {oc11 kV11 dc11 pm11 cd11 ct11 : Value} {f11 : Addr}
    (a11 : PySem.W.nsIn K mainGlobals "_is_machine" = some (some (.ref f11))) (l11 : K.lookup f11 = some ⟨oc11, od11, .func (PySem.W.fnOf "_is_machine" "_is_machine" (defArgs s__is_machine) (defBody s__is_machine) (defScope s__is_machine) .none kV11 dc11 pm11 an11 cd11 ct11), sl11⟩) (c11 : PySem.W.codeIn K cd11 "_is_machine" = true) (k11 : PySem.W.keepIn K (.ref f11) = true)
    {od12 an12 : Option Addr} {sl12 : Array (Option Value)} {oc12 kV12 dc12 pm12 cd12 ct12 : Value} {f12 : Addr}
    (a12 : PySem.W.nsIn K mainGlobals "check_machine" = some (some (.ref f12))) (l12 : K.lookup f12 = some ⟨oc12, od12, .func (PySem.W.fnOf "check_machine" "check_machine" (defArgs s_check_machine) (defBody s_check_machine) (defScope s_check_machine) .none kV12 dc12 pm12 an12 cd12 ct12), sl12⟩) (c12 : PySem.W.codeIn K cd12 "check_machine" = true) (k12 : PySem.W.keepIn K (.ref f12) = true)
    {od13 an13 : Option Addr} {sl13 : Array (Option Value)} {oc13 kV13 dc13 pm13 cd13 ct13 : Value} {f13 : Addr}
    (a13 : PySem.W.nsIn K mainGlobals "check_same_letters" = some (some (.ref f13))) (l13 : K.lookup f13 = some ⟨oc13, od13, .func (PySem.W.fnOf "check_same_letters" "check_same_letters" (defArgs s_check_same_letters) (defBody s_check_same_letters) (defScope s_check_same_letters) .none kV13 dc13 pm13 an13 cd13 ct13), sl13⟩) (c13 : PySem.W.codeIn K cd13 "check_same_letters" = true) (k13 : PySem.W.keepIn K (.ref f13) = true)
    {od14 an14 : Option Addr} {sl14 : Array (Option Value)} {oc14 kV14 dc14 pm14 cd14 ct14 : Value} {f14 : Addr}
    (a14 : PySem.W.nsIn K mainGlobals "_check_both" = some (some (.ref f14))) (l14 : K.lookup f14 = some ⟨oc14, od14, .func (PySem.W.fnOf "_check_both" "_check_both" (defArgs s__check_both) (defBody s__check_both) (defScope s__check_both) .none kV14 dc14 pm14 an14 cd14 ct14), sl14⟩) (c14 : PySem.W.codeIn K cd14 "_check_both" = true) (k14 : PySem.W.keepIn K (.ref f14) = true)
    {od15 an15 : Option Addr} {sl15 : Array (Option Value)} {oc15 kV15 dc15 pm15 cd15 ct15 : Value} {f15 : Addr}
    (a15 : PySem.W.nsIn K mainGlobals "_edges_of_both" = some (some (.ref f15))) (l15 : K.lookup f15 = some ⟨oc15, od15, .func (PySem.W.fnOf "_edges_of_both" "_edges_of_both" (defArgs s__edges_of_both) (defBody s__edges_of_both) (defScope s__edges_of_both) .none kV15 dc15 pm15 an15 cd15 ct15), sl15⟩) (c15 : PySem.W.codeIn K cd15 "_edges_of_both" = true) (k15 : PySem.W.keepIn K (.ref f15) = true)
    {od16 an16 : Option Addr} {sl16 : Array (Option Value)} {oc16 kV16 dc16 pm16 cd16 ct16 : Value} {f16 : Addr}
    (a16 : PySem.W.nsIn K mainGlobals "pairs_of" = some (some (.ref f16))) (l16 : K.lookup f16 = some ⟨oc16, od16, .func (PySem.W.fnOf "pairs_of" "pairs_of" (defArgs s_pairs_of) (defBody s_pairs_of) (defScope s_pairs_of) .none kV16 dc16 pm16 an16 cd16 ct16), sl16⟩) (c16 : PySem.W.codeIn K cd16 "pairs_of" = true) (k16 : PySem.W.keepIn K (.ref f16) = true)
    {od17 an17 : Option Addr} {sl17 : Array (Option Value)} {oc17 kV17 dc17 pm17 cd17 ct17 : Value} {f17 : Addr}
    (a17 : PySem.W.nsIn K mainGlobals "product" = some (some (.ref f17))) (l17 : K.lookup f17 = some ⟨oc17, od17, .func (PySem.W.fnOf "product" "product" (defArgs s_product) (defBody s_product) (defScope s_product) .none kV17 dc17 pm17 an17 cd17 ct17), sl17⟩) (c17 : PySem.W.codeIn K cd17 "product" = true) (k17 : PySem.W.keepIn K (.ref f17) = true)
    {od18 an18 : Option Addr} {sl18 : Array (Option Value)} {oc18 kV18 dc18 pm18 cd18 ct18 : Value} {f18 : Addr}
    (a18 : PySem.W.nsIn K mainGlobals "_law_told" = some (some (.ref f18))) (l18 : K.lookup f18 = some ⟨oc18, od18, .func (PySem.W.fnOf "_law_told" "_law_told" (defArgs s__law_told) (defBody s__law_told) (defScope s__law_told) .none kV18 dc18 pm18 an18 cd18 ct18), sl18⟩) (c18 : PySem.W.codeIn K cd18 "_law_told" = true) (k18 : PySem.W.keepIn K (.ref f18) = true)
    {od19 an19 : Option Addr} {sl19 : Array (Option Value)} {oc19 kV19 dc19 pm19 cd19 ct19 : Value} {f19 : Addr}
    (a19 : PySem.W.nsIn K mainGlobals "_law_common" = some (some (.ref f19))) (l19 : K.lookup f19 = some ⟨oc19, od19, .func (PySem.W.fnOf "_law_common" "_law_common" (defArgs s__law_common) (defBody s__law_common) (defScope s__law_common) .none kV19 dc19 pm19 an19 cd19 ct19), sl19⟩) (c19 : PySem.W.codeIn K cd19 "_law_common" = true) (k19 : PySem.W.keepIn K (.ref f19) = true)
    {od20 an20 : Option Addr} {sl20 : Array (Option Value)} {oc20 kV20 dc20 pm20 cd20 ct20 : Value} {f20 : Addr}
    (a20 : PySem.W.nsIn K mainGlobals "_law_ring" = some (some (.ref f20))) (l20 : K.lookup f20 = some ⟨oc20, od20, .func (PySem.W.fnOf "_law_ring" "_law_ring" (defArgs s__law_ring) (defBody s__law_ring) (defScope s__law_ring) .none kV20 dc20 pm20 an20 cd20 ct20), sl20⟩) (c20 : PySem.W.codeIn K cd20 "_law_ring" = true) (k20 : PySem.W.keepIn K (.ref f20) = true)
    {od21 an21 : Option Addr} {sl21 : Array (Option Value)} {oc21 kV21 dc21 pm21 cd21 ct21 : Value} {f21 : Addr}
    (a21 : PySem.W.nsIn K mainGlobals "law" = some (some (.ref f21))) (l21 : K.lookup f21 = some ⟨oc21, od21, .func (PySem.W.fnOf "law" "law" (defArgs s_law) (defBody s_law) (defScope s_law) .none kV21 dc21 pm21 an21 cd21 ct21), sl21⟩) (c21 : PySem.W.codeIn K cd21 "law" = true) (k21 : PySem.W.keepIn K (.ref f21) = true)
    (z_ValueError : PySem.W.nsIn K mainGlobals "ValueError" = some none)
    (z_abs : PySem.W.nsIn K mainGlobals "abs" = some none)
    (z_all : PySem.W.nsIn K mainGlobals "all" = some none)
    (z_bool : PySem.W.nsIn K mainGlobals "bool" = some none)
    (z_enumerate : PySem.W.nsIn K mainGlobals "enumerate" = some none)
    (z_int : PySem.W.nsIn K mainGlobals "int" = some none)
    (z_isinstance : PySem.W.nsIn K mainGlobals "isinstance" = some none)
    (z_len : PySem.W.nsIn K mainGlobals "len" = some none)
    (z_list : PySem.W.nsIn K mainGlobals "list" = some none)
    (z_range : PySem.W.nsIn K mainGlobals "range" = some none)
    (z_repr : PySem.W.nsIn K mainGlobals "repr" = some none)
    (z_sorted : PySem.W.nsIn K mainGlobals "sorted" = some none)
    (z_sum : PySem.W.nsIn K mainGlobals "sum" = some none)
    (z_tuple : PySem.W.nsIn K mainGlobals "tuple" = some none)
    {t_MOST_EDGES : Tok} (c_MOST_EDGES : PySem.W.nsIn K mainGlobals "MOST_EDGES" = some (some (.int 6000 t_MOST_EDGES)))
    {t_MOST_LETTERS : Tok} (c_MOST_LETTERS : PySem.W.nsIn K mainGlobals "MOST_LETTERS" = some (some (.int 5 t_MOST_LETTERS)))
    {t_MOST_STATES : Tok} (c_MOST_STATES : PySem.W.nsIn K mainGlobals "MOST_STATES" = some (some (.int 400 t_MOST_STATES)))
    (hn : PySem.W.specialIn K (.builtin "object.__class__") "__get__" = some (some (.builtin "getset_descriptor.__get__"))) (ht : PySem.W.takesIn K (.builtin "object.__class__") = some true)
    {C_BadMachine : Addr} (g_BadMachine : PySem.W.nsIn K mainGlobals "BadMachine" = some (some (.ref C_BadMachine))) (hg_BadMachine : PySem.W.findIn K (.ref C_BadMachine) "__getattribute__" = some (some (.builtin "BaseException.__getattribute__"))) (hk_BadMachine : PySem.W.findIn K (.ref C_BadMachine) "__getattr__" = some none) (hs_BadMachine : PySem.W.subIn K (.ref C_BadMachine) (.type "BaseException") = some true) (hd_BadMachine : PySem.W.hasDictIn K C_BadMachine = true) (ha_BadMachine : PySem.W.findIn K (.ref C_BadMachine) "__class__" = some (some (.builtin "object.__class__"))) (hm_BadMachine : PySem.W.mroIn K C_BadMachine (.type "object") = some true) (ty_BadMachine : PySem.W.typeIn K (.ref C_BadMachine) = some (.type "type")) (me_BadMachine : PySem.W.subIn K (.ref C_BadMachine) (.ref C_BadMachine) = some true)
    {C_BadDemand : Addr} (g_BadDemand : PySem.W.nsIn K mainGlobals "BadDemand" = some (some (.ref C_BadDemand))) (hg_BadDemand : PySem.W.findIn K (.ref C_BadDemand) "__getattribute__" = some (some (.builtin "BaseException.__getattribute__"))) (hk_BadDemand : PySem.W.findIn K (.ref C_BadDemand) "__getattr__" = some none) (hs_BadDemand : PySem.W.subIn K (.ref C_BadDemand) (.type "BaseException") = some true) (hd_BadDemand : PySem.W.hasDictIn K C_BadDemand = true) (ha_BadDemand : PySem.W.findIn K (.ref C_BadDemand) "__class__" = some (some (.builtin "object.__class__"))) (hm_BadDemand : PySem.W.mroIn K C_BadDemand (.type "object") = some true) (ty_BadDemand : PySem.W.typeIn K (.ref C_BadDemand) = some (.type "type")) (me_BadDemand : PySem.W.subIn K (.ref C_BadDemand) (.ref C_BadDemand) = some true)
    {C_BadLetters : Addr} (g_BadLetters : PySem.W.nsIn K mainGlobals "BadLetters" = some (some (.ref C_BadLetters))) (hg_BadLetters : PySem.W.findIn K (.ref C_BadLetters) "__getattribute__" = some (some (.builtin "BaseException.__getattribute__"))) (hk_BadLetters : PySem.W.findIn K (.ref C_BadLetters) "__getattr__" = some none) (hs_BadLetters : PySem.W.subIn K (.ref C_BadLetters) (.type "BaseException") = some true) (hd_BadLetters : PySem.W.hasDictIn K C_BadLetters = true) (ha_BadLetters : PySem.W.findIn K (.ref C_BadLetters) "__class__" = some (some (.builtin "object.__class__"))) (hm_BadLetters : PySem.W.mroIn K C_BadLetters (.type "object") = some true) (ty_BadLetters : PySem.W.typeIn K (.ref C_BadLetters) = some (.type "type")) (me_BadLetters : PySem.W.subIn K (.ref C_BadLetters) (.ref C_BadLetters) = some true)
    {C_BadWord : Addr} (g_BadWord : PySem.W.nsIn K mainGlobals "BadWord" = some (some (.ref C_BadWord))) (hg_BadWord : PySem.W.findIn K (.ref C_BadWord) "__getattribute__" = some (some (.builtin "BaseException.__getattribute__"))) (hk_BadWord : PySem.W.findIn K (.ref C_BadWord) "__getattr__" = some none) (hs_BadWord : PySem.W.subIn K (.ref C_BadWord) (.type "BaseException") = some true) (hd_BadWord : PySem.W.hasDictIn K C_BadWord = true) (ha_BadWord : PySem.W.findIn K (.ref C_BadWord) "__class__" = some (some (.builtin "object.__class__"))) (hm_BadWord : PySem.W.mroIn K C_BadWord (.type "object") = some true) (ty_BadWord : PySem.W.typeIn K (.ref C_BadWord) = some (.type "type")) (me_BadWord : PySem.W.subIn K (.ref C_BadWord) (.ref C_BadWord) = some true)
    {C_BadSet : Addr} (g_BadSet : PySem.W.nsIn K mainGlobals "BadSet" = some (some (.ref C_BadSet))) (hg_BadSet : PySem.W.findIn K (.ref C_BadSet) "__getattribute__" = some (some (.builtin "BaseException.__getattribute__"))) (hk_BadSet : PySem.W.findIn K (.ref C_BadSet) "__getattr__" = some none) (hs_BadSet : PySem.W.subIn K (.ref C_BadSet) (.type "BaseException") = some true) (hd_BadSet : PySem.W.hasDictIn K C_BadSet = true) (ha_BadSet : PySem.W.findIn K (.ref C_BadSet) "__class__" = some (some (.builtin "object.__class__"))) (hm_BadSet : PySem.W.mroIn K C_BadSet (.type "object") = some true) (ty_BadSet : PySem.W.typeIn K (.ref C_BadSet) = some (.type "type")) (me_BadSet : PySem.W.subIn K (.ref C_BadSet) (.ref C_BadSet) = some true)
    {C_BadState : Addr} (g_BadState : PySem.W.nsIn K mainGlobals "BadState" = some (some (.ref C_BadState))) (hg_BadState : PySem.W.findIn K (.ref C_BadState) "__getattribute__" = some (some (.builtin "BaseException.__getattribute__"))) (hk_BadState : PySem.W.findIn K (.ref C_BadState) "__getattr__" = some none) (hs_BadState : PySem.W.subIn K (.ref C_BadState) (.type "BaseException") = some true) (hd_BadState : PySem.W.hasDictIn K C_BadState = true) (ha_BadState : PySem.W.findIn K (.ref C_BadState) "__class__" = some (some (.builtin "object.__class__"))) (hm_BadState : PySem.W.mroIn K C_BadState (.type "object") = some true) (ty_BadState : PySem.W.typeIn K (.ref C_BadState) = some (.type "type")) (me_BadState : PySem.W.subIn K (.ref C_BadState) (.ref C_BadState) = some true)
    {C_BadText : Addr} (g_BadText : PySem.W.nsIn K mainGlobals "BadText" = some (some (.ref C_BadText))) (hg_BadText : PySem.W.findIn K (.ref C_BadText) "__getattribute__" = some (some (.builtin "BaseException.__getattribute__"))) (hk_BadText : PySem.W.findIn K (.ref C_BadText) "__getattr__" = some none) (hs_BadText : PySem.W.subIn K (.ref C_BadText) (.type "BaseException") = some true) (hd_BadText : PySem.W.hasDictIn K C_BadText = true) (ha_BadText : PySem.W.findIn K (.ref C_BadText) "__class__" = some (some (.builtin "object.__class__"))) (hm_BadText : PySem.W.mroIn K C_BadText (.type "object") = some true) (ty_BadText : PySem.W.typeIn K (.ref C_BadText) = some (.type "type")) (me_BadText : PySem.W.subIn K (.ref C_BadText) (.ref C_BadText) = some true)
    {C_TooMuch : Addr} (g_TooMuch : PySem.W.nsIn K mainGlobals "TooMuch" = some (some (.ref C_TooMuch))) (hg_TooMuch : PySem.W.findIn K (.ref C_TooMuch) "__getattribute__" = some (some (.builtin "BaseException.__getattribute__"))) (hk_TooMuch : PySem.W.findIn K (.ref C_TooMuch) "__getattr__" = some none) (hs_TooMuch : PySem.W.subIn K (.ref C_TooMuch) (.type "BaseException") = some true) (hd_TooMuch : PySem.W.hasDictIn K C_TooMuch = true) (ha_TooMuch : PySem.W.findIn K (.ref C_TooMuch) "__class__" = some (some (.builtin "object.__class__"))) (hm_TooMuch : PySem.W.mroIn K C_TooMuch (.type "object") = some true) (ty_TooMuch : PySem.W.typeIn K (.ref C_TooMuch) = some (.type "type")) (me_TooMuch : PySem.W.subIn K (.ref C_TooMuch) (.ref C_TooMuch) = some true)
    {C_SpandrelError : Addr} (g_SpandrelError : PySem.W.nsIn K mainGlobals "SpandrelError" = some (some (.ref C_SpandrelError))) (hg_SpandrelError : PySem.W.findIn K (.ref C_SpandrelError) "__getattribute__" = some (some (.builtin "BaseException.__getattribute__"))) (hk_SpandrelError : PySem.W.findIn K (.ref C_SpandrelError) "__getattr__" = some none) (hs_SpandrelError : PySem.W.subIn K (.ref C_SpandrelError) (.type "BaseException") = some true) (hd_SpandrelError : PySem.W.hasDictIn K C_SpandrelError = true) (ha_SpandrelError : PySem.W.findIn K (.ref C_SpandrelError) "__class__" = some (some (.builtin "object.__class__"))) (hm_SpandrelError : PySem.W.mroIn K C_SpandrelError (.type "object") = some true) (ty_SpandrelError : PySem.W.typeIn K (.ref C_SpandrelError) = some (.type "type")) (me_SpandrelError : PySem.W.subIn K (.ref C_SpandrelError) (.ref C_SpandrelError) = some true)
    (kp_BadLetters : PySem.W.keepIn K (.ref C_BadLetters) = true) (q_BadLetters : PySem.W.excIn K C_BadLetters [.type "ValueError", .type "Exception", .type "BaseException", .type "object"] "ValueError.__new__" = true) (v_BadLetters : PySem.W.subIn K (.ref C_BadLetters) (.type "ValueError") = some true) (w_BadLetters : PySem.W.subIn K (.ref C_BadLetters) (.ref C_SpandrelError) = some true)
    (s_BadLetters_BadMachine : PySem.W.subIn K (.ref C_BadLetters) (.ref C_BadMachine) = some false)
    (s_BadLetters_BadDemand : PySem.W.subIn K (.ref C_BadLetters) (.ref C_BadDemand) = some false)
    (s_BadLetters_BadLetters : PySem.W.subIn K (.ref C_BadLetters) (.ref C_BadLetters) = some true)
    (s_BadLetters_BadWord : PySem.W.subIn K (.ref C_BadLetters) (.ref C_BadWord) = some false)
    (s_BadLetters_BadSet : PySem.W.subIn K (.ref C_BadLetters) (.ref C_BadSet) = some false)
    (s_BadLetters_BadState : PySem.W.subIn K (.ref C_BadLetters) (.ref C_BadState) = some false)
    (s_BadLetters_BadText : PySem.W.subIn K (.ref C_BadLetters) (.ref C_BadText) = some false)
    (s_BadLetters_TooMuch : PySem.W.subIn K (.ref C_BadLetters) (.ref C_TooMuch) = some false)
    (kp_BadMachine : PySem.W.keepIn K (.ref C_BadMachine) = true) (q_BadMachine : PySem.W.excIn K C_BadMachine [.type "ValueError", .type "Exception", .type "BaseException", .type "object"] "ValueError.__new__" = true) (v_BadMachine : PySem.W.subIn K (.ref C_BadMachine) (.type "ValueError") = some true) (w_BadMachine : PySem.W.subIn K (.ref C_BadMachine) (.ref C_SpandrelError) = some true)
    (s_BadMachine_BadMachine : PySem.W.subIn K (.ref C_BadMachine) (.ref C_BadMachine) = some true)
    (s_BadMachine_BadDemand : PySem.W.subIn K (.ref C_BadMachine) (.ref C_BadDemand) = some false)
    (s_BadMachine_BadLetters : PySem.W.subIn K (.ref C_BadMachine) (.ref C_BadLetters) = some false)
    (s_BadMachine_BadWord : PySem.W.subIn K (.ref C_BadMachine) (.ref C_BadWord) = some false)
    (s_BadMachine_BadSet : PySem.W.subIn K (.ref C_BadMachine) (.ref C_BadSet) = some false)
    (s_BadMachine_BadState : PySem.W.subIn K (.ref C_BadMachine) (.ref C_BadState) = some false)
    (s_BadMachine_BadText : PySem.W.subIn K (.ref C_BadMachine) (.ref C_BadText) = some false)
    (s_BadMachine_TooMuch : PySem.W.subIn K (.ref C_BadMachine) (.ref C_TooMuch) = some false)
    (kp_TooMuch : PySem.W.keepIn K (.ref C_TooMuch) = true) (q_TooMuch : PySem.W.excIn K C_TooMuch [.type "ValueError", .type "Exception", .type "BaseException", .type "object"] "ValueError.__new__" = true) (v_TooMuch : PySem.W.subIn K (.ref C_TooMuch) (.type "ValueError") = some true) (w_TooMuch : PySem.W.subIn K (.ref C_TooMuch) (.ref C_SpandrelError) = some true)
    (s_TooMuch_BadMachine : PySem.W.subIn K (.ref C_TooMuch) (.ref C_BadMachine) = some false)
    (s_TooMuch_BadDemand : PySem.W.subIn K (.ref C_TooMuch) (.ref C_BadDemand) = some false)
    (s_TooMuch_BadLetters : PySem.W.subIn K (.ref C_TooMuch) (.ref C_BadLetters) = some false)
    (s_TooMuch_BadWord : PySem.W.subIn K (.ref C_TooMuch) (.ref C_BadWord) = some false)
    (s_TooMuch_BadSet : PySem.W.subIn K (.ref C_TooMuch) (.ref C_BadSet) = some false)
    (s_TooMuch_BadState : PySem.W.subIn K (.ref C_TooMuch) (.ref C_BadState) = some false)
    (s_TooMuch_BadText : PySem.W.subIn K (.ref C_TooMuch) (.ref C_BadText) = some false)
    (s_TooMuch_TooMuch : PySem.W.subIn K (.ref C_TooMuch) (.ref C_TooMuch) = some true) :
    ∃ fd : FuncData, (∀ (s : Shared) (v : Value), BindsTo s fd ⟨[v], []⟩ [("script", v)]) ∧ ∀ base : Heap, K.In base → base.Ns mainGlobals mg → FnG l.prog w K mg base CX0 11 fa fd ["script"] (spM K 0 1 18 W0 m_law) := by
  have e := hfa.symm.trans (PySem.W.mg_of X G a21)
  cases e
  refine ⟨PySem.W.fnOf "law" "law" (defArgs s_law) (defBody s_law) (defScope s_law) .none kV21 dc21 pm21 an21 cd21 ct21, fun s v => .of_eq rfl, fun base _ _ => ok_law (P := l.prog) (w := w) (base := base) ({
    t_MOST_EDGES := _
    c_MOST_EDGES := PySem.W.mg_of X G c_MOST_EDGES
    t_MOST_LETTERS := _
    c_MOST_LETTERS := PySem.W.mg_of X G c_MOST_LETTERS
    t_MOST_STATES := _
    c_MOST_STATES := PySem.W.mg_of X G c_MOST_STATES
    C_BadMachine := _
    mg_BadMachine := PySem.W.mg_of X G g_BadMachine
    f_BadMachine := ⟨⟨hg_BadMachine, hk_BadMachine, hs_BadMachine, hd_BadMachine, ha_BadMachine, hn, ht, hm_BadMachine⟩, ty_BadMachine, me_BadMachine⟩
    C_BadDemand := _
    mg_BadDemand := PySem.W.mg_of X G g_BadDemand
    f_BadDemand := ⟨⟨hg_BadDemand, hk_BadDemand, hs_BadDemand, hd_BadDemand, ha_BadDemand, hn, ht, hm_BadDemand⟩, ty_BadDemand, me_BadDemand⟩
    C_BadLetters := _
    mg_BadLetters := PySem.W.mg_of X G g_BadLetters
    f_BadLetters := ⟨⟨hg_BadLetters, hk_BadLetters, hs_BadLetters, hd_BadLetters, ha_BadLetters, hn, ht, hm_BadLetters⟩, ty_BadLetters, me_BadLetters⟩
    C_BadWord := _
    mg_BadWord := PySem.W.mg_of X G g_BadWord
    f_BadWord := ⟨⟨hg_BadWord, hk_BadWord, hs_BadWord, hd_BadWord, ha_BadWord, hn, ht, hm_BadWord⟩, ty_BadWord, me_BadWord⟩
    C_BadSet := _
    mg_BadSet := PySem.W.mg_of X G g_BadSet
    f_BadSet := ⟨⟨hg_BadSet, hk_BadSet, hs_BadSet, hd_BadSet, ha_BadSet, hn, ht, hm_BadSet⟩, ty_BadSet, me_BadSet⟩
    C_BadState := _
    mg_BadState := PySem.W.mg_of X G g_BadState
    f_BadState := ⟨⟨hg_BadState, hk_BadState, hs_BadState, hd_BadState, ha_BadState, hn, ht, hm_BadState⟩, ty_BadState, me_BadState⟩
    C_BadText := _
    mg_BadText := PySem.W.mg_of X G g_BadText
    f_BadText := ⟨⟨hg_BadText, hk_BadText, hs_BadText, hd_BadText, ha_BadText, hn, ht, hm_BadText⟩, ty_BadText, me_BadText⟩
    C_TooMuch := _
    mg_TooMuch := PySem.W.mg_of X G g_TooMuch
    f_TooMuch := ⟨⟨hg_TooMuch, hk_TooMuch, hs_TooMuch, hd_TooMuch, ha_TooMuch, hn, ht, hm_TooMuch⟩, ty_TooMuch, me_TooMuch⟩
    C_SpandrelError := _
    mg_SpandrelError := PySem.W.mg_of X G g_SpandrelError
    f_SpandrelError := ⟨⟨hg_SpandrelError, hk_SpandrelError, hs_SpandrelError, hd_SpandrelError, ha_SpandrelError, hn, ht, hm_SpandrelError⟩, ty_SpandrelError, me_SpandrelError⟩
    kp_BadLetters := kp_BadLetters
    q_BadLetters := q_BadLetters
    v_BadLetters := v_BadLetters
    w_BadLetters := w_BadLetters
    s_BadLetters_BadMachine := s_BadLetters_BadMachine
    s_BadLetters_BadDemand := s_BadLetters_BadDemand
    s_BadLetters_BadLetters := s_BadLetters_BadLetters
    s_BadLetters_BadWord := s_BadLetters_BadWord
    s_BadLetters_BadSet := s_BadLetters_BadSet
    s_BadLetters_BadState := s_BadLetters_BadState
    s_BadLetters_BadText := s_BadLetters_BadText
    s_BadLetters_TooMuch := s_BadLetters_TooMuch
    kp_BadMachine := kp_BadMachine
    q_BadMachine := q_BadMachine
    v_BadMachine := v_BadMachine
    w_BadMachine := w_BadMachine
    s_BadMachine_BadMachine := s_BadMachine_BadMachine
    s_BadMachine_BadDemand := s_BadMachine_BadDemand
    s_BadMachine_BadLetters := s_BadMachine_BadLetters
    s_BadMachine_BadWord := s_BadMachine_BadWord
    s_BadMachine_BadSet := s_BadMachine_BadSet
    s_BadMachine_BadState := s_BadMachine_BadState
    s_BadMachine_BadText := s_BadMachine_BadText
    s_BadMachine_TooMuch := s_BadMachine_TooMuch
    kp_TooMuch := kp_TooMuch
    q_TooMuch := q_TooMuch
    v_TooMuch := v_TooMuch
    w_TooMuch := w_TooMuch
    s_TooMuch_BadMachine := s_TooMuch_BadMachine
    s_TooMuch_BadDemand := s_TooMuch_BadDemand
    s_TooMuch_BadLetters := s_TooMuch_BadLetters
    s_TooMuch_BadWord := s_TooMuch_BadWord
    s_TooMuch_BadSet := s_TooMuch_BadSet
    s_TooMuch_BadState := s_TooMuch_BadState
    s_TooMuch_BadText := s_TooMuch_BadText
    s_TooMuch_TooMuch := s_TooMuch_TooMuch
    a__law_box := _
    fd__law_box := _
    F__law_box := fun_mk (st := s__law_box) l0 c0 k0
    mg__law_box := PySem.W.mg_of X G a0
    b__law_box := (fun_mk (st := s__law_box) l0 c0 k0).binds (ps := ["script"]) fun _ _ _ _ _ _ us hl => match us, hl with | [_], _ => rfl
    a__law_take := _
    fd__law_take := _
    F__law_take := fun_mk (st := s__law_take) l1 c1 k1
    mg__law_take := PySem.W.mg_of X G a1
    b__law_take := (fun_mk (st := s__law_take) l1 c1 k1).binds (ps := ["box", "m"]) fun _ _ _ _ _ _ us hl => match us, hl with | [_, _], _ => rfl
    a__law_pick := _
    fd__law_pick := _
    F__law_pick := fun_mk (st := s__law_pick) l2 c2 k2
    mg__law_pick := PySem.W.mg_of X G a2
    b__law_pick := (fun_mk (st := s__law_pick) l2 c2 k2).binds (ps := ["box", "menu"]) fun _ _ _ _ _ _ us hl => match us, hl with | [_, _], _ => rfl
    a__law_machine := _
    fd__law_machine := _
    F__law_machine := fun_mk (st := s__law_machine) l3 c3 k3
    mg__law_machine := PySem.W.mg_of X G a3
    b__law_machine := (fun_mk (st := s__law_machine) l3 c3 k3).binds (ps := ["box", "n", "most"]) fun _ _ _ _ _ _ us hl => match us, hl with | [_, _, _], _ => rfl
    a__law_due := _
    fd__law_due := _
    F__law_due := fun_mk (st := s__law_due) l4 c4 k4
    mg__law_due := PySem.W.mg_of X G a4
    b__law_due := (fun_mk (st := s__law_due) l4 c4 k4).binds (ps := ["one", "two"]) fun _ _ _ _ _ _ us hl => match us, hl with | [_, _], _ => rfl
    a__law_class := _
    fd__law_class := _
    F__law_class := fun_mk (st := s__law_class) l5 c5 k5
    mg__law_class := PySem.W.mg_of X G a5
    b__law_class := (fun_mk (st := s__law_class) l5 c5 k5).binds (ps := ["e"]) fun _ _ _ _ _ _ us hl => match us, hl with | [_], _ => rfl
    a_is_number := _
    fd_is_number := _
    F_is_number := fun_mk (st := s_is_number) l6 c6 k6
    mg_is_number := PySem.W.mg_of X G a6
    b_is_number := (fun_mk (st := s_is_number) l6 c6 k6).binds (ps := ["thing"]) fun _ _ _ _ _ _ us hl => match us, hl with | [_], _ => rfl
    a_is_below := _
    fd_is_below := _
    F_is_below := fun_mk (st := s_is_below) l7 c7 k7
    mg_is_below := PySem.W.mg_of X G a7
    b_is_below := (fun_mk (st := s_is_below) l7 c7 k7).binds (ps := ["thing", "many"]) fun _ _ _ _ _ _ us hl => match us, hl with | [_, _], _ => rfl
    a_is_letter_count := _
    fd_is_letter_count := _
    F_is_letter_count := fun_mk (st := s_is_letter_count) l8 c8 k8
    mg_is_letter_count := PySem.W.mg_of X G a8
    b_is_letter_count := (fun_mk (st := s_is_letter_count) l8 c8 k8).binds (ps := ["thing"]) fun _ _ _ _ _ _ us hl => match us, hl with | [_], _ => rfl
    a__is_edge := _
    fd__is_edge := _
    F__is_edge := fun_mk (st := s__is_edge) l9 c9 k9
    mg__is_edge := PySem.W.mg_of X G a9
    b__is_edge := (fun_mk (st := s__is_edge) l9 c9 k9).binds (ps := ["n", "many", "edge"]) fun _ _ _ _ _ _ us hl => match us, hl with | [_, _, _], _ => rfl
    a__is_row := _
    fd__is_row := _
    F__is_row := fun_mk (st := s__is_row) l10 c10 k10
    mg__is_row := PySem.W.mg_of X G a10
    b__is_row := (fun_mk (st := s__is_row) l10 c10 k10).binds (ps := ["n", "many", "row"]) fun _ _ _ _ _ _ us hl => match us, hl with | [_, _, _], _ => rfl
    a__is_machine := _
    fd__is_machine := _
    F__is_machine := fun_mk (st := s__is_machine) l11 c11 k11
    mg__is_machine := PySem.W.mg_of X G a11
    b__is_machine := (fun_mk (st := s__is_machine) l11 c11 k11).binds (ps := ["m"]) fun _ _ _ _ _ _ us hl => match us, hl with | [_], _ => rfl
    a_check_machine := _
    fd_check_machine := _
    F_check_machine := fun_mk (st := s_check_machine) l12 c12 k12
    mg_check_machine := PySem.W.mg_of X G a12
    b_check_machine := (fun_mk (st := s_check_machine) l12 c12 k12).binds (ps := ["m"]) fun _ _ _ _ _ _ us hl => match us, hl with | [_], _ => rfl
    a_check_same_letters := _
    fd_check_same_letters := _
    F_check_same_letters := fun_mk (st := s_check_same_letters) l13 c13 k13
    mg_check_same_letters := PySem.W.mg_of X G a13
    b_check_same_letters := (fun_mk (st := s_check_same_letters) l13 c13 k13).binds (ps := ["a", "b"]) fun _ _ _ _ _ _ us hl => match us, hl with | [_, _], _ => rfl
    a__check_both := _
    fd__check_both := _
    F__check_both := fun_mk (st := s__check_both) l14 c14 k14
    mg__check_both := PySem.W.mg_of X G a14
    b__check_both := (fun_mk (st := s__check_both) l14 c14 k14).binds (ps := ["a", "b"]) fun _ _ _ _ _ _ us hl => match us, hl with | [_, _], _ => rfl
    a__edges_of_both := _
    fd__edges_of_both := _
    F__edges_of_both := fun_mk (st := s__edges_of_both) l15 c15 k15
    mg__edges_of_both := PySem.W.mg_of X G a15
    b__edges_of_both := (fun_mk (st := s__edges_of_both) l15 c15 k15).binds (ps := ["row", "other"]) fun _ _ _ _ _ _ us hl => match us, hl with | [_, _], _ => rfl
    a_pairs_of := _
    fd_pairs_of := _
    F_pairs_of := fun_mk (st := s_pairs_of) l16 c16 k16
    mg_pairs_of := PySem.W.mg_of X G a16
    b_pairs_of := (fun_mk (st := s_pairs_of) l16 c16 k16).binds (ps := ["a", "b"]) fun _ _ _ _ _ _ us hl => match us, hl with | [_, _], _ => rfl
    a_product := _
    fd_product := _
    F_product := fun_mk (st := s_product) l17 c17 k17
    mg_product := PySem.W.mg_of X G a17
    b_product := (fun_mk (st := s_product) l17 c17 k17).binds (ps := ["a", "b"]) fun _ _ _ _ _ _ us hl => match us, hl with | [_, _], _ => rfl
    a__law_told := _
    fd__law_told := _
    F__law_told := fun_mk (st := s__law_told) l18 c18 k18
    mg__law_told := PySem.W.mg_of X G a18
    b__law_told := (fun_mk (st := s__law_told) l18 c18 k18).binds (ps := ["way", "one", "two"]) fun _ _ _ _ _ _ us hl => match us, hl with | [_, _, _], _ => rfl
    a__law_common := _
    fd__law_common := _
    F__law_common := fun_mk (st := s__law_common) l19 c19 k19
    mg__law_common := PySem.W.mg_of X G a19
    b__law_common := (fun_mk (st := s__law_common) l19 c19 k19).binds (ps := ["a", "b"]) fun _ _ _ _ _ _ us hl => match us, hl with | [_, _], _ => rfl
    a__law_ring := _
    fd__law_ring := _
    F__law_ring := fun_mk (st := s__law_ring) l20 c20 k20
    mg__law_ring := PySem.W.mg_of X G a20
    b__law_ring := (fun_mk (st := s__law_ring) l20 c20 k20).binds (ps := ["size"]) fun _ _ _ _ _ _ us hl => match us, hl with | [_], _ => rfl
    a_law := _
    fd_law := _
    F_law := fun_mk (st := s_law) l21 c21 k21
    mg_law := PySem.W.mg_of X G a21
    b_law := (fun_mk (st := s_law) l21 c21 k21).binds (ps := ["script"]) fun _ _ _ _ _ _ us hl => match us, hl with | [_], _ => rfl
    z_ValueError := PySem.W.mg_none_of X G z_ValueError
    z_abs := PySem.W.mg_none_of X G z_abs
    z_all := PySem.W.mg_none_of X G z_all
    z_bool := PySem.W.mg_none_of X G z_bool
    z_enumerate := PySem.W.mg_none_of X G z_enumerate
    z_int := PySem.W.mg_none_of X G z_int
    z_isinstance := PySem.W.mg_none_of X G z_isinstance
    z_len := PySem.W.mg_none_of X G z_len
    z_list := PySem.W.mg_none_of X G z_list
    z_range := PySem.W.mg_none_of X G z_range
    z_repr := PySem.W.mg_none_of X G z_repr
    z_sorted := PySem.W.mg_none_of X G z_sorted
    z_sum := PySem.W.mg_none_of X G z_sum
    z_tuple := PySem.W.mg_none_of X G z_tuple
  } : Tx K mg)⟩


end K05
open PySem PySem.W PyProof.Rows
set_option maxHeartbeats 0 in
theorem PySem.Challenge.cw_spandrel_k05_products_of_machines_holds : PySem.Challenge.rw_spandrel_k05_products_of_machines.Holds := by
  w_on; o_law; k_head; (case hw => w_witness2)
  k_fill
  refine Z.walk_top (l := PySem.Challenge.rw_spandrel_k05_products_of_machines) (n := 63) (k := 11) (x := "script") (CX := L2.CX0) (sp := fun K => Z.spM K 0 1 18 Z.W0 K05.m_law) rfl (by decide) rfl ⟨rfl, by decide, by decide⟩ (fun w h Y => by first | exact PySem.W.kIn_of Y | exact PySem.W.km_in_of Y) ?F (fun K H a ns hl _ hS => Z.law_sp K05.law_true H a ns hl hS) (fun _ _ _ _ h => h)
  case F =>
    intro w mg fa h KX G hmg
    refine' K05.all_mk KX G hmg ?a0 ?l0 ?c0 ?k0 ?a1 ?l1 ?c1 ?k1 ?a2 ?l2 ?c2 ?k2 ?a3 ?l3 ?c3 ?k3 ?a4 ?l4 ?c4 ?k4 ?a5 ?l5 ?c5 ?k5 ?a6 ?l6 ?c6 ?k6 ?a7 ?l7 ?c7 ?k7 ?a8 ?l8 ?c8 ?k8 ?a9 ?l9 ?c9 ?k9 ?a10 ?l10 ?c10 ?k10 ?a11 ?l11 ?c11 ?k11 ?a12 ?l12 ?c12 ?k12 ?a13 ?l13 ?c13 ?k13 ?a14 ?l14 ?c14 ?k14 ?a15 ?l15 ?c15 ?k15 ?a16 ?l16 ?c16 ?k16 ?a17 ?l17 ?c17 ?k17 ?a18 ?l18 ?c18 ?k18 ?a19 ?l19 ?c19 ?k19 ?a20 ?l20 ?c20 ?k20 ?a21 ?l21 ?c21 ?k21 ?z_ValueError ?z_abs ?z_all ?z_bool ?z_enumerate ?z_int ?z_isinstance ?z_len ?z_list ?z_range ?z_repr ?z_sorted ?z_sum ?z_tuple ?c_MOST_EDGES ?c_MOST_LETTERS ?c_MOST_STATES ?hn ?ht ?g_BadMachine ?hg_BadMachine ?hk_BadMachine ?hs_BadMachine ?hd_BadMachine ?ha_BadMachine ?hm_BadMachine ?ty_BadMachine ?me_BadMachine ?g_BadDemand ?hg_BadDemand ?hk_BadDemand ?hs_BadDemand ?hd_BadDemand ?ha_BadDemand ?hm_BadDemand ?ty_BadDemand ?me_BadDemand ?g_BadLetters ?hg_BadLetters ?hk_BadLetters ?hs_BadLetters ?hd_BadLetters ?ha_BadLetters ?hm_BadLetters ?ty_BadLetters ?me_BadLetters ?g_BadWord ?hg_BadWord ?hk_BadWord ?hs_BadWord ?hd_BadWord ?ha_BadWord ?hm_BadWord ?ty_BadWord ?me_BadWord ?g_BadSet ?hg_BadSet ?hk_BadSet ?hs_BadSet ?hd_BadSet ?ha_BadSet ?hm_BadSet ?ty_BadSet ?me_BadSet ?g_BadState ?hg_BadState ?hk_BadState ?hs_BadState ?hd_BadState ?ha_BadState ?hm_BadState ?ty_BadState ?me_BadState ?g_BadText ?hg_BadText ?hk_BadText ?hs_BadText ?hd_BadText ?ha_BadText ?hm_BadText ?ty_BadText ?me_BadText ?g_TooMuch ?hg_TooMuch ?hk_TooMuch ?hs_TooMuch ?hd_TooMuch ?ha_TooMuch ?hm_TooMuch ?ty_TooMuch ?me_TooMuch ?g_SpandrelError ?hg_SpandrelError ?hk_SpandrelError ?hs_SpandrelError ?hd_SpandrelError ?ha_SpandrelError ?hm_SpandrelError ?ty_SpandrelError ?me_SpandrelError ?kp_BadLetters ?q_BadLetters ?v_BadLetters ?w_BadLetters ?s_BadLetters_BadMachine ?s_BadLetters_BadDemand ?s_BadLetters_BadLetters ?s_BadLetters_BadWord ?s_BadLetters_BadSet ?s_BadLetters_BadState ?s_BadLetters_BadText ?s_BadLetters_TooMuch ?kp_BadMachine ?q_BadMachine ?v_BadMachine ?w_BadMachine ?s_BadMachine_BadMachine ?s_BadMachine_BadDemand ?s_BadMachine_BadLetters ?s_BadMachine_BadWord ?s_BadMachine_BadSet ?s_BadMachine_BadState ?s_BadMachine_BadText ?s_BadMachine_TooMuch ?kp_TooMuch ?q_TooMuch ?v_TooMuch ?w_TooMuch ?s_TooMuch_BadMachine ?s_TooMuch_BadDemand ?s_TooMuch_BadLetters ?s_TooMuch_BadWord ?s_TooMuch_BadSet ?s_TooMuch_BadState ?s_TooMuch_BadText ?s_TooMuch_TooMuch
    (case a0 => k_is); (case l0 => k_is); (case c0 => k_is); (case k0 => k_is); (case a1 => k_is); (case l1 => k_is); (case c1 => k_is); (case k1 => k_is); (case a2 => k_is); (case l2 => k_is); (case c2 => k_is); (case k2 => k_is); (case a3 => k_is); (case l3 => k_is); (case c3 => k_is); (case k3 => k_is); (case a4 => k_is); (case l4 => k_is); (case c4 => k_is); (case k4 => k_is); (case a5 => k_is); (case l5 => k_is); (case c5 => k_is); (case k5 => k_is); (case a6 => k_is); (case l6 => k_is); (case c6 => k_is); (case k6 => k_is); (case a7 => k_is); (case l7 => k_is); (case c7 => k_is); (case k7 => k_is); (case a8 => k_is); (case l8 => k_is); (case c8 => k_is); (case k8 => k_is); (case a9 => k_is); (case l9 => k_is); (case c9 => k_is); (case k9 => k_is); (case a10 => k_is); (case l10 => k_is); (case c10 => k_is); (case k10 => k_is); (case a11 => k_is); (case l11 => k_is); (case c11 => k_is); (case k11 => k_is); (case a12 => k_is); (case l12 => k_is); (case c12 => k_is); (case k12 => k_is); (case a13 => k_is); (case l13 => k_is); (case c13 => k_is); (case k13 => k_is); (case a14 => k_is); (case l14 => k_is); (case c14 => k_is); (case k14 => k_is); (case a15 => k_is); (case l15 => k_is); (case c15 => k_is); (case k15 => k_is); (case a16 => k_is); (case l16 => k_is); (case c16 => k_is); (case k16 => k_is); (case a17 => k_is); (case l17 => k_is); (case c17 => k_is); (case k17 => k_is); (case a18 => k_is); (case l18 => k_is); (case c18 => k_is); (case k18 => k_is); (case a19 => k_is); (case l19 => k_is); (case c19 => k_is); (case k19 => k_is); (case a20 => k_is); (case l20 => k_is); (case c20 => k_is); (case k20 => k_is); (case a21 => k_is); (case l21 => k_is); (case c21 => k_is); (case k21 => k_is); (case z_ValueError => k_is); (case z_abs => k_is); (case z_all => k_is); (case z_bool => k_is); (case z_enumerate => k_is); (case z_int => k_is); (case z_isinstance => k_is); (case z_len => k_is); (case z_list => k_is); (case z_range => k_is); (case z_repr => k_is); (case z_sorted => k_is); (case z_sum => k_is); (case z_tuple => k_is); (case c_MOST_EDGES => k_is); (case c_MOST_LETTERS => k_is); (case c_MOST_STATES => k_is); (case hn => k_is); (case ht => k_is); (case g_BadMachine => k_is); (case hg_BadMachine => k_is); (case hk_BadMachine => k_is); (case hs_BadMachine => k_is); (case hd_BadMachine => k_is); (case ha_BadMachine => k_is); (case hm_BadMachine => k_is); (case ty_BadMachine => k_is); (case me_BadMachine => k_is); (case g_BadDemand => k_is); (case hg_BadDemand => k_is); (case hk_BadDemand => k_is); (case hs_BadDemand => k_is); (case hd_BadDemand => k_is); (case ha_BadDemand => k_is); (case hm_BadDemand => k_is); (case ty_BadDemand => k_is); (case me_BadDemand => k_is); (case g_BadLetters => k_is); (case hg_BadLetters => k_is); (case hk_BadLetters => k_is); (case hs_BadLetters => k_is); (case hd_BadLetters => k_is); (case ha_BadLetters => k_is); (case hm_BadLetters => k_is); (case ty_BadLetters => k_is); (case me_BadLetters => k_is); (case g_BadWord => k_is); (case hg_BadWord => k_is); (case hk_BadWord => k_is); (case hs_BadWord => k_is); (case hd_BadWord => k_is); (case ha_BadWord => k_is); (case hm_BadWord => k_is); (case ty_BadWord => k_is); (case me_BadWord => k_is); (case g_BadSet => k_is); (case hg_BadSet => k_is); (case hk_BadSet => k_is); (case hs_BadSet => k_is); (case hd_BadSet => k_is); (case ha_BadSet => k_is); (case hm_BadSet => k_is); (case ty_BadSet => k_is); (case me_BadSet => k_is); (case g_BadState => k_is); (case hg_BadState => k_is); (case hk_BadState => k_is); (case hs_BadState => k_is); (case hd_BadState => k_is); (case ha_BadState => k_is); (case hm_BadState => k_is); (case ty_BadState => k_is); (case me_BadState => k_is); (case g_BadText => k_is); (case hg_BadText => k_is); (case hk_BadText => k_is); (case hs_BadText => k_is); (case hd_BadText => k_is); (case ha_BadText => k_is); (case hm_BadText => k_is); (case ty_BadText => k_is); (case me_BadText => k_is); (case g_TooMuch => k_is); (case hg_TooMuch => k_is); (case hk_TooMuch => k_is); (case hs_TooMuch => k_is); (case hd_TooMuch => k_is); (case ha_TooMuch => k_is); (case hm_TooMuch => k_is); (case ty_TooMuch => k_is); (case me_TooMuch => k_is); (case g_SpandrelError => k_is); (case hg_SpandrelError => k_is); (case hk_SpandrelError => k_is); (case hs_SpandrelError => k_is); (case hd_SpandrelError => k_is); (case ha_SpandrelError => k_is); (case hm_SpandrelError => k_is); (case ty_SpandrelError => k_is); (case me_SpandrelError => k_is); (case kp_BadLetters => k_is); (case q_BadLetters => k_exc); (case v_BadLetters => k_is); (case w_BadLetters => k_is); (case s_BadLetters_BadMachine => k_is); (case s_BadLetters_BadDemand => k_is); (case s_BadLetters_BadLetters => k_is); (case s_BadLetters_BadWord => k_is); (case s_BadLetters_BadSet => k_is); (case s_BadLetters_BadState => k_is); (case s_BadLetters_BadText => k_is); (case s_BadLetters_TooMuch => k_is); (case kp_BadMachine => k_is); (case q_BadMachine => k_exc); (case v_BadMachine => k_is); (case w_BadMachine => k_is); (case s_BadMachine_BadMachine => k_is); (case s_BadMachine_BadDemand => k_is); (case s_BadMachine_BadLetters => k_is); (case s_BadMachine_BadWord => k_is); (case s_BadMachine_BadSet => k_is); (case s_BadMachine_BadState => k_is); (case s_BadMachine_BadText => k_is); (case s_BadMachine_TooMuch => k_is); (case kp_TooMuch => k_is); (case q_TooMuch => k_exc); (case v_TooMuch => k_is); (case w_TooMuch => k_is); (case s_TooMuch_BadMachine => k_is); (case s_TooMuch_BadDemand => k_is); (case s_TooMuch_BadLetters => k_is); (case s_TooMuch_BadWord => k_is); (case s_TooMuch_BadSet => k_is); (case s_TooMuch_BadState => k_is); (case s_TooMuch_BadText => k_is); (case s_TooMuch_TooMuch => k_is)


