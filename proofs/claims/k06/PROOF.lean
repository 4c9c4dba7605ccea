import PyProof.Rows.All
import Wide.All
import OpenK.AllK
import Wide.FinOn
import HandS.ForMost
import HandS.Star
import HandS.Zip
import HandS.IsInst
import HandS.Flow
import HandS.SetBool
import HandS.SortInts
import HandS.Deep
import HandS.Conv
import HandS.TupLe
import HandS.Exc
import HandS.ExcOwn
import HandS.WordsExc
import HandS.Evl
import HandS.TupAny
import HandS.Walk
import KE.GoesEnum
import KE.GoesMore
import HandS.Comp
import HandS.Strs
import HandS.SetFor
import PySem.Challenge.RW_slideboxes_k06_whole_made_and_back
set_option Elab.async false
set_option linter.all false
set_option maxRecDepth 100000
set_option maxHeartbeats 4000000
namespace DL
open PySem PySem.Spec PyProof.Rows L2

/-! ### data -/
inductive D where
  | non | bl (b : Bool) | int (i : Int) | str (x : Str) | tup (xs : List D) | lst (xs : List D) | ref (i : Nat) | dct (ks : List Key) (xs : List D) | ty (n : String) | scr (ns : List Int)
inductive O where
  | dead | lst (xs : List D) | ins (C : Addr) (fs : List (Str × D)) | dct (ks : List Key) (xs : List D) | any (ho : Addr → HO)
abbrev Sto := List O
abbrev Ev := List (Option D)

structure Wd where
  m : List Addr
  B : Hp
structure Wd.le (W W' : Wd) : Prop where
  pre : ∀ (i : Nat) a, W.m[i]? = some a → W'.m[i]? = some a
  same : Same W.B W'.B
theorem Wd.le.refl (W : Wd) : W.le W := ⟨fun _ _ h => h, Same.refl _⟩
theorem Wd.le.trans {W W1 W2 : Wd} (a : W.le W1) (b : W1.le W2) : W.le W2 := ⟨fun i x h => b.pre i x (a.pre i x h), a.same.trans b.same⟩

theorem same_rd {H H' : Hp} {a : Addr} {u : HO} (e : Same H H') (h : Rd H a u) : Rd H' a u := Evl.ex_rd e h
theorem same_sql {K : PySem.W.Frag} {H H' : Hp} {a : Addr} {xs : List V} (e : Same H H') (h : SqL K H a xs) : SqL K H' a xs := Evl.ex_l e h
theorem same_sqt {K : PySem.W.Frag} {H H' : Hp} {a : Addr} {xs : List V} (e : Same H H') (h : SqT K H a xs) : SqT K H' a xs := Evl.ex_t e h

mutual
inductive Rep (K : PySem.W.Frag) (W : Wd) : V → D → Prop where
  | non : Rep K W .non .non
  | bl (b : Bool) : Rep K W (.bl b) (.bl b)
  | int (i : Int) : Rep K W (.int i) (.int i)
  | str (x : Str) : Rep K W (.str x) (.str x)
  | ty (n : String) : Rep K W (.ty n) (.ty n)
  | tup {a : Addr} {vs : List V} {ds : List D} : SqT K W.B a vs → Reps K W vs ds → Rep K W (.ref a) (.tup ds)
  | lst {a : Addr} {vs : List V} {ds : List D} : W.B a = some (.lst vs) → Reps K W vs ds → Rep K W (.ref a) (.lst ds)
  | scr {a : Addr} {ns : List Int} : SqL K W.B a (ns.map V.int) → Rep K W (.ref a) (.scr ns)
  | dct {a : Addr} {ks : List Key} {vs : List V} {ds : List D} : Rd W.B a (.dK (ks.zip vs)) → ks.length = vs.length → Reps K W vs ds → Rep K W (.ref a) (.dct ks ds)
  | ref {i : Nat} {a : Addr} : W.m[i]? = some a → Rep K W (.ref a) (.ref i)
inductive Reps (K : PySem.W.Frag) (W : Wd) : List V → List D → Prop where
  | nil : Reps K W [] []
  | cons {v : V} {d : D} {vs : List V} {ds : List D} : Rep K W v d → Reps K W vs ds → Reps K W (v :: vs) (d :: ds)
end

section
variable {K : PySem.W.Frag} {W W' : Wd}
mutual
theorem Rep.mono (l : W.le W') : ∀ {v : V} {d : D}, Rep K W v d → Rep K W' v d
  | _, _, .non => .non
  | _, _, .bl b => .bl b
  | _, _, .int i => .int i
  | _, _, .str x => .str x
  | _, _, .ty x => .ty x
  | _, _, .tup h r => .tup (same_sqt l.same h) (Reps.mono l r)
  | _, _, .lst h r => .lst (l.same _ _ h) (Reps.mono l r)
  | _, _, .scr h => .scr (same_sql l.same h)
  | _, _, .dct h e r => .dct (same_rd l.same h) e (Reps.mono l r)
  | _, _, .ref h => .ref (l.pre _ _ h)
theorem Reps.mono (l : W.le W') : ∀ {vs : List V} {ds : List D}, Reps K W vs ds → Reps K W' vs ds
  | _, _, .nil => .nil
  | _, _, .cons h r => .cons (Rep.mono l h) (Reps.mono l r)
end
theorem Reps.length : ∀ {vs : List V} {ds : List D}, Reps K W vs ds → vs.length = ds.length
  | _, _, .nil => rfl
  | _, _, .cons _ r => congrArg (· + 1) (Reps.length r)
theorem Reps.app : ∀ {vs ws : List V} {ds es : List D}, Reps K W vs ds → Reps K W ws es → Reps K W (vs ++ ws) (ds ++ es)
  | _, _, _, _, .nil, s => s
  | _, _, _, _, .cons h r, s => .cons h (Reps.app r s)
theorem Reps.get : ∀ {vs : List V} {ds : List D} {i : Nat} {d : D}, Reps K W vs ds → ds[i]? = some d → ∃ v, vs[i]? = some v ∧ Rep K W v d
  | _, _, _, _, .nil, e => by simp at e
  | _, _, 0, _, .cons h r, e => ⟨_, rfl, by simp at e; rw [← e]; exact h⟩
  | _, _, i + 1, _, .cons _ r, e => by
    obtain ⟨v, h1, h2⟩ := Reps.get (i := i) r (by simpa using e)
    exact ⟨v, by simpa using h1, h2⟩
theorem Reps.getV : ∀ {vs : List V} {ds : List D} {i : Nat} {v : V}, Reps K W vs ds → vs[i]? = some v → ∃ d, ds[i]? = some d ∧ Rep K W v d
  | _, _, _, _, .nil, e => by simp at e
  | _, _, 0, _, .cons h r, e => ⟨_, rfl, by simp at e; rw [← e]; exact h⟩
  | _, _, i + 1, _, .cons _ r, e => by
    obtain ⟨v, h1, h2⟩ := Reps.getV (i := i) r (by simpa using e)
    exact ⟨v, by simpa using h1, h2⟩
theorem Reps.set {v : V} {d : D} (h : Rep K W v d) : ∀ {vs : List V} {ds : List D} (i : Nat), Reps K W vs ds → Reps K W (vs.set i v) (ds.set i d)
  | _, _, _, .nil => .nil
  | _, _, 0, .cons _ r => .cons h r
  | _, _, i + 1, .cons q r => .cons q (Reps.set h i r)
theorem Reps.take : ∀ {vs : List V} {ds : List D} (n : Nat), Reps K W vs ds → Reps K W (vs.take n) (ds.take n)
  | _, _, 0, _ => .nil
  | _, _, _ + 1, .nil => .nil
  | _, _, n + 1, .cons h r => .cons h (Reps.take n r)
theorem Reps.drop : ∀ {vs : List V} {ds : List D} (n : Nat), Reps K W vs ds → Reps K W (vs.drop n) (ds.drop n)
  | _, _, 0, r => r
  | _, _, _ + 1, .nil => .nil
  | _, _, n + 1, .cons _ r => Reps.drop n r
theorem Reps.dropLast : ∀ {vs : List V} {ds : List D}, Reps K W vs ds → Reps K W vs.dropLast ds.dropLast
  | _, _, .nil => .nil
  | _, _, .cons h .nil => .nil
  | _, _, .cons h (.cons h2 r) => .cons h (Reps.dropLast (.cons h2 r))
end

theorem one_place : ∀ (N : List Addr), N.Nodup → ∀ (i j : Nat) (x : Addr), N[i]? = some x → N[j]? = some x → i = j
  | [], _, _, _, _, h, _ => by simp at h
  | _ :: _, _, 0, 0, _, _, _ => rfl
  | y :: N, nd, 0, j + 1, x, h, k => by
    simp at h k
    exact absurd (List.mem_of_getElem? k) (h ▸ (List.nodup_cons.mp nd).1)
  | y :: N, nd, i + 1, 0, x, h, k => by
    simp at h k
    exact absurd (List.mem_of_getElem? h) (k ▸ (List.nodup_cons.mp nd).1)
  | y :: N, nd, i + 1, j + 1, x, h, k => congrArg (· + 1) (one_place N (List.nodup_cons.mp nd).2 i j x (by simpa using h) (by simpa using k))

/-! ### the store -/
def OR (K : PySem.W.Frag) (W : Wd) (H : Hp) (a : Addr) : O → Prop
  | .dead => True
  | .lst ds => W.B a = none ∧ ∃ vs, H a = some (.lst vs) ∧ Reps K W vs ds
  | .ins C fs => W.B a = none ∧ ∃ dx vs, H a = some (.ins C dx ((fs.map (·.1)).zip vs)) ∧ Reps K W vs (fs.map (·.2))
  | .dct ks ds => W.B a = none ∧ ∃ vs, H a = some (.dK (ks.zip vs)) ∧ ks.length = vs.length ∧ Reps K W vs ds
  | .any ho => W.B a = none ∧ H a = some (ho a)
structure Sim (K : PySem.W.Frag) (W : Wd) (S : Sto) (H : Hp) : Prop where
  same : Same W.B H
  len : W.m.length = S.length
  nd : W.m.Nodup
  dom : ∀ a ∈ W.m, H a ≠ none
  obj : ∀ (i : Nat) a o, W.m[i]? = some a → S[i]? = some o → OR K W H a o
/-- what is known of names -/
structure EnvR (K : PySem.W.Frag) (W : Wd) (env : Ev) (σ : L2.St) : Prop where
  len : σ.length = env.length
  get : ∀ (i : Nat) d, env[i]? = some (some d) → ∃ v, σ[i]? = some (some v) ∧ Rep K W v d

section
variable {K : PySem.W.Frag} {W W' : Wd} {S : Sto} {H : Hp} {env : Ev} {σ : L2.St}
theorem EnvR.mono (l : W.le W') (e : EnvR K W env σ) : EnvR K W' env σ := ⟨e.len, fun i d h => let ⟨v, a, b⟩ := e.get i d h; ⟨v, a, b.mono l⟩⟩
theorem EnvR.set {i : Nat} {v : V} {d : D} (e : EnvR K W env σ) (r : Rep K W v d) : EnvR K W (env.set i (some d)) (σ.set i (some v)) := by
  refine ⟨by simp [e.len], fun j d' h => ?_⟩
  by_cases hj : j = i
  · subst hj
    by_cases hl : j < env.length
    · rw [List.getElem?_set_self hl] at h
      cases h
      exact ⟨v, List.getElem?_set_self (by rw [e.len]; exact hl), r⟩
    · rw [List.getElem?_eq_none (by rw [List.length_set]; omega)] at h
      cases h
  · rw [List.getElem?_set_ne (Ne.symm hj)] at h
    obtain ⟨w, h1, h2⟩ := e.get j d' h
    exact ⟨w, by rw [List.getElem?_set_ne (Ne.symm hj)]; exact h1, h2⟩
theorem EnvR.unset {i : Nat} {o : Option V} (e : EnvR K W env σ) : EnvR K W (env.set i none) (σ.set i o) := by
  refine ⟨by simp [e.len], fun j d' h => ?_⟩
  by_cases hj : j = i
  · subst hj
    by_cases hl : j < env.length
    · rw [List.getElem?_set_self hl] at h
      cases h
    · rw [List.getElem?_eq_none (by rw [List.length_set]; omega)] at h
      cases h
  · rw [List.getElem?_set_ne (Ne.symm hj)] at h
    obtain ⟨w, h1, h2⟩ := e.get j d' h
    exact ⟨w, by rw [List.getElem?_set_ne (Ne.symm hj)]; exact h1, h2⟩
/-- a store object's address is none of the pure heap's, and in the heap -/
theorem OR.mono {a : Addr} {o : O} (l : W.le W') (hB : W'.B a = none ∨ W.B a ≠ none) (h : OR K W H a o) {H' : Hp} (hH : H' a = H a) : OR K W' H' a o := by
  cases o with
  | dead => trivial
  | lst ds =>
    obtain ⟨b, vs, e, r⟩ := h
    rcases hB with hB | hB
    · exact ⟨hB, vs, by rw [hH]; exact e, r.mono l⟩
    · exact absurd b hB
  | ins C fs =>
    obtain ⟨b, dx, vs, e, r⟩ := h
    rcases hB with hB | hB
    · exact ⟨hB, dx, vs, by rw [hH]; exact e, r.mono l⟩
    · exact absurd b hB
  | dct ks ds =>
    obtain ⟨b, vs, e, q, r⟩ := h
    rcases hB with hB | hB
    · exact ⟨hB, vs, by rw [hH]; exact e, q, r.mono l⟩
    · exact absurd b hB
  | any ho =>
    obtain ⟨b, e⟩ := h
    rcases hB with hB | hB
    · exact ⟨hB, by rw [hH]; exact e⟩
    · exact absurd b hB
/-- a new pure object -/
def Wd.put (W : Wd) (p : Addr) (o : HO) : Wd := ⟨W.m, upd W.B p o⟩
def Wd.new (W : Wd) (p : Addr) : Wd := ⟨W.m ++ [p], W.B⟩
theorem Sim.free {p : Addr} (s : Sim K W S H) (hp : H p = none) : W.B p = none := s.same.free hp
theorem Wd.le_put {p : Addr} {o : HO} (h : W.B p = none) : W.le (W.put p o) := ⟨fun _ _ h => h, Evl.Ex.new h⟩
theorem Wd.le_new {p : Addr} : W.le (W.new p) := ⟨fun i a h => by
  show (W.m ++ [p])[i]? = some a
  rw [List.getElem?_append_left (List.getElem?_eq_some_iff.mp h).1]
  exact h, Same.refl _⟩
theorem Sim.put {p : Addr} {o : HO} (s : Sim K W S H) (hp : H p = none) : Sim K (W.put p o) S (upd H p o) := by
  have hB := s.free hp
  refine ⟨fun b u e => ?_, s.len, s.nd, fun a ha => ?_, fun i a ob h1 h2 => ?_⟩
  · by_cases hb : b = p
    · subst hb
      have e : upd W.B b o b = some u := e
      rw [upd_same] at e ⊢
      exact e
    · have e : upd W.B p o b = some u := e
      rw [upd_ne hb] at e ⊢
      exact s.same b u e
  · have hne : a ≠ p := fun z => s.dom a ha (by rw [z]; exact hp)
    rw [upd_ne hne]
    exact s.dom a ha
  · have hne : a ≠ p := fun z => s.dom a (List.mem_of_getElem? h1) (by rw [z]; exact hp)
    refine (s.obj i a ob h1 h2).mono (Wd.le_put hB) ?_ (upd_ne hne)
    by_cases hb : W.B a = none
    · exact .inl (by show upd W.B p o a = none; rw [upd_ne hne]; exact hb)
    · exact .inr hb
/-- a new store object -/
theorem Sim.newO {p : Addr} {o : O} {ho : HO} (s : Sim K W S H) (hp : H p = none) (h : OR K (W.new p) (upd H p ho) p o) : Sim K (W.new p) (S ++ [o]) (upd H p ho) := by
  have hB := s.free hp
  have hnp : p ∉ W.m := fun z => s.dom p z hp
  refine ⟨fun b u e => ?_, by show (W.m ++ [p]).length = _; simp [s.len], ?_, fun a ha => ?_, fun i a ob h1 h2 => ?_⟩
  · rw [upd_ne (ne_of_none (show W.B b = some u from e) hB)]
    exact s.same b u e
  · show (W.m ++ [p]).Nodup
    exact List.nodup_append.mpr ⟨s.nd, List.nodup_cons.mpr ⟨List.not_mem_nil, List.nodup_nil⟩, fun a ha b hb => by
      rw [List.mem_singleton] at hb
      subst hb
      exact fun z => hnp (z ▸ ha)⟩
  · rcases List.mem_append.mp (show a ∈ W.m ++ [p] from ha) with ha | ha
    · have hne : a ≠ p := fun z => hnp (z ▸ ha)
      rw [upd_ne hne]
      exact s.dom a ha
    · rw [List.mem_singleton.mp ha, upd_same]
      exact fun z => nomatch z
  · have h1 : (W.m ++ [p])[i]? = some a := h1
    by_cases hi : i < W.m.length
    · rw [List.getElem?_append_left hi] at h1
      rw [List.getElem?_append_left (by rw [← s.len]; exact hi)] at h2
      have hne : a ≠ p := fun z => hnp (z ▸ List.mem_of_getElem? h1)
      refine (s.obj i a ob h1 h2).mono Wd.le_new ?_ (upd_ne hne)
      by_cases hb : W.B a = none
      · exact .inl hb
      · exact .inr hb
    · have hi2 : i = W.m.length := by
        have := (List.getElem?_eq_some_iff.mp h1).1
        rw [List.length_append, List.length_singleton] at this
        omega
      subst hi2
      rw [List.getElem?_append_right (Nat.le_refl _), Nat.sub_self] at h1
      rw [s.len, List.getElem?_append_right (Nat.le_refl _), Nat.sub_self] at h2
      cases h1
      cases h2
      exact h
theorem Sim.newL {p : Addr} {vs : List V} {ds : List D} (s : Sim K W S H) (hp : H p = none) (r : Reps K W vs ds) : Sim K (W.new p) (S ++ [.lst ds]) (upd H p (.lst vs)) :=
  s.newO hp ⟨s.free hp, vs, upd_same, r.mono Wd.le_new⟩
/-- a store object changes -/
theorem Sim.setO {i : Nat} {a : Addr} {o o' : O} {ho : HO} (s : Sim K W S H) (hi : W.m[i]? = some a) (ho1 : S[i]? = some o) (hb : W.B a = none) (h : OR K W (upd H a ho) a o') : Sim K W (S.set i o') (upd H a ho) := by
  refine ⟨fun b u e => ?_, by rw [List.length_set]; exact s.len, s.nd, fun b hbm => ?_, fun j b ob h1 h2 => ?_⟩
  · rw [upd_ne (ne_of_none e hb)]
    exact s.same b u e
  · by_cases z : b = a
    · rw [z, upd_same]
      exact fun z => nomatch z
    · rw [upd_ne z]
      exact s.dom b hbm
  · by_cases hj : j = i
    · subst hj
      rw [hi] at h1
      cases h1
      rw [List.getElem?_set_self (by rw [← s.len]; exact (List.getElem?_eq_some_iff.mp hi).1)] at h2
      cases h2
      exact h
    · rw [List.getElem?_set_ne (Ne.symm hj)] at h2
      have hne : b ≠ a := fun z => by
        subst z
        exact hj (one_place _ s.nd _ _ _ h1 hi)
      refine (s.obj j b ob h1 h2).mono (Wd.le.refl W) ?_ (upd_ne hne)
      by_cases hb : W.B b = none
      · exact .inl hb
      · exact .inr hb
theorem Sim.at {i : Nat} {o : O} (s : Sim K W S H) (h : S[i]? = some o) : ∃ a, W.m[i]? = some a ∧ OR K W H a o := by
  have hi := (List.getElem?_eq_some_iff.mp h).1
  rw [← s.len] at hi
  exact ⟨_, List.getElem?_eq_getElem hi, s.obj i _ o (List.getElem?_eq_getElem hi) h⟩
end

/-! ### steps: what may have changed between two worlds -/
structure Stp (W : Wd) (H : Hp) (W' : Wd) (H' : Hp) : Prop where
  le : W.le W'
  keep : ∀ p o, H p = some o → p ∉ W.m → H' p = some o
  dom : ∀ p, H p ≠ none → H' p ≠ none
  newm : ∀ p, p ∈ W'.m → p ∈ W.m ∨ H p = none
  newB : ∀ p o, W'.B p = some o → W.B p = some o ∨ H p = none ∨ p ∈ W.m
theorem Stp.refl {W : Wd} {H : Hp} : Stp W H W H := ⟨.refl W, fun _ _ h _ => h, fun _ h => h, fun _ h => .inl h, fun _ _ h => .inl h⟩
theorem Stp.free {W W' : Wd} {H H' : Hp} {p : Addr} (s : Stp W H W' H') (h : H' p = none) : H p = none := by
  cases e : H p with
  | none => rfl
  | some o => exact absurd h (s.dom p (by rw [e]; exact fun z => nomatch z))
theorem Stp.trans {W W1 W2 : Wd} {H H1 H2 : Hp} (a : Stp W H W1 H1) (b : Stp W1 H1 W2 H2) : Stp W H W2 H2 where
  le := a.le.trans b.le
  keep := fun p o h n => b.keep p o (a.keep p o h n) fun z => (a.newm p z).elim n fun q => by rw [h] at q; cases q
  dom := fun p h => b.dom p (a.dom p h)
  newm := fun p h => (b.newm p h).elim (a.newm p) fun q => .inr (a.free q)
  newB := fun p o h => by
    rcases b.newB p o h with q | q | q
    · exact a.newB p o q
    · exact .inr (.inl (a.free q))
    · rcases a.newm p q with q | q
      · exact .inr (.inr q)
      · exact .inr (.inl q)
section
variable {K : PySem.W.Frag} {W : Wd} {S : Sto} {H : Hp}
theorem upd_dom {p : Addr} {o : HO} (q : Addr) (h : H q ≠ none) : upd H p o q ≠ none := by
  by_cases z : q = p
  · rw [z, upd_same]
    exact fun z => nomatch z
  · rw [upd_ne z]
    exact h
theorem upd_keep {p : Addr} {o u : HO} {q : Addr} (hp : H p = none) (h : H q = some u) : upd H p o q = some u := by
  rw [upd_ne (ne_of_none h hp)]
  exact h
/-- new, known to nobody | new and pure | new in the store | a store object changed -/
theorem Stp.lay {p : Addr} {o : HO} (hp : H p = none) : Stp W H W (upd H p o) := ⟨.refl W, fun _ _ h _ => upd_keep hp h, upd_dom, fun _ h => .inl h, fun _ _ h => .inl h⟩
theorem Stp.put {p : Addr} {o : HO} (s : Sim K W S H) (hp : H p = none) : Stp W H (W.put p o) (upd H p o) := ⟨Wd.le_put (s.free hp), fun _ _ h _ => upd_keep hp h, upd_dom, fun _ h => .inl h, fun q u h => by
  by_cases z : q = p
  · exact .inr (.inl (by rw [z]; exact hp))
  · have h : upd W.B p o q = some u := h
    rw [upd_ne z] at h
    exact .inl h⟩
theorem Stp.newO {p : Addr} {ho : HO} (hp : H p = none) : Stp W H (W.new p) (upd H p ho) := ⟨Wd.le_new, fun _ _ h _ => upd_keep hp h, upd_dom, fun q h => (List.mem_append.mp (show q ∈ W.m ++ [p] from h)).elim .inl fun z => .inr (by rw [List.mem_singleton.mp z]; exact hp), fun _ _ h => .inl h⟩
theorem Stp.setO {i : Nat} {a : Addr} {ho : HO} (hi : W.m[i]? = some a) : Stp W H W (upd H a ho) := ⟨.refl W, fun q o h n => by
  have hm : a ∈ W.m := List.mem_of_getElem? hi
  have hne : q ≠ a := fun z => n (by rw [z]; exact hm)
  rw [upd_ne hne]
  exact h, upd_dom, fun _ h => .inl h, fun _ _ h => .inl h⟩
/-- .. and what was laid by nobody's hand becomes pure, or the store's -/
theorem Stp.adopt {W' : Wd} {H' : Hp} {p : Addr} {o : HO} (s : Stp W H W' H') (hp : H p = none) (hB : W'.B p = none) : Stp W H (W'.put p o) H' := ⟨s.le.trans (Wd.le_put hB), s.keep, s.dom, s.newm, fun q u h => by
  by_cases z : q = p
  · exact .inr (.inl (by rw [z]; exact hp))
  · have h : upd W'.B p o q = some u := h
    rw [upd_ne z] at h
    exact s.newB q u h⟩
theorem Stp.adoptO {W' : Wd} {H' : Hp} {p : Addr} (s : Stp W H W' H') (hp : H p = none) : Stp W H (W'.new p) H' := ⟨s.le.trans Wd.le_new, s.keep, s.dom, fun q h => (List.mem_append.mp (show q ∈ W'.m ++ [p] from h)).elim (s.newm q) fun z => .inr (by rw [List.mem_singleton.mp z]; exact hp), s.newB⟩
end

/-! ### readings, lifted -/
abbrev DP := D → Sto → Prop
abbrev DTE := Ev → Sto → DP → Prop
abbrev DTT := Ev → Sto → (Bool → Sto → Prop) → Prop
abbrev DTA := Ev → Sto → (List D → Sto → Prop) → Prop
structure DEnds where
  nx : Ev → Sto → Prop
  rt : DP
  bk : Ev → Sto → Prop := fun _ _ => False
  ct : Ev → Sto → Prop := fun _ _ => False
abbrev DTS := DEnds → Ev → Sto → Prop
abbrev DTG := D → Ev → Sto → (Ev → Sto → Prop) → Prop
abbrev DTGs := List D → Ev → Sto → (Ev → Sto → Prop) → Prop

def Post (K : PySem.W.Frag) (W : Wd) (H : Hp) (P : DP) (Q : VK) : Prop := ∀ d S' W' H' v, P d S' → Sim K W' S' H' → Stp W H W' H' → Rep K W' v d → Q v H'
def PostT (K : PySem.W.Frag) (W : Wd) (H : Hp) (P : Bool → Sto → Prop) (Q : Bool → Hp → Prop) : Prop := ∀ b S' W' H', P b S' → Sim K W' S' H' → Stp W H W' H' → Q b H'
def PostA (K : PySem.W.Frag) (W : Wd) (H : Hp) (P : List D → Sto → Prop) (Q : List V → Hp → Prop) : Prop := ∀ ds S' W' H' vs, P ds S' → Sim K W' S' H' → Stp W H W' H' → Reps K W' vs ds → Q vs H'
def PostN (K : PySem.W.Frag) (W : Wd) (H : Hp) (P : Ev → Sto → Prop) (Q : L2.St → Hp → Prop) : Prop := ∀ env S' W' H' σ, P env S' → Sim K W' S' H' → Stp W H W' H' → EnvR K W' env σ → Q σ H'
structure PostS (K : PySem.W.Frag) (W : Wd) (H : Hp) (E : DEnds) (D : Ends) : Prop where
  nx : PostN K W H E.nx D.nx
  rt : Post K W H E.rt D.rt
  bk : PostN K W H E.bk D.bk
  ct : PostN K W H E.ct D.ct
section
variable {K : PySem.W.Frag} {W W' : Wd} {H H' : Hp}
theorem Post.mono {P : DP} {Q : VK} (h : Post K W H P Q) (l : Stp W H W' H') : Post K W' H' P Q := fun d S' W2 H2 v p s l2 r => h d S' W2 H2 v p s (l.trans l2) r
theorem PostT.mono {P : Bool → Sto → Prop} {Q : Bool → Hp → Prop} (h : PostT K W H P Q) (l : Stp W H W' H') : PostT K W' H' P Q := fun d S' W2 H2 p s l2 => h d S' W2 H2 p s (l.trans l2)
theorem PostA.mono {P : List D → Sto → Prop} {Q : List V → Hp → Prop} (h : PostA K W H P Q) (l : Stp W H W' H') : PostA K W' H' P Q := fun d S' W2 H2 v p s l2 r => h d S' W2 H2 v p s (l.trans l2) r
theorem PostN.mono {P : Ev → Sto → Prop} {Q : L2.St → Hp → Prop} (h : PostN K W H P Q) (l : Stp W H W' H') : PostN K W' H' P Q := fun d S' W2 H2 v p s l2 r => h d S' W2 H2 v p s (l.trans l2) r
theorem PostS.mono {E : DEnds} {D : Ends} (h : PostS K W H E D) (l : Stp W H W' H') : PostS K W' H' E D := ⟨h.nx.mono l, h.rt.mono l, h.bk.mono l, h.ct.mono l⟩
end

def liftE (K : PySem.W.Frag) (W0 : Wd) (T : DTE) : TE := fun σ H Q => ∃ W env S P, W0.le W ∧ Sim K W S H ∧ EnvR K W env σ ∧ T env S P ∧ Post K W H P Q
def liftT (K : PySem.W.Frag) (W0 : Wd) (T : DTT) : TT := fun σ H Q => ∃ W env S P, W0.le W ∧ Sim K W S H ∧ EnvR K W env σ ∧ T env S P ∧ PostT K W H P Q
def liftA (K : PySem.W.Frag) (W0 : Wd) (T : DTA) : TA := fun σ H Q => ∃ W env S P, W0.le W ∧ Sim K W S H ∧ EnvR K W env σ ∧ T env S P ∧ PostA K W H P Q
def liftS (K : PySem.W.Frag) (W0 : Wd) (T : DTS) : TS := fun D σ H => ∃ W env S E, W0.le W ∧ Sim K W S H ∧ EnvR K W env σ ∧ T E env S ∧ PostS K W H E D
abbrev DE (X : Cx) (W0 : Wd) (e : Expr) (T : DTE) : Prop := PE X e (liftE X.K W0 T)
abbrev DT (X : Cx) (W0 : Wd) (e : Expr) (T : DTT) : Prop := PT X e (liftT X.K W0 T)
abbrev DW (X : Cx) (W0 : Wd) (e : Expr) (T : DTT) : Prop := PW X e (liftT X.K W0 T)
abbrev DA (X : Cx) (W0 : Wd) (es : List Expr) (T : DTA) : Prop := PA X es (liftA X.K W0 T)
abbrev DS (X : Cx) (W0 : Wd) (st : Stmt) (T : DTS) : Prop := PS X st (liftS X.K W0 T)
abbrev DSs (X : Cx) (W0 : Wd) (st : List Stmt) (T : DTS) : Prop := PSs X st (liftS X.K W0 T)
section
variable {X : Cx}
theorem _root_.L2.PE.imp {e : Expr} {t t' : TE} (h : PE X e t) (i : ∀ σ H Q, t' σ H Q → t σ H Q) : PE X e t' := ⟨fun pins s σ H Q I q => h.run pins s σ H Q I (i σ H Q q)⟩
theorem _root_.L2.PT.imp {e : Expr} {t t' : TT} (h : PT X e t) (i : ∀ σ H Q, t' σ H Q → t σ H Q) : PT X e t' := ⟨fun pins s σ H Q I q => h.run pins s σ H Q I (i σ H Q q)⟩
theorem _root_.L2.PW.imp {e : Expr} {t t' : TT} (h : PW X e t) (i : ∀ σ H Q, t' σ H Q → t σ H Q) : PW X e t' := ⟨fun w pins s σ H Q I q => h.run w pins s σ H Q I (i σ H Q q)⟩
theorem _root_.L2.PA.imp {es : List Expr} {t t' : TA} (h : PA X es t) (i : ∀ σ H Q, t' σ H Q → t σ H Q) : PA X es t' := ⟨fun p pins s σ H Q I q => h.run p pins s σ H Q I (i σ H Q q)⟩
theorem _root_.L2.PS.imp {st : Stmt} {t t' : TS} (h : PS X st t) (i : ∀ D σ H, t' D σ H → t D σ H) : PS X st t' := ⟨fun pins s σ H D I q => h.run pins s σ H D I (i D σ H q)⟩
theorem _root_.L2.PSs.imp {st : List Stmt} {t t' : TS} (h : PSs X st t) (i : ∀ D σ H, t' D σ H → t D σ H) : PSs X st t' := ⟨fun pins s σ H D I q => h.run pins s σ H D I (i D σ H q)⟩
theorem _root_.L2.PG.imp {e : Expr} {t t' : TG} (h : PG X e t) (i : ∀ v σ H Q, t' v σ H Q → t v σ H Q) : PG X e t' := ⟨fun pins s σ H v u Q I r q => h.run pins s σ H v u Q I r (i v σ H Q q)⟩
theorem _root_.L2.PGs.imp {es : List Expr} {t t' : TGs} (h : PGs X es t) (i : ∀ v σ H Q, t' v σ H Q → t v σ H Q) : PGs X es t' := ⟨fun pins s σ H v u Q I r q => h.run pins s σ H v u Q I r (i v σ H Q q)⟩
end
end DL

namespace DL
open PySem PySem.Spec PyProof.Rows L2

/-! ### fresh lists -/
section
variable {K : PySem.W.Frag} {W : Wd} {S : Sto} {H : Hp}
/-- what stands in the heap, known to nobody, becomes pure -/
theorem Sim.adopt {p : Addr} {o : HO} (s : Sim K W S H) (hB : W.B p = none) (hm : p ∉ W.m) (hH : H p = some o) : Sim K (W.put p o) S H := by
  refine ⟨fun b u e => ?_, s.len, s.nd, s.dom, fun i a ob h1 h2 => ?_⟩
  · by_cases hb : b = p
    · subst hb
      have e : upd W.B b o b = some u := e
      rw [upd_same] at e
      rw [hH]
      exact e
    · have e : upd W.B p o b = some u := e
      rw [upd_ne hb] at e
      exact s.same b u e
  · have hne : a ≠ p := fun z => hm (z ▸ List.mem_of_getElem? h1)
    refine (s.obj i a ob h1 h2).mono (Wd.le_put hB) ?_ rfl
    by_cases hb : W.B a = none
    · exact .inl (by show upd W.B p o a = none; rw [upd_ne hne]; exact hb)
    · exact .inr hb
theorem Sim.adoptO {p : Addr} {o : O} (s : Sim K W S H) (hB : W.B p = none) (hm : p ∉ W.m) (hH : H p ≠ none) (h : OR K (W.new p) H p o) : Sim K (W.new p) (S ++ [o]) H := by
  refine ⟨s.same, by show (W.m ++ [p]).length = _; simp [s.len], ?_, fun a ha => ?_, fun i a ob h1 h2 => ?_⟩
  · show (W.m ++ [p]).Nodup
    exact List.nodup_append.mpr ⟨s.nd, List.nodup_cons.mpr ⟨List.not_mem_nil, List.nodup_nil⟩, fun a ha b hb => by
      rw [List.mem_singleton] at hb
      subst hb
      exact fun z => hm (z ▸ ha)⟩
  · rcases List.mem_append.mp (show a ∈ W.m ++ [p] from ha) with ha | ha
    · exact s.dom a ha
    · rw [List.mem_singleton.mp ha]
      exact hH
  · have h1 : (W.m ++ [p])[i]? = some a := h1
    by_cases hi : i < W.m.length
    · rw [List.getElem?_append_left hi] at h1
      rw [List.getElem?_append_left (by rw [← s.len]; exact hi)] at h2
      refine (s.obj i a ob h1 h2).mono Wd.le_new ?_ rfl
      by_cases hb : W.B a = none
      · exact .inl hb
      · exact .inr hb
    · have hi2 : i = W.m.length := by
        have := (List.getElem?_eq_some_iff.mp h1).1
        rw [List.length_append, List.length_singleton] at this
        omega
      subst hi2
      rw [List.getElem?_append_right (Nat.le_refl _), Nat.sub_self] at h1
      rw [s.len, List.getElem?_append_right (Nat.le_refl _), Nat.sub_self] at h2
      cases h1
      cases h2
      exact h
end
abbrev DTN := Ev → Sto → (List D → Sto → Prop) → Prop
def PostL (K : PySem.W.Frag) (W : Wd) (H : Hp) (P : List D → Sto → Prop) (Q : VK) : Prop := ∀ ds S' W' H' p vs, P ds S' → Sim K W' S' H' → Stp W H W' H' → H p = none → W'.B p = none → p ∉ W'.m → H' p = some (.lst vs) → Reps K W' vs ds → Q (.ref p) H'
theorem PostL.mono {K : PySem.W.Frag} {W W' : Wd} {H H' : Hp} {P : List D → Sto → Prop} {Q : VK} (h : PostL K W H P Q) (l : Stp W H W' H') : PostL K W' H' P Q := fun ds S' W2 H2 p vs q s l2 hp => h ds S' W2 H2 p vs q s (l.trans l2) (l.free hp)
/-- a list just laid -/
theorem Sim.lay {K : PySem.W.Frag} {W : Wd} {S : Sto} {H : Hp} {p : Addr} {o : HO} (s : Sim K W S H) (hp : H p = none) : Sim K W S (upd H p o) := by
  have hm : p ∉ W.m := fun z => s.dom p z hp
  refine ⟨fun b u e => upd_keep hp (s.same b u e), s.len, s.nd, fun a ha => upd_dom a (s.dom a ha), fun i a ob h1 h2 => ?_⟩
  refine (s.obj i a ob h1 h2).mono (Wd.le.refl _) ?_ (upd_ne fun z => hm (z ▸ List.mem_of_getElem? h1))
  by_cases hb : W.B a = none
  · exact .inl hb
  · exact .inr hb
theorem PostL.laid {K : PySem.W.Frag} {W : Wd} {S : Sto} {H : Hp} {P : List D → Sto → Prop} {Q : VK} {ds : List D} {vs : List V} (h : PostL K W H P Q) (q : P ds S) (s : Sim K W S H) (r : Reps K W vs ds) : ∀ p, H p = none → Q (.ref p) (upd H p (.lst vs)) := fun p hp =>
  h ds S W _ p vs q (s.lay hp) (.lay hp) hp (s.free hp) (fun z => s.dom p z hp) upd_same r
def liftN (K : PySem.W.Frag) (W0 : Wd) (T : DTN) : TE := fun σ H Q => ∃ W env S P, W0.le W ∧ Sim K W S H ∧ EnvR K W env σ ∧ T env S P ∧ PostL K W H P Q
abbrev DN (X : Cx) (W0 : Wd) (e : Expr) (T : DTN) : Prop := PE X e (liftN X.K W0 T)
/-- a fresh list as a pure one; as a store object -/
def dPure (T : DTN) : DTE := fun env S P => T env S fun ds S' => P (.lst ds) S'
def dNew (T : DTN) : DTE := fun env S P => T env S fun ds S' => P (.ref S'.length) (S' ++ [.lst ds])
section
variable {X : Cx} {W0 : Wd} {e : Expr}
theorem de_pure {T : DTN} (h : DN X W0 e T) : DE X W0 e (dPure T) := PE.imp h fun σ H Q ⟨W, env, S, P, hW, sim, er, ht, post⟩ =>
  ⟨W, env, S, _, hW, sim, er, ht, fun ds S' W' H' p vs q s l hp hB hm hH r => post _ _ (W'.put p (.lst vs)) H' _ q (s.adopt hB hm hH) (l.adopt hp hB) (.lst upd_same (r.mono (Wd.le_put hB)))⟩
theorem de_new {T : DTN} (h : DN X W0 e T) : DE X W0 e (dNew T) := PE.imp h fun σ H Q ⟨W, env, S, P, hW, sim, er, ht, post⟩ =>
  ⟨W, env, S, _, hW, sim, er, ht, fun ds S' W' H' p vs q s l hp hB hm hH r => post _ _ (W'.new p) H' _ q (s.adoptO hB hm (by rw [hH]; exact fun z => nomatch z) ⟨hB, vs, hH, r.mono Wd.le_new⟩) (l.adoptO hp)
    (.ref (by show (W'.m ++ [p])[S'.length]? = some p; rw [← s.len, List.getElem?_append_right (Nat.le_refl _), Nat.sub_self]; rfl))⟩
end

/-! ### sequences as they are read -/
def lstOf (S : Sto) : D → Option (List D)
  | .lst xs => some xs
  | .ref i => match S[i]? with
    | some (.lst xs) => some xs
    | _ => none
  | _ => none
/-- the items of a list or tuple -/
def seqOf (S : Sto) : D → Option (List D)
  | .tup xs => some xs
  | d => lstOf S d
section
variable {K : PySem.W.Frag} {W : Wd} {S : Sto} {H : Hp}
theorem Rep.lst_of {v : V} {d : D} {ds : List D} (s : Sim K W S H) (r : Rep K W v d) (h : lstOf S d = some ds) : ∃ a vs, v = .ref a ∧ H a = some (.lst vs) ∧ Reps K W vs ds := by
  cases r with
  | lst h1 h2 => cases h; exact ⟨_, _, rfl, s.same _ _ h1, h2⟩
  | @ref i a hi =>
    dsimp only [lstOf] at h
    cases hs : S[i]? with
    | none => rw [hs] at h; cases h
    | some o =>
      rw [hs] at h
      cases o with
      | lst xs =>
        cases h
        obtain ⟨_, vs, e, q⟩ := s.obj i a _ hi hs
        exact ⟨a, vs, rfl, e, q⟩
      | dead => cases h
      | ins C fs => cases h
      | dct ks xs => cases h
      | any ho => cases h
  | _ => cases h
theorem Rep.seq_of {v : V} {d : D} {ds : List D} (s : Sim K W S H) (r : Rep K W v d) (h : seqOf S d = some ds) : ∃ a vs, v = .ref a ∧ (SqL K H a vs ∨ SqT K H a vs) ∧ Reps K W vs ds := by
  have go : lstOf S d = some ds → ∃ a vs, v = .ref a ∧ (SqL K H a vs ∨ SqT K H a vs) ∧ Reps K W vs ds := fun h =>
    let ⟨a, vs, e, q, r⟩ := r.lst_of s h
    ⟨a, vs, e, .inl (SqL.of q), r⟩
  cases r with
  | tup h1 h2 => cases h; exact ⟨_, _, rfl, .inr (same_sqt s.same h1), h2⟩
  | _ => exact go h
end

/-! ### names, constants -/
section
variable {X : Cx} {W0 : Wd}
def dVar (i : Nat) : DTE := fun env S P => ∃ d, env[i]? = some (some d) ∧ P d S
def dC (d : D) : DTE := fun _ S P => P d S
theorem de_var {i : Nat} {e : Expr} (h : PE X e (tVar i)) : DE X W0 e (dVar i) :=
  h.imp fun σ H Q ⟨W, env, S, P, hW, sim, er, ⟨d, he, hp⟩, post⟩ => let ⟨v, h1, h2⟩ := er.get i d he; ⟨v, h1, post d S W H v hp sim .refl h2⟩
theorem de_const {e : Expr} {v : V} {d : D} (h : PE X e (tC v)) (r : ∀ W, Rep X.K W v d) : DE X W0 e (dC d) := h.imp fun σ H Q ⟨W, env, S, P, hW, sim, er, hp, post⟩ => post d S W H v hp sim .refl (r W)
theorem de_int {i j pos} : DE X W0 (.Constant (.int i) j pos) (dC (.int i)) := de_const pe_int fun _ => .int i
theorem de_bl {i j pos} : DE X W0 (.Constant (.bool i) j pos) (dC (.bl i)) := de_const pe_bl fun _ => .bl i
theorem de_non {j pos} : DE X W0 (.Constant .none j pos) (dC .non) := de_const pe_non fun _ => .non
theorem de_str {i j pos} : DE X W0 (.Constant (.str i) j pos) (dC (.str i)) := de_const pe_str fun _ => .str i
theorem de_glob {x : Str} {v : V} {u : Value} {d : D} {pos : Pos} (hg : Gl X x) (hm : X.mg x = some u) (r : RelV v u) (q : ∀ W, Rep X.K W v d) (hd : (x == ("__debug__" : Str)) = false := by decide) : DE X W0 (.Name x pos) (dC d) := de_const (pe_glob hg hm r hd) q
theorem de_bltn {x : Str} {n : String} {pos : Pos} (hg : Gl X x) (hm : X.mg x = none) (hv : bootBuiltins x = some (.type n)) (hn : x ≠ "__name__" := by decide) (hd : (x == ("__debug__" : Str)) = false := by decide) : DE X W0 (.Name x pos) (dC (.ty n)) :=
  de_const (pe_bltn hg hm hv (v := .ty n) rfl hn hd) fun _ => .ty n

/-! ### two operands -/
abbrev D2 := D → D → Sto → DP → Prop
def DOp (K : PySem.W.Frag) (r : R2) (R : D2) : Prop := ∀ W S H x y d1 d2 P Q, Sim K W S H → Rep K W x d1 → Rep K W y d2 → R d1 d2 S P → Post K W H P Q → r x y H Q
def dOp (R : D2) (Ta Tb : DTE) : DTE := fun env S P => Ta env S fun d1 S1 => Tb env S1 fun d2 S2 => R d1 d2 S2 P
theorem lift_op {r : R2} {R : D2} {Ta Tb : DTE} (hr : DOp X.K r R) {σ : L2.St} {H : Hp} {Q : VK} (h : liftE X.K W0 (dOp R Ta Tb) σ H Q) : tOp r (liftE X.K W0 Ta) (liftE X.K W0 Tb) σ H Q := by
  obtain ⟨W, env, S, P, hW, sim, er, ht, post⟩ := h
  exact ⟨W, env, S, _, hW, sim, er, ht, fun d1 S1 W1 H1 v1 p1 sim1 le1 rep1 => ⟨W1, env, S1, _, hW.trans le1.le, sim1, er.mono le1.le, p1, fun d2 S2 W2 H2 v2 p2 sim2 le2 rep2 =>
    hr W2 S2 H2 v1 v2 d1 d2 P Q sim2 (rep1.mono le2.le) rep2 p2 (post.mono (le1.trans le2))⟩⟩
variable {a b c : Expr} {Ta Tb Tc : DTE} {pos : Pos}
theorem de_op {op : Operator} {r : R2} {R : D2} (ho : OpR X (binaryOp op) r) (hr : DOp X.K r R) (ha : DE X W0 a Ta) (hb : DE X W0 b Tb) : DE X W0 (.BinOp a op b pos) (dOp R Ta Tb) := (pe_op ho ha hb).imp fun _ _ _ h => lift_op hr h
theorem de_cmp {op : CmpOp} {r : R2} {R : D2} (ho : OpR X (compareOp op) r) (hr : DOp X.K r R) (ha : DE X W0 a Ta) (hb : DE X W0 b Tb) (hm : behindInMarks op b = false) : DE X W0 (.Compare a [op] [b] pos) (dOp R Ta Tb) := (pe_cmpR ho ha hb hm).imp fun _ _ _ h => lift_op hr h
/-- a value that is a bool, as a test -/
def dBx (B : Bool → Prop) (d : D) : Prop := ∃ k, d = .bl k ∧ B k
def dB (T : DTE) : DTT := fun env S P => T env S fun d S' => dBx (fun k => P k S') d
theorem Rep.bool {K : PySem.W.Frag} {W : Wd} {v : V} {k : Bool} (r : Rep K W v (.bl k)) : v = .bl k := by cases r; rfl
theorem Rep.intV {K : PySem.W.Frag} {W : Wd} {v : V} {k : Int} (r : Rep K W v (.int k)) : v = .int k := by cases r; rfl
theorem Rep.strV {K : PySem.W.Frag} {W : Wd} {v : V} {k : Str} (r : Rep K W v (.str k)) : v = .str k := by cases r; rfl
theorem Rep.nonV {K : PySem.W.Frag} {W : Wd} {v : V} (r : Rep K W v .non) : v = .non := by cases r; rfl
theorem lift_B {T : DTE} {σ : L2.St} {H : Hp} {Q : Bool → Hp → Prop} (h : liftT X.K W0 (dB T) σ H Q) : liftE X.K W0 T σ H fun x H' => ∃ k, x = .bl k ∧ Q k H' := by
  obtain ⟨W, env, S, P, hW, sim, er, ht, post⟩ := h
  exact ⟨W, env, S, _, hW, sim, er, ht, fun d S' W' H' v ⟨k, e, p⟩ s l r => ⟨k, by subst e; exact r.bool, post k S' W' H' p s l⟩⟩
theorem dt_cmp {op : CmpOp} {r : R2} {R : D2} (ho : OpR X (compareOp op) r) (hr : DOp X.K r R) (ha : DE X W0 a Ta) (hb : DE X W0 b Tb) (hm : behindInMarks op b = false) : DT X W0 (.Compare a [op] [b] pos) (dB (dOp R Ta Tb)) :=
  (pt_cmpR ho ha hb hm).imp fun _ _ _ h => lift_op hr (lift_B h)
theorem dt_val {e : Expr} {T : DTE} (h : DE X W0 e T) (he : ∀ whole, isTrue e X.env whole = (do let v ← whole; standAt e.pos; holding [v] (truthy v)) := by intro _; rfl) : DT X W0 e (dB T) := (pt_val h he).imp fun _ _ _ q => lift_B q

/-! ### numbers -/
def dI (C : Int → Int → Prop) (g : Int → Int → D) : D2 := fun x y S P => ∃ i j, x = .int i ∧ y = .int j ∧ C i j ∧ P (g i j) S
theorem dop_I {K : PySem.W.Frag} {C : Int → Int → Prop} {g : Int → Int → V} {g' : Int → Int → D} (hg : ∀ W i j, Rep K W (g i j) (g' i j)) : DOp K (rI C g) (dI C g') := by
  intro W S H x y d1 d2 P Q s r1 r2 h post
  obtain ⟨i, j, rfl, rfl, hc, p⟩ := h
  exact ⟨i, j, r1.intV, r2.intV, hc, post _ _ W H _ p s .refl (hg W i j)⟩
def dI0 (g : Int → Int → D) : D2 := fun x y S P => ∃ i j, x = .int i ∧ y = .int j ∧ P (g i j) S
theorem dop_I0 {K : PySem.W.Frag} {g : Int → Int → V} {g' : Int → Int → D} (hg : ∀ W i j, Rep K W (g i j) (g' i j)) : DOp K (rI0 g) (dI0 g') := by
  intro W S H x y d1 d2 P Q s r1 r2 h post
  obtain ⟨i, j, rfl, rfl, p⟩ := h
  exact ⟨i, j, r1.intV, r2.intV, post _ _ W H _ p s .refl (hg W i j)⟩
theorem de_sub (ha : DE X W0 a Ta) (hb : DE X W0 b Tb) : DE X W0 (.BinOp a .Sub b pos) (dOp (dI0 fun i j => .int (i - j)) Ta Tb) := de_op op_sub (dop_I0 fun _ _ _ => .int _) ha hb
theorem de_mod (ha : DE X W0 a Ta) (hb : DE X W0 b Tb) : DE X W0 (.BinOp a .Mod b pos) (dOp (dI (fun _ j => 0 < j) fun i j => .int (i % j)) Ta Tb) := de_op op_mod (dop_I fun _ _ _ => .int _) ha hb
theorem de_fdiv (ha : DE X W0 a Ta) (hb : DE X W0 b Tb) : DE X W0 (.BinOp a .FloorDiv b pos) (dOp (dI CDiv fun i j => .int (i / j)) Ta Tb) := de_op op_fdiv (dop_I fun _ _ _ => .int _) ha hb
theorem de_pow (ha : DE X W0 a Ta) (hb : DE X W0 b Tb) : DE X W0 (.BinOp a .Pow b pos) (dOp (dI CPow fun i j => .int (i ^ j.toNat)) Ta Tb) := de_op op_pow (dop_I fun _ _ _ => .int _) ha hb
abbrev rLt : D2 := dI0 fun i j => .bl (decide (i < j))
abbrev rLe : D2 := dI0 fun i j => .bl (decide (i ≤ j))
abbrev rGt : D2 := dI0 fun i j => .bl (decide (j < i))
abbrev rGe : D2 := dI0 fun i j => .bl (decide (j ≤ i))
theorem do_lt {K : PySem.W.Frag} : DOp K (rI0 fun i j => .bl (decide (i < j))) rLt := dop_I0 fun _ _ _ => .bl _
theorem do_le {K : PySem.W.Frag} : DOp K (rI0 fun i j => .bl (decide (i ≤ j))) rLe := dop_I0 fun _ _ _ => .bl _
theorem do_gt {K : PySem.W.Frag} : DOp K (rI0 fun i j => .bl (decide (j < i))) rGt := dop_I0 fun _ _ _ => .bl _
theorem do_ge {K : PySem.W.Frag} : DOp K (rI0 fun i j => .bl (decide (j ≤ i))) rGe := dop_I0 fun _ _ _ => .bl _

/-! ### + and * of anything -/
def dCat : D → D → Sto → (List D → Sto → Prop) → Prop := fun x y S P => ∃ xs ys, lstOf S x = some xs ∧ lstOf S y = some ys ∧ xs.length + ys.length ≤ sizeLine ∧ P (xs ++ ys) S
def dAdd : D2 := fun x y S P => match x, y with
  | .int i, .int j => P (.int (i + j)) S
  | .tup xs, .tup ys => xs.length + ys.length ≤ sizeLine ∧ P (.tup (xs ++ ys)) S
  | _, _ => dCat x y S fun zs S' => P (.lst zs) S'
end
end DL

namespace DL
open PySem PySem.Spec PyProof.Rows L2
section
variable {X : Cx} {W0 : Wd} {a b c e : Expr} {es : List Expr} {Ta Tb Tc T : DTE} {TA TB : DTT} {TR : DTA} {pos p : Pos}

theorem Rep.tupV {K : PySem.W.Frag} {W : Wd} {v : V} {ds : List D} (r : Rep K W v (.tup ds)) : ∃ a vs, v = .ref a ∧ SqT K W.B a vs ∧ Reps K W vs ds := by cases r with | tup h1 h2 => exact ⟨_, _, rfl, h1, h2⟩
theorem Reps.nil_iff {K : PySem.W.Frag} {W : Wd} {vs : List V} {ds : List D} (r : Reps K W vs ds) : vs = [] ↔ ds = [] := by
  cases r with
  | nil => simp
  | cons _ _ => simp

/-! ### + -/
def rAddA (K : PySem.W.Frag) : R2 := fun x y H Q => (∃ i j, x = .int i ∧ y = .int j ∧ Q (.int (i + j)) H) ∨ (rCatA K x y H Q ∨ rCat x y H Q)
theorem op_addA : OpR X (binaryOp .Add) (rAddA X.K) := OpR.or op_add (OpR.or op_catA op_cat)
theorem do_cat {K : PySem.W.Frag} {W : Wd} {S : Sto} {H : Hp} {x y : V} {d1 d2 : D} {P : List D → Sto → Prop} {Q : VK} (s : Sim K W S H) (r1 : Rep K W x d1) (r2 : Rep K W y d2) (h : dCat d1 d2 S P) (post : PostL K W H P Q) : rCat x y H Q := by
  obtain ⟨xs, ys, e1, e2, hl, q⟩ := h
  obtain ⟨p1, v1, rfl, a1, b1⟩ := r1.lst_of s e1
  obtain ⟨p2, v2, rfl, a2, b2⟩ := r2.lst_of s e2
  exact ⟨p1, p2, v1, v2, rfl, rfl, a1, a2, by rw [b1.length, b2.length]; exact hl, post.laid q s (b1.app b2)⟩
theorem PostL.ofPure {K : PySem.W.Frag} {W : Wd} {H : Hp} {P : DP} {Q : VK} (post : Post K W H P Q) : PostL K W H (fun ds S => P (.lst ds) S) Q := fun ds S' W' H' p vs q s l hp hB hm hH r =>
  post _ _ (W'.put p (.lst vs)) H' _ q (s.adopt hB hm hH) (l.adopt hp hB) (.lst upd_same (r.mono (Wd.le_put hB)))
theorem Post.newT {K : PySem.W.Frag} {W : Wd} {S : Sto} {H : Hp} {P : DP} {Q : VK} {vs : List V} {ds : List D} (post : Post K W H P Q) (s : Sim K W S H) (r : Reps K W vs ds) (q : P (.tup ds) S) : ∀ p, H p = none → Q (.ref p) (upd H p (.tup vs)) := fun p hp =>
  post _ _ (W.put p (.tup vs)) _ _ q (s.put hp) (.put s hp) (.tup (.inl (.inl upd_same)) (r.mono (Wd.le_put (s.free hp))))
theorem do_add {K : PySem.W.Frag} : DOp K (rAddA K) dAdd := by
  intro W S H x y d1 d2 P Q s r1 r2 h post
  unfold dAdd at h
  split at h
  · rename_i i j
    exact .inl ⟨i, j, r1.intV, r2.intV, post _ _ W H _ h s .refl (.int _)⟩
  · rename_i xs ys
    obtain ⟨hl, q⟩ := h
    obtain ⟨p1, v1, rfl, a1, b1⟩ := r1.tupV
    obtain ⟨p2, v2, rfl, a2, b2⟩ := r2.tupV
    refine .inr (.inl ⟨p1, p2, v1, v2, rfl, rfl, same_sqt s.same a1, same_sqt s.same a2, by rw [b1.length, b2.length]; exact hl, fun z => ?_, fun _ z => ?_, fun _ _ => post.newT s (b1.app b2) q⟩)
    · have e : xs = [] := b1.nil_iff.mp z
      subst e
      exact post _ _ W H _ q s .refl (.tup a2 b2)
    · have e : ys = [] := b2.nil_iff.mp z
      subst e
      rw [List.append_nil] at q
      exact post _ _ W H _ q s .refl (.tup a1 b1)
  · exact .inr (.inr (do_cat s r1 r2 h (PostL.ofPure post)))
theorem de_add (ha : DE X W0 a Ta) (hb : DE X W0 b Tb) : DE X W0 (.BinOp a .Add b pos) (dOp dAdd Ta Tb) := de_op op_addA do_add ha hb
abbrev D2N := D → D → Sto → (List D → Sto → Prop) → Prop
def dOpN (R : D2N) (Ta Tb : DTE) : DTN := fun env S P => Ta env S fun d1 S1 => Tb env S1 fun d2 S2 => R d1 d2 S2 P
def DOpN (K : PySem.W.Frag) (r : R2) (R : D2N) : Prop := ∀ W S H x y d1 d2 P Q, Sim K W S H → Rep K W x d1 → Rep K W y d2 → R d1 d2 S P → PostL K W H P Q → r x y H Q
theorem lift_opN {r : R2} {R : D2N} {Ta Tb : DTE} (hr : DOpN X.K r R) {σ : L2.St} {H : Hp} {Q : VK} (h : liftN X.K W0 (dOpN R Ta Tb) σ H Q) : tOp r (liftE X.K W0 Ta) (liftE X.K W0 Tb) σ H Q := by
  obtain ⟨W, env, S, P, hW, sim, er, ht, post⟩ := h
  exact ⟨W, env, S, _, hW, sim, er, ht, fun d1 S1 W1 H1 v1 p1 sim1 le1 rep1 => ⟨W1, env, S1, _, hW.trans le1.le, sim1, er.mono le1.le, p1, fun d2 S2 W2 H2 v2 p2 sim2 le2 rep2 =>
    hr W2 S2 H2 v1 v2 d1 d2 P Q sim2 (rep1.mono le2.le) rep2 p2 (post.mono (le1.trans le2))⟩⟩
theorem dn_add (ha : DE X W0 a Ta) (hb : DE X W0 b Tb) : DN X W0 (.BinOp a .Add b pos) (dOpN dCat Ta Tb) := (pe_op op_cat ha hb).imp fun _ _ _ h => lift_opN (fun W S H x y d1 d2 P Q s r1 r2 h post => do_cat s r1 r2 h post) h

/-! ### * -/
def dRep : D2N := fun x y S P => ∃ xs k, lstOf S x = some xs ∧ y = .int k ∧ -(2 ^ 63) ≤ k ∧ k < 2 ^ 63 ∧ xs.length * k.toNat ≤ sizeLine ∧ P (List.replicate k.toNat xs).flatten S
theorem Reps.rep {K : PySem.W.Frag} {W : Wd} {vs : List V} {ds : List D} (r : Reps K W vs ds) : ∀ n : Nat, Reps K W (List.replicate n vs).flatten (List.replicate n ds).flatten
  | 0 => .nil
  | n + 1 => by
    rw [List.replicate_succ, List.replicate_succ, List.flatten_cons, List.flatten_cons]
    exact r.app (Reps.rep r n)
theorem dn_rep (ha : DE X W0 a Ta) (hb : DE X W0 b Tb) : DN X W0 (.BinOp a .Mult b pos) (dOpN dRep Ta Tb) := (pe_op op_rep ha hb).imp fun _ _ _ h => lift_opN (fun W S H x y d1 d2 P Q s r1 r2 h post => by
  obtain ⟨xs, k, e1, rfl, h1, h2, hz, q⟩ := h
  obtain ⟨p1, v1, rfl, a1, b1⟩ := r1.lst_of s e1
  exact ⟨p1, k, v1, rfl, r2.intV, a1, h1, h2, by rw [b1.length]; exact hz, post.laid q s (b1.rep k.toNat)⟩) h
end
end DL

namespace DL
open PySem PySem.Spec PyProof.Rows L2
section
variable {X : Cx} {W0 : Wd} {a b c e : Expr} {es : List Expr} {Ta Tb Tc T : DTE} {TA TB : DTT} {TR : DTA} {pos p : Pos}

/-! ### equality of data -/
def allOf (f : D → Option PyData) : List D → Option (List PyData)
  | [] => some []
  | x :: xs => match f x, allOf f xs with
    | some p, some ps => some (p :: ps)
    | _, _ => none
def pyOf (S : Sto) : Nat → D → Option PyData
  | 0, _ => none
  | _ + 1, .non => some .none
  | _ + 1, .bl b => some (.bool b)
  | _ + 1, .int i => some (.int i)
  | _ + 1, .str x => some (.str x)
  | n + 1, .tup xs => (allOf (pyOf S n) xs).map .tuple
  | n + 1, .lst xs => (allOf (pyOf S n) xs).map .list
  | n + 1, .ref i => match S[i]? with
    | some (.lst xs) => (allOf (pyOf S n) xs).map .list
    | _ => none
  | _ + 1, _ => none
theorem Reps.dp {K : PySem.W.Frag} {W : Wd} {H : Hp} {f : D → Option PyData} (hf : ∀ v d q, Rep K W v d → f d = some q → Dp K H v q) : ∀ {vs : List V} {ds : List D} {qs : List PyData}, Reps K W vs ds → allOf f ds = some qs → DpAll K H vs qs
  | _, _, _, .nil, e => by cases e; exact .nil
  | _, _, _, .cons (d := d) (ds := ds) h r, e => by
    unfold allOf at e
    cases h1 : f d with
    | none => rw [h1] at e; cases e
    | some q =>
      cases h2 : allOf f ds with
      | none => rw [h1, h2] at e; cases e
      | some qs =>
        rw [h1, h2] at e
        cases e
        exact .cons (hf _ _ _ h h1) (Reps.dp hf r h2)
theorem Rep.dp {K : PySem.W.Frag} {W : Wd} {S : Sto} {H : Hp} (s : Sim K W S H) : ∀ (n : Nat) (v : V) (d : D) (q : PyData), Rep K W v d → pyOf S n d = some q → Dp K H v q
  | 0, _, _, _, _, e => by cases e
  | n + 1, v, d, q, r, e => by
    have ih := Rep.dp s n
    cases r with
    | non => cases e; exact .non
    | bl b => cases e; exact .bl b
    | int i => cases e; exact .int i
    | str x => cases e; exact .str x
    | tup h1 h2 =>
      obtain ⟨qs, e1, rfl⟩ := Option.map_eq_some_iff.mp e
      exact .tup (same_sqt s.same h1) (h2.dp ih e1)
    | lst h1 h2 =>
      obtain ⟨qs, e1, rfl⟩ := Option.map_eq_some_iff.mp e
      exact .lst (SqL.of (s.same _ _ h1)) (h2.dp ih e1)
    | @ref i a hi =>
      dsimp only [pyOf] at e
      cases hs : S[i]? with
      | none => rw [hs] at e; cases e
      | some o =>
        rw [hs] at e
        cases o with
        | lst xs =>
          obtain ⟨qs, e1, rfl⟩ := Option.map_eq_some_iff.mp e
          obtain ⟨_, vs, e2, r2⟩ := s.obj i a _ hi hs
          exact .lst (SqL.of e2) (r2.dp ih e1)
        | dead => cases e
        | ins C fs => cases e
        | dct ks xs => cases e
        | any ho => cases e
    | dct _ _ _ => cases e
    | ty _ => cases e
    | scr _ => cases e
/-- == of any data; g: the answer made of the comparison's -/
def dEqG (g : Bool → Bool) : D2 := fun x y S P => match x, y with
  | .int i, .int j => P (.bl (g (decide (i = j)))) S
  | .str i, .str j => P (.bl (g (decide (i = j)))) S
  | .bl i, .bl j => P (.bl (g (decide (i = j)))) S
  | _, _ => ∃ n q r, pyOf S n x = some q ∧ pyOf S n y = some r ∧ SeqAt.shaped q = true ∧ SeqAt.shaped r = true ∧ P (.bl (g (PyData.eqv q r))) S
abbrev dEq : D2 := dEqG id
abbrev dNe : D2 := dEqG not
def rEqA (K : PySem.W.Frag) : R2 := fun x y H Q => rEq x y H Q ∨ rEqD K x y H Q
def rNeA (K : PySem.W.Frag) : R2 := fun x y H Q => rNe x y H Q ∨ rNeD K x y H Q
theorem do_eq {K : PySem.W.Frag} : DOp K (rEqA K) dEq := by
  intro W S H x y d1 d2 P Q s r1 r2 h post
  unfold dEq dEqG at h
  split at h
  · rw [r1.intV, r2.intV]
    refine .inl ⟨rfl, ?_⟩
    simp only [V.int.injEq]
    exact post _ _ W H _ h s .refl (.bl _)
  · rw [r1.strV, r2.strV]
    refine .inl ⟨rfl, ?_⟩
    simp only [V.str.injEq]
    exact post _ _ W H _ h s .refl (.bl _)
  · rw [r1.bool, r2.bool]
    refine .inl ⟨rfl, ?_⟩
    simp only [V.bl.injEq]
    exact post _ _ W H _ h s .refl (.bl _)
  · obtain ⟨n, q, r, e1, e2, h1, h2, p⟩ := h
    exact .inr ⟨q, r, Rep.dp s n _ _ _ r1 e1, Rep.dp s n _ _ _ r2 e2, h1, h2, post _ _ W H _ p s .refl (.bl _)⟩
theorem do_ne {K : PySem.W.Frag} : DOp K (rNeA K) dNe := by
  intro W S H x y d1 d2 P Q s r1 r2 h post
  unfold dNe dEqG at h
  split at h
  · rw [r1.intV, r2.intV]
    refine .inl ⟨rfl, ?_⟩
    simp only [V.int.injEq]
    exact post _ _ W H _ h s .refl (.bl _)
  · rw [r1.strV, r2.strV]
    refine .inl ⟨rfl, ?_⟩
    simp only [V.str.injEq]
    exact post _ _ W H _ h s .refl (.bl _)
  · rw [r1.bool, r2.bool]
    refine .inl ⟨rfl, ?_⟩
    simp only [V.bl.injEq]
    exact post _ _ W H _ h s .refl (.bl _)
  · obtain ⟨n, q, r, e1, e2, h1, h2, p⟩ := h
    exact .inr ⟨q, r, Rep.dp s n _ _ _ r1 e1, Rep.dp s n _ _ _ r2 e2, h1, h2, post _ _ W H _ p s .refl (.bl _)⟩
theorem op_eqA (hu : X.A.units + 64 < cLine) : OpR X (compareOp .Eq) (rEqA X.K) := OpR.or op_eq (op_eqD hu)
theorem op_neA (hu : X.A.units + 64 < cLine) : OpR X (compareOp .NotEq) (rNeA X.K) := OpR.or op_ne (op_neD hu)

/-! ### is None -/
def isNon : D → Bool
  | .non => true
  | _ => false
theorem Rep.isN {K : PySem.W.Frag} {W : Wd} {v : V} {d : D} (r : Rep K W v d) : decide (v = .non) = isNon d := by
  cases r <;> first | rfl | exact decide_eq_false fun z => nomatch z
def dIs (g : Bool → Bool) : D2 := fun x y S P => y = .non ∧ P (.bl (g (isNon x))) S
theorem do_isN {K : PySem.W.Frag} : DOp K (fun x y H Q => y = .non ∧ Q (.bl (decide (x = .non))) H) (dIs id) := by
  intro W S H x y d1 d2 P Q s r1 r2 ⟨e, h⟩ post
  subst e
  exact ⟨r2.nonV, post _ _ W H _ h s .refl (by rw [r1.isN]; exact .bl _)⟩
theorem do_notN {K : PySem.W.Frag} : DOp K (fun x y H Q => y = .non ∧ Q (.bl (!decide (x = .non))) H) (dIs not) := by
  intro W S H x y d1 d2 P Q s r1 r2 ⟨e, h⟩ post
  subst e
  exact ⟨r2.nonV, post _ _ W H _ h s .refl (by rw [r1.isN]; exact .bl _)⟩

/-! ### in -/
def flatD : D → Option V
  | .non => some .non
  | .bl b => some (.bl b)
  | .int i => some (.int i)
  | .str x => some (.str x)
  | _ => none
def flatsD : List D → Option (List V)
  | [] => some []
  | x :: xs => match flatD x, flatsD xs with
    | some v, some vs => some (v :: vs)
    | _, _ => none
theorem Rep.flat {K : PySem.W.Frag} {W : Wd} {v v' : V} {d : D} (r : Rep K W v d) (h : flatD d = some v') : v = v' ∧ flatV v = true := by
  cases r <;> first | (cases h; exact ⟨rfl, rfl⟩) | cases h
theorem Reps.flat {K : PySem.W.Frag} {W : Wd} : ∀ {vs vs' : List V} {ds : List D}, Reps K W vs ds → flatsD ds = some vs' → vs = vs' ∧ vs.all flatV = true
  | _, _, _, .nil, h => by cases h; exact ⟨rfl, rfl⟩
  | _, _, _, .cons (d := d) (ds := ds) r rs, h => by
    unfold flatsD at h
    cases h1 : flatD d with
    | none => rw [h1] at h; cases h
    | some u =>
      cases h2 : flatsD ds with
      | none => rw [h1, h2] at h; cases h
      | some us =>
        rw [h1, h2] at h
        cases h
        obtain ⟨e1, f1⟩ := r.flat h1
        obtain ⟨e2, f2⟩ := rs.flat h2
        subst e1 e2
        exact ⟨rfl, by rw [List.all_cons, f1, f2]; rfl⟩
def dIn (neg : Bool) : D2 := fun x y S P => ∃ ys v vs, seqOf S y = some ys ∧ flatD x = some v ∧ flatsD ys = some vs ∧ P (.bl (if neg then !inV v vs else inV v vs)) S
theorem do_in {K : PySem.W.Frag} {neg : Bool} : DOp K (rIn K neg) (dIn neg) := by
  intro W S H x y d1 d2 P Q s r1 r2 ⟨ys, v, vs, e1, e2, e3, h⟩ post
  obtain ⟨p, ws, rfl, hq, rr⟩ := r2.seq_of s e1
  obtain ⟨rfl, f1⟩ := r1.flat e2
  obtain ⟨rfl, f2⟩ := rr.flat e3
  exact ⟨p, ws, rfl, hq, f1, f2, post _ _ W H _ h s .refl (.bl _)⟩

/-! ### a < b < c -/
def dChain (R R' : D2) (Ta Tb Tc : DTE) : DTE := fun env S P => Ta env S fun x S1 => Tb env S1 fun y S2 => R x y S2 fun z S3 => dBx (fun k => if k = true then Tc env S3 fun w S4 => R' y w S4 P else P (.bl false) S3) z
theorem lift_chain {r r' : R2} {R R' : D2} (hr : DOp X.K r R) (hr' : DOp X.K r' R') {σ : L2.St} {H : Hp} {Q : VK} (h : liftE X.K W0 (dChain R R' Ta Tb Tc) σ H Q) : tChain r r' (liftE X.K W0 Ta) (liftE X.K W0 Tb) (liftE X.K W0 Tc) σ H Q := by
  obtain ⟨W, env, S, P, hW, sim, er, ht, post⟩ := h
  refine ⟨W, env, S, _, hW, sim, er, ht, fun d1 S1 W1 H1 v1 p1 sim1 le1 rep1 => ⟨W1, env, S1, _, hW.trans le1.le, sim1, er.mono le1.le, p1, fun d2 S2 W2 H2 v2 p2 sim2 le2 rep2 => ?_⟩⟩
  refine hr W2 S2 H2 v1 v2 d1 d2 _ _ sim2 (rep1.mono le2.le) rep2 p2 fun z S3 W3 H3 v3 ⟨k, e, q⟩ sim3 le3 rep3 => ?_
  subst e
  refine ⟨k, rep3.bool, ?_⟩
  cases k with
  | true => exact ⟨W3, env, S3, _, hW.trans (le1.trans (le2.trans le3)).le, sim3, er.mono (le1.trans (le2.trans le3)).le, q, fun d4 S4 W4 H4 v4 p4 sim4 le4 rep4 =>
      hr' W4 S4 H4 v2 v4 d2 d4 P Q sim4 (rep2.mono (le3.trans le4).le) rep4 p4 (post.mono (le1.trans (le2.trans (le3.trans le4))))⟩
  | false => exact post _ _ W3 H3 _ q sim3 (le1.trans (le2.trans le3)) (.bl false)
theorem de_chain {op op' : CmpOp} {r r' : R2} {R R' : D2} (ho : OpR X (compareOp op) r) (ho' : OpR X (compareOp op') r') (hr : DOp X.K r R) (hr' : DOp X.K r' R') (ha : DE X W0 a Ta) (hb : DE X W0 b Tb) (hc : DE X W0 c Tc)
    (hm : lastMarks [op, op'] [b, c] = false := by with_unfolding_all rfl) : DE X W0 (.Compare a [op, op'] [b, c] pos) (dChain R R' Ta Tb Tc) := (pe_chain ho ho' ha hb hc hm).imp fun _ _ _ h => lift_chain hr hr' h

/-! ### tests -/
def dAnd (TA TB : DTT) : DTT := fun env S P => TA env S fun k S1 => if k = true then TB env S1 P else P false S1
def dOr (TA TB : DTT) : DTT := fun env S P => TA env S fun k S1 => if k = true then P true S1 else TB env S1 P
def dNot (TA : DTT) : DTT := fun env S P => TA env S fun k S1 => P (!k) S1
variable {rest : List Expr}
theorem lift_if {TA : DTT} {σ : L2.St} {H : Hp} {W : Wd} {env : Ev} {S : Sto} {F : Bool → Hp → Prop} {G : Bool → Sto → Prop} (hW : W0.le W) (sim : Sim X.K W S H) (er : EnvR X.K W env σ) (ht : TA env S G)
    (h : ∀ k S1 W1 H1, G k S1 → Sim X.K W1 S1 H1 → Stp W H W1 H1 → F k H1) : liftT X.K W0 TA σ H F := ⟨W, env, S, G, hW, sim, er, ht, fun k S1 W1 H1 q s l => h k S1 W1 H1 q s l⟩
theorem dw_and (ha : DT X W0 a TA) (hb : DW X W0 (.BoolOp .And (b :: rest) pos) TB) : DW X W0 (.BoolOp .And (a :: b :: rest) pos) (dAnd TA TB) := (pw_and ha hb).imp fun σ H Q ⟨W, env, S, P, hW, sim, er, ht, post⟩ =>
  lift_if hW sim er ht fun k S1 W1 H1 q s l => by
    cases k with
    | true => exact ⟨W1, env, S1, P, hW.trans l.le, s, er.mono l.le, q, post.mono l⟩
    | false => exact post _ _ W1 H1 q s l
theorem dw_or (ha : DT X W0 a TA) (hb : DW X W0 (.BoolOp .Or (b :: rest) pos) TB) : DW X W0 (.BoolOp .Or (a :: b :: rest) pos) (dOr TA TB) := (pw_or ha hb).imp fun σ H Q ⟨W, env, S, P, hW, sim, er, ht, post⟩ =>
  lift_if hW sim er ht fun k S1 W1 H1 q s l => by
    cases k with
    | false => exact ⟨W1, env, S1, P, hW.trans l.le, s, er.mono l.le, q, post.mono l⟩
    | true => exact post _ _ W1 H1 q s l
theorem dw_and1 (ha : DT X W0 a TA) : DW X W0 (.BoolOp .And [a] pos) TA := pw_and1 ha
theorem dw_or1 (ha : DT X W0 a TA) : DW X W0 (.BoolOp .Or [a] pos) TA := pw_or1 ha
theorem dt_w (h : DW X W0 e TA) : DT X W0 e TA := h.pt
theorem dt_not (ha : DT X W0 a TA) : DT X W0 (.UnaryOp .Not a pos) (dNot TA) := (pt_not ha).imp fun σ H Q ⟨W, env, S, P, hW, sim, er, ht, post⟩ => lift_if hW sim er ht fun k S1 W1 H1 q s l => post _ _ W1 H1 q s l
def dIf (TA : DTT) (Ta Tb : DTE) : DTE := fun env S P => TA env S fun k S1 => if k = true then Ta env S1 P else Tb env S1 P
theorem de_if (hc : DT X W0 c TA) (ha : DE X W0 a Ta) (hb : DE X W0 b Tb) : DE X W0 (.IfExp c a b pos) (dIf TA Ta Tb) := (pe_ifExp hc ha hb).imp fun σ H Q ⟨W, env, S, P, hW, sim, er, ht, post⟩ =>
  lift_if hW sim er ht fun k S1 W1 H1 q s l => by
    cases k with
    | true => exact ⟨W1, env, S1, P, hW.trans l.le, s, er.mono l.le, q, post.mono l⟩
    | false => exact ⟨W1, env, S1, P, hW.trans l.le, s, er.mono l.le, q, post.mono l⟩
/-- and, or, not as values, of bools -/
def dAndV (Ta Tb : DTE) : DTE := fun env S P => Ta env S fun x S1 => dBx (fun k => if k = true then Tb env S1 P else P (.bl false) S1) x
def dOrV (Ta Tb : DTE) : DTE := fun env S P => Ta env S fun x S1 => dBx (fun k => if k = true then P (.bl true) S1 else Tb env S1 P) x
def dNotV (Ta : DTE) : DTE := fun env S P => Ta env S fun x S1 => dBx (fun k => P (.bl (!k)) S1) x
theorem de_one {op} (h : DE X W0 a Ta) : DE X W0 (.BoolOp op [a] pos) Ta := pe_one h
theorem de_and (ha : DE X W0 a Ta) (hb : DE X W0 (.BoolOp .And (b :: rest) pos) Tb) : DE X W0 (.BoolOp .And (a :: b :: rest) pos) (dAndV Ta Tb) := (pe_and ha hb).imp fun σ H Q ⟨W, env, S, P, hW, sim, er, ht, post⟩ =>
  ⟨W, env, S, _, hW, sim, er, ht, fun x S1 W1 H1 v ⟨k, e, q⟩ s l r => by
    subst e
    refine ⟨k, r.bool, ?_⟩
    cases k with
    | true => exact ⟨W1, env, S1, P, hW.trans l.le, s, er.mono l.le, q, post.mono l⟩
    | false => exact post _ _ W1 H1 _ q s l (.bl false)⟩
theorem de_or (ha : DE X W0 a Ta) (hb : DE X W0 (.BoolOp .Or (b :: rest) pos) Tb) : DE X W0 (.BoolOp .Or (a :: b :: rest) pos) (dOrV Ta Tb) := (pe_or ha hb).imp fun σ H Q ⟨W, env, S, P, hW, sim, er, ht, post⟩ =>
  ⟨W, env, S, _, hW, sim, er, ht, fun x S1 W1 H1 v ⟨k, e, q⟩ s l r => by
    subst e
    refine ⟨k, r.bool, ?_⟩
    cases k with
    | false => exact ⟨W1, env, S1, P, hW.trans l.le, s, er.mono l.le, q, post.mono l⟩
    | true => exact post _ _ W1 H1 _ q s l (.bl true)⟩
theorem de_not (ha : DE X W0 a Ta) : DE X W0 (.UnaryOp .Not a pos) (dNotV Ta) := (pe_not ha).imp fun σ H Q ⟨W, env, S, P, hW, sim, er, ht, post⟩ =>
  ⟨W, env, S, _, hW, sim, er, ht, fun x S1 W1 H1 v ⟨k, e, q⟩ s l r => by
    subst e
    exact ⟨k, r.bool, post _ _ W1 H1 _ q s l (.bl _)⟩⟩

/-! ### arguments, displays -/
def dNil : DTA := fun _ S P => P [] S
def dCons (Ta : DTE) (TR : DTA) : DTA := fun env S P => Ta env S fun x S1 => TR env S1 fun xs S2 => P (x :: xs) S2
def xStar (F : List D → Prop) (x : D) (S : Sto) : Prop := ∃ xs, seqOf S x = some xs ∧ F xs
def dStar (Ta : DTE) (TR : DTA) : DTA := fun env S P => Ta env S fun x S1 => xStar (fun xs => TR env S1 fun ys S2 => P (xs ++ ys) S2) x S1
theorem da_nil : DA X W0 [] dNil := pa_nil.imp fun σ H Q ⟨W, env, S, P, hW, sim, er, ht, post⟩ => post [] S W H [] ht sim .refl .nil
theorem da_cons (ha : DE X W0 a Ta) (hr : DA X W0 es TR) (hs : starEach (a :: es) X.env = (false, eval a X.env) :: starEach es X.env := by rfl) : DA X W0 (a :: es) (dCons Ta TR) :=
  (pa_cons ha hr hs).imp fun σ H Q ⟨W, env, S, P, hW, sim, er, ht, post⟩ => ⟨W, env, S, _, hW, sim, er, ht, fun x S1 W1 H1 v q s l r =>
    ⟨W1, env, S1, _, hW.trans l.le, s, er.mono l.le, q, fun xs S2 W2 H2 vs q2 s2 l2 r2 => post _ _ W2 H2 _ q2 s2 (l.trans l2) (.cons (r.mono l2.le) r2)⟩⟩
theorem da_star (ha : DE X W0 a Ta) (hr : DA X W0 es TR) (hs : starEach (.Starred a p :: es) X.env = (true, eval a X.env) :: starEach es X.env := by rfl) : DA X W0 (.Starred a p :: es) (dStar Ta TR) :=
  (StX.pa_star ha hr hs).imp fun σ H Q ⟨W, env, S, P, hW, sim, er, ht, post⟩ => ⟨W, env, S, _, hW, sim, er, ht, fun x S1 W1 H1 v ⟨xs, e, q⟩ s l r => by
    obtain ⟨a1, vs, rfl, hq, rr⟩ := r.seq_of s e
    exact ⟨a1, vs, rfl, hq.symm, W1, env, S1, _, hW.trans l.le, s, er.mono l.le, q, fun ys S2 W2 H2 ws q2 s2 l2 r2 => post _ _ W2 H2 _ q2 s2 (l.trans l2) ((rr.mono l2.le).app r2)⟩⟩
def dTup (TR : DTA) : DTE := fun env S P => TR env S fun xs S1 => xs.length ≤ sizeLine ∧ P (.tup xs) S1
def dLst (TR : DTA) : DTN := fun env S P => TR env S fun xs S1 => xs.length ≤ sizeLine ∧ P xs S1
theorem de_tup {x1} (h : DA X W0 es TR) : DE X W0 (.Tuple es x1 pos) (dTup TR) := (pe_tup h).imp fun σ H Q ⟨W, env, S, P, hW, sim, er, ht, post⟩ =>
  ⟨W, env, S, _, hW, sim, er, ht, fun xs S1 W1 H1 vs ⟨hl, q⟩ s l r => ⟨by rw [r.length]; exact hl, (post.mono l).newT s r q⟩⟩
theorem dn_lst (h : DA X W0 es TR) : DN X W0 (.List es pos) (dLst TR) := (pe_lst h).imp fun σ H Q ⟨W, env, S, P, hW, sim, er, ht, post⟩ =>
  ⟨W, env, S, _, hW, sim, er, ht, fun xs S1 W1 H1 vs ⟨hl, q⟩ s l r => ⟨by rw [r.length]; exact hl, (post.mono l).laid q s r⟩⟩

/-! ### items, slices -/
theorem Reps.atI {K : PySem.W.Frag} {W : Wd} {vs : List V} {ds : List D} {i : Int} {d : D} (r : Reps K W vs ds) (h : L2.atI ds i = some d) : ∃ v, L2.atI vs i = some v ∧ Rep K W v d := by
  unfold L2.atI at h ⊢
  rw [r.length]
  cases hx : ixN ds.length i with
  | none => rw [hx] at h; cases h
  | some j =>
    rw [hx] at h
    exact r.get h
def dIx : D2 := fun x y S P => ∃ xs i d, seqOf S x = some xs ∧ y = .int i ∧ L2.atI xs i = some d ∧ P d S
def rIxS2 (K : PySem.W.Frag) : R2 := fun x y H Q => rIxL K x y H Q ∨ rIxT K x y H Q
theorem do_ix {K : PySem.W.Frag} : DOp K (rIxS2 K) dIx := by
  intro W S H x y d1 d2 P Q s r1 r2 ⟨xs, i, d, e1, e2, e3, h⟩ post
  subst e2
  obtain ⟨q, vs, rfl, hq, rr⟩ := r1.seq_of s e1
  obtain ⟨v, h1, h2⟩ := rr.atI e3
  rcases hq with hq | hq
  · exact .inl ⟨q, vs, i, v, rfl, r2.intV, hq, h1, post _ _ W H _ h s .refl h2⟩
  · exact .inr ⟨q, vs, i, v, rfl, r2.intV, hq, h1, post _ _ W H _ h s .refl h2⟩
theorem de_ix (ha : DE X W0 a Ta) (hb : DE X W0 b Tb) (hs : PlainIx b) : DE X W0 (.Subscript a b pos) (dOp dIx Ta Tb) := (pe_ix (IxR.or ix_list ix_tup) ha hb hs).imp fun _ _ _ h => lift_op do_ix h
abbrev DTO := Ev → Sto → (Option Int → Sto → Prop) → Prop
def liftO (K : PySem.W.Frag) (W0 : Wd) (T : DTO) : TO := fun σ H Q => ∃ W env S P, W0.le W ∧ Sim K W S H ∧ EnvR K W env σ ∧ T env S P ∧ ∀ o S' W' H', P o S' → Sim K W' S' H' → Stp W H W' H' → Q o H'
abbrev DO (X : Cx) (W0 : Wd) (o : Option Expr) (T : DTO) : Prop := PO X o (liftO X.K W0 T)
theorem _root_.L2.PO.imp {o : Option Expr} {t t' : TO} (h : PO X o t) (i : ∀ σ H Q, t' σ H Q → t σ H Q) : PO X o t' := ⟨fun pins s σ H Q I q => h.run pins s σ H Q I (i σ H Q q)⟩
def dNoPart : DTO := fun _ S P => P none S
def xInt (F : Int → Prop) (x : D) : Prop := ∃ i, x = .int i ∧ F i
def dPart (Ta : DTE) : DTO := fun env S P => Ta env S fun x S1 => xInt (fun i => P (some i) S1) x
theorem do_none : DO X W0 none dNoPart := po_none.imp fun σ H Q ⟨W, env, S, P, hW, sim, er, ht, post⟩ => post none S W H ht sim .refl
theorem do_some (h : DE X W0 a Ta) : DO X W0 (some a) (dPart Ta) := (po_some h).imp fun σ H Q ⟨W, env, S, P, hW, sim, er, ht, post⟩ => ⟨W, env, S, _, hW, sim, er, ht, fun x S1 W1 H1 v ⟨i, e, q⟩ s l r => by
  subst e
  exact ⟨i, r.intV, post _ _ W1 H1 q s l⟩⟩
def cutD {α : Type} (xs : List α) (lo hi : Option Int) : List α := (xs.drop (HT.sIx xs.length 0 lo)).take (HT.sIx xs.length xs.length hi - HT.sIx xs.length 0 lo)
theorem Reps.cut {K : PySem.W.Frag} {W : Wd} {vs : List V} {ds : List D} (r : Reps K W vs ds) (lo hi : Option Int) : Reps K W (cutV vs lo hi) (cutD ds lo hi) := by
  unfold cutV cutD
  rw [r.length]
  exact (r.drop _).take _
variable {lo hi : Option Expr} {Tl Th : DTO} {p2 : Pos}
def xSlL : D → Option Int → Option Int → Sto → (List D → Sto → Prop) → Prop := fun x l u S P => ∃ xs, lstOf S x = some xs ∧ P (cutD xs l u) S
def dSl (R : D → Option Int → Option Int → Sto → (List D → Sto → Prop) → Prop) (Ta : DTE) (Tl Th : DTO) : DTN := fun env S P => Ta env S fun x S1 => Tl env S1 fun l S2 => Th env S2 fun u S3 => R x l u S3 P
theorem dn_slice (ha : DE X W0 a Ta) (hl : DO X W0 lo Tl) (hh : DO X W0 hi Th) : DN X W0 (.Subscript a (.Slice lo hi none p2) pos) (dSl xSlL Ta Tl Th) :=
  (pe_slice sl_list ha hl hh).imp fun σ H Q ⟨W, env, S, P, hW, sim, er, ht, post⟩ => ⟨W, env, S, _, hW, sim, er, ht, fun x S1 W1 H1 v q s1 l1 r1 => ⟨W1, env, S1, _, hW.trans l1.le, s1, er.mono l1.le, q, fun l S2 W2 H2 q2 s2 l2 =>
    ⟨W2, env, S2, _, hW.trans (l1.trans l2).le, s2, er.mono (l1.trans l2).le, q2, fun u S3 W3 H3 ⟨xs, e, q3⟩ s3 l3 => by
      obtain ⟨a1, vs, rfl, hq, rr⟩ := (r1.mono (l2.trans l3).le).lst_of s3 e
      exact ⟨a1, vs, rfl, SqL.of hq, (post.mono (l1.trans (l2.trans l3))).laid q3 s3 (rr.cut l u)⟩⟩⟩⟩
/-- a tuple's slice (the whole of it is the tuple itself) -/
def xSlT : D → Option Int → Option Int → Sto → DP → Prop := fun x l u S P => ∃ xs, x = .tup xs ∧ P (.tup (cutD xs l u)) S
def dSlT (Ta : DTE) (Tl Th : DTO) : DTE := fun env S P => Ta env S fun x S1 => Tl env S1 fun l S2 => Th env S2 fun u S3 => xSlT x l u S3 P
theorem de_sliceT (ha : DE X W0 a Ta) (hl : DO X W0 lo Tl) (hh : DO X W0 hi Th) : DE X W0 (.Subscript a (.Slice lo hi none p2) pos) (dSlT Ta Tl Th) :=
  (pe_slice sl_tupA ha hl hh).imp fun σ H Q ⟨W, env, S, P, hW, sim, er, ht, post⟩ => ⟨W, env, S, _, hW, sim, er, ht, fun x S1 W1 H1 v q s1 l1 r1 => ⟨W1, env, S1, _, hW.trans l1.le, s1, er.mono l1.le, q, fun l S2 W2 H2 q2 s2 l2 =>
    ⟨W2, env, S2, _, hW.trans (l1.trans l2).le, s2, er.mono (l1.trans l2).le, q2, fun u S3 W3 H3 ⟨xs, e, q3⟩ s3 l3 => by
      subst e
      obtain ⟨a1, vs, rfl, hq, rr⟩ := (r1.mono (l2.trans l3).le).tupV
      have pm := post.mono (l1.trans (l2.trans l3))
      refine ⟨a1, vs, rfl, same_sqt s3.same hq, fun hw => ?_, fun _ => pm.newT s3 (rr.cut l u) q3⟩
      rw [rr.length] at hw
      have e : cutD xs l u = xs := by
        unfold cutD
        rw [hw.1, hw.2, List.drop_zero, Nat.sub_zero, List.take_length]
      rw [e] at q3
      exact pm _ _ W3 H3 _ q3 s3 .refl (.tup hq rr)⟩⟩⟩
end
end DL

namespace DL
open PySem PySem.Spec PyProof.Rows L2

/-! ### targets: which slots they may change -/
structure AgO (ss : List Nat) (σ σ' : L2.St) : Prop where
  len : σ'.length = σ.length
  out : ∀ j, j ∉ ss → σ'[j]? = σ[j]?
theorem AgO.refl {ss : List Nat} {σ : L2.St} : AgO ss σ σ := ⟨rfl, fun _ _ => rfl⟩
theorem AgO.trans {s1 s2 : List Nat} {σ σ1 σ2 : L2.St} (a : AgO s1 σ σ1) (b : AgO s2 σ1 σ2) : AgO (s1 ++ s2) σ σ2 :=
  ⟨b.len.trans a.len, fun j h => (b.out j fun z => h (List.mem_append_right _ z)).trans (a.out j fun z => h (List.mem_append_left _ z))⟩
theorem wipe_len (σ : L2.St) : ∀ vs : List Nat, (wipe σ vs).length = σ.length
  | [] => rfl
  | v :: vs => by
    show ((wipe σ vs).set v none).length = _
    rw [List.length_set]
    exact wipe_len σ vs
theorem wipe_get (σ : L2.St) : ∀ (vs : List Nat) (j : Nat), (wipe σ vs)[j]? = if j ∈ vs then (if j < σ.length then some none else none) else σ[j]?
  | [], j => by simp [wipe]
  | v :: vs, j => by
    show ((wipe σ vs).set v none)[j]? = _
    by_cases hj : j = v
    · subst hj
      by_cases hl : j < σ.length
      · rw [List.getElem?_set_self (by rw [wipe_len]; exact hl)]
        simp [hl]
      · rw [List.getElem?_eq_none (by rw [List.length_set, wipe_len]; omega)]
        simp [hl]
    · rw [List.getElem?_set_ne (Ne.symm hj), wipe_get σ vs j]
      simp [hj]
theorem AgO.wipe {ss vs : List Nat} {σ σ' : L2.St} (h : AgO ss σ σ') (hs : ∀ i ∈ ss, i ∈ vs) : L2.wipe σ' vs = L2.wipe σ vs := by
  refine List.ext_getElem? fun j => ?_
  rw [wipe_get, wipe_get, h.len]
  by_cases hj : j ∈ vs
  · rw [if_pos hj, if_pos hj]
  · rw [if_neg hj, if_neg hj, h.out j fun z => hj (hs j z)]
theorem wipe_wipe (σ : L2.St) (vs : List Nat) : L2.wipe (L2.wipe σ vs) vs = L2.wipe σ vs := by
  refine List.ext_getElem? fun j => ?_
  rw [wipe_get, wipe_get, wipe_len]
  by_cases hj : j ∈ vs
  · rw [if_pos hj, if_pos hj]
  · rw [if_neg hj, if_neg hj]
def wipeE (env : Ev) : List Nat → Ev
  | [] => env
  | v :: vs => (wipeE env vs).set v none
theorem EnvR.wipe {K : PySem.W.Frag} {W : Wd} {env : Ev} {σ : L2.St} (e : EnvR K W env σ) : ∀ vs : List Nat, EnvR K W (wipeE env vs) (L2.wipe σ vs)
  | [] => e
  | v :: vs => (EnvR.wipe e vs).unset

def PostG (K : PySem.W.Frag) (W : Wd) (H : Hp) (ss : List Nat) (σ : L2.St) (P : Ev → Sto → Prop) (Q : L2.St → Hp → Prop) : Prop := ∀ env S' W' H' σ', P env S' → Sim K W' S' H' → Stp W H W' H' → EnvR K W' env σ' → AgO ss σ σ' → Q σ' H'
def liftG (K : PySem.W.Frag) (W0 : Wd) (ss : List Nat) (T : DTG) : TG := fun v σ H Q => ∃ W env S P d, W0.le W ∧ Sim K W S H ∧ EnvR K W env σ ∧ Rep K W v d ∧ T d env S P ∧ PostG K W H ss σ P Q
def liftGs (K : PySem.W.Frag) (W0 : Wd) (ss : List Nat) (T : DTGs) : TGs := fun vs σ H Q => ∃ W env S P ds, W0.le W ∧ Sim K W S H ∧ EnvR K W env σ ∧ Reps K W vs ds ∧ T ds env S P ∧ PostG K W H ss σ P Q
abbrev DG (X : Cx) (W0 : Wd) (ss : List Nat) (e : Expr) (T : DTG) : Prop := PG X e (liftG X.K W0 ss T)
abbrev DGs (X : Cx) (W0 : Wd) (ss : List Nat) (es : List Expr) (T : DTGs) : Prop := PGs X es (liftGs X.K W0 ss T)

section
variable {X : Cx} {W0 : Wd} {a b c e tg : Expr} {es : List Expr} {Ta Tb Tc T : DTE} {TA TB : DTT} {TR : DTA} {pos p : Pos} {st : Stmt} {sts : List Stmt} {TS TU : DTS} {ss s1 s2 : List Nat} {G : DTG} {Gs : DTGs}

def gNm (i : Nat) : DTG := fun d env S P => P (env.set i (some d)) S
theorem dg_name {i : Nat} {x : Str} (h : PG X (.Name x pos) (gName i)) : DG X W0 [i] (.Name x pos) (gNm i) := h.imp fun v σ H Q ⟨W, env, S, P, d, hW, sim, er, r, ht, post⟩ =>
  post _ S W H _ ht sim .refl (er.set r) ⟨List.length_set, fun j hj => List.getElem?_set_ne fun z => hj (by rw [z]; exact List.mem_singleton.mpr rfl)⟩
def gNl : DTGs := fun ds env S P => ds = [] ∧ P env S
def gCs (G : DTG) (Gs : DTGs) : DTGs := fun ds env S P => ∃ d r, ds = d :: r ∧ G d env S fun env' S' => Gs r env' S' P
theorem dgs_nil : DGs X W0 [] [] gNl := pgs_nil.imp fun vs σ H Q ⟨W, env, S, P, ds, hW, sim, er, r, ⟨e, ht⟩, post⟩ => by
  subst e
  cases r
  exact ⟨rfl, post _ S W H _ ht sim .refl er .refl⟩
theorem dgs_cons (h1 : DG X W0 s1 e G) (h2 : DGs X W0 s2 es Gs) (hs : (assignEach (e :: es) X.env).map (·.2) = assign e X.env :: (assignEach es X.env).map (·.2) := by rfl) : DGs X W0 (s1 ++ s2) (e :: es) (gCs G Gs) :=
  (pgs_cons h1 h2 hs).imp fun vs σ H Q ⟨W, env, S, P, ds, hW, sim, er, r, ⟨d, rr, e, ht⟩, post⟩ => by
    subst e
    cases r with
    | cons r1 r2 => exact ⟨_, _, rfl, W, env, S, _, d, hW, sim, er, r1, ht, fun env1 S1 W1 H1 σ1 q1 sm l1 er1 ag1 => ⟨W1, env1, S1, P, rr, hW.trans l1.le, sm, er1, r2.mono l1.le, q1, fun env2 S2 W2 H2 σ2 q2 sm2 l2 er2 ag2 =>
        post env2 S2 W2 H2 σ2 q2 sm2 (l1.trans l2) er2 (ag1.trans ag2)⟩⟩
def gTp (n : Nat) (Gs : DTGs) : DTG := fun d env S P => ∃ ds, d = .tup ds ∧ ds.length = n ∧ Gs ds env S P
theorem dg_tup {k n : Nat} (hc : X.calm = true) (h : DGs X W0 ss es Gs) (hn : (assignEach es X.env).length = n := by rfl) (hst : (assignEach es X.env).findIdx? (·.1) = none := by rfl) : DG X W0 ss (.Tuple es k pos) (gTp n Gs) :=
  (pg_tup hc h hn hst).imp fun v σ H Q ⟨W, env, S, P, d, hW, sim, er, r, ⟨ds, e, hl, ht⟩, post⟩ => by
    subst e
    obtain ⟨a1, vs, rfl, hq, rr⟩ := r.tupV
    exact ⟨a1, vs, rfl, same_sqt sim.same hq, by rw [rr.length]; exact hl, W, env, S, P, ds, hW, sim, er, rr, ht, post⟩

/-! ### o[i] = v, of a store's list -/
def setAt (x y d : D) (S : Sto) (P : Sto → Prop) : Prop := ∃ i xs k j, x = .ref i ∧ S[i]? = some (.lst xs) ∧ y = .int k ∧ ixN xs.length k = some j ∧ P (S.set i (.lst (xs.set j d)))
def gSb (Ta Tb : DTE) : DTG := fun d env S P => Ta env S fun x S1 => Tb env S1 fun y S2 => setAt x y d S2 fun S3 => P env S3
theorem dg_sub (ha : DE X W0 a Ta) (hb : DE X W0 b Tb) (h : ∀ {to ti : TE}, PE X a to → PE X b ti → PG X (.Subscript a b pos) (gSub to ti rSetL)) : DG X W0 [] (.Subscript a b pos) (gSb Ta Tb) :=
  (h ha hb).imp fun v σ H Q ⟨W, env, S, P, d, hW, sim, er, r, ht, post⟩ => ⟨W, env, S, _, hW, sim, er, ht, fun x S1 W1 H1 v1 q1 sm1 l1 r1 => ⟨W1, env, S1, _, hW.trans l1.le, sm1, er.mono l1.le, q1, fun y S2 W2 H2 v2 q2 sm2 l2 r2 => by
    obtain ⟨i, xs, k, j, rfl, hS, rfl, hj, q⟩ := q2
    have r1' := r1.mono l2.le
    cases r1' with
    | ref hi =>
      obtain ⟨hB, vs, hH, rr⟩ := sm2.obj i _ _ hi hS
      refine ⟨_, vs, k, j, rfl, r2.intV, hH, by rw [rr.length]; exact hj, ?_⟩
      exact post env _ W2 _ σ q (sm2.setO hi hS hB ⟨hB, _, upd_same, rr.set (r.mono (l1.trans l2).le) j⟩) ((l1.trans l2).trans (.setO hi)) (er.mono (l1.trans l2).le) .refl⟩⟩

/-! ### statements -/
def dDrop (T : DTE) : DTS := fun E env S => T env S fun _ S1 => E.nx env S1
theorem ds_expr (he : DE X W0 e T) (hs : swapsWith e none pos.line X.env = pure false := by rfl) : DS X W0 (.Expr e pos) (dDrop T) := (ps_expr he hs).imp fun D σ H ⟨W, env, S, E, hW, sim, er, ht, post⟩ =>
  ⟨W, env, S, _, hW, sim, er, ht, fun d S1 W1 H1 v q s l r => post.nx env S1 W1 H1 σ q s l (er.mono l.le)⟩
def dRet (T : DTE) : DTS := fun E env S => T env S E.rt
theorem ds_ret (he : DE X W0 e T) : DS X W0 (.Return (some e) pos) (dRet T) := (ps_ret he).imp fun D σ H ⟨W, env, S, E, hW, sim, er, ht, post⟩ => ⟨W, env, S, _, hW, sim, er, ht, post.rt⟩
theorem ds_retN : DS X W0 (.Return none pos) (fun E _ S => E.rt .non S) := ps_retN.imp fun D σ H ⟨W, env, S, E, hW, sim, er, ht, post⟩ => post.rt _ _ W H _ ht sim .refl .non
def dNext : DTS := fun E env S => E.nx env S
theorem dss_nil : DSs X W0 [] dNext := pss_nil.imp fun D σ H ⟨W, env, S, E, hW, sim, er, ht, post⟩ => post.nx env S W H σ ht sim .refl er
theorem ds_pass : DS X W0 (.Pass pos) dNext := ps_pass.imp fun D σ H ⟨W, env, S, E, hW, sim, er, ht, post⟩ => post.nx env S W H σ ht sim .refl er
theorem ds_break : DS X W0 (.Break pos) (fun E env S => E.bk env S) := ps_break.imp fun D σ H ⟨W, env, S, E, hW, sim, er, ht, post⟩ => post.bk env S W H σ ht sim .refl er
theorem ds_cont : DS X W0 (.Continue pos) (fun E env S => E.ct env S) := ps_continue.imp fun D σ H ⟨W, env, S, E, hW, sim, er, ht, post⟩ => post.ct env S W H σ ht sim .refl er
def dSeq (T U : DTS) : DTS := fun E env S => T { E with nx := U E } env S
theorem dss_cons (h1 : DS X W0 st TS) (h2 : DSs X W0 sts TU) : DSs X W0 (st :: sts) (dSeq TS TU) := (pss_cons h1 h2).imp fun D σ H ⟨W, env, S, E, hW, sim, er, ht, post⟩ =>
  ⟨W, env, S, _, hW, sim, er, ht, ⟨fun env1 S1 W1 H1 σ1 q s l er1 => ⟨W1, env1, S1, E, hW.trans l.le, s, er1, q, post.mono l⟩, post.rt, post.bk, post.ct⟩⟩
theorem dss_one (h1 : DS X W0 st TS) : DSs X W0 [st] TS := pss_one h1
def dNever : DTS := fun _ _ _ => False
theorem ds_never : DS X W0 st dNever := ps_never.imp fun _ _ _ ⟨_, _, _, _, _, _, _, h, _⟩ => h.elim
theorem dss_never : DSs X W0 sts dNever := pss_never.imp fun _ _ _ ⟨_, _, _, _, _, _, _, h, _⟩ => h.elim
def dIfS (TA : DTT) (T U : DTS) : DTS := fun E env S => TA env S fun k S1 => if k = true then T E env S1 else U E env S1
theorem ds_if {s1 s2 : List Stmt} (hc : DT X W0 c TA) (ha : DSs X W0 s1 TS) (hb : DSs X W0 s2 TU) : DS X W0 (.If c s1 s2 pos) (dIfS TA TS TU) := (ps_if hc ha hb).imp fun D σ H ⟨W, env, S, E, hW, sim, er, ht, post⟩ =>
  lift_if hW sim er ht fun k S1 W1 H1 q s l => by
    cases k with
    | true => exact ⟨W1, env, S1, E, hW.trans l.le, s, er.mono l.le, q, post.mono l⟩
    | false => exact ⟨W1, env, S1, E, hW.trans l.le, s, er.mono l.le, q, post.mono l⟩
def dAsg (T : DTE) (G : DTG) : DTS := fun E env S => T env S fun d S1 => G d env S1 E.nx
theorem lift_asg {D : Ends} {σ : L2.St} {H : Hp} (h : liftS X.K W0 (dAsg T G) D σ H) : tAsg (liftE X.K W0 T) (liftG X.K W0 ss G) D σ H := by
  obtain ⟨W, env, S, E, hW, sim, er, ht, post⟩ := h
  exact ⟨W, env, S, _, hW, sim, er, ht, fun d S1 W1 H1 v q s l r => ⟨W1, env, S1, _, d, hW.trans l.le, s, er.mono l.le, r, q, fun env2 S2 W2 H2 σ2 q2 sm2 l2 er2 _ => post.nx env2 S2 W2 H2 σ2 q2 sm2 (l.trans l2) er2⟩⟩
theorem ds_asg (he : DE X W0 e T) (hg : DG X W0 ss tg G) (h : ∀ {te : TE} {g : TG}, PE X e te → PG X tg g → PS X (.Assign [tg] e pos) (tAsg te g)) : DS X W0 (.Assign [tg] e pos) (dAsg T G) := (h he hg).imp fun _ _ _ q => lift_asg q
/-- name = e -/
theorem ds_set {i : Nat} {x : Str} {pos' : Pos} (he : DE X W0 e T) (h : ∀ {te : TE}, PE X e te → PS X (.Assign [.Name x pos'] e pos) (tAsg te (gName i))) : DS X W0 (.Assign [.Name x pos'] e pos) (dAsg T (gNm i)) :=
  (h he).imp fun D σ H ⟨W, env, S, E, hW, sim, er, ht, post⟩ => ⟨W, env, S, _, hW, sim, er, ht, fun d S1 W1 H1 v q s l r => post.nx _ S1 W1 H1 _ q s l ((er.mono l.le).set r)⟩
def dAug (i : Nat) (T : DTE) (f : Int → Int → Int) : DTS := fun E env S => ∃ a, env[i]? = some (some (.int a)) ∧ T env S fun y S1 => xInt (fun b => E.nx (env.set i (some (.int (f a b)))) S1) y
theorem ds_aug {i : Nat} {f : Int → Int → Int} (he : DE X W0 e T) (h : ∀ {te : TE}, PE X e te → PS X st (tAug i te (ipI f))) : DS X W0 st (dAug i T f) :=
  (h he).imp fun D σ H ⟨W, env, S, E, hW, sim, er, ⟨a, ha, ht⟩, post⟩ => by
    obtain ⟨v, hv, r⟩ := er.get i _ ha
    cases r
    exact ⟨_, hv, W, env, S, _, hW, sim, er, ht, fun d S1 W1 H1 w ⟨b, e, q⟩ s l rr => by
      subst e
      exact ⟨a, b, rfl, rr.intV, post.nx _ S1 W1 H1 _ q s l ((er.mono l.le).set (.int _))⟩⟩
/-- while: a word with its measure -/
def dWhile (TA : DTT) (TB : DTS) : DTS := fun E env S => ∃ I : Nat → Ev → Sto → Prop, (∃ m, I m env S) ∧ ∀ m env S, I m env S → TA env S fun k S1 => if k = true then TB { E with nx := fun e s => ∃ m', m' < m ∧ I m' e s, ct := fun e s => ∃ m', m' < m ∧ I m' e s, bk := E.nx } env S1 else E.nx env S1
theorem ds_while {body : List Stmt} (hp : PassesOwn (model X.prog X.w) X.A X.env X.xe) (hc : DT X W0 c TA) (hb : DSs X W0 body TS) : DS X W0 (.While c body [] pos) (dWhile TA TS) := (ps_while hp hc hb).imp fun D σ H ⟨W, env, S, E, hW, sim, er, ⟨I, ⟨m0, i0⟩, turn⟩, post⟩ => by
  refine ⟨fun m σ' H' => ∃ W' env' S', Stp W H W' H' ∧ Sim X.K W' S' H' ∧ EnvR X.K W' env' σ' ∧ I m env' S', ⟨m0, W, env, S, .refl, sim, er, i0⟩, ?_⟩
  rintro m σ1 H1 ⟨W1, env1, S1, l1, sm1, er1, i1⟩
  refine lift_if (hW.trans l1.le) sm1 er1 (turn m env1 S1 i1) fun k S2 W2 H2 q s l => ?_
  have l2 := l1.trans l
  cases k with
  | true => exact ⟨_, fun σ' H' z => z, W2, env1, S2, _, hW.trans l2.le, s, er1.mono l.le, q, ⟨fun env3 S3 W3 H3 σ3 ⟨m', hm, i3⟩ sm3 l3 er3 => ⟨m', hm, W3, env3, S3, l2.trans l3, sm3, er3, i3⟩, (post.mono l2).rt, (post.mono l2).nx,
      fun env3 S3 W3 H3 σ3 ⟨m', hm, i3⟩ sm3 l3 er3 => ⟨m', hm, W3, env3, S3, l2.trans l3, sm3, er3, i3⟩⟩⟩
  | false => exact post.nx env1 S2 W2 H2 σ1 q s l2 (er1.mono l.le)

/-! ### what is walked -/
structure Gives (K : PySem.W.Frag) (W : Wd) (H : Hp) (ok : Sto → Prop) (ds : List D) (J : It) : Prop where
  ex : ∃ (Gd : Hp → Prop) (Y : Nat → Hp → V → Hp → Prop), Walk J ds.length Gd Y ∧ (∀ W' S' H', Stp W H W' H' → Sim K W' S' H' → ok S' → Gd H') ∧
    ∀ i d W' S' H' x H'', ds[i]? = some d → Stp W H W' H' → Sim K W' S' H' → ok S' → Y i H' x H'' → ∃ W'', Sim K W'' S' H'' ∧ Stp W' H' W'' H'' ∧ Rep K W'' x d
abbrev DTI := Ev → Sto → (List D → (Sto → Prop) → Sto → Prop) → Prop
def liftI (K : PySem.W.Frag) (W0 : Wd) (T : DTI) : TI := fun σ H R => ∃ W env S P, W0.le W ∧ Sim K W S H ∧ EnvR K W env σ ∧ T env S P ∧ ∀ ds ok S' W' H' J, P ds ok S' → Sim K W' S' H' → Stp W H W' H' → Gives K W' H' ok ds J → R J H'
abbrev DI (X : Cx) (W0 : Wd) (tg iter : Expr) (T : DTI) : Prop := PI X tg iter (liftI X.K W0 T)
theorem _root_.L2.PI.imp {iter : Expr} {t t' : TI} (h : PI X tg iter t) (i : ∀ σ H R, t' σ H R → t σ H R) : PI X tg iter t' := ⟨fun pins s σ H R I q => h.run pins s σ H R I (i σ H R q)⟩
abbrev IP := List D → (Sto → Prop) → Sto → Prop
def xTp (P : IP) (d : D) (S : Sto) : Prop := ∃ ds, d = .tup ds ∧ P ds (fun _ => True) S
def iTp (T : DTE) : DTI := fun env S P => T env S (xTp P)
theorem di_tup (h : DE X W0 e T) : DI X W0 tg e (iTp T) := (pi_tup h).imp fun σ H R ⟨W, env, S, P, hW, sim, er, ht, post⟩ => ⟨W, env, S, _, hW, sim, er, ht, fun d S1 W1 H1 v ⟨ds, e, q⟩ s l r => by
  subst e
  obtain ⟨a1, vs, rfl, hq, rr⟩ := r.tupV
  refine ⟨a1, rfl, ⟨vs, same_sqt s.same hq⟩, post ds _ S1 W1 H1 _ q s l ⟨_, _, by rw [← rr.length]; exact walk_tup (xs := vs), fun W' S' H' l' s' _ => same_sqt s'.same (same_sqt l'.le.same hq), ?_⟩⟩
  rintro i d W' S' H' x H'' hd l' s' _ ⟨rfl, hx⟩
  obtain ⟨v, h1, h2⟩ := rr.get hd
  rw [hx] at h1
  cases h1
  exact ⟨W', s', .refl, h2.mono l'.le⟩⟩
/-- a list: a pure one, the script, or one of the store's that stays as it is -/
def lstAny (S : Sto) (d : D) (ds : List D) (ok : Sto → Prop) : Prop := match d with
  | .lst xs => ds = xs ∧ ok = fun _ => True
  | .scr ns => ds = ns.map .int ∧ ok = fun _ => True
  | .ref i => S[i]? = some (.lst ds) ∧ ok = fun S' => S'[i]? = some (.lst ds)
  | _ => False
theorem reps_ints {K : PySem.W.Frag} {W : Wd} : ∀ ns : List Int, Reps K W (ns.map V.int) (ns.map D.int)
  | [] => .nil
  | n :: ns => .cons (.int n) (reps_ints ns)
def xLs (P : IP) (d : D) (S : Sto) : Prop := ∃ ds ok, lstAny S d ds ok ∧ P ds ok S
def iLs (T : DTE) : DTI := fun env S P => T env S (xLs P)
theorem di_list (h : DE X W0 e T) : DI X W0 tg e (iLs T) := (pi_list h).imp fun σ H R ⟨W, env, S, P, hW, sim, er, ht, post⟩ => ⟨W, env, S, _, hW, sim, er, ht, fun d S1 W1 H1 v ⟨ds, ok, e, q⟩ s l r => by
  have at_ : ∀ {a1 : Addr} {ds' : List D}, (∀ W' S' H', Stp W1 H1 W' H' → Sim X.K W' S' H' → ok S' → ∃ vs, SqL X.K H' a1 vs ∧ Reps X.K W' vs ds') → ok S1 → P ds' ok S1 → ∃ a, V.ref a1 = .ref a ∧ (∃ xs, SqL X.K H1 a xs) ∧ R (Itl X.K a) H1 := fun {a1 ds'} h2 h3 q => by
    obtain ⟨vs, h1, _⟩ := h2 W1 S1 H1 .refl s h3
    refine ⟨a1, rfl, ⟨vs, h1⟩, post ds' _ S1 W1 H1 _ q s l ⟨fun H' => ∃ us, SqL X.K H' a1 us ∧ us.length = ds'.length, fun i H' x H'' => H'' = H' ∧ ∀ us, SqL X.K H' a1 us → us[i]? = some x,
      ⟨fun i H' hi ⟨us, hu, he⟩ => ⟨us, us[i]'(by omega), hu, List.getElem?_eq_getElem _⟩, fun H' ⟨us, hu, he⟩ => ⟨us, hu, by omega⟩, fun _ _ _ _ _ _ y => y⟩, fun W' S' H' l' s' o' => ?_, ?_⟩⟩
    · obtain ⟨us, hu, ru⟩ := h2 W' S' H' l' s' o'
      exact ⟨us, hu, ru.length⟩
    · rintro i d W' S' H' x H'' hd l' s' o' ⟨rfl, hx⟩
      obtain ⟨us, hu, ru⟩ := h2 W' S' H'' l' s' o'
      obtain ⟨v, g1, g2⟩ := ru.get hd
      rw [hx us hu] at g1
      cases g1
      exact ⟨W', s', .refl, g2⟩
  cases r with
  | lst h1 rr =>
    obtain ⟨rfl, rfl⟩ := e
    exact at_ (fun W' S' H' l' s' _ => ⟨_, SqL.of (s'.same _ _ (l'.le.same _ _ h1)), rr.mono l'.le⟩) trivial q
  | @scr a1 ns h1 =>
    obtain ⟨rfl, rfl⟩ := e
    exact at_ (fun W' S' H' l' s' _ => ⟨_, same_sql s'.same (same_sql l'.le.same h1), reps_ints ns⟩) trivial q
  | @ref i a1 hi =>
    obtain ⟨hS, rfl⟩ := e
    refine at_ (fun W' S' H' l' s' o' => ?_) hS q
    obtain ⟨hB, vs, hH, rr⟩ := s'.obj i a1 _ (l'.le.pre i a1 hi) o'
    exact ⟨vs, SqL.of hH, rr⟩
  | _ => exact e.elim⟩
end
end DL

namespace DL
open PySem PySem.Spec PyProof.Rows L2
section
variable {X : Cx} {W0 : Wd} {a b c e tg : Expr} {es : List Expr} {Ta Tb Tc T : DTE} {TA TB : DTT} {TR : DTA} {pos p : Pos} {st : Stmt} {sts : List Stmt} {TS TU : DTS} {ss s1 s2 : List Nat} {G : DTG} {Gs : DTGs} {TI : DTI} {TN : DTN}

/-! ### ranges -/
def rangeD (lo : Int) (n : Nat) : List D := (List.range n).map fun (k : Nat) => D.int (lo + (k : Int))
theorem rangeD_get {lo : Int} {n i : Nat} {d : D} (h : (rangeD lo n)[i]? = some d) : i < n ∧ d = .int (lo + i) := by
  unfold rangeD at h
  rw [List.getElem?_map] at h
  by_cases hi : i < n
  · rw [List.getElem?_range hi] at h
    cases h
    exact ⟨hi, rfl⟩
  · rw [List.getElem?_eq_none (by rw [List.length_range]; omega)] at h
    cases h
theorem rangeD_len {lo : Int} {n : Nat} : (rangeD lo n).length = n := by unfold rangeD; rw [List.length_map, List.length_range]
theorem gives_range {K : PySem.W.Frag} {W : Wd} {H : Hp} {lo : Int} {n : Nat} : Gives K W H (fun _ => True) (rangeD lo n) (Itr lo n) := by
  refine ⟨_, _, by rw [rangeD_len]; exact walk_range, fun _ _ _ _ _ _ => trivial, ?_⟩
  rintro i d W' S' H' x H'' hd l' s' _ ⟨rfl, rfl⟩
  obtain ⟨_, rfl⟩ := rangeD_get hd
  exact ⟨W', s', .refl, .int _⟩
def xRg1 (P : IP) (ds : List D) (S : Sto) : Prop := ∃ j, ds = [.int j] ∧ -(2 ^ 62) ≤ j ∧ j < 2 ^ 62 ∧ P (rangeD 0 j.toNat) (fun _ => True) S
def iRg1 (TR : DTA) : DTI := fun env S P => TR env S (xRg1 P)
theorem Reps.one {K : PySem.W.Frag} {W : Wd} {vs : List V} {d : D} (r : Reps K W vs [d]) : ∃ v, vs = [v] ∧ Rep K W v d := by
  cases r with
  | cons h t => cases t; exact ⟨_, rfl, h⟩
theorem Reps.two {K : PySem.W.Frag} {W : Wd} {vs : List V} {d d2 : D} (r : Reps K W vs [d, d2]) : ∃ v w, vs = [v, w] ∧ Rep K W v d ∧ Rep K W w d2 := by
  cases r with
  | cons h t =>
    obtain ⟨w, rfl, h2⟩ := t.one
    exact ⟨_, _, rfl, h, h2⟩
theorem di_range1 (hg : Gl X "range") (hm : X.mg "range" = none) (ha : DA X W0 [a] TR) (hs : starEach [a] X.env = [(false, eval a X.env)] := by rfl) : DI X W0 tg (.Call (.Name "range" p) [a] [] pos) (iRg1 TR) :=
  (pi_range1 hg hm ha hs).imp fun σ H R ⟨W, env, S, P, hW, sim, er, ht, post⟩ => ⟨W, env, S, _, hW, sim, er, ht, fun ds S1 W1 H1 vs ⟨j, e, h1, h2, q⟩ s l r => by
    subst e
    obtain ⟨v, rfl, rv⟩ := r.one
    exact ⟨j, by rw [rv.intV], h1, h2, post _ _ S1 W1 H1 _ q s l gives_range⟩⟩
def xRg2 (P : IP) (ds : List D) (S : Sto) : Prop := ∃ i j, ds = [.int i, .int j] ∧ (-(2 ^ 62) ≤ i ∧ i < 2 ^ 62 ∧ -(2 ^ 62) ≤ j ∧ j < 2 ^ 62) ∧ P (rangeD i (j - i).toNat) (fun _ => True) S
def iRg2 (TR : DTA) : DTI := fun env S P => TR env S (xRg2 P)
theorem di_range2 (hg : Gl X "range") (hm : X.mg "range" = none) (ha : DA X W0 [a, b] TR) (hs : starEach [a, b] X.env = [(false, eval a X.env), (false, eval b X.env)] := by rfl) (hs2 : starEach [b] X.env = [(false, eval b X.env)] := by rfl) : DI X W0 tg (.Call (.Name "range" p) [a, b] [] pos) (iRg2 TR) :=
  (pi_range2 hg hm ha hs hs2).imp fun σ H R ⟨W, env, S, P, hW, sim, er, ht, post⟩ => ⟨W, env, S, _, hW, sim, er, ht, fun ds S1 W1 H1 vs ⟨i, j, e, h1, q⟩ s l r => by
    subst e
    obtain ⟨v, w, rfl, rv, rw'⟩ := r.two
    exact ⟨i, j, by rw [rv.intV, rw'.intV], h1, post _ _ S1 W1 H1 _ q s l gives_range⟩⟩

/-! ### enumerate, zip of lists that stand still -/
def enumD : Nat → List D → List D
  | _, [] => []
  | n, x :: xs => .tup [.int n, x] :: enumD (n + 1) xs
theorem enumD_len : ∀ (n : Nat) (xs : List D), (enumD n xs).length = xs.length
  | _, [] => rfl
  | n, _ :: xs => congrArg (· + 1) (enumD_len (n + 1) xs)
theorem enumD_get : ∀ (n : Nat) (xs : List D) (i : Nat) (d : D), (enumD n xs)[i]? = some d → ∃ x, xs[i]? = some x ∧ d = .tup [.int ((n + i : Nat) : Int), x]
  | _, [], i, d, h => by simp [enumD] at h
  | n, x :: xs, 0, d, h => by
    simp [enumD] at h
    exact ⟨x, rfl, h.symm⟩
  | n, x :: xs, i + 1, d, h => by
    obtain ⟨y, h1, h2⟩ := enumD_get (n + 1) xs i d (by simpa [enumD] using h)
    refine ⟨y, by simpa using h1, ?_⟩
    rw [h2]
    congr 4
    omega
def zipD : List D → List D → List D
  | x :: xs, y :: ys => .tup [x, y] :: zipD xs ys
  | _, _ => []
theorem zipD_len : ∀ xs ys : List D, (zipD xs ys).length = min xs.length ys.length
  | [], _ => by simp [zipD]
  | _ :: _, [] => by simp [zipD]
  | _ :: xs, _ :: ys => by
    show (zipD xs ys).length + 1 = min (xs.length + 1) (ys.length + 1)
    rw [zipD_len xs ys]
    omega
theorem zipD_get : ∀ (xs ys : List D) (i : Nat) (d : D), (zipD xs ys)[i]? = some d → ∃ x y, xs[i]? = some x ∧ ys[i]? = some y ∧ d = .tup [x, y]
  | [], _, i, d, h => by simp [zipD] at h
  | _ :: _, [], i, d, h => by simp [zipD] at h
  | x :: xs, y :: ys, 0, d, h => by
    simp [zipD] at h
    exact ⟨x, y, rfl, rfl, h.symm⟩
  | x :: xs, y :: ys, i + 1, d, h => by
    obtain ⟨u, v, h1, h2, h3⟩ := zipD_get xs ys i d (by simpa [zipD] using h)
    exact ⟨u, v, by simpa using h1, by simpa using h2, h3⟩
/-- a new pair -/
theorem pair_new {K : PySem.W.Frag} {W : Wd} {S : Sto} {H : Hp} {T : Addr} {x y : V} {d1 d2 : D} (s : Sim K W S H) (hT : H T = none) (r1 : Rep K W x d1) (r2 : Rep K W y d2) :
    ∃ W'', Sim K W'' S (upd H T (.tup [x, y])) ∧ Stp W H W'' (upd H T (.tup [x, y])) ∧ Rep K W'' (.ref T) (.tup [d1, d2]) :=
  ⟨W.put T (.tup [x, y]), s.put hT, .put s hT, .tup (SqT.of upd_same) (.cons (r1.mono (Wd.le_put (s.free hT))) (.cons (r2.mono (Wd.le_put (s.free hT))) .nil))⟩
/-- a pure list's place stays -/
theorem pure_lst {K : PySem.W.Frag} {W W' : Wd} {S : Sto} {H H' : Hp} {a : Addr} {vs : List V} (h : W.B a = some (.lst vs)) (l : Stp W H W' H') (s : Sim K W' S H') : SqL K H' a vs := SqL.of (s.same _ _ (l.le.same _ _ h))
theorem Rep.lstV {K : PySem.W.Frag} {W : Wd} {v : V} {ds : List D} (r : Rep K W v (.lst ds)) : ∃ a vs, v = .ref a ∧ W.B a = some (.lst vs) ∧ Reps K W vs ds := by cases r with | lst h1 h2 => exact ⟨_, _, rfl, h1, h2⟩
def xEn (P : IP) (ds : List D) (S : Sto) : Prop := ∃ xs, ds = [.lst xs] ∧ P (enumD 0 xs) (fun _ => True) S
def iEn (TR : DTA) : DTI := fun env S P => TR env S (xEn P)
theorem di_enum {elts : List Expr} {kk : Nat} {tpos : Pos} (hg : Gl X "enumerate") (hm : X.mg "enumerate" = none) (ha : DA X W0 [a] TR) (hs : starEach [a] X.env = [(false, eval a X.env)] := by rfl) : DI X W0 (.Tuple elts kk tpos) (.Call (.Name "enumerate" p) [a] [] pos) (iEn TR) :=
  (pi_enum hg hm ha hs).imp fun σ H R ⟨W, env, S, P, hW, sim, er, ht, post⟩ => ⟨W, env, S, _, hW, sim, er, ht, fun ds S1 W1 H1 vs ⟨xs, e, q⟩ s l r => by
    subst e
    obtain ⟨v, rfl, rv⟩ := r.one
    obtain ⟨a1, vs, rfl, hB, rr⟩ := rv.lstV
    refine ⟨a1, vs, rfl, pure_lst hB .refl s, post _ _ S1 W1 H1 _ q s l ⟨_, _, by rw [enumD_len, ← rr.length]; exact walk_enum (xs := vs), fun W' S' H' l' s' _ => pure_lst hB l' s', ?_⟩⟩
    rintro i d W' S' H' x H'' hd l' s' _ ⟨T, x1, x2, rfl, hT, rfl, e1, e2⟩
    obtain ⟨y, h1, rfl⟩ := enumD_get 0 xs i d hd
    obtain ⟨u, g1, g2⟩ := rr.get h1
    have e2 : vs[i]? = some x2 := e2
    rw [g1] at e2
    cases e2
    cases e1
    rw [Nat.zero_add]
    exact pair_new s' hT (.int _) (g2.mono l'.le)⟩
def xZp (P : IP) (ds : List D) (S : Sto) : Prop := (∃ xs ys, ds = [.lst xs, .lst ys] ∧ P (zipD xs ys) (fun _ => True) S) ∨ ∃ xs ys, ds = [.tup xs, .tup ys] ∧ P (zipD xs ys) (fun _ => True) S
def iZp (TR : DTA) : DTI := fun env S P => TR env S (xZp P)
theorem walk_zipT {K : PySem.W.Frag} {a b : Addr} {xs ys : List V} : Walk (RZ.ItzT K a b) (min xs.length ys.length) (fun H => SqT K H a xs ∧ SqT K H b ys) (YPair (fun i => xs[i]?) (fun i => ys[i]?)) :=
  ⟨fun i H hi ⟨q1, q2⟩ => ⟨xs, ys, xs[i]'(by omega), ys[i]'(by omega), q1, q2, List.getElem?_eq_getElem _, List.getElem?_eq_getElem _⟩, fun H ⟨q1, q2⟩ => ⟨xs, ys, q1, q2, by omega⟩,
    fun i H v H' _ ⟨q1, q2⟩ ⟨T, x, y, h1, h2, h3, h4, h5⟩ => ⟨T, x, y, h1, h2, h3, h4 xs q1, h5 ys q2⟩⟩
theorem di_zip {elts : List Expr} {kk : Nat} {tpos : Pos} (ha : DA X W0 [a, b] TR) (h : ∀ {ta : L2.TA}, PA X [a, b] ta → PI X (.Tuple elts kk tpos) (.Call (.Name "zip" p) [a, b] [] pos) (RZ.iZipA X.K ta)) : DI X W0 (.Tuple elts kk tpos) (.Call (.Name "zip" p) [a, b] [] pos) (iZp TR) :=
  (h ha).imp fun σ H R ⟨W, env, S, P, hW, sim, er, ht, post⟩ => ⟨W, env, S, _, hW, sim, er, ht, fun ds S1 W1 H1 vs q s l r => by
    rcases q with ⟨xs, ys, e, q⟩ | ⟨xs, ys, e, q⟩
    · subst e
      obtain ⟨v, w, rfl, rv, rw'⟩ := r.two
      obtain ⟨a1, vs, rfl, hB, rr⟩ := rv.lstV
      obtain ⟨a2, ws, rfl, hB2, rr2⟩ := rw'.lstV
      refine ⟨a1, a2, vs, ws, rfl, .inl ⟨pure_lst hB .refl s, pure_lst hB2 .refl s, post _ _ S1 W1 H1 _ q s l ⟨fun H' => SqL X.K H' a1 vs ∧ SqL X.K H' a2 ws, _, by rw [zipD_len, ← rr.length, ← rr2.length]; exact walk_zip (xs := vs) (ys := ws) rfl, fun W' S' H' l' s' _ => ⟨pure_lst hB l' s', pure_lst hB2 l' s'⟩, ?_⟩⟩⟩
      rintro i d W' S' H' x H'' hd l' s' _ ⟨T, x1, x2, rfl, hT, rfl, e1, e2⟩
      obtain ⟨y, z, h1, h2, rfl⟩ := zipD_get xs ys i d hd
      obtain ⟨u, g1, g2⟩ := rr.get h1
      obtain ⟨u2, g3, g4⟩ := rr2.get h2
      have e1 : vs[i]? = some x1 := e1
      have e2 : ws[i]? = some x2 := e2
      rw [g1] at e1
      rw [g3] at e2
      cases e1
      cases e2
      exact pair_new s' hT (g2.mono l'.le) (g4.mono l'.le)
    · subst e
      obtain ⟨v, w, rfl, rv, rw'⟩ := r.two
      obtain ⟨a1, vs, rfl, hB, rr⟩ := rv.tupV
      obtain ⟨a2, ws, rfl, hB2, rr2⟩ := rw'.tupV
      have at_ : ∀ {W' : Wd} {S' : Sto} {H' : Hp} {aa : Addr} {us : List V}, SqT X.K W1.B aa us → Stp W1 H1 W' H' → Sim X.K W' S' H' → SqT X.K H' aa us := fun h l' s' => same_sqt s'.same (same_sqt l'.le.same h)
      refine ⟨a1, a2, vs, ws, rfl, .inr ⟨at_ hB .refl s, at_ hB2 .refl s, post _ _ S1 W1 H1 _ q s l ⟨fun H' => SqT X.K H' a1 vs ∧ SqT X.K H' a2 ws, _, by rw [zipD_len, ← rr.length, ← rr2.length]; exact walk_zipT (xs := vs) (ys := ws), fun W' S' H' l' s' _ => ⟨at_ hB l' s', at_ hB2 l' s'⟩, ?_⟩⟩⟩
      rintro i d W' S' H' x H'' hd l' s' _ ⟨T, x1, x2, rfl, hT, rfl, e1, e2⟩
      obtain ⟨y, z, h1, h2, rfl⟩ := zipD_get xs ys i d hd
      obtain ⟨u, g1, g2⟩ := rr.get h1
      obtain ⟨u2, g3, g4⟩ := rr2.get h2
      have e1 : vs[i]? = some x1 := e1
      have e2 : ws[i]? = some x2 := e2
      rw [g1] at e1
      rw [g3] at e2
      cases e1
      cases e2
      exact pair_new s' hT (g2.mono l'.le) (g4.mono l'.le)⟩

/-! ### for -/
def xFor (ds : List D) (ok : Sto → Prop) (S1 : Sto) (G : DTG) (TB : DTS) (E : DEnds) (env : Ev) : Prop := ∃ I : Nat → Ev → Sto → Prop, I 0 env S1 ∧ (∀ i env' S', i ≤ ds.length → I i env' S' → ok S') ∧
  (∀ i x env' S', ds[i]? = some x → I i env' S' → G x env' S' fun env2 S2 => TB { E with nx := I (i + 1), ct := I (i + 1), bk := E.nx } env2 S2) ∧ ∀ env' S', I ds.length env' S' → E.nx env' S'
def dFor (TI : DTI) (G : DTG) (TB : DTS) : DTS := fun E env S => TI env S fun ds ok S1 => xFor ds ok S1 G TB E env
theorem ds_for {body : List Stmt} (hp : PassesOwn (model X.prog X.w) X.A X.env X.xe) (hc : X.calm = true) (hi : DI X W0 tg e TI) (hg : DG X W0 ss tg G) (hb : DSs X W0 body TS) (hs : ∀ x, foldedSetIterable e X.env x = pure x := by intro _; rfl) :
    DS X W0 (.For tg e body [] pos) (dFor TI G TS) := (ps_for hp hc hi hg hb hs).imp fun D σ H ⟨W, env, S, E, hW, sim, er, ht, post⟩ => ⟨W, env, S, _, hW, sim, er, ht, fun ds ok S1 W1 H1 J ⟨I, i0, iok, turn, fin⟩ s l ⟨Gd, Y, wk, wok, wy⟩ => by
  refine for_it wk (fun i σ' H' => ∃ W' env' S', Stp W1 H1 W' H' ∧ Sim X.K W' S' H' ∧ EnvR X.K W' env' σ' ∧ I i env' S') ⟨W1, env, S1, .refl, s, er.mono l.le, i0⟩ ?_ ?_ ?_
  · rintro i σ' H' hi ⟨W', env', S', l', s', er', ii⟩
    exact wok W' S' H' l' s' (iok i env' S' hi ii)
  · rintro i x σ' H' H'' hi ⟨W', env', S', l', s', er', ii⟩ y
    have hd : ds[i]? = some ds[i] := List.getElem?_eq_getElem hi
    obtain ⟨W2, s2, l2, r2⟩ := wy i _ W' S' H' x H'' hd l' s' (iok i env' S' (Nat.le_of_lt hi) ii) y
    have lx := l.trans (l'.trans l2)
    refine ⟨W2, env', S', _, _, hW.trans lx.le, s2, er'.mono l2.le, r2, turn i _ env' S' hd ii, fun env3 S3 W3 H3 σ3 q3 s3 l3 er3 _ => ?_⟩
    have pm := post.mono (lx.trans l3)
    exact ⟨W3, env3, S3, _, hW.trans (lx.trans l3).le, s3, er3, q3, ⟨fun env4 S4 W4 H4 σ4 q4 s4 l4 er4 => ⟨W4, env4, S4, (l'.trans l2).trans (l3.trans l4), s4, er4, q4⟩, pm.rt, pm.nx, fun env4 S4 W4 H4 σ4 q4 s4 l4 er4 => ⟨W4, env4, S4, (l'.trans l2).trans (l3.trans l4), s4, er4, q4⟩⟩⟩
  · rintro σ' H' ⟨W', env', S', l', s', er', ii⟩
    exact post.nx env' S' W' H' σ' (fin env' S' ii) s' (l.trans l') er'⟩

/-! ### list comprehensions -/
def xLc (ds : List D) (ok : Sto → Prop) (S1 : Sto) (G : DTG) (TT : DTT) (T : DTE) (vs : List Nat) (env : Ev) (P : List D → Sto → Prop) : Prop := ∃ I : Nat → List D → Sto → Prop, I 0 [] S1 ∧ (∀ i acc S', i ≤ ds.length → I i acc S' → ok S' ∧ acc.length < sizeLine) ∧
  (∀ i x acc S', ds[i]? = some x → I i acc S' → G x (wipeE env vs) S' fun env2 S2 => TT env2 S2 fun k S3 => if k = true then T env2 S3 fun y S4 => I (i + 1) (acc ++ [y]) S4 else I (i + 1) acc S3) ∧ ∀ acc S', I ds.length acc S' → P acc S'
def dLc (TI : DTI) (G : DTG) (TT : DTT) (T : DTE) (vs : List Nat) : DTN := fun env S P => TI env S fun ds ok S1 => xLc ds ok S1 G TT T vs env P
theorem lift_lc {TT : DTT} {vs : List Nat} (hss : ∀ i ∈ ss, i ∈ vs) {σ : L2.St} {H : Hp} {Q : VK} (h : liftN X.K W0 (dLc TI G TT T vs) σ H Q) : tLc (liftI X.K W0 TI) (liftG X.K W0 ss G) (liftT X.K W0 TT) (liftE X.K W0 T) vs σ H Q := by
  obtain ⟨W, env, S, P, hW, sim, er, ht, post⟩ := h
  refine ⟨W, env, S, _, hW, sim, er, ht, fun ds ok S1 W1 H1 J ⟨I, i0, iok, turn, fin⟩ s l ⟨Gd, Y, wk, wok, wy⟩ Dl hD => ?_⟩
  -- the new list stands beside the world
  have key : ∀ {W2 : Wd} {S2 : Sto} {H2 : Hp} {W3 : Wd} {S3 : Sto} {H3 : Hp} {us : List V}, Sim X.K W2 S2 H2 → Stp W2 H2 W3 H3 → W2.B Dl = none → Dl ∉ W2.m → H2 Dl = some (.lst us) → W3.B Dl = none ∧ Dl ∉ W3.m ∧ H3 Dl = some (.lst us) := fun {W2 S2 H2 W3 S3 H3 us} s2 l2 hB hm hH => by
    refine ⟨?_, fun z => ?_, l2.keep _ _ hH hm⟩
    · cases e : W3.B Dl with
      | none => rfl
      | some o =>
        rcases l2.newB Dl o e with q | q | q
        · rw [hB] at q; cases q
        · rw [hH] at q; cases q
        · exact absurd q hm
    · rcases l2.newm Dl z with q | q
      · exact hm q
      · rw [hH] at q; cases q
  refine lc_it wk (fun i H' => ∃ W' S' acc us, Stp W1 H1 W' H' ∧ Sim X.K W' S' H' ∧ W'.B Dl = none ∧ Dl ∉ W'.m ∧ H' Dl = some (.lst us) ∧ Reps X.K W' us acc ∧ I i acc S') ⟨W1, S1, [], [], .lay hD, s.lay hD, s.free hD, fun z => s.dom Dl z hD, upd_same, .nil, i0⟩ ?_ ?_ ?_
  · rintro i H' hi ⟨W', S', acc, us, l', s', _, _, _, _, ii⟩
    exact wok W' S' H' l' s' (iok i acc S' hi ii).1
  · rintro i x H' H'' hi ⟨W', S', acc, us, l', s', hB, hm, hH, rr, ii⟩ y
    have hd : ds[i]? = some ds[i] := List.getElem?_eq_getElem hi
    obtain ⟨W2, s2, l2, r2⟩ := wy i _ W' S' H' x H'' hd l' s' (iok i acc S' (Nat.le_of_lt hi) ii).1 y
    obtain ⟨hB2, hm2, hH2⟩ := key (S3 := S') s' l2 hB hm hH
    have lx := l'.trans l2
    refine ⟨W2, wipeE env vs, S', _, _, hW.trans (l.trans lx).le, s2, (er.mono (l.trans lx).le).wipe vs, r2, turn i _ acc S' hd ii, fun env3 S3 W3 H3 σ3 q3 s3 l3 er3 ag => ⟨?_, ?_⟩⟩
    · rw [ag.wipe hss, wipe_wipe]
    · obtain ⟨hB3, hm3, hH3⟩ := key (S3 := S3) s2 l3 hB2 hm2 hH2
      refine lift_if (hW.trans (l.trans (lx.trans l3)).le) s3 er3 q3 fun k S4 W4 H4 q4 s4 l4 => ?_
      obtain ⟨hB4, hm4, hH4⟩ := key (S3 := S4) s3 l4 hB3 hm3 hH3
      have l34 := l2.trans (l3.trans l4)
      cases k with
      | true =>
        refine ⟨W4, env3, S4, _, hW.trans ((l.trans lx).trans (l3.trans l4)).le, s4, er3.mono l4.le, q4, fun d5 S5 W5 H5 v5 q5 s5 l5 r5 => ?_⟩
        obtain ⟨hB5, hm5, hH5⟩ := key (S3 := S5) s4 l5 hB4 hm4 hH4
        refine ⟨us, hH5, by rw [rr.length]; exact (iok i acc S' (Nat.le_of_lt hi) ii).2, W5, S5, acc ++ [d5], us ++ [v5], ?_, ?_, hB5, hm5, upd_same, (rr.mono (l34.trans l5).le).app (.cons r5 .nil), q5⟩
        · have lz := l'.trans (l34.trans l5)
          refine ⟨lz.le, fun q o hq hn => ?_, fun q hq => upd_dom q (lz.dom q hq), lz.newm, lz.newB⟩
          have hne : q ≠ Dl := fun z => by rw [z, hD] at hq; cases hq
          rw [upd_ne hne]
          exact lz.keep q o hq hn
        · refine ⟨fun b u e => ?_, s5.len, s5.nd, fun b hb => upd_dom b (s5.dom b hb), fun j b ob g1 g2 => ?_⟩
          · rw [upd_ne (ne_of_none e hB5)]
            exact s5.same b u e
          · refine (s5.obj j b ob g1 g2).mono (Wd.le.refl _) ?_ (upd_ne fun z => hm5 (z ▸ List.mem_of_getElem? g1))
            by_cases hb : W5.B b = none
            · exact .inl hb
            · exact .inr hb
      | false => exact ⟨W4, S4, acc, us, l'.trans l34, s4, hB4, hm4, hH4, rr.mono l34.le, q4⟩
  · rintro H' ⟨W', S', acc, us, l', s', hB, hm, hH, rr, ii⟩
    exact post acc S' W' H' Dl us (fin acc S' ii) s' (l.trans l') (l.free hD) hB hm hH rr
theorem dn_lc {TT : DTT} {elt iter : Expr} {ifs : List Expr} {scope : Scope} {own : List (Str × Nat)} (hss : ∀ i ∈ ss, i ∈ own.map (·.2)) (hc : X.calm = true) (hN : X.N.Nodup) (hi : DI X W0 tg iter TI) (ok : BlkOk X.N X.env.scope scope own)
    (hg : ∀ (s : Shared) (H : Hp) (C : Addr) (cl : List (Str × Addr)) (fp : List Addr), PG (X.blk s H scope (compEnvC scope cl C X.env) fp) tg (liftG X.K W0 ss G)) (ht : ∀ (s : Shared) (H : Hp) (C : Addr) (cl : List (Str × Addr)) (fp : List Addr), PTs (X.blk s H scope (compEnvC scope cl C X.env) fp) ifs (liftT X.K W0 TT))
    (he : ∀ (s : Shared) (H : Hp) (C : Addr) (cl : List (Str × Addr)) (fp : List Addr), PE (X.blk s H scope (compEnvC scope cl C X.env) fp) elt (liftE X.K W0 T)) (hs : ∀ x, foldedSetIterable iter X.env x = pure x := by intro _; rfl) :
    DN X W0 (.ListComp elt [⟨tg, iter, ifs, 0⟩] scope pos) (dLc TI G TT T (own.map (·.2))) := (pe_lc hc hN hi ok hg ht he hs).imp fun _ _ _ q => lift_lc hss q
def dYes : DTT := fun _ S P => P true S
theorem dts_nil : PTs X [] (liftT X.K W0 dYes) := ⟨fun pins s σ H Q I ⟨W, env, S, P, hW, sim, er, ht, post⟩ => pts_nil.run pins s σ H Q I (post true S W H ht sim .refl)⟩
theorem dts_one (h : DT X W0 c TA) : PTs X [c] (liftT X.K W0 TA) := pts_one h
end
end DL

namespace DL
open PySem PySem.Spec PyProof.Rows L2

/-! ### what a def promises, over data -/
abbrev DSp := List D → Sto → DP → Prop
def liftSp (K : PySem.W.Frag) (sp : DSp) : Sp := fun vs H Q _ => ∃ W ds S P, Sim K W S H ∧ Reps K W vs ds ∧ sp ds S P ∧ Post K W H P Q
section
variable {X : Cx} {W0 : Wd} {a b c e tg : Expr} {es : List Expr} {Ta Tb Tc T : DTE} {TA TB : DTT} {TR : DTA} {pos p apos cpos : Pos}
def dCall (R : List D → Sto → DP → Prop) (TR : DTA) : DTE := fun env S P => TR env S fun ds S1 => R ds S1 P
theorem de_call {k : Nat} {f : Addr} {fd : FuncData} {ps : List Str} {sp : DSp} {x : Str} (ha : DA X W0 es TR) (h : ∀ {ta : L2.TA}, PA X es ta → PE X (.Call (.Name x p) es [] pos) (tCall (liftSp X.K sp) [] E0 ta)) : DE X W0 (.Call (.Name x p) es [] pos) (dCall sp TR) :=
  (h ha).imp fun σ H Q ⟨W, env, S, P, hW, sim, er, ht, post⟩ => ⟨W, env, S, _, hW, sim, er, ht, fun ds S1 W1 H1 vs q s l r => by
    show liftSp X.K sp (vs ++ []) H1 Q E0
    rw [List.append_nil]
    exact ⟨W1, ds, S1, P, s, r, q, post.mono l⟩⟩
/-- a built-in, by values -/
def DCl (K : PySem.W.Frag) (r : List V → Hp → VK → Prop) (R : List D → Sto → DP → Prop) : Prop := ∀ W S H vs ds P Q, Sim K W S H → Reps K W vs ds → R ds S P → Post K W H P Q → r vs H Q
theorem de_b {r : List V → Hp → VK → Prop} {R : List D → Sto → DP → Prop} (hr : DCl X.K r R) (ha : DA X W0 es TR) (h : ∀ {ta : L2.TA}, PA X es ta → PE X e (tCB r ta)) : DE X W0 e (dCall R TR) :=
  (h ha).imp fun σ H Q ⟨W, env, S, P, hW, sim, er, ht, post⟩ => ⟨W, env, S, _, hW, sim, er, ht, fun ds S1 W1 H1 vs q s l r => hr W1 S1 H1 vs ds P Q s r q (post.mono l)⟩
def dCallN (R : List D → Sto → (List D → Sto → Prop) → Prop) (TR : DTA) : DTN := fun env S P => TR env S fun ds S1 => R ds S1 P
def DClN (K : PySem.W.Frag) (r : List V → Hp → VK → Prop) (R : List D → Sto → (List D → Sto → Prop) → Prop) : Prop := ∀ W S H vs ds P Q, Sim K W S H → Reps K W vs ds → R ds S P → PostL K W H P Q → r vs H Q
theorem dn_b {r : List V → Hp → VK → Prop} {R : List D → Sto → (List D → Sto → Prop) → Prop} (hr : DClN X.K r R) (ha : DA X W0 es TR) (h : ∀ {ta : L2.TA}, PA X es ta → PE X e (tCB r ta)) : DN X W0 e (dCallN R TR) :=
  (h ha).imp fun σ H Q ⟨W, env, S, P, hW, sim, er, ht, post⟩ => ⟨W, env, S, _, hW, sim, er, ht, fun ds S1 W1 H1 vs q s l r => hr W1 S1 H1 vs ds P Q s r q (post.mono l)⟩

/-! ### len, min, max, list, tuple, sum, sorted, all -/
/-- what len, list(), tuple() read -/
def itemsOf (S : Sto) : D → Option (List D)
  | .scr ns => some (ns.map .int)
  | d => seqOf S d
theorem Rep.items {K : PySem.W.Frag} {W : Wd} {S : Sto} {H : Hp} {v : V} {d : D} {ds : List D} (s : Sim K W S H) (r : Rep K W v d) (h : itemsOf S d = some ds) : ∃ a vs, v = .ref a ∧ (SqL K H a vs ∨ SqT K H a vs) ∧ Reps K W vs ds := by
  cases r with
  | scr h1 => cases h; exact ⟨_, _, rfl, .inl (same_sql s.same h1), reps_ints _⟩
  | tup h1 h2 => exact Rep.seq_of s (.tup h1 h2) h
  | lst h1 h2 => exact Rep.seq_of s (.lst h1 h2) h
  | ref h1 => exact Rep.seq_of s (.ref h1) h
  | _ => cases h
def bLen : List D → Sto → DP → Prop := fun ds S P => ∃ d xs, ds = [d] ∧ itemsOf S d = some xs ∧ P (.int xs.length) S
theorem dc_len {K : PySem.W.Frag} : DCl K (fun xs H Q => ∃ p ys, xs = [.ref p] ∧ (SqL K H p ys ∨ SqT K H p ys) ∧ Q (.int ys.length) H) bLen := by
  intro W S H vs ds P Q s r ⟨d, xs, e, h, q⟩ post
  subst e
  obtain ⟨v, rfl, rv⟩ := r.one
  obtain ⟨a, us, rfl, hq, rr⟩ := rv.items s h
  refine ⟨a, us, rfl, hq, ?_⟩
  rw [rr.length]
  exact post _ _ W H _ q s .refl (.int _)
def bMin : List D → Sto → DP → Prop := fun ds S P => ∃ i j, ds = [.int i, .int j] ∧ P (.int (if j < i then j else i)) S
def bMax : List D → Sto → DP → Prop := fun ds S P => ∃ i j, ds = [.int i, .int j] ∧ P (.int (if j > i then j else i)) S
theorem dc_min {K : PySem.W.Frag} : DCl K (fun xs H Q => ∃ i j, xs = [.int i, .int j] ∧ Q (.int (if j < i then j else i)) H) bMin := by
  intro W S H vs ds P Q s r ⟨i, j, e, q⟩ post
  subst e
  obtain ⟨v, w, rfl, rv, rw'⟩ := r.two
  exact ⟨i, j, by rw [rv.intV, rw'.intV], post _ _ W H _ q s .refl (.int _)⟩
theorem dc_max {K : PySem.W.Frag} : DCl K (fun xs H Q => ∃ i j, xs = [.int i, .int j] ∧ Q (.int (if j > i then j else i)) H) bMax := by
  intro W S H vs ds P Q s r ⟨i, j, e, q⟩ post
  subst e
  obtain ⟨v, w, rfl, rv, rw'⟩ := r.two
  exact ⟨i, j, by rw [rv.intV, rw'.intV], post _ _ W H _ q s .refl (.int _)⟩
def bList : List D → Sto → (List D → Sto → Prop) → Prop := fun ds S P => ∃ d xs, ds = [d] ∧ itemsOf S d = some xs ∧ P xs S
theorem dc_list {K : PySem.W.Frag} : DClN K (fun xs H Q => ∃ p ys, xs = [.ref p] ∧ (SqL K H p ys ∨ SqT K H p ys) ∧ ∀ l, H l = none → Q (.ref l) (upd H l (.lst ys))) bList := by
  intro W S H vs ds P Q s r ⟨d, xs, e, h, q⟩ post
  subst e
  obtain ⟨v, rfl, rv⟩ := r.one
  obtain ⟨a, us, rfl, hq, rr⟩ := rv.items s h
  exact ⟨a, us, rfl, hq, post.laid q s rr⟩
def bTuple : List D → Sto → DP → Prop := fun ds S P => ∃ d xs, ds = [d] ∧ seqOf S d = some xs ∧ P (.tup xs) S
theorem dc_tuple {K : PySem.W.Frag} : DCl K (fun xs H Q => ∃ p ys, xs = [.ref p] ∧ ((SqL K H p ys ∧ ∀ l, H l = none → Q (.ref l) (upd H l (.tup ys))) ∨ (SqT K H p ys ∧ Q (.ref p) H))) bTuple := by
  intro W S H vs ds P Q s r ⟨d, xs, e, h, q⟩ post
  subst e
  obtain ⟨v, rfl, rv⟩ := r.one
  cases rv with
  | tup h1 h2 => cases h; exact ⟨_, _, rfl, .inr ⟨same_sqt s.same h1, post _ _ W H _ q s .refl (.tup h1 h2)⟩⟩
  | lst h1 h2 => cases h; exact ⟨_, _, rfl, .inl ⟨SqL.of (s.same _ _ h1), post.newT s h2 q⟩⟩
  | ref h1 =>
    obtain ⟨a, us, e, hq, rr⟩ := Rep.lst_of s (.ref h1) h
    exact ⟨a, us, by rw [e], .inl ⟨SqL.of hq, post.newT s rr q⟩⟩
  | _ => cases h
theorem Reps.ints {K : PySem.W.Frag} {W : Wd} : ∀ {ns : List Int} {vs : List V}, Reps K W vs (ns.map D.int) → vs = ns.map V.int
  | [], _, r => by cases r; rfl
  | n :: ns, _, r => by
    cases r with
    | cons h t => rw [h.intV, Reps.ints t]; rfl
theorem Reps.bools {K : PySem.W.Frag} {W : Wd} : ∀ {ns : List Bool} {vs : List V}, Reps K W vs (ns.map D.bl) → vs = ns.map V.bl
  | [], _, r => by cases r; rfl
  | n :: ns, _, r => by
    cases r with
    | cons h t => rw [h.bool, Reps.bools t]; rfl
def bSum : List D → Sto → DP → Prop := fun ds S P => ∃ (d : D) (ns : List Int), ds = [d] ∧ lstOf S d = some (ns.map .int) ∧ P (.int ns.sum) S
theorem dc_sum {K : PySem.W.Frag} : DCl K (rSum K) bSum := by
  intro W S H vs ds P Q s r ⟨d, ns, e, h, q⟩ post
  subst e
  obtain ⟨v, rfl, rv⟩ := r.one
  obtain ⟨a, us, rfl, hq, rr⟩ := rv.lst_of s h
  exact ⟨a, ns, rfl, by rw [← rr.ints]; exact SqL.of hq, post _ _ W H _ q s .refl (.int _)⟩
def bAll : List D → Sto → DP → Prop := fun ds S P => ∃ (d : D) (bs : List Bool), ds = [d] ∧ lstOf S d = some (bs.map .bl) ∧ P (.bl (bs.all id)) S
theorem dc_all {K : PySem.W.Frag} : DCl K (rAll K) bAll := by
  intro W S H vs ds P Q s r ⟨d, ns, e, h, q⟩ post
  subst e
  obtain ⟨v, rfl, rv⟩ := r.one
  obtain ⟨a, us, rfl, hq, rr⟩ := rv.lst_of s h
  exact ⟨a, ns, rfl, by rw [← rr.bools]; exact SqL.of hq, post _ _ W H _ q s .refl (.bl _)⟩
/-! ### isinstance -/
def tyOf (S : Sto) : D → Option String
  | .non => some "NoneType"
  | .bl _ => some "bool"
  | .int _ => some "int"
  | .str _ => some "str"
  | .tup _ => some "tuple"
  | .lst _ => some "list"
  | .ref i => match S[i]? with
    | some (.lst _) => some "list"
    | _ => none
  | _ => none
theorem Rep.tyx {K : PySem.W.Frag} {W : Wd} {S : Sto} {H : Hp} {v : V} {d : D} {n : String} (s : Sim K W S H) (r : Rep K W v d) (h : tyOf S d = some n) : TyX K H v (.type n) := by
  cases r with
  | non => cases h; exact .base .non
  | bl b => cases h; exact .base (.bl b)
  | int i => cases h; exact .base (.int i)
  | str x => cases h; exact .base (.str x)
  | tup h1 _ =>
    cases h
    rcases same_sqt s.same h1 with (q | ⟨o, q⟩) | ⟨o, its, m, q, c, _⟩
    · exact .base (.tup q)
    · exact .fTuple q
    · exact .kTuple q c
  | lst h1 _ => cases h; exact .base (.lst (s.same _ _ h1))
  | @ref i a hi =>
    dsimp only [tyOf] at h
    cases hs : S[i]? with
    | none => rw [hs] at h; cases h
    | some o =>
      rw [hs] at h
      cases o with
      | lst xs =>
        cases h
        obtain ⟨_, vs, e, _⟩ := s.obj i a _ hi hs
        exact .base (.lst e)
      | _ => cases h
  | _ => cases h
def bIsi : List D → Sto → DP → Prop := fun ds S P => ∃ d n t k, ds = [d, .ty t] ∧ tyOf S d = some n ∧ kitB n t = some k ∧ P (.bl k) S
theorem dc_isi {K : PySem.W.Frag} : DCl K (rIsi K) bIsi := by
  intro W S H vs ds P Q s r ⟨d, n, t, k, e, h, hk, q⟩ post
  subst e
  obtain ⟨v, w, rfl, rv, rw'⟩ := r.two
  cases rw'
  exact ⟨v, _, _, _, k, rfl, .ty t, rv.tyx s h, kit_ty hk, post _ _ W H _ q s .refl (.bl k)⟩
end

/-! ### methods of lists in the store -/
section
variable {X : Cx} {W0 : Wd} {a e : Expr} {es : List Expr} {Ta T : DTE} {TR : DTA} {pos p apos cpos : Pos}
def dMt (R : D → List D → Sto → DP → Prop) (Ta : DTE) (TR : DTA) : DTE := fun env S P => Ta env S fun x S1 => (∃ i xs, x = .ref i ∧ S1[i]? = some (.lst xs)) ∧ TR env S1 fun ds S2 => R x ds S2 P
def DMt (K : PySem.W.Frag) (r : V → List V → Hp → VK → Prop) (R : D → List D → Sto → DP → Prop) : Prop := ∀ W S H x vs d ds P Q, Sim K W S H → Rep K W x d → Reps K W vs ds → R d ds S P → Post K W H P Q → r x vs H Q
theorem de_mt {r : V → List V → Hp → VK → Prop} {R : D → List D → Sto → DP → Prop} (hr : DMt X.K r R) (ho : DE X W0 a Ta) (ha : DA X W0 es TR) (h : ∀ {to : TE} {ta : L2.TA}, PE X a to → PA X es ta → PE X e (tBM X.K "list" r to ta)) : DE X W0 e (dMt R Ta TR) :=
  (h ho ha).imp fun σ H Q ⟨W, env, S, P, hW, sim, er, ht, post⟩ => ⟨W, env, S, _, hW, sim, er, ht, fun x S1 W1 H1 v ⟨⟨i, xs, ex, hS⟩, q⟩ s l r => by
    refine ⟨?_, W1, env, S1, _, hW.trans l.le, s, er.mono l.le, q, fun ds S2 W2 H2 vs q2 s2 l2 r2 => hr W2 S2 H2 _ _ x ds P Q s2 (r.mono l2.le) r2 q2 (post.mono (l.trans l2))⟩
    subst ex
    cases r with
    | ref hi =>
      obtain ⟨_, vs, e, _⟩ := s.obj i _ _ hi hS
      exact .inl ⟨rfl, vs, SqL.of e⟩⟩
def mAppend : D → List D → Sto → DP → Prop := fun x ds S P => ∃ i xs y, x = .ref i ∧ ds = [y] ∧ S[i]? = some (.lst xs) ∧ xs.length < sizeLine ∧ P .non (S.set i (.lst (xs ++ [y])))
theorem dm_append {K : PySem.W.Frag} : DMt K rAppend mAppend := by
  intro W S H x vs d ds P Q s r rs ⟨i, xs, y, e1, e2, hS, hl, q⟩ post
  subst e1 e2
  cases r with
  | ref hi =>
    obtain ⟨v, rfl, rv⟩ := rs.one
    obtain ⟨hB, us, hH, rr⟩ := s.obj i _ _ hi hS
    exact ⟨_, us, v, rfl, rfl, hH, by rw [rr.length]; exact hl, post _ _ W _ _ q (s.setO hi hS hB ⟨hB, _, upd_same, rr.app (.cons rv .nil)⟩) (.setO hi) .non⟩
def mExtend : D → List D → Sto → DP → Prop := fun x ds S P => ∃ i xs y ys, x = .ref i ∧ ds = [y] ∧ S[i]? = some (.lst xs) ∧ lstOf S y = some ys ∧ xs.length + ys.length ≤ sizeLine ∧ P .non (S.set i (.lst (xs ++ ys)))
theorem dm_extend {K : PySem.W.Frag} : DMt K rExtend mExtend := by
  intro W S H x vs d ds P Q s r rs ⟨i, xs, y, ys, e1, e2, hS, hy, hl, q⟩ post
  subst e1 e2
  cases r with
  | ref hi =>
    obtain ⟨v, rfl, rv⟩ := rs.one
    obtain ⟨hB, us, hH, rr⟩ := s.obj i _ _ hi hS
    obtain ⟨b, ws, rfl, hb, rw'⟩ := rv.lst_of s hy
    exact ⟨_, b, us, ws, rfl, rfl, hH, hb, by rw [rr.length, rw'.length]; exact hl, post _ _ W _ _ q (s.setO hi hS hB ⟨hB, _, upd_same, rr.app rw'⟩) (.setO hi) .non⟩
end

/-! ### leaving a def: what the store got there is forgotten -/
mutual
def D.under (n : Nat) : D → Bool
  | .ref i => decide (i < n)
  | .tup xs => unders n xs
  | .lst xs => unders n xs
  | .dct _ xs => unders n xs
  | _ => true
def unders (n : Nat) : List D → Bool
  | [] => true
  | x :: xs => x.under n && unders n xs
end
def O.under (n : Nat) : O → Bool
  | .lst xs => unders n xs
  | .ins _ fs => unders n (fs.map (·.2))
  | .dct _ xs => unders n xs
  | .dead => true
  | .any _ => true
def Wd.cut (W : Wd) (n : Nat) : Wd := ⟨W.m.take n, W.B⟩
section
variable {K : PySem.W.Frag} {W : Wd} {n : Nat}
mutual
theorem Rep.cut : ∀ {v : V} {d : D}, Rep K W v d → d.under n = true → Rep K (W.cut n) v d
  | _, _, .non, _ => .non
  | _, _, .bl b, _ => .bl b
  | _, _, .int i, _ => .int i
  | _, _, .str x, _ => .str x
  | _, _, .ty x, _ => .ty x
  | _, _, .tup h r, e => .tup h (Reps.cutW r e)
  | _, _, .lst h r, e => .lst h (Reps.cutW r e)
  | _, _, .dct h q r, e => .dct h q (Reps.cutW r e)
  | _, _, .scr h, _ => .scr h
  | _, _, .ref h, e => .ref (by
    show (W.m.take n)[_]? = some _
    rw [List.getElem?_take_of_lt (of_decide_eq_true e)]
    exact h)
theorem Reps.cutW : ∀ {vs : List V} {ds : List D}, Reps K W vs ds → unders n ds = true → Reps K (W.cut n) vs ds
  | _, _, .nil, _ => .nil
  | _, _, .cons h r, e => .cons (Rep.cut h (Bool.and_eq_true_iff.mp e).1) (Reps.cutW r (Bool.and_eq_true_iff.mp e).2)
end
mutual
theorem Rep.under : ∀ {v : V} {d : D}, Rep K W v d → d.under W.m.length = true
  | _, _, .non => rfl
  | _, _, .bl b => rfl
  | _, _, .int i => rfl
  | _, _, .str x => rfl
  | _, _, .ty x => rfl
  | _, _, .tup _ r => Reps.under r
  | _, _, .lst _ r => Reps.under r
  | _, _, .dct _ _ r => Reps.under r
  | _, _, .scr _ => rfl
  | _, _, .ref h => decide_eq_true (List.getElem?_eq_some_iff.mp h).1
theorem Reps.under : ∀ {vs : List V} {ds : List D}, Reps K W vs ds → unders W.m.length ds = true
  | _, _, .nil => rfl
  | _, _, .cons h r => Bool.and_eq_true_iff.mpr ⟨Rep.under h, Reps.under r⟩
end
theorem Sim.under {S : Sto} {H : Hp} (s : Sim K W S H) : ∀ o ∈ S, o.under S.length = true := fun o ho => by
  obtain ⟨i, hi⟩ := List.getElem?_of_mem ho
  obtain ⟨a, h1, h2⟩ := s.at hi
  cases o with
  | dead => rfl
  | lst xs => obtain ⟨_, _, _, r⟩ := h2; have := r.under; rw [s.len] at this; exact this
  | ins C fs => obtain ⟨_, _, _, _, r⟩ := h2; have := r.under; rw [s.len] at this; exact this
  | dct ks xs => obtain ⟨_, _, _, _, r⟩ := h2; have := r.under; rw [s.len] at this; exact this
  | any ho => rfl
theorem Sim.cut {S T : Sto} {H : Hp} (s : Sim K W (S ++ T) H) (h : ∀ o ∈ S, o.under S.length = true) : Sim K (W.cut S.length) S H := by
  have hle : S.length ≤ W.m.length := by rw [s.len, List.length_append]; omega
  refine ⟨s.same, by show (W.m.take S.length).length = _; rw [List.length_take]; omega, s.nd.sublist (List.take_sublist _ _), fun a ha => s.dom a (List.mem_of_mem_take ha), fun i a o h1 h2 => ?_⟩
  have hi : i < S.length := (List.getElem?_eq_some_iff.mp h2).1
  have h1 : (W.m.take S.length)[i]? = some a := h1
  rw [List.getElem?_take_of_lt hi] at h1
  have q := s.obj i a o h1 (by rw [List.getElem?_append_left hi]; exact h2)
  have hb := h o (List.mem_of_getElem? h2)
  cases o with
  | dead => trivial
  | lst xs => obtain ⟨b, vs, e, r⟩ := q; exact ⟨b, vs, e, r.cutW hb⟩
  | ins C fs => obtain ⟨b, dx, vs, e, r⟩ := q; exact ⟨b, dx, vs, e, r.cutW hb⟩
  | dct ks xs => obtain ⟨b, vs, e, z, r⟩ := q; exact ⟨b, vs, e, z, r.cutW hb⟩
  | any ho => exact q
theorem Stp.cut {W' : Wd} {H H' : Hp} {k : Nat} (s : Stp W H W' H') (hk : W.m.length ≤ k) : Stp W H (W'.cut k) H' :=
  ⟨⟨fun i a h => by
    show (W'.m.take k)[i]? = some a
    rw [List.getElem?_take_of_lt (Nat.lt_of_lt_of_le (List.getElem?_eq_some_iff.mp h).1 hk)]
    exact s.le.pre i a h, s.le.same⟩, s.keep, s.dom, fun q hq => s.newm q (List.mem_of_mem_take hq), s.newB⟩
end
/-- the end of a def: what lies behind the first of the store's is dropped -/
def atExit (S0 : Sto) (P : DP) : DP := fun d S' => ∃ S1 T, S' = S1 ++ T ∧ S1.length = S0.length ∧ (∀ o ∈ S1, o ∈ S0 ∨ o.under S1.length = true) ∧ d.under S1.length = true ∧ P d S1
theorem Post.exit {K : PySem.W.Frag} {W : Wd} {S : Sto} {H : Hp} {P : DP} {Q : VK} (s : Sim K W S H) (post : Post K W H P Q) : Post K W H (atExit S P) Q := fun d S' W' H' v ⟨S1, T, e, hl, ho, hd, q⟩ s' l r => by
  subst e
  have hb : ∀ o ∈ S1, o.under S1.length = true := fun o h => (ho o h).elim (fun z => by rw [hl]; exact s.under o z) id
  exact post d S1 (W'.cut S1.length) H' v q (s'.cut hb) (l.cut (by rw [s.len, hl]; exact Nat.le_refl _)) (r.cut hd)
def startE (N : List Str) (ds : List D) : Ev := ds.map some ++ List.replicate (N.length - ds.length) none
theorem EnvR.start {K : PySem.W.Frag} {W : Wd} {N : List Str} {vs : List V} {ds : List D} (r : Reps K W vs ds) : EnvR K W (startE N ds) (L2.start N vs) := by
  have hl := r.length
  refine ⟨by unfold L2.start startE; simp [hl], fun i d h => ?_⟩
  unfold startE at h
  have hi : i < ds.length := by
    by_cases hi : i < ds.length
    · exact hi
    · rw [List.getElem?_append_right (by simpa using hi), List.getElem?_replicate] at h
      split at h <;> cases h
  rw [List.getElem?_append_left (by simpa using hi), List.getElem?_map] at h
  cases e : ds[i]? with
  | none => rw [e] at h; cases h
  | some d' =>
    rw [e] at h
    cases h
    obtain ⟨v, h1, h2⟩ := r.get e
    refine ⟨v, ?_, h2⟩
    unfold L2.start
    rw [List.getElem?_append_left (by rw [List.length_map, hl]; exact hi), List.getElem?_map, h1]
    rfl
/-- the ends of a def's body -/
def exitE (S0 : Sto) (P : DP) : DEnds := { nx := fun _ S' => atExit S0 P .non S', rt := atExit S0 P }
/-- a def by its body over data -/
theorem fn_d {P : Program} {w : World} {K : PySem.W.Frag} {mg : Str → Option Value} {base : Heap} {x qual : Str} {st : Stmt} {f : Addr} {fd : FuncData} {N ps : List Str} {k : Nat} {sp : DSp} (F : Fun K x qual st f fd) (S : FnScope N ps (defScope st))
    (len : ∀ ds S P, sp ds S P → ds.length = ps.length)
    (body : ∀ (X : Cx) (W0 : Wd) (cdv : Value) (A : Around) (outer : List Env) (s : Shared) (H : Hp) (E : XK), X = (cxOf CX0 P w K mg base N qual (defScope st) f cdv A outer s H E).nox → Room k X.A →
      ∃ T : DTS, DSs X W0 (defBody st) T ∧ ∀ ds S P, sp ds S P → T (exitE S P) (startE N ds) S) : FnOk P w K mg base CX0 (k + 1) f fd ps (liftSp K sp) := by
  refine F.ok S (fun vs H Q E h => ?_) fun cdv A outer s H vs Q E hr h => ?_
  · obtain ⟨W, ds, S, P, _, r, q, _⟩ := h
    rw [r.length]
    exact len ds S P q
  · obtain ⟨W, ds, S, P, sim, r, q, post⟩ := h
    obtain ⟨T, hT, hq⟩ := body _ W cdv A outer s H E rfl hr
    exact ⟨_, hT, W, startE N ds, S, _, .refl W, sim, EnvR.start r, hq ds S P q, ⟨fun env S' W' H' σ q' s' l _ => post.exit sim _ _ W' H' _ q' s' l .non, post.exit sim, fun _ _ _ _ _ z => z.elim, fun _ _ _ _ _ z => z.elim⟩⟩
end DL

namespace DL
open PySem PySem.Spec PyProof.Rows L2
section
variable {X : Cx} {W0 : Wd} {a b c e tg : Expr} {es : List Expr} {Ta Tb Tc T : DTE} {TA TB : DTT} {TR : DTA} {pos p apos cpos : Pos}
theorem de_mul (ha : DE X W0 a Ta) (hb : DE X W0 b Tb) : DE X W0 (.BinOp a .Mult b pos) (dOp (dI CMul fun i j => .int (i * j)) Ta Tb) := de_op op_mul (dop_I fun _ _ _ => .int _) ha hb
def dNeg (Ta : DTE) : DTE := fun env S P => Ta env S fun x S1 => xInt (fun i => P (.int (-i)) S1) x
theorem de_neg (ha : DE X W0 a Ta) : DE X W0 (.UnaryOp .USub a pos) (dNeg Ta) := (pe_un un_neg ha).imp fun σ H Q ⟨W, env, S, P, hW, sim, er, ht, post⟩ =>
  ⟨W, env, S, _, hW, sim, er, ht, fun x S1 W1 H1 v ⟨i, e, q⟩ s l r => by
    subst e
    exact ⟨i, r.intV, post _ _ W1 H1 _ q s l (.int _)⟩⟩
/-- name = [..], the name a local on the same line -/
theorem ds_setLc {st : Stmt} {i : Nat} {TI : DTI} {G : DTG} {TT : DTT} {ss vs : List Nat} (hss : ∀ i ∈ ss, i ∈ vs) (h : PS X st (tAsg (tLc (liftI X.K W0 TI) (liftG X.K W0 ss G) (liftT X.K W0 TT) (liftE X.K W0 T) vs) (gName i))) : DS X W0 st (dAsg (dPure (dLc TI G TT T vs)) (gNm i)) :=
  h.imp fun D σ H ⟨W, env, S, E, hW, sim, er, ht, post⟩ => lift_lc hss ⟨W, env, S, _, hW, sim, er, ht, fun ds S' W' H' p us q s l hp hB hm hH r =>
    post.nx _ S' (W'.put p (.lst us)) H' _ q (s.adopt hB hm hH) (l.adopt hp hB) ((er.mono (l.adopt hp hB).le).set (.lst upd_same (r.mono (Wd.le_put hB))))⟩
theorem ds_setLcN {st : Stmt} {i : Nat} {TI : DTI} {G : DTG} {TT : DTT} {ss vs : List Nat} (hss : ∀ i ∈ ss, i ∈ vs) (h : PS X st (tAsg (tLc (liftI X.K W0 TI) (liftG X.K W0 ss G) (liftT X.K W0 TT) (liftE X.K W0 T) vs) (gName i))) : DS X W0 st (dAsg (dNew (dLc TI G TT T vs)) (gNm i)) :=
  h.imp fun D σ H ⟨W, env, S, E, hW, sim, er, ht, post⟩ => lift_lc hss ⟨W, env, S, _, hW, sim, er, ht, fun ds S' W' H' p us q s l hp hB hm hH r =>
    post.nx _ _ (W'.new p) H' _ q (s.adoptO hB hm (by rw [hH]; exact fun z => nomatch z) ⟨hB, us, hH, r.mono Wd.le_new⟩) (l.adoptO hp) ((er.mono (l.adoptO hp).le).set (.ref (by show (W'.m ++ [p])[S'.length]? = some p; rw [← s.len, List.getElem?_append_right (Nat.le_refl _), Nat.sub_self]; rfl)))⟩
/-- a statement, then the rest, by a word between them -/
def dCut (TS TU : DTS) : DTS := fun E env S => ∃ M : Ev → Sto → Prop, TS { E with nx := M } env S ∧ ∀ env' S', M env' S' → TU E env' S'
theorem dss_cut {st : Stmt} {sts : List Stmt} {TS TU : DTS} (h1 : DS X W0 st TS) (h2 : DSs X W0 sts TU) : DSs X W0 (st :: sts) (dCut TS TU) := (Evl.pss_cut h1 h2).imp fun D σ H ⟨W, env, S, E, hW, sim, er, ⟨M, ht, hm⟩, post⟩ =>
  ⟨fun σ' H' => ∃ W' env' S', Stp W H W' H' ∧ Sim X.K W' S' H' ∧ EnvR X.K W' env' σ' ∧ M env' S', ⟨W, env, S, _, hW, sim, er, ht, ⟨fun env1 S1 W1 H1 σ1 q s l er1 => ⟨W1, env1, S1, l, s, er1, q⟩, post.rt, post.bk, post.ct⟩⟩,
    fun σ' H' ⟨W', env', S', l, s, er', q⟩ => ⟨W', env', S', E, hW.trans l.le, s, er', hm env' S' q, post.mono l⟩⟩
/-- a, b = x, y -/
def xPar (F : D → D → Prop) (ds : List D) : Prop := ∃ d1 d2, ds = [d1, d2] ∧ F d1 d2
def dPar (i j : Nat) (TR : DTA) : DTS := fun E env S => TR env S fun ds S1 => xPar (fun d1 d2 => E.nx ((env.set i (some d1)).set j (some d2)) S1) ds
theorem ds_par {st : Stmt} {i j : Nat} (ha : DA X W0 es TR) (h : ∀ {ta : L2.TA}, PA X es ta → PS X st (tPar i j ta)) : DS X W0 st (dPar i j TR) := (h ha).imp fun D σ H ⟨W, env, S, E, hW, sim, er, ht, post⟩ =>
  ⟨W, env, S, _, hW, sim, er, ht, fun ds S1 W1 H1 vs ⟨d1, d2, e, q⟩ s l r => by
    subst e
    obtain ⟨v, w, rfl, rv, rw'⟩ := r.two
    exact ⟨v, w, rfl, post.nx _ S1 W1 H1 _ q s l (((er.mono l.le).set rv).set rw')⟩⟩
end
end DL

namespace DL
open PySem PySem.Spec PyProof.Rows L2
/-! ### the readings' steps, one lemma a head -/
section
variable {env : Ev} {S S' : Sto} {P : DP} {Q : List D → Sto → Prop} {B : Bool → Sto → Prop} {E : DEnds} {Ta Tb Tc T : DTE} {TA TB : DTT} {TR : DTA} {TN : DTN} {TS TU : DTS} {G : DTG} {Gs : DTGs} {R R' : D2} {x y d d1 d2 : D} {xs ys ds : List D} {i j k : Int} {n : Nat} {b : Bool} {N : Ev → Sto → Prop} {TO Th : DTO} {O' : Option Int → Sto → Prop}
theorem i_var (h : env[n]? = some (some d)) (q : P d S) : dVar n env S P := ⟨d, h, q⟩
theorem i_c (q : P d S) : dC d env S P := q
theorem i_op (q : Ta env S fun d1 S1 => Tb env S1 fun d2 S2 => R d1 d2 S2 P) : dOp R Ta Tb env S P := q
theorem i_opN {RN : D2N} (q : Ta env S fun d1 S1 => Tb env S1 fun d2 S2 => RN d1 d2 S2 Q) : dOpN RN Ta Tb env S Q := q
theorem i_pure (q : TN env S fun ds S' => P (.lst ds) S') : dPure TN env S P := q
theorem i_new (q : TN env S fun ds S' => P (.ref S'.length) (S' ++ [.lst ds])) : dNew TN env S P := q
theorem i_I {C : Int → Int → Prop} {g : Int → Int → D} (h : C i j) (q : P (g i j) S) : dI C g (.int i) (.int j) S P := ⟨i, j, rfl, rfl, h, q⟩
theorem i_I0 {g : Int → Int → D} (q : P (g i j) S) : dI0 g (.int i) (.int j) S P := ⟨i, j, rfl, rfl, q⟩
theorem i_addI (q : P (.int (i + j)) S) : dAdd (.int i) (.int j) S P := q
theorem i_addT (hl : xs.length + ys.length ≤ sizeLine) (q : P (.tup (xs ++ ys)) S) : dAdd (.tup xs) (.tup ys) S P := ⟨hl, q⟩
theorem i_cat (h1 : lstOf S x = some xs) (h2 : lstOf S y = some ys) (hl : xs.length + ys.length ≤ sizeLine) (q : Q (xs ++ ys) S) : dCat x y S Q := ⟨xs, ys, h1, h2, hl, q⟩
theorem i_addL (q : dCat (.lst xs) y S fun zs S' => P (.lst zs) S') : dAdd (.lst xs) y S P := by cases y <;> exact q
theorem i_addR {m : Nat} (q : dCat (.ref m) y S fun zs S' => P (.lst zs) S') : dAdd (.ref m) y S P := by cases y <;> exact q
theorem i_rep (h1 : lstOf S x = some xs) (h2 : -(2 ^ 63) ≤ k) (h3 : k < 2 ^ 63) (hl : xs.length * k.toNat ≤ sizeLine) (q : Q (List.replicate k.toNat xs).flatten S) : dRep x (.int k) S Q := ⟨xs, k, h1, rfl, h2, h3, hl, q⟩
theorem i_ix (h1 : seqOf S x = some xs) (h2 : L2.atI xs i = some d) (q : P d S) : dIx x (.int i) S P := ⟨xs, i, d, h1, rfl, h2, q⟩
theorem i_eqI {g : Bool → Bool} (q : P (.bl (g (decide (i = j)))) S) : dEqG g (.int i) (.int j) S P := q
theorem i_eqS {g : Bool → Bool} {u v : Str} (q : P (.bl (g (decide (u = v)))) S) : dEqG g (.str u) (.str v) S P := q
theorem i_eqB {g : Bool → Bool} {u v : Bool} (q : P (.bl (g (decide (u = v)))) S) : dEqG g (.bl u) (.bl v) S P := q
theorem i_is {g : Bool → Bool} (q : P (.bl (g (isNon x))) S) : dIs g x .non S P := ⟨rfl, q⟩
theorem i_B (q : T env S fun d S' => dBx (fun k => B k S') d) : dB T env S B := q
theorem i_Bx {B : Bool → Prop} (q : B b) : dBx B (.bl b) := ⟨b, rfl, q⟩
theorem i_and (q : TA env S fun k S1 => if k = true then TB env S1 B else B false S1) : dAnd TA TB env S B := q
theorem i_or (q : TA env S fun k S1 => if k = true then B true S1 else TB env S1 B) : dOr TA TB env S B := q
theorem i_chain (q : Ta env S fun x S1 => Tb env S1 fun y S2 => R x y S2 fun z S3 => dBx (fun k => if k = true then Tc env S3 fun w S4 => R' y w S4 P else P (.bl false) S3) z) : dChain R R' Ta Tb Tc env S P := q
theorem i_not (q : TA env S fun k S1 => B (!k) S1) : dNot TA env S B := q
theorem i_if (q : TA env S fun k S1 => if k = true then Ta env S1 P else Tb env S1 P) : dIf TA Ta Tb env S P := q
theorem i_andV (q : Ta env S fun x S1 => dBx (fun k => if k = true then Tb env S1 P else P (.bl false) S1) x) : dAndV Ta Tb env S P := q
theorem i_orV (q : Ta env S fun x S1 => dBx (fun k => if k = true then P (.bl true) S1 else Tb env S1 P) x) : dOrV Ta Tb env S P := q
theorem i_notV (q : Ta env S fun x S1 => dBx (fun k => P (.bl (!k)) S1) x) : dNotV Ta env S P := q
theorem i_nil (q : Q [] S) : dNil env S Q := q
theorem i_cons (q : Ta env S fun x S1 => TR env S1 fun xs S2 => Q (x :: xs) S2) : dCons Ta TR env S Q := q
theorem i_xstar {F : List D → Prop} (h : seqOf S x = some xs) (q : F xs) : xStar F x S := ⟨xs, h, q⟩
theorem i_star (q : Ta env S fun x S1 => xStar (fun xs => TR env S1 fun ys S2 => Q (xs ++ ys) S2) x S1) : dStar Ta TR env S Q := q
theorem i_tup (q : TR env S fun xs S1 => xs.length ≤ sizeLine ∧ P (.tup xs) S1) : dTup TR env S P := q
theorem i_lst (q : TR env S fun xs S1 => xs.length ≤ sizeLine ∧ Q xs S1) : dLst TR env S Q := q
theorem i_call {F : List D → Sto → DP → Prop} (q : TR env S fun ds S1 => F ds S1 P) : dCall F TR env S P := q
theorem i_callN {F : List D → Sto → (List D → Sto → Prop) → Prop} (q : TR env S fun ds S1 => F ds S1 Q) : dCallN F TR env S Q := q
theorem i_len (h : itemsOf S d = some xs) (q : P (.int xs.length) S) : bLen [d] S P := ⟨d, xs, rfl, h, q⟩
theorem i_min (q : P (.int (if j < i then j else i)) S) : bMin [.int i, .int j] S P := ⟨i, j, rfl, q⟩
theorem i_max (q : P (.int (if j > i then j else i)) S) : bMax [.int i, .int j] S P := ⟨i, j, rfl, q⟩
theorem i_list (h : itemsOf S d = some xs) (q : Q xs S) : bList [d] S Q := ⟨d, xs, rfl, h, q⟩
theorem i_tuple (h : seqOf S d = some xs) (q : P (.tup xs) S) : bTuple [d] S P := ⟨d, xs, rfl, h, q⟩
theorem i_xint {F : Int → Prop} (q : F i) : xInt F (.int i) := ⟨i, rfl, q⟩
theorem i_neg (q : Ta env S fun x S1 => xInt (fun i => P (.int (-i)) S1) x) : dNeg Ta env S P := q
theorem i_part (q : Ta env S fun x S1 => xInt (fun i => O' (some i) S1) x) : dPart Ta env S O' := q
theorem i_nopart (q : O' none S) : dNoPart env S O' := q
theorem i_sl {F : D → Option Int → Option Int → Sto → (List D → Sto → Prop) → Prop} (q : Ta env S fun x S1 => TO env S1 fun l S2 => Th env S2 fun u S3 => F x l u S3 Q) : dSl F Ta TO Th env S Q := q
theorem i_xslL {l u : Option Int} (h : lstOf S x = some xs) (q : Q (cutD xs l u) S) : xSlL x l u S Q := ⟨xs, h, q⟩
theorem i_slT (q : Ta env S fun x S1 => TO env S1 fun l S2 => Th env S2 fun u S3 => xSlT x l u S3 P) : dSlT Ta TO Th env S P := q
theorem i_xslT {l u : Option Int} (q : P (.tup (cutD xs l u)) S) : xSlT (.tup xs) l u S P := ⟨xs, rfl, q⟩
theorem i_xtp {F : IP} (q : F ds (fun _ => True) S) : xTp F (.tup ds) S := ⟨ds, rfl, q⟩
theorem i_xls {F : IP} (q : F ds (fun _ => True) S) : xLs F (.lst ds) S := ⟨ds, _, ⟨rfl, rfl⟩, q⟩
theorem i_xlsS {F : IP} {ns : List Int} (q : F (ns.map .int) (fun _ => True) S) : xLs F (.scr ns) S := ⟨_, _, ⟨rfl, rfl⟩, q⟩
theorem i_xlsR {F : IP} {m : Nat} (h : S[m]? = some (.lst ds)) (q : F ds (fun S' => S'[m]? = some (.lst ds)) S) : xLs F (.ref m) S := ⟨ds, _, ⟨h, rfl⟩, q⟩
theorem i_rg1 {F : IP} (h1 : -(2 ^ 62) ≤ j) (h2 : j < 2 ^ 62) (q : F (rangeD 0 j.toNat) (fun _ => True) S) : xRg1 F [.int j] S := ⟨j, rfl, h1, h2, q⟩
theorem i_xen {F : IP} (q : F (enumD 0 xs) (fun _ => True) S) : xEn F [.lst xs] S := ⟨xs, rfl, q⟩
theorem i_xzpL {F : IP} (q : F (zipD xs ys) (fun _ => True) S) : xZp F [.lst xs, .lst ys] S := .inl ⟨xs, ys, rfl, q⟩
theorem i_xzpT {F : IP} (q : F (zipD xs ys) (fun _ => True) S) : xZp F [.tup xs, .tup ys] S := .inr ⟨xs, ys, rfl, q⟩
theorem i_irg1 {F : IP} (q : TR env S (xRg1 F)) : iRg1 TR env S F := q
theorem i_itp {F : IP} (q : T env S (xTp F)) : iTp T env S F := q
theorem i_ils {F : IP} (q : T env S (xLs F)) : iLs T env S F := q
theorem i_ien {F : IP} (q : TR env S (xEn F)) : iEn TR env S F := q
theorem i_izp {F : IP} (q : TR env S (xZp F)) : iZp TR env S F := q
theorem i_for {TI : DTI} (q : TI env S fun ds ok S1 => xFor ds ok S1 G TS E env) : dFor TI G TS E env S := q
theorem i_lc {TI : DTI} {TT : DTT} {vs : List Nat} (q : TI env S fun ds ok S1 => xLc ds ok S1 G TT T vs env Q) : dLc TI G TT T vs env S Q := q
theorem i_yes (q : B true S) : dYes env S B := q
theorem i_in {neg : Bool} {v : V} {vs : List V} (h1 : seqOf S y = some ys) (h2 : flatD x = some v) (h3 : flatsD ys = some vs) (q : P (.bl (if neg then !inV v vs else inV v vs)) S) : dIn neg x y S P := ⟨ys, v, vs, h1, h2, h3, q⟩
theorem i_sum {ns : List Int} (h : lstOf S d = some (ns.map .int)) (q : P (.int ns.sum) S) : bSum [d] S P := ⟨d, ns, rfl, h, q⟩
theorem i_all {bs : List Bool} (h : lstOf S d = some (bs.map .bl)) (q : P (.bl (bs.all id)) S) : bAll [d] S P := ⟨d, bs, rfl, h, q⟩
theorem i_isi {u v : String} {kk : Bool} (h1 : tyOf S d = some u) (h2 : kitB u v = some kk) (q : P (.bl kk) S) : bIsi [d, .ty v] S P := ⟨d, u, v, kk, rfl, h1, h2, q⟩
theorem i_xpar {F : D → D → Prop} (q : F d1 d2) : xPar F [d1, d2] := ⟨d1, d2, rfl, q⟩
theorem i_par {p1 p2 : Nat} (q : TR env S fun ds S1 => xPar (fun d1 d2 => E.nx ((env.set p1 (some d1)).set p2 (some d2)) S1) ds) : dPar p1 p2 TR E env S := q
theorem i_asg (q : T env S fun d S1 => G d env S1 E.nx) : dAsg T G E env S := q
theorem i_nm (q : N (env.set n (some d)) S) : gNm n d env S N := q
theorem i_tp (h : ds.length = n) (q : Gs ds env S N) : gTp n Gs (.tup ds) env S N := ⟨ds, rfl, h, q⟩
theorem i_gc (q : G d env S fun env' S' => Gs ds env' S' N) : gCs G Gs (d :: ds) env S N := ⟨d, ds, rfl, q⟩
theorem i_gn (q : N env S) : gNl [] env S N := ⟨rfl, q⟩
theorem i_sb (q : Ta env S fun x S1 => Tb env S1 fun y S2 => setAt x y d S2 fun S3 => N env S3) : gSb Ta Tb d env S N := q
theorem i_set {m p : Nat} {F : Sto → Prop} (h1 : S[m]? = some (.lst xs)) (h2 : ixN xs.length i = some p) (q : F (S.set m (.lst (xs.set p d)))) : setAt (.ref m) (.int i) d S F := ⟨m, xs, i, p, rfl, h1, rfl, h2, q⟩
theorem i_seq (q : TS { E with nx := TU E } env S) : dSeq TS TU E env S := q
theorem i_drop (q : T env S fun _ S1 => E.nx env S1) : dDrop T E env S := q
theorem i_ret (q : T env S E.rt) : dRet T E env S := q
theorem i_ifS (q : TA env S fun k S1 => if k = true then TS E env S1 else TU E env S1) : dIfS TA TS TU E env S := q
theorem i_next (q : E.nx env S) : dNext E env S := q
theorem i_mt {F : D → List D → Sto → DP → Prop} (q : Ta env S fun x S1 => (∃ i xs, x = .ref i ∧ S1[i]? = some (.lst xs)) ∧ TR env S1 fun ds S2 => F x ds S2 P) : dMt F Ta TR env S P := q
theorem i_mtx {m : Nat} {A : Prop} (h : S[m]? = some (.lst xs)) (q : A) : (∃ i ys, D.ref m = .ref i ∧ S[i]? = some (.lst ys)) ∧ A := ⟨⟨m, xs, rfl, h⟩, q⟩
theorem i_append {m : Nat} (h : S[m]? = some (.lst xs)) (hl : xs.length < sizeLine) (q : P .non (S.set m (.lst (xs ++ [d])))) : mAppend (.ref m) [d] S P := ⟨m, xs, d, rfl, rfl, h, hl, q⟩
theorem i_exit {S1 T' : Sto} (e : S' = S1 ++ T') (hl : S1.length = S.length) (ho : ∀ o ∈ S1, o ∈ S ∨ o.under S1.length = true) (hd : d.under S1.length = true) (q : P d S1) : atExit S P d S' := ⟨S1, T', e, hl, ho, hd, q⟩
end
theorem noslice {a b : Prop} (h : b) (_ : a) : b := h
end DL

namespace DL
open PySem PySem.Spec PyProof.Rows L2
section
variable {S : Sto} {P : DP} {x y d : D} {A : Prop} {n : Nat}
theorem i_sz (h : decide (n ≤ 100000) = true) (q : A) : n ≤ sizeLine ∧ A := ⟨Nat.le_trans (of_decide_eq_true h) (by decide), q⟩
theorem sz_le (h : n ≤ 100000) : n ≤ sizeLine := Nat.le_trans h (by decide)
theorem sz_lt (h : n < 100000) : n < sizeLine := Nat.lt_of_lt_of_le h (by decide)
/-! ### a list against the empty one -/
theorem allOf_ints {S : Sto} {m : Nat} : ∀ ns : List Int, allOf (pyOf S (m + 1)) (ns.map .int) = some (ns.map .int)
  | [] => rfl
  | k :: ns => by
    show (match pyOf S (m + 1) (.int k), allOf (pyOf S (m + 1)) (ns.map .int) with | some p, some ps => some (p :: ps) | _, _ => none) = _
    rw [allOf_ints ns]
    rfl
theorem canLay_ints : ∀ ns : List Int, PyData.canLayAll0 (ns.map .int) = true
  | [] => rfl
  | k :: ns => by
    show (PyData.canLay0 (.int k) && PyData.canLayAll0 (ns.map .int)) = true
    rw [canLay_ints ns]
    rfl
theorem depth_ints : ∀ ns : List Int, PyData.depthAll (ns.map .int) = 0
  | [] => by simp [PyData.depthAll]
  | k :: ns => by simp [PyData.depthAll, PyData.depth, depth_ints ns]
theorem shaped_ints (ns : List Int) : SeqAt.shaped (.list (ns.map .int)) = true := by
  unfold SeqAt.shaped
  rw [show PyData.canLay0 (.list (ns.map .int)) = true from canLay_ints ns]
  simp [PyData.depth, depth_ints]
theorem eqv_nil (qs : List PyData) : PyData.eqv (.list qs) (.list []) = qs.isEmpty := by
  cases qs <;> simp [PyData.eqv, PyData.eqvAll]
theorem i_eqNil {g : Bool → Bool} {ns : List Int} (h : lstOf S x = some (ns.map .int)) (q : P (.bl (g ns.isEmpty)) S) : dEqG g x (.lst []) S P := by
  have hp : pyOf S 2 x = some (.list (ns.map .int)) := by
    cases x with
    | lst xs =>
      cases h
      show (allOf (pyOf S 1) (ns.map .int)).map PyData.list = _
      rw [allOf_ints]
      rfl
    | ref i =>
      dsimp only [lstOf] at h
      show (match S[i]? with | some (.lst xs) => (allOf (pyOf S 1) xs).map PyData.list | _ => none) = _
      cases hs : S[i]? with
      | none => rw [hs] at h; cases h
      | some o =>
        rw [hs] at h
        cases o with
        | lst xs =>
          cases h
          show (allOf (pyOf S 1) (ns.map .int)).map PyData.list = _
          rw [allOf_ints]
          rfl
        | _ => cases h
    | _ => cases h
  have e : PyData.eqv (.list (ns.map .int)) (.list []) = ns.isEmpty := by
    rw [eqv_nil]
    cases ns <;> rfl
  have go : ∃ n q r, pyOf S n x = some q ∧ pyOf S n (.lst []) = some r ∧ SeqAt.shaped q = true ∧ SeqAt.shaped r = true ∧ P (.bl (g (PyData.eqv q r))) S :=
    ⟨2, _, .list [], hp, rfl, shaped_ints ns, by decide, by rw [e]; exact q⟩
  cases x with
  | int i => cases h
  | str i => cases h
  | bl i => cases h
  | _ => exact go
theorem at_get {ns : List Int} {i : Int} (h0 : 0 ≤ i) (h1 : i < ns.length) : ∃ c, L2.atI (ns.map D.int) i = some (.int c) := by
  obtain ⟨m, rfl⟩ : ∃ m : Nat, i = m := ⟨i.toNat, by omega⟩
  have hi : m < ns.length := by omega
  exact ⟨ns[m], atI_nat (by rw [List.getElem?_map, List.getElem?_eq_getElem hi]; rfl)⟩
theorem kit_NoneType_int : kitB "NoneType" "int" = some false := by decide +kernel
theorem kit_NoneType_bool : kitB "NoneType" "bool" = some false := by decide +kernel
theorem kit_NoneType_str : kitB "NoneType" "str" = some false := by decide +kernel
theorem kit_NoneType_tuple : kitB "NoneType" "tuple" = some false := by decide +kernel
theorem kit_NoneType_list : kitB "NoneType" "list" = some false := by decide +kernel
theorem kit_bool_int : kitB "bool" "int" = some true := by decide +kernel
theorem kit_bool_bool : kitB "bool" "bool" = some true := by decide +kernel
theorem kit_bool_str : kitB "bool" "str" = some false := by decide +kernel
theorem kit_bool_tuple : kitB "bool" "tuple" = some false := by decide +kernel
theorem kit_bool_list : kitB "bool" "list" = some false := by decide +kernel
theorem kit_int_int : kitB "int" "int" = some true := by decide +kernel
theorem kit_int_bool : kitB "int" "bool" = some false := by decide +kernel
theorem kit_int_str : kitB "int" "str" = some false := by decide +kernel
theorem kit_int_tuple : kitB "int" "tuple" = some false := by decide +kernel
theorem kit_int_list : kitB "int" "list" = some false := by decide +kernel
theorem kit_str_int : kitB "str" "int" = some false := by decide +kernel
theorem kit_str_bool : kitB "str" "bool" = some false := by decide +kernel
theorem kit_str_str : kitB "str" "str" = some true := by decide +kernel
theorem kit_str_tuple : kitB "str" "tuple" = some false := by decide +kernel
theorem kit_str_list : kitB "str" "list" = some false := by decide +kernel
theorem kit_tuple_int : kitB "tuple" "int" = some false := by decide +kernel
theorem kit_tuple_bool : kitB "tuple" "bool" = some false := by decide +kernel
theorem kit_tuple_str : kitB "tuple" "str" = some false := by decide +kernel
theorem kit_tuple_tuple : kitB "tuple" "tuple" = some true := by decide +kernel
theorem kit_tuple_list : kitB "tuple" "list" = some false := by decide +kernel
theorem kit_list_int : kitB "list" "int" = some false := by decide +kernel
theorem kit_list_bool : kitB "list" "bool" = some false := by decide +kernel
theorem kit_list_str : kitB "list" "str" = some false := by decide +kernel
theorem kit_list_tuple : kitB "list" "tuple" = some false := by decide +kernel
theorem kit_list_list : kitB "list" "list" = some true := by decide +kernel
theorem ite_t {c A B : Prop} [Decidable c] (hc : c) (h : A) : if c then A else B := by rw [if_pos hc]; exact h
theorem ite_f {c A B : Prop} [Decidable c] (hc : ¬ c) (h : B) : if c then A else B := by rw [if_neg hc]; exact h
end
end DL

namespace DL
open PySem PySem.Spec PyProof.Rows L2
/-! ### defs by name -/
def Fn (P : Program) (w : World) (K : PySem.W.Frag) (mg : Str → Option Value) (base : Heap) (x : Str) (k : Nat) (ps : List Str) (sp : DSp) : Prop :=
  ∃ (f : Addr) (fd : FuncData), mg x = some (.ref f) ∧ PySem.W.keepIn K (.ref f) = true ∧ Binds K fd ps [] ∧ FnOk P w K mg base CX0 k f fd ps (liftSp K sp)
/-- where a def stands -/
structure At (K : PySem.W.Frag) (mg : Str → Option Value) (x : Str) (st : Stmt) (ps : List Str) : Prop where
  ex : ∃ (f : Addr) (fd : FuncData), mg x = some (.ref f) ∧ Fun K x x st f fd ∧ Binds K fd ps []
section
variable {P : Program} {w : World} {K : PySem.W.Frag} {mg : Str → Option Value} {base : Heap}
theorem fn_at {x : Str} {st : Stmt} {ps : List Str} {k : Nat} {sp : DSp} (h : At K mg x st ps) (ok : ∀ f fd, Fun K x x st f fd → FnOk P w K mg base CX0 k f fd ps (liftSp K sp)) : Fn P w K mg base x k ps sp := by
  obtain ⟨f, fd, h1, h2, h3⟩ := h.ex
  exact ⟨f, fd, h1, h2.kp, h3, ok f fd h2⟩
theorem Fn.imp {x : Str} {ps : List Str} {k : Nat} {sp sp' : DSp} (h : Fn P w K mg base x k ps sp) (i : ∀ ds S P, sp' ds S P → sp ds S P) : Fn P w K mg base x k ps sp' := by
  obtain ⟨f, fd, h1, h2, h3, h4⟩ := h
  exact ⟨f, fd, h1, h2, h3, h4.imp fun vs H Q E ⟨W, ds, S, P, s, r, q, post⟩ => ⟨W, ds, S, P, s, r, i ds S P q, post⟩⟩
end
section
variable {X : Cx} {W0 : Wd} {e : Expr} {es : List Expr} {TR : DTA} {pos p : Pos}
theorem de_fn {x : Str} {k : Nat} {ps : List Str} {sp : DSp} (h : Fn X.prog X.w X.K X.mg X.base x k ps sp) (hr : Room k X.A) (hg : Gl X x) (ha : DA X W0 (e :: es) TR) (hdb : (x == ("__debug__" : Str)) = false := by decide) (he : starEach (e :: es) X.env = (false, eval e X.env) :: starEach es X.env := by rfl) (hpl : (backTo pos (starEach es X.env)).any (·.1) = false := by rfl) :
    DE X W0 (.Call (.Name x p) (e :: es) [] pos) (dCall sp TR) := by
  obtain ⟨f, fd, h1, h2, h3, h4⟩ := h
  exact de_call (k := k) (f := f) (fd := fd) (ps := ps) ha fun q => pe_call h4 hr hg h1 h2 h3 .nil pass0 q hdb he hpl
end
end DL

namespace DL
open PySem PySem.Spec PyProof.Rows L2

theorem ext_tup (l b : Addr) (xs ys : Array Value) (n m : Nat) (dd : Option Addr) (sl : Array (Option Value)) (h0 : xs.size + ys.size ≤ sizeLine) (hl : ¬ (!xs.isEmpty && Builtin.List.listTooLong (xs.size + ys.size)) = true) :
    Meets (Builtin.«list.extend» ⟨[.ref l, .ref b], []⟩) (fun _ R s => s.heap.get? l = some { cls := .type "list", data := .seq xs n } ∧ s.heap.get? b = some { cls := .type "tuple", dict := dd, data := .seq ys m, slots := sl } ∧
      R (.ok (.ret Value.none)) { s with heap := s.heap.update l (Obj.mapSeq fun z => z ++ ys) }) := by
  refine .of_wp fun prog w A R s h => ?_
  obtain ⟨g1, g2, q⟩ := h
  have z1 : (xs ++ ys).size ≤ sizeLine + 1 := by rw [Array.size_append]; omega
  have z2 : xs.size ≤ sizeLine := by omega
  have a1 := PySem.AutoSeq1.idx_int
  have a2 := PySem.AutoSeq1.sub_tuple_tuple
  have a3 := PySem.AutoSeq1.sub_tuple_list
  have a4 := PySem.AutoSeq1.sub_list_tuple
  have a5 := PySem.AutoSeq1.sub_list_list
  wp_walk using (wpAny_updateSeq g1 rfl (hz := z2) (_hz' := z1)), wpAny_loadPart' g1, wpAny_loadPart' g2
  exact ⟨_, rfl, q⟩
section
variable {X : Cx}
/-- xs.extend(t), t a tuple -/
def rExtT (K : PySem.W.Frag) : V → List V → Hp → VK → Prop := fun x vs H Q => ∃ l b xs zs, x = .ref l ∧ vs = [.ref b] ∧ H l = some (.lst xs) ∧ SqT K H b zs ∧ xs.length + zs.length ≤ sizeLine ∧ Q .non (upd H l (.lst (xs ++ zs)))
theorem mt_extT : MtM X "list.extend" (rExtT X.K) := by
  rintro pins s σ H x vs v us Q I rx rv ⟨l, b, xs, zs, rfl, rfl, hl, hb, hz, q⟩
  obtain ⟨u, rfl, ru⟩ := rv.one
  cases ru
  cases rx
  obtain ⟨_, its, n, r, e1, e⟩ := I.lstM hl
  obtain ⟨jts, r2, ⟨o, e2, c2, m, d2⟩, _⟩ := I.tuple hb
  obtain ⟨oc, od, dt, sl⟩ := o
  cases c2
  cases d2
  have e3 := r2.length
  have hsum : its.toArray.size + jts.toArray.size ≤ sizeLine := by simp only [List.size_toArray]; omega
  have big : ¬ (!its.toArray.isEmpty && Builtin.List.listTooLong (its.toArray.size + jts.toArray.size)) = true := fun z => by
    rw [notLongL hsum] at z
    simp at z
  refine call_meets F.slot_list_extend ⟨_, e, rfl⟩ F.entry_list_extend (F.args_list_extend_2 _ _) (ext_tup l b _ _ n m od sl hsum big) ⟨e, e2, .non, _, ?_, rfl, q⟩
  exact I.lset (t' := s.toks) (its' := its ++ jts) hl e (by simp) (r.append r2) (by rw [List.length_append]; exact hz)
def mExtT : D → List D → Sto → DP → Prop := fun x ds S P => ∃ i xs ys, x = .ref i ∧ ds = [.tup ys] ∧ S[i]? = some (.lst xs) ∧ xs.length + ys.length ≤ sizeLine ∧ P .non (S.set i (.lst (xs ++ ys)))
theorem dm_extT {K : PySem.W.Frag} : DMt K (rExtT K) mExtT := by
  rintro W S H x vs d ds P Q s r rs ⟨i, xs, ys, rfl, rfl, hS, hz, q⟩ post
  cases r with
  | ref hi =>
    obtain ⟨v, rfl, rv⟩ := rs.one
    obtain ⟨hB, us, hH, rr⟩ := s.obj i _ _ hi hS
    obtain ⟨b, ws, rfl, hb, rw'⟩ := rv.tupV
    exact ⟨_, b, us, ws, rfl, rfl, hH, same_sqt s.same hb, by rw [rr.length, rw'.length]; exact hz, post _ _ W _ _ q (s.setO hi hS hB ⟨hB, _, upd_same, rr.app rw'⟩) (.setO hi) .non⟩
theorem i_extT {S : Sto} {P : DP} {xs ys : List D} {m : Nat} (h : S[m]? = some (.lst xs)) (hl : xs.length + ys.length ≤ sizeLine) (q : P .non (S.set m (.lst (xs ++ ys)))) : mExtT (.ref m) [.tup ys] S P := ⟨m, xs, ys, rfl, rfl, h, hl, q⟩
theorem i_ext {S : Sto} {P : DP} {xs ys : List D} {y : D} {m : Nat} (h : S[m]? = some (.lst xs)) (h2 : lstOf S y = some ys) (hl : xs.length + ys.length ≤ sizeLine) (q : P .non (S.set m (.lst (xs ++ ys)))) : mExtend (.ref m) [y] S P := ⟨m, xs, y, ys, rfl, rfl, h, h2, hl, q⟩
end
end DL

namespace DL
open PySem PySem.Spec PyProof.Rows L2
abbrev enumO (k : Addr) : Obj := { cls := .type "enumerate", data := .fields #[.none, .bool false, .ref k, rawInt 0, .none, .none] }
/-- enumerate(v), one argument, v told by how its iterator begins -/
theorem enum1 {v : Value} {o : Obj} {Hh : Heap → Prop} (B : Begins v o Hh) : Meets (Builtin.«enumerate.__new__» ⟨[.type "enumerate", v], []⟩) (fun _ R s => Hh s.heap ∧ R (.ok (.ret (.ref (s.heap.push o).objs.size))) { s with heap := (s.heap.push o).push (enumO s.heap.objs.size) }) := by
  refine .of_wp fun prog w A R s ⟨b, q⟩ => ?_
  have sub := sub_enumerate
  cases s
  have begun := fun {A' : Around} {E : Value → Shared → Prop} {Q : Value → Shared → Prop} z => B.iter prog w A' E _ Q b z
  wp_walk using begun
  refine wpAny_stack_any fun st => wpAny_pure ?_
  split
  all_goals (try (rename_i c _ _ _ _ _; generalize (c == Value.type "enumerate") = z; cases z))
  all_goals (wp_walk using begun; exact ⟨_, rfl, q⟩)
section
variable {prog : Program} {w : World} {A : Around} {E : Value → Shared → Prop} {s : Shared}
theorem call_enum1 {v : Value} {o : Obj} {Hh : Heap → Prop} {Q : Value → Shared → Prop} (B : Begins v o Hh) (h1 : Hh s.heap)
    (h : ∀ h', IsEnum h' (s.heap.objs.size + 1) s.heap.objs.size 0 .none → h'.get? s.heap.objs.size = some o → (∀ b u, s.heap.get? b = some u → h'.get? b = some u) → Q (.ref (s.heap.objs.size + 1)) { s with heap := h' }) :
    wpAny (model prog w) A (call (.type "enumerate") [v]) Q E s := by
  have e1 : (s.heap.push o).objs.size = s.heap.objs.size + 1 := Heap.size_push ..
  have e2 : ((s.heap.push o).push (enumO s.heap.objs.size)).get? (s.heap.objs.size + 1) = some (enumO s.heap.objs.size) := by
    rw [← e1]
    exact Heap.get?_push_size _ rfl
  refine callType_new F.called_enumerate (by decide) (F.typeCall_enumerate_1 _) (F.newCall_enumerate_1 _) (fun ob => F.args_object_init_2 ob _) F.entry_enumerate_new (enum1 B) ⟨h1, ?_⟩
  have k2 : ∀ b u, s.heap.get? b = some u → ((s.heap.push o).push (enumO s.heap.objs.size)).get? b = some u := fun b u z => Heap.get?_push_of_some _ (Heap.get?_push_of_some _ z)
  have q := h ((s.heap.push o).push (enumO s.heap.objs.size)) e2 (Heap.get?_push_of_some _ (Heap.get?_push_size _ B.free)) k2
  rw [← e1] at q e2
  exact ⟨⟨_, e2, rfl⟩, q⟩
end
def IteT (K : PySem.W.Frag) (a : Addr) : It where
  go := fun i H => ∃ (xs : List V) (x : V), SqT K H a xs ∧ xs[i]? = some x
  yld := fun i H v H' => ∃ T x, v = .ref T ∧ H T = none ∧ H' = upd H T (.tup [.int (i : Nat), x]) ∧ ∀ xs, SqT K H a xs → xs[i]? = some x
  stop := fun i H => ∃ xs : List V, SqT K H a xs ∧ xs.length = i
theorem enum_apart {h : Heap} {a e it : Addr} {i : Nat} {c : Int} {old : Value} {items : Array Value} (he : IsEnum h e it c old) (hit : h.IsTupleIter it a i) (tp : IsTup h a items) : a ≠ it ∧ e ≠ a := by
  obtain ⟨o, g1, g2, _⟩ := tp
  obtain ⟨o2, g3, g4, _⟩ := hit
  refine ⟨fun z => ?_, fun z => ?_⟩
  · rw [z, g3] at g1
    cases g1
    rw [g4] at g2
    exact absurd g2 (by decide)
  · rw [← z] at g1
    unfold IsEnum at he
    rw [g1] at he
    cases he
    exact absurd (show Value.type "enumerate" = Value.type "tuple" from g2) (by decide)
theorem turn_enumT {P : Program} {w : World} {K : PySem.W.Frag} {elts : List Expr} {kk : Nat} {tpos : Pos} (a e it : Addr) :
    Turn P w K (.Tuple elts kk tpos) (IteT K a) [e, it] e (fun i h => (∃ old, IsEnum h e it ((i : Nat) : Int) old) ∧ h.IsTupleIter it a i ∧ e ≠ it) where
  mem := List.mem_cons_self ..
  obj := fun i h ⟨⟨old, he⟩, ⟨o, ho, hc, hd⟩, _⟩ b hb => by
    rcases List.mem_cons.mp hb with rfl | hb
    · exact ⟨_, he, fun v z => nomatch z⟩
    · rw [List.mem_singleton.mp hb]
      exact ⟨o, ho, fun v z => by rw [hd] at z; cases z⟩
  keep := fun i h h' ⟨⟨old, he⟩, hit, hne⟩ k => ⟨⟨old, k e (by simp) _ he⟩, hit.at fun o z => k it (by simp) o z, hne⟩
  item := by
    rintro X rfl rfl rfl hc i pins s σ H E I hf ⟨⟨old, he⟩, hit, hne⟩ ⟨xs, x, hq, hx⟩
    obtain ⟨its, rv, tp, hz⟩ := I.tuple hq
    obtain ⟨y, hy, ry⟩ := rv.get hx
    have ha := enum_apart he hit tp
    have Dr := Draws.tuple (prog := X.prog) (w := X.w) (A := X.A.in1) (show X.A.in1.handled = none from I.ok.hd hc) it a ha.1 its.toArray
    have Wk := WalksT.enumFrom 0 Dr e hne (by simp [hne, ha.2]) (by simp)
    refine Wk.item i s _ E (by simp; exact (List.getElem?_eq_some_iff.mp hy).1) ⟨⟨old, by rw [Int.zero_add]; exact he⟩, hit, tp⟩ fun T vals h1 tk ⟨t, y', hy', hv⟩ hT htup hmid hk1 => ⟨_, rfl, ?_⟩
    have hTw := Wk.apart i T h1 hmid
    refine Wk.go elts kk tpos i T { s with heap := h1, toks := tk } _ E hmid fun h2 hst2 hk2 => ?_
    have eyy : y' = y := by
      have z : its[i]? = some y' := by simpa using hy'
      rw [hy] at z
      exact (Option.some.inj z).symm
    subst eyy
    obtain ⟨⟨old2, he2⟩, hit2, _⟩ := hst2
    have fresh := I.hok.fresh hT
    refine ⟨.ref T, upd H T (.tup [.int (i : Nat), x]), I.turnedNew (ch := [e, it]) (fun b ob hb q => hk2 b ob hb (hk1 b ob hb q)) hf hT ⟨by show 2 ≤ sizeLine; decide, [.int (0 + (i : Int)) t, y'], .cons ⟨t, by rw [Int.zero_add]⟩ (.cons ry .nil), ?_⟩, rfl,
      ⟨T, x, rfl, fresh, rfl, fun ys hys => by rw [I.tuple_inj hys hq]; exact hx⟩, ⟨⟨old2, by rw [Int.zero_add] at he2; exact he2⟩, hit2, hne⟩, fun b hb => ?_⟩
    · subst hv
      obtain ⟨o, g1, g2, n, g3⟩ := htup
      exact ⟨o, hk2 T o hTw g1, g2, n, g3⟩
    · have hbs : b < s.heap.objs.size := by
        rcases List.mem_cons.mp hb with rfl | hb
        · exact Heap.lt_size he
        · rw [List.mem_singleton.mp hb]
          obtain ⟨o, g, _⟩ := hit
          exact Heap.lt_size g
      rw [upd_ne (Nat.ne_of_lt (Nat.lt_of_lt_of_le hbs hT))]
      exact (hf b hb).1
  done := by
    rintro X rfl rfl rfl hc i pins s σ H E I hf ⟨⟨old, he⟩, hit, hne⟩ ⟨xs, hq, hx⟩
    obtain ⟨its, rv, tp, hz⟩ := I.tuple hq
    have ha := enum_apart he hit tp
    have Dr := Draws.tuple (prog := X.prog) (w := X.w) (A := X.A.in1) (show X.A.in1.handled = none from I.ok.hd hc) it a ha.1 its.toArray
    have en : its.toArray.size = i := by rw [List.size_toArray, ← rv.length]; exact hx
    subst en
    exact (WalksT.enumFrom 0 Dr e hne (by simp [hne, ha.2]) (by simp)).done s _ E ⟨⟨old, by rw [Int.zero_add]; exact he⟩, hit, tp⟩ fun h' tk hk => ⟨rfl, I.turnedL (ch := [e, it]) hk hf⟩
  self := fun A i s Q E ⟨⟨old, he⟩, _⟩ h => wpAny_pyIter_enum he h
theorem boot_en : bootBuiltins "enumerate" = some (.type "enumerate") := by decide +kernel
def iEnumT (K : PySem.W.Frag) (ta : TA) : TI := fun σ H R => ta σ H fun vs H1 => ∃ a xs, vs = [.ref a] ∧ SqT K H1 a xs ∧ R (IteT K a) H1
theorem pi_enumT {X : Cx} {e : Expr} {ta : TA} {p pos tpos : Pos} {elts : List Expr} {kk : Nat} (hg : Gl X "enumerate") (hm : X.mg "enumerate" = none) (ha : PA X [e] ta) (hs : starEach [e] X.env = [(false, eval e X.env)] := by rfl) :
    PI X (.Tuple elts kk tpos) (.Call (.Name "enumerate" p) [e] [] pos) (iEnumT X.K ta) := by
  refine ⟨fun pins s σ H R I h => Call_ (ld_blt I hg hm boot_en (PyProof.Rows.callWith_type1 (thn (ha.run pos pins s σ H _ I h) ?_) hs rfl))⟩
  rintro us s1 ⟨vs, H1, I1, r1, a, xs, rfl, hq, q⟩
  obtain ⟨u, rfl, ru⟩ := r1.one
  cases ru
  obtain ⟨its, rv, tp, hz⟩ := I1.tuple hq
  refine call_enum1 (begins_tuple a its.toArray) tp fun h' he ho hk => wpAny_pyIter_enum he ?_
  have up : ∀ b ∈ [s1.heap.objs.size + 1, s1.heap.objs.size], s1.heap.objs.size ≤ b := fun b hb => by
    simp at hb
    omega
  exact ⟨s1.heap.objs.size + 1, [s1.heap.objs.size + 1, s1.heap.objs.size], _, IteT X.K a, H1, rfl, I1.kept (t' := s1.toks) hk, turn_enumT a _ _, ⟨⟨.none, he⟩, ⟨_, ho, rfl, rfl⟩, Nat.succ_ne_self _⟩, fun b hb => I1.fpOk (up b hb) (I1.hok.fresh (up b hb)), q⟩
section
variable {X : Cx} {W0 : Wd} {a : Expr} {TR : DTA} {pos p : Pos}
def xEnT (P : IP) (ds : List D) (S : Sto) : Prop := ∃ xs, ds = [.tup xs] ∧ P (enumD 0 xs) (fun _ => True) S
def iEnT (TR : DTA) : DTI := fun env S P => TR env S (xEnT P)
theorem walk_enumT {K : PySem.W.Frag} {b : Addr} {xs : List V} : Walk (IteT K b) xs.length (fun H => SqT K H b xs) (YPair (fun i => some (.int (i : Nat))) (fun i => xs[i]?)) :=
  ⟨fun i H hi q => ⟨xs, xs[i], q, List.getElem?_eq_getElem hi⟩, fun H q => ⟨xs, q, rfl⟩, fun i H v H' _ q ⟨T, x, h1, h2, h3, h4⟩ => ⟨T, _, x, h1, h2, h3, rfl, h4 xs q⟩⟩
theorem di_enumT {elts : List Expr} {kk : Nat} {tpos : Pos} (hg : Gl X "enumerate") (hm : X.mg "enumerate" = none) (ha : DA X W0 [a] TR) (hs : starEach [a] X.env = [(false, eval a X.env)] := by rfl) : DI X W0 (.Tuple elts kk tpos) (.Call (.Name "enumerate" p) [a] [] pos) (iEnT TR) :=
  (pi_enumT hg hm ha hs).imp fun σ H R ⟨W, env, S, P, hW, sim, er, ht, post⟩ => ⟨W, env, S, _, hW, sim, er, ht, fun ds S1 W1 H1 vs ⟨xs, e, q⟩ s l r => by
    subst e
    obtain ⟨v, rfl, rv⟩ := r.one
    obtain ⟨a1, vs, rfl, hB, rr⟩ := rv.tupV
    have st : ∀ {W' : Wd} {S' : Sto} {H' : Hp}, Stp W1 H1 W' H' → Sim X.K W' S' H' → SqT X.K H' a1 vs := fun l' s' => same_sqt s'.same (same_sqt l'.le.same hB)
    refine ⟨a1, vs, rfl, st .refl s, post _ _ S1 W1 H1 _ q s l ⟨fun H' => SqT X.K H' a1 vs, _, by rw [enumD_len, ← rr.length]; exact walk_enumT (xs := vs), fun W' S' H' l' s' _ => st l' s', ?_⟩⟩
    rintro i d W' S' H' x H'' hd l' s' _ ⟨T, x1, x2, rfl, hT, rfl, e1, e2⟩
    obtain ⟨y, h1, rfl⟩ := enumD_get 0 xs i d hd
    obtain ⟨u, g1, g2⟩ := rr.get h1
    have e2 : vs[i]? = some x2 := e2
    rw [g1] at e2
    cases e2
    cases e1
    rw [Nat.zero_add]
    exact pair_new s' hT (.int _) (g2.mono l'.le)⟩
theorem i_ienT {env : Ev} {S : Sto} {F : IP} (q : TR env S (xEnT F)) : iEnT TR env S F := q
theorem i_xenT {S : Sto} {F : IP} {xs : List D} (q : F (enumD 0 xs) (fun _ => True) S) : xEnT F [.tup xs] S := ⟨xs, rfl, q⟩
end
end DL

namespace DL
open PySem PySem.Spec PyProof.Rows L2
/-! ### pure dicts -/
def keyOf : D → Option Key
  | .int i => some (.inl i)
  | .str x => some (.inr x)
  | _ => none
def dlook : List Key → List D → Key → Option D
  | k :: ks, d :: ds, q => if k = q then some d else dlook ks ds q
  | _, _, _ => none
theorem Rep.key {K : PySem.W.Frag} {W : Wd} {v : V} {d : D} {k : Key} (r : Rep K W v d) (h : keyOf d = some k) : v = kV k := by
  cases r <;> first | (cases h; rfl) | cases h
theorem look_rep {K : PySem.W.Frag} {W : Wd} {q : Key} : ∀ {ks : List Key} {vs : List V} {ds : List D}, Reps K W vs ds → ks.length = vs.length → (∀ d, dlook ks ds q = some d → ∃ v, valV (ks.zip vs) q = some v ∧ Rep K W v d) ∧ (dlook ks ds q = none → valV (ks.zip vs) q = none)
  | [], vs, ds, r, e => by
    refine ⟨fun d h => ?_, fun _ => ?_⟩
    · cases ds <;> cases h
    · cases vs <;> rfl
  | k :: ks, [], ds, r, e => by cases e
  | k :: ks, v :: vs, _, .cons (d := d) (ds := ds) h r, e => by
    have ih := look_rep (q := q) (ks := ks) r (by simpa using e)
    by_cases hk : k = q
    · refine ⟨fun d' h' => ?_, fun h' => ?_⟩
      · unfold dlook at h'
        rw [if_pos hk] at h'
        cases h'
        exact ⟨v, by rw [List.zip_cons_cons]; exact valV_pos hk, h⟩
      · unfold dlook at h'
        rw [if_pos hk] at h'
        cases h'
    · have e1 : dlook (k :: ks) (d :: ds) q = dlook ks ds q := by
        show (if k = q then some d else dlook ks ds q) = _
        rw [if_neg hk]
      rw [e1, List.zip_cons_cons, valV_neg hk]
      exact ih
section
variable {X : Cx} {W0 : Wd} {a b c e o : Expr} {es : List Expr} {Ta Tb T : DTE} {TR : DTA} {pos p apos cpos : Pos}
theorem Rep.dctV {K : PySem.W.Frag} {W : Wd} {v : V} {ks : List Key} {ds : List D} (r : Rep K W v (.dct ks ds)) : ∃ a vs, v = .ref a ∧ Rd W.B a (.dK (ks.zip vs)) ∧ ks.length = vs.length ∧ Reps K W vs ds := by
  cases r with | dct h1 h2 h3 => exact ⟨_, _, rfl, h1, h2, h3⟩
theorem dget_rd {H : Hp} {a : Addr} {kvs : List (Key × V)} {k : Key} (h : Rd H a (.dK kvs)) : DGet H a (kV k) (valV kvs k) := .inl ⟨kvs, k, h, rfl, rfl⟩
def xDget (P : D → Prop) (x y : D) : Prop := ∃ ks ds k d, x = .dct ks ds ∧ keyOf y = some k ∧ dlook ks ds k = some d ∧ P d
def dDget (Ta Tb : DTE) : DTE := fun env S P => Ta env S fun x S1 => Tb env S1 fun y S2 => xDget (fun d => P d S2) x y
theorem de_dget (hu : X.A.units + 1 < cLine) (ha : DE X W0 a Ta) (hb : DE X W0 b Tb) (hs : NoSl b) : DE X W0 (.Subscript a b pos) (dDget Ta Tb) := (pe_dget hu ha hb hs).imp fun σ H Q ⟨W, env, S, P, hW, sim, er, ht, post⟩ =>
  ⟨W, env, S, _, hW, sim, er, ht, fun x S1 W1 H1 v1 q1 s1 l1 r1 => ⟨W1, env, S1, _, hW.trans l1.le, s1, er.mono l1.le, q1, fun y S2 W2 H2 v2 q2 s2 l2 r2 => by
    obtain ⟨ks, ds, k, d, rfl, hk, hd, q⟩ := q2
    obtain ⟨a1, vs, rfl, hB, hl, rr⟩ := (r1.mono l2.le).dctV
    obtain ⟨v, h1, h2⟩ := (look_rep rr hl).1 d hd
    refine ⟨a1, v, rfl, ?_, post _ _ W2 H2 _ q s2 (l1.trans l2) h2⟩
    rw [r2.key hk, ← h1]
    exact dget_rd (same_rd s2.same hB)⟩⟩
def xDget1 (P : D → Prop) (x y : D) : Prop := ∃ ks ds k, x = .dct ks ds ∧ keyOf y = some k ∧ P ((dlook ks ds k).getD .non)
def dDget1 (Ta Tb : DTE) : DTE := fun env S P => Ta env S fun x S1 => (∃ ks ds, x = .dct ks ds) ∧ Tb env S1 fun y S2 => xDget1 (fun d => P d S2) x y
theorem de_dget1 (hu : X.A.units + 1 < cLine) (ha : DE X W0 o Ta) (hb : DE X W0 e Tb) (m : M1 X o "get" apos e cpos) : DE X W0 (.Call (.Attribute o "get" apos) [e] [] cpos) (dDget1 Ta Tb) := (pe_dget1 hu ha hb m).imp fun σ H Q ⟨W, env, S, P, hW, sim, er, ht, post⟩ =>
  ⟨W, env, S, _, hW, sim, er, ht, fun x S1 W1 H1 v1 ⟨⟨ks0, ds0, e0⟩, q1⟩ s1 l1 r1 => by
    subst e0
    obtain ⟨a1, vs, rfl, hB, hl, rr⟩ := r1.dctV
    refine ⟨a1, rfl, .inl ⟨_, same_rd s1.same hB⟩, W1, env, S1, _, hW.trans l1.le, s1, er.mono l1.le, q1, fun y S2 W2 H2 v2 q2 s2 l2 r2 => ?_⟩
    obtain ⟨ks, ds, k, e1, hk, q⟩ := q2
    cases e1
    have rr2 := rr.mono l2.le
    refine ⟨valV (ks0.zip vs) k, ?_, ?_⟩
    · rw [r2.key hk]
      exact dget_rd (same_rd s2.same (same_rd l2.le.same hB))
    · cases hd : dlook ks0 ds0 k with
      | none =>
        rw [hd] at q
        rw [(look_rep rr2 hl).2 hd]
        exact post _ _ W2 H2 _ q s2 (l1.trans l2) .non
      | some d =>
        rw [hd] at q
        obtain ⟨v, h1, h2⟩ := (look_rep rr2 hl).1 d hd
        rw [h1]
        exact post _ _ W2 H2 _ q s2 (l1.trans l2) h2⟩
/-! ### displays -/
def dPairs : List (DTE × DTE) → Ev → Sto → (List (D × D) → Sto → Prop) → Prop
  | [], _, S, Q => Q [] S
  | t :: ts, env, S, Q => t.1 env S fun k S1 => t.2 env S1 fun v S2 => dPairs ts env S2 fun ps S3 => Q ((k, v) :: ps) S3
abbrev DPs (X : Cx) (W0 : Wd) (pos : Pos) (keys : List (Option Expr)) (values : List Expr) (Ts : List (DTE × DTE)) : Prop := PPs X pos keys values (Ts.map fun t => (liftE X.K W0 t.1, liftE X.K W0 t.2))
theorem dps_nil : DPs X W0 pos [] [] [] := pps_nil
theorem dps_cons {k v : Expr} {ks : List (Option Expr)} {vs : List Expr} {Tk Tv : DTE} {Ts : List (DTE × DTE)} (hk : DE X W0 k Tk) (hv : DE X W0 v Tv) (hr : DPs X W0 pos ks vs Ts) : DPs X W0 pos (some k :: ks) (v :: vs) ((Tk, Tv) :: Ts) := pps_cons hk hv hr
theorem lift_pairs {K : PySem.W.Frag} {W0 : Wd} {σ : L2.St} {env : Ev} : ∀ {Ts : List (DTE × DTE)} {W : Wd} {S : Sto} {H : Hp} {P : List (D × D) → Sto → Prop} {Q : List (V × V) → Hp → Prop}, W0.le W → Sim K W S H → EnvR K W env σ → dPairs Ts env S P →
    (∀ ps S' W' H' us, P ps S' → Sim K W' S' H' → Stp W H W' H' → Reps K W' (us.map (·.1)) (ps.map (·.1)) → Reps K W' (us.map (·.2)) (ps.map (·.2)) → Q us H') → tPairs (Ts.map fun t => (liftE K W0 t.1, liftE K W0 t.2)) σ H Q
  | [], W, S, H, P, Q, hW, s, er, h, q => q [] S W H [] h s .refl .nil .nil
  | t :: ts, W, S, H, P, Q, hW, s, er, h, q => ⟨W, env, S, _, hW, s, er, h, fun k S1 W1 H1 v1 q1 s1 l1 r1 => ⟨W1, env, S1, _, hW.trans l1.le, s1, er.mono l1.le, q1, fun d S2 W2 H2 v2 q2 s2 l2 r2 =>
      lift_pairs (hW.trans (l1.trans l2).le) s2 (er.mono (l1.trans l2).le) q2 fun ps S3 W3 H3 us q3 s3 l3 ra rb => q _ S3 W3 H3 ((v1, v2) :: us) q3 s3 ((l1.trans l2).trans l3) (.cons (r1.mono (l2.trans l3).le) ra) (.cons (r2.mono l3.le) rb)⟩⟩
def xDisp (P : D → Sto → Prop) (ps : List (D × D)) (S : Sto) : Prop := ∃ ks, ps.map (fun q => keyOf q.1) = ks.map some ∧ ks.Nodup ∧ ks.length ≤ 15 ∧ P (.dct ks (ps.map (·.2))) S
def dDisp (Ts : List (DTE × DTE)) : DTE := fun env S P => dPairs Ts env S (xDisp P)
end
theorem Sim.beside {K : PySem.W.Frag} {W : Wd} {S : Sto} {H : Hp} {p : Addr} {o : HO} (s : Sim K W S H) (hB : W.B p = none) (hm : p ∉ W.m) : Sim K W S (upd H p o) := by
  refine ⟨fun b u e => by rw [upd_ne (ne_of_none e hB)]; exact s.same b u e, s.len, s.nd, fun a ha => upd_dom a (s.dom a ha), fun i a ob h1 h2 => ?_⟩
  refine (s.obj i a ob h1 h2).mono (Wd.le.refl _) ?_ (upd_ne fun z => hm (z ▸ List.mem_of_getElem? h1))
  by_cases hb : W.B a = none
  · exact .inl hb
  · exact .inr hb
theorem Stp.over {W W' : Wd} {H H' : Hp} {p : Addr} {o : HO} (l : Stp W H W' H') (hp : H p = none) (hB : W'.B p = none) : Stp W H (W'.put p o) (upd H' p o) := by
  have a := l.adopt (o := o) hp hB
  exact ⟨a.le, fun q u h n => by rw [upd_ne (ne_of_none h hp)]; exact a.keep q u h n, fun q h => upd_dom q (a.dom q h), a.newm, a.newB⟩
/-- what lies beside a world stays as it is -/
theorem Stp.stays {W W' : Wd} {H H' : Hp} {p : Addr} {o : HO} (l : Stp W H W' H') (hB : W.B p = none) (hm : p ∉ W.m) (hH : H p = some o) : W'.B p = none ∧ p ∉ W'.m ∧ H' p = some o := by
  refine ⟨?_, fun z => ?_, l.keep _ _ hH hm⟩
  · cases e : W'.B p with
    | none => rfl
    | some u =>
      rcases l.newB p u e with q | q | q
      · rw [hB] at q; cases q
      · rw [hH] at q; cases q
      · exact absurd q hm
  · rcases l.newm p z with q | q
    · exact hm q
    · rw [hH] at q; cases q
theorem putK_new {kvs : List (Key × V)} {k : Key} {v : V} (h : k ∉ kvs.map (·.1)) : putK kvs k v = kvs ++ [(k, v)] := by
  unfold putK
  rw [if_neg]
  intro z
  obtain ⟨q, hq, e⟩ := List.any_eq_true.mp z
  exact h (List.mem_map.mpr ⟨q, hq, of_decide_eq_true e⟩)
theorem merge_new : ∀ (more kvs : List (Key × V)), (kvs.map (·.1) ++ more.map (·.1)).Nodup → mergeK kvs more = kvs ++ more
  | [], kvs, _ => (List.append_nil kvs).symm
  | q :: more, kvs, h => by
    show mergeK (putK kvs q.1 q.2) more = _
    have hn : q.1 ∉ kvs.map (·.1) := fun z => by
      have := (List.nodup_append.mp h).2.2 q.1 z q.1 (by simp)
      exact this rfl
    rw [putK_new hn, merge_new more _ (by simpa using h)]
    simp
section
variable {X : Cx} {W0 : Wd} {pos : Pos}
theorem keys_us {K : PySem.W.Frag} {W : Wd} : ∀ {us : List (V × V)} {ps : List (D × D)} {ks : List Key}, Reps K W (us.map (·.1)) (ps.map (·.1)) → ps.map (fun q => keyOf q.1) = ks.map some → us = (ks.zip (us.map (·.2))).map fun kv => (kV kv.1, kv.2)
  | [], _, _, _, _ => by simp
  | u :: us, [], _, r, _ => by cases r
  | u :: us, q :: ps, [], _, e => by simp at e
  | u :: us, q :: ps, k :: ks, r, e => by
    cases r with
    | cons h t =>
      have e' : keyOf q.1 = some k ∧ ps.map (fun q => keyOf q.1) = ks.map some := by simpa using e
      have ih := keys_us t e'.2
      simp only [List.map_cons, List.zip_cons_cons]
      rw [← ih, ← h.key e'.1]
theorem de_disp {keys : List (Option Expr)} {values : List Expr} {Ts : List (DTE × DTE)} (h : DPs X W0 pos keys values Ts) (hall : keys.all (·.isSome) = true) (hl : keys.length = values.length) (h0 : keys ≠ []) (h15 : keys.length ≤ 15) : DE X W0 (.Dict keys values pos) (dDisp Ts) :=
  (pe_disp h hall hl h0 h15).imp fun σ H Q ⟨W, env, S, P, hW, sim, er, ht, post⟩ p hp => by
    refine lift_pairs hW (sim.lay hp) er ht fun ps S' W' H' us ⟨ks, e, nd, h15, q⟩ s l ra rb => ?_
    obtain ⟨hB, hm, hH⟩ := l.stays (sim.free hp) (fun z => sim.dom p z hp) upd_same
    have lus : us.length = ps.length := by simpa using ra.length
    have lks : ks.length = ps.length := by simpa using (congrArg List.length e).symm
    have lzip : ks.length = (us.map (·.2)).length := by rw [List.length_map, lus, lks]
    have ek : (ks.zip (us.map (·.2))).map (·.1) = ks := List.map_fst_zip (by omega)
    refine ⟨hH, ks.zip (us.map (·.2)), keys_us ra e, by rw [List.length_zip]; omega, ?_⟩
    rw [merge_new _ [] (by simpa [ek] using nd), List.nil_append]
    have s2 := (s.beside (o := .dK (ks.zip (us.map (·.2)))) hB hm).adopt hB hm upd_same
    exact post _ _ _ _ _ q s2 ((Stp.lay hp).trans l |>.over hp hB) (.dct (.inl upd_same) lzip (rb.mono (Wd.le_put hB)))
/-! ### dicts of the written part -/
structure KTab (P : Program) (w : World) (K : PySem.W.Frag) (a : Addr) (ks : List Key) (ds : List D) : Prop where
  ex : ∃ (vs : List V) (us : List (Key × Value)), ks.length = vs.length ∧ (∀ W, Reps K W vs ds) ∧ KV (ks.zip vs) us ∧ ks.length ≤ 1000 ∧ (a == sysModules) = false ∧ ∀ h : Heap, K.In h → h.DictOf (mixKind P w) a us
/-- dict(NAME) -/
theorem call_kcopy {a : Addr} {ks : List Key} {ds : List D} {vs : List V} {us : List (Key × Value)} (hl : ks.length = vs.length) (kv : KV (ks.zip vs) us) (hk : ks.length ≤ 1000) (hs : (a == sysModules) = false) (hd : ∀ h : Heap, X.K.In h → h.DictOf (mixKind X.prog X.w) a us) :
    CallR X (.type "dict") (fun xs H Q => xs = [.ref a] ∧ ∀ p, H p = none → Q (.ref p) (upd H p (.dK (ks.zip vs)))) := by
  rintro pins s σ H xs gs Q I r ⟨rfl, q⟩
  obtain ⟨u, rfl, ru⟩ := r.one
  cases ru
  have lz : (ks.zip vs).length ≤ sizeLine := Nat.le_trans (by rw [List.length_zip]; omega) (show 1000 ≤ sizeLine by decide)
  refine kt_call_dict hs (hd _ I.kIn) (by rw [← Paired.length kv]; exact lz) fun h' d' sb => ?_
  have low : (s.heap.objs.size == sysModules) = false := beq_eq_false_iff_ne.mpr (Nat.ne_of_gt I.big)
  refine ⟨.ref s.heap.objs.size, _, I.laid (t' := s.toks) (fun b u e => ?_) (Nat.le_refl _) (o := .dK (ks.zip vs)) ⟨lz, low, us, kv, d'⟩, rfl, q _ I.fresh⟩
  rw [sb.2 b (Nat.ne_of_lt (Heap.lt_size e))]
  exact Heap.get?_push_of_some _ e
def dNewD (ks : List Key) (ds : List D) : DTE := fun _ S P => P (.dct ks ds) S
theorem de_kcopy {x : Str} {a : Addr} {ks : List Key} {ds : List D} {p pos' : Pos} (tab : KTab X.prog X.w X.K a ks ds) (hx : Gl X x) (hm : X.mg x = some (.ref a)) (hg : Gl X "dict") (hmd : X.mg "dict" = none) (hdb : (x == ("__debug__" : Str)) = false := by decide) :
    DE X W0 (.Call (.Name "dict" p) [.Name x pos'] [] pos) (dNewD ks ds) := by
  obtain ⟨vs, us, hl, hr, kv, hk, hs, hd⟩ := tab.ex
  refine (pe_callTy (call_kcopy (ds := ds) hl kv hk hs hd) hg hmd (by decide +kernel) (pa_cons (pe_glob (v := .ref a) hx hm rfl hdb) pa_nil)).imp fun σ H Q ⟨W, env, S, P, hW, sim, er, ht, post⟩ => ⟨rfl, fun q hq => ?_⟩
  exact post _ _ _ _ _ ht (sim.put hq) (.put sim hq) (.dct (.inl upd_same) hl (hr _))
/-- NAME[e] -/
structure KGet (w : World) (K : PySem.W.Frag) (a : Addr) (ks : List Key) (ds : List D) : Prop where
  get : ∀ (z : Str) d, dlook ks ds (.inr z) = some d → ∃ v, KDct K w a z v ∧ ∀ W, Rep K W v d
def xKix (ks : List Key) (ds : List D) (P : D → Prop) (y : D) : Prop := ∃ z d, y = .str z ∧ dlook ks ds (.inr z) = some d ∧ P d
def dKix (ks : List Key) (ds : List D) (Tb : DTE) : DTE := fun env S P => Tb env S fun y S1 => xKix ks ds (fun d => P d S1) y
theorem de_kix {x : Str} {a : Addr} {ks : List Key} {ds : List D} {b : Expr} {Tb : DTE} {pos' : Pos} (tab : KGet X.w X.K a ks ds) (hx : Gl X x) (hm : X.mg x = some (.ref a)) (hb : DE X W0 b Tb) (hs : PlainIx b) (hdb : (x == ("__debug__" : Str)) = false := by decide) :
    DE X W0 (.Subscript (.Name x pos') b pos) (dKix ks ds Tb) :=
  (pe_ix ix_kdict (pe_glob (v := .ref a) hx hm rfl hdb) hb hs).imp fun σ H Q ⟨W, env, S, P, hW, sim, er, ht, post⟩ => ⟨W, env, S, _, hW, sim, er, ht, fun y S1 W1 H1 v1 ⟨z, d, e, hd, q⟩ s1 l1 r1 => by
    subst e
    obtain ⟨v, hk, hr⟩ := tab.get z d hd
    exact ⟨a, z, v, rfl, r1.strV, hk, post _ _ W1 H1 _ q s1 l1 (hr W1)⟩⟩
/-! ### their steps -/
section
variable {env : Ev} {S : Sto} {P : DP} {Ta Tb : DTE} {x y d : D} {ks : List Key} {ds : List D} {k : Key}
theorem i_kix (q : Tb env S fun y S1 => xKix ks ds (fun d => P d S1) y) : dKix ks ds Tb env S P := q
theorem i_xkix {F : D → Prop} {z : Str} (h : dlook ks ds (.inr z) = some d) (q : F d) : xKix ks ds F (.str z) := ⟨z, d, rfl, h, q⟩
theorem i_newD (q : P (.dct ks ds) S) : dNewD ks ds env S P := q
theorem i_dget (q : Ta env S fun x S1 => Tb env S1 fun y S2 => xDget (fun d => P d S2) x y) : dDget Ta Tb env S P := q
theorem i_xdget {F : D → Prop} (hk : keyOf y = some k) (h : dlook ks ds k = some d) (q : F d) : xDget F (.dct ks ds) y := ⟨ks, ds, k, d, rfl, hk, h, q⟩
theorem i_dget1 (q : Ta env S fun x S1 => (∃ ks ds, x = .dct ks ds) ∧ Tb env S1 fun y S2 => xDget1 (fun d => P d S2) x y) : dDget1 Ta Tb env S P := q
theorem i_dd {A : Prop} (q : A) : (∃ ks' ds', D.dct ks ds = .dct ks' ds') ∧ A := ⟨⟨ks, ds, rfl⟩, q⟩
theorem i_xdget1 {F : D → Prop} (hk : keyOf y = some k) (q : F ((dlook ks ds k).getD .non)) : xDget1 F (.dct ks ds) y := ⟨ks, ds, k, rfl, hk, q⟩
theorem i_disp {Ts : List (DTE × DTE)} (q : dPairs Ts env S (xDisp P)) : dDisp Ts env S P := q
theorem i_pnil {F : List (D × D) → Sto → Prop} (q : F [] S) : dPairs [] env S F := q
theorem i_pcons {F : List (D × D) → Sto → Prop} {T1 T2 : DTE} {Ts : List (DTE × DTE)} (q : T1 env S fun k S1 => T2 env S1 fun v S2 => dPairs Ts env S2 fun ps S3 => F ((k, v) :: ps) S3) : dPairs ((T1, T2) :: Ts) env S F := q
theorem i_xdisp {ps : List (D × D)} (h1 : ps.map (fun q => keyOf q.1) = ks.map some) (h2 : ks.Nodup) (h3 : ks.length ≤ 15) (q : P (.dct ks (ps.map (·.2))) S) : xDisp P ps S := ⟨ks, h1, h2, h3, q⟩
end
end
end DL

namespace DL
open PySem PySem.Spec PyProof.Rows L2
/-! ### defs that hand back a list of their own -/
abbrev DSpN := List D → Sto → (List D → Sto → Prop) → Prop
def liftSpN (K : PySem.W.Frag) (sp : DSpN) : Sp := fun vs H Q _ => ∃ W ds S P, Sim K W S H ∧ Reps K W vs ds ∧ sp ds S P ∧ PostL K W H P Q
def FnN (P : Program) (w : World) (K : PySem.W.Frag) (mg : Str → Option Value) (base : Heap) (x : Str) (k : Nat) (ps : List Str) (sp : DSpN) : Prop :=
  ∃ (f : Addr) (fd : FuncData), mg x = some (.ref f) ∧ PySem.W.keepIn K (.ref f) = true ∧ Binds K fd ps [] ∧ FnOk P w K mg base CX0 k f fd ps (liftSpN K sp)
theorem fnN_at {P : Program} {w : World} {K : PySem.W.Frag} {mg : Str → Option Value} {base : Heap} {x : Str} {st : Stmt} {ps : List Str} {k : Nat} {sp : DSpN} (h : At K mg x st ps) (ok : ∀ f fd, Fun K x x st f fd → FnOk P w K mg base CX0 k f fd ps (liftSpN K sp)) : FnN P w K mg base x k ps sp := by
  obtain ⟨f, fd, h1, h2, h3⟩ := h.ex
  exact ⟨f, fd, h1, h2.kp, h3, ok f fd h2⟩
section
variable {X : Cx} {W0 : Wd} {e : Expr} {es : List Expr} {TR : DTA} {pos p : Pos}
theorem dn_fn {x : Str} {k : Nat} {ps : List Str} {sp : DSpN} (h : FnN X.prog X.w X.K X.mg X.base x k ps sp) (hr : Room k X.A) (hg : Gl X x) (ha : DA X W0 (e :: es) TR) (hdb : (x == ("__debug__" : Str)) = false := by decide) (he : starEach (e :: es) X.env = (false, eval e X.env) :: starEach es X.env := by rfl) (hpl : (backTo pos (starEach es X.env)).any (·.1) = false := by rfl) :
    DN X W0 (.Call (.Name x p) (e :: es) [] pos) (dCallN sp TR) := by
  obtain ⟨f, fd, h1, h2, h3, h4⟩ := h
  refine (pe_call h4 hr hg h1 h2 h3 .nil pass0 ha hdb he hpl).imp fun σ H Q ⟨W, env, S, P, hW, sim, er, ht, post⟩ => ⟨W, env, S, _, hW, sim, er, ht, fun ds S1 W1 H1 vs q s l r => ?_⟩
  show liftSpN X.K sp (vs ++ []) H1 Q E0
  rw [List.append_nil]
  exact ⟨W1, ds, S1, P, s, r, q, post.mono l⟩
end
theorem de_gint {X : Cx} {W0 : Wd} {x : Str} {n : Int} {pos : Pos} (hg : Gl X x) (h : ∃ t, X.mg x = some (.int n t)) (hd : (x == ("__debug__" : Str)) = false := by decide) : DE X W0 (.Name x pos) (dC (.int n)) := by
  obtain ⟨t, h⟩ := h
  exact de_glob (v := .int n) hg h ⟨t, rfl⟩ (fun _ => .int n) hd
theorem at0 {α : Type} (x : α) (xs : List α) : L2.atI (x :: xs) 0 = some x := atI_nat (j := 0) rfl
/-- the end: a list that the store got here is handed back, what else it got is dropped -/
def atExitN (S0 : Sto) (P : List D → Sto → Prop) : DP := fun d S' => ∃ S1 T ds i, S' = S1 ++ T ∧ S1.length = S0.length ∧ (∀ o ∈ S1, o ∈ S0 ∨ o.under S1.length = true) ∧ d = .ref i ∧ S1.length ≤ i ∧ S'[i]? = some (.lst ds) ∧ unders S1.length ds = true ∧ P ds S1
theorem PostL.exit {K : PySem.W.Frag} {W : Wd} {S : Sto} {H : Hp} {P : List D → Sto → Prop} {Q : VK} (s : Sim K W S H) (post : PostL K W H P Q) : Post K W H (atExitN S P) Q := by
  rintro d S' W' H' v ⟨S1, T, ds, i, rfl, hl, ho, rfl, hi, hS, hd, q⟩ s' l r
  have hb : ∀ o ∈ S1, o.under S1.length = true := fun o h => (ho o h).elim (fun z => by rw [hl]; exact s.under o z) id
  cases r with
  | @ref _ a ha =>
    obtain ⟨hB, vs, hH, rr⟩ := s'.obj i a _ ha hS
    have away : a ∉ W'.m.take S1.length := fun z => by
      obtain ⟨j, hj⟩ := List.getElem?_of_mem z
      have hjl : j < S1.length := by
        have := (List.getElem?_eq_some_iff.mp hj).1
        rw [List.length_take] at this
        omega
      rw [List.getElem?_take_of_lt hjl] at hj
      have := one_place _ s'.nd _ _ _ hj ha
      omega
    have lc := l.cut (k := S1.length) (by rw [s.len, hl]; exact Nat.le_refl _)
    have fresh : H a = none := by
      rcases l.newm a (List.mem_of_getElem? ha) with z | z
      · obtain ⟨j, hj⟩ := List.getElem?_of_mem z
        exact absurd (List.mem_of_getElem? (lc.le.pre j a hj)) away
      · exact z
    exact post ds S1 (W'.cut S1.length) H' a vs q (s'.cut hb) lc fresh hB away hH (rr.cutW hd)
def exitEN (S0 : Sto) (P : List D → Sto → Prop) : DEnds := { nx := fun _ _ => False, rt := atExitN S0 P }
theorem fn_dN {P : Program} {w : World} {K : PySem.W.Frag} {mg : Str → Option Value} {base : Heap} {x qual : Str} {st : Stmt} {f : Addr} {fd : FuncData} {N ps : List Str} {k : Nat} {sp : DSpN} (F : Fun K x qual st f fd) (S : FnScope N ps (defScope st))
    (len : ∀ ds S P, sp ds S P → ds.length = ps.length)
    (body : ∀ (X : Cx) (W0 : Wd) (cdv : Value) (A : Around) (outer : List Env) (s : Shared) (H : Hp) (E : XK), X = (cxOf CX0 P w K mg base N qual (defScope st) f cdv A outer s H E).nox → Room k X.A →
      ∃ T : DTS, DSs X W0 (defBody st) T ∧ ∀ ds S P, sp ds S P → T (exitEN S P) (startE N ds) S) : FnOk P w K mg base CX0 (k + 1) f fd ps (liftSpN K sp) := by
  refine F.ok S (fun vs H Q E ⟨W, ds, S, P, _, r, q, _⟩ => by rw [r.length]; exact len ds S P q) fun cdv A outer s H vs Q E hr h => ?_
  obtain ⟨W, ds, S, P, sim, r, q, post⟩ := h
  obtain ⟨T, hT, hq⟩ := body _ W cdv A outer s H E rfl hr
  exact ⟨_, hT, W, startE N ds, S, _, .refl W, sim, EnvR.start r, hq ds S P q, ⟨fun _ _ _ _ _ z => z.elim, post.exit sim, fun _ _ _ _ _ z => z.elim, fun _ _ _ _ _ z => z.elim⟩⟩
theorem exitN_one {S : Sto} {P : List D → Sto → Prop} {ds : List D} (h : ∀ n, unders n ds = true) (q : P ds S) : atExitN S P (.ref S.length) (S ++ [.lst ds]) :=
  ⟨S, [.lst ds], ds, S.length, rfl, rfl, fun o ho => .inl ho, rfl, Nat.le_refl _, by rw [List.getElem?_append_right (Nat.le_refl _), Nat.sub_self]; rfl, h _, q⟩
end DL

namespace DL
open PySem PySem.Spec PyProof.Rows L2
/-! ### isinstance(x, (T1, T2)) -/
def kit2 (u n1 n2 : String) : Option Bool := match kitB u n1 with
  | some true => some true
  | some false => kitB u n2
  | none => none
theorem kit2_any {K : PySem.W.Frag} {u n1 n2 : String} {k : Bool} (h : kit2 u n1 n2 = some k) : PySem.W.kitAny K (.type u) [.type n1, .type n2] = some k := by
  unfold kit2 at h
  cases h1 : kitB u n1 with
  | none => rw [h1] at h; cases h
  | some b =>
    have e1 := kit_ty (K := K) h1
    rw [h1] at h
    cases b with
    | true =>
      cases h
      simp only [PySem.W.kitAny, e1]
    | false =>
      have e2 := kit_ty (K := K) (show kitB u n2 = some k from h)
      simp only [PySem.W.kitAny, e1, e2]
      cases k <;> rfl
def dIsi2 (n1 n2 : String) (T : DTE) : DTE := fun env S P => T env S fun d S1 => ∃ u k, tyOf S1 d = some u ∧ kit2 u n1 n2 = some k ∧ P (.bl k) S1
theorem de_isi2 {X : Cx} {W0 : Wd} {e : Expr} {T : DTE} {x1 x2 : Str} {n1 n2 : String} {z : _} {p p1 p2 p3 pos : Pos} (he : DE X W0 e T) (hg : Gl X "isinstance") (hm : X.mg "isinstance" = none) (hb : bootBuiltins "isinstance" = some (.builtin "isinstance"))
    (g1 : Gl X x1) (m1 : X.mg x1 = none) (b1 : bootBuiltins x1 = some (.type n1)) (g2 : Gl X x2) (m2 : X.mg x2 = none) (b2 : bootBuiltins x2 = some (.type n2))
    (hn1 : x1 ≠ "__name__" := by decide) (hd1 : (x1 == ("__debug__" : Str)) = false := by decide) (hn2 : x2 ≠ "__name__" := by decide) (hd2 : (x2 == ("__debug__" : Str)) = false := by decide)
    (hs : starEach (e :: [Expr.Tuple [.Name x1 p1, .Name x2 p2] z p3]) X.env = (false, eval e X.env) :: starEach [Expr.Tuple [.Name x1 p1, .Name x2 p2] z p3] X.env := by rfl) :
    DE X W0 (.Call (.Name "isinstance" p) [e, .Tuple [.Name x1 p1, .Name x2 p2] z p3] [] pos) (dIsi2 n1 n2 T) := by
  have pT : PE X (.Tuple [.Name x1 p1, .Name x2 p2] z p3) _ := pe_tup (pa_cons (pe_bltn g1 m1 b1 (v := .ty n1) rfl hn1 hd1) (pa_cons (pe_bltn g2 m2 b2 (v := .ty n2) rfl hn2 hd2) pa_nil))
  refine (pe_callB call_isiT hg hm hb (pa_cons he (pa_cons pT pa_nil) hs) (he := hs)).imp fun σ H Q ⟨W, env, S, P, hW, sim, er, ht, post⟩ => ⟨W, env, S, _, hW, sim, er, ht, fun d S1 W1 H1 v ⟨u, k, hty, hk, q⟩ s l r => ?_⟩
  refine ⟨sz_le (by simp), fun a ha => ?_⟩
  have s' := s.put (o := .tup [.ty n1, .ty n2]) ha
  have r' := r.mono (Wd.le_put (o := .tup [.ty n1, .ty n2]) (s.free ha))
  exact ⟨v, a, [.ty n1, .ty n2], .type u, [.type n1, .type n2], k, rfl, upd_same, .cons (.ty n1) (.cons (.ty n2) .nil), r'.tyx s' hty, kit2_any hk, (post.mono l) _ _ _ _ _ q s' (.put s ha) (.bl k)⟩
theorem i_isi2 {env : Ev} {S : Sto} {P : DP} {n1 n2 : String} {T : DTE} (q : T env S fun d S1 => ∃ u k, tyOf S1 d = some u ∧ kit2 u n1 n2 = some k ∧ P (.bl k) S1) : dIsi2 n1 n2 T env S P := q
/-- a def whose end keeps what the store got -/
def exitK (P : DP) : DEnds := { nx := fun _ _ => False, rt := P }
theorem fn_dK {P : Program} {w : World} {K : PySem.W.Frag} {mg : Str → Option Value} {base : Heap} {x qual : Str} {st : Stmt} {f : Addr} {fd : FuncData} {N ps : List Str} {k : Nat} {sp : DSp} (F : Fun K x qual st f fd) (S : FnScope N ps (defScope st))
    (len : ∀ ds S P, sp ds S P → ds.length = ps.length)
    (body : ∀ (X : Cx) (W0 : Wd) (cdv : Value) (A : Around) (outer : List Env) (s : Shared) (H : Hp) (E : XK), X = (cxOf CX0 P w K mg base N qual (defScope st) f cdv A outer s H E).nox → Room k X.A →
      ∃ T : DTS, DSs X W0 (defBody st) T ∧ ∀ ds S P, sp ds S P → T (exitK P) (startE N ds) S) : FnOk P w K mg base CX0 (k + 1) f fd ps (liftSp K sp) := by
  refine F.ok S (fun vs H Q E ⟨W, ds, S, P, _, r, q, _⟩ => by rw [r.length]; exact len ds S P q) fun cdv A outer s H vs Q E hr h => ?_
  obtain ⟨W, ds, S, P, sim, r, q, post⟩ := h
  obtain ⟨T, hT, hq⟩ := body _ W cdv A outer s H E rfl hr
  exact ⟨_, hT, W, startE N ds, S, _, .refl W, sim, EnvR.start r, hq ds S P q, ⟨fun _ _ _ _ _ z => z.elim, post, fun _ _ _ _ _ z => z.elim, fun _ _ _ _ _ z => z.elim⟩⟩
/-- == of what may be laid -/
theorem i_eqSame {g : Bool → Bool} {S : Sto} {P : DP} {n : Nat} {xs : List D} {q : PyData} (h : pyOf S n (.tup xs) = some q) (hl : q.canLay0 = true) (hd : q.depth ≤ 64) (p : P (.bl (g true)) S) : dEqG g (.tup xs) (.tup xs) S P := by
  have hs : SeqAt.shaped q = true := by
    unfold SeqAt.shaped
    rw [hl, decide_eq_true hd]
    rfl
  exact ⟨n, q, q, h, h, hs, hs, by rw [SeqAt.eqv_refl q hl]; exact p⟩
end DL

/-! comprehensions, a clause at a time -/
namespace SC
open PySem PySem.Spec PyProof.Rows L2

def tests (ifs : List Expr) (env : Env) : Sem Bool :=
  forIn ifs true fun c r => if r = true then do let ok ← isTrue c env (eval c env); pure (ForInStep.yield ok) else pure (ForInStep.yield r)
/-- one turn of a clause: the item, its store, the tests, then inner -/
def oneTurn (p : Pos) (tg : Expr) (ifs : List Expr) (inner : Sem Fin) (it : Value) (env : Env) (c : Code) : Sem Fin := do
  standAt p
  let r ← pyNext it
  match r with
  | none => pure (.done .next)
  | some v =>
    letOwnedTupleGo tg it v
    assign tg env v
    let ok ← tests ifs env
    if ok then inner else again c
abbrev Fls : Value → Shared → Prop := fun _ _ => False
theorem oneTurn_wp {M : Model} {A : Around} {p : Pos} {tg : Expr} {ifs : List Expr} {inner : Sem Fin} {it : Value} {env : Env} {c : Code} {E : Value → Shared → Prop} {s : Shared} {Rn Nx : Shared → Prop}
    (h : wpAny M A (pyNext it) (fun r s1 => match r with
      | none => Rn s1
      | some v => wpAny M A (letOwnedTupleGo tg it v) (fun _ s2 => wpAny M A (assign tg env v) (fun _ s3 => wpAny M A (tests ifs env) (fun ok s4 => if ok = true then wpAny M A inner (fun fin s5 => fin = .again c ∧ Nx s5) Fls s4 else Nx s4) Fls s3) Fls s2) Fls s1) Fls s) :
    wpAny M A (oneTurn p tg ifs inner it env c) (fun fin s' => match fin with | .done f => f = .next ∧ Rn s' | .again c' => c' = c ∧ Nx s') E s := by
  unfold oneTurn
  refine wpAny_bind (wpAny_standAt (wpAny_bind (thnF h fun r s1 h1 => ?_)))
  cases r with
  | none => exact wpAny_pure ⟨rfl, h1⟩
  | some v =>
    refine wpAny_bind (thnF h1 fun _ s2 h2 => wpAny_bind (thnF h2 fun _ s3 h3 => wpAny_bind (thnF h3 fun ok s4 h4 => ?_)))
    cases ok with
    | false => exact wpAny_pure ⟨rfl, h4⟩
    | true =>
      refine thnF h4 fun fin s5 h5 => ?_
      obtain ⟨rfl, h5⟩ := h5
      exact ⟨rfl, h5⟩

/-- σ' knows what σ knows -/
structure Kn (σ σ' : L2.St) : Prop where
  len : σ.length = σ'.length
  get : ∀ (j : Nat) v, σ[j]? = some (some v) → σ'[j]? = some (some v)
abbrev TInn := L2.St → Hp → (Hp → Prop) → Prop
/-- a clause's loop over J from the slots σ0 -/
def lev (J : It) (g : TG) (tt : TT) (ti : TInn) (σ0 : L2.St) (Qe : Hp → Prop) (H : Hp) : Prop := ∃ W : Nat → Nat → Hp → Prop, (∃ m, W 0 m H) ∧ ∀ i m H, W i m H →
  (J.stop i H ∧ Qe H) ∨ (J.go i H ∧ ∃ Nx : Hp → Prop, (∀ H', Nx H' → ∃ m', m' < m ∧ W (i + 1) m' H') ∧ ∀ x H', J.yld i H x H' → g x σ0 H' fun σ2 H2 => Kn σ0 σ2 ∧ tt σ2 H2 fun b H3 => if b = true then ti σ2 H3 Nx else Nx H3)
section
variable {Y : Cx}
theorem thnX {α : Type} {t : Sem α} {Q Q' : α → Shared → Prop} {M : Model} {A : Around} {E E' : Value → Shared → Prop} {s : Shared} (hx : E' = Fls) (h : wpAny M A t Q E' s) (hQ : ∀ a s, Q a s → Q' a s) : wpAny M A t Q' E s := by
  subst hx
  exact thnF h hQ
theorem level (hc : Y.calm = true) (hx : Y.xe = Fls) {elt : Expr} {gens : List Comprehension} {scope : Scope} {pos : Pos} {d : Nat} {p : Pos} {tg : Expr} {ifs : List Expr} {inner : Sem Fin} {acc : Value} {it : Addr} {fp : List Addr} {tn : Nat → Heap → Prop} {J : It} {g : TG} {tt : TT} {ti : TInn} {pins : List (Addr × Obj)} {σ0 : L2.St} {Qe : Hp → Prop} {R : Result → Shared → Prop}
    (hT : compTurn (.SetComp elt gens scope pos) d (.ref it) acc Y.env = oneTurn p tg ifs inner (.ref it) Y.env (.compLoop (.SetComp elt gens scope pos) d (.ref it) acc Y.env))
    (T : Turn Y.prog Y.w Y.K tg J fp it tn) (pg : PG Y tg g) (pt : PTs Y ifs tt)
    (inn : ∀ (pl : List (Addr × Obj)) (s : Shared) (σ : L2.St) (H : Hp) (N : Hp → Prop), Kn σ0 σ → Inv Y (pins ++ pl) σ H s → ti σ H N → wpAny (model Y.prog Y.w) Y.A inner (fun fin s' => fin = .again (.compLoop (.SetComp elt gens scope pos) d (.ref it) acc Y.env) ∧ ∃ H', Inv Y (pins ++ pl) σ0 H' s' ∧ N H') Fls s)
    (ex : ∀ {σ : L2.St} {H : Hp} {s : Shared}, Inv Y pins σ H s → (∀ b ∈ fp, H b = none) → ∀ b ∈ fp, FpOk Y pins H b)
    (hR : ∀ s' H', Inv Y pins σ0 H' s' → Qe H' → R (.ok .next) s')
    {s : Shared} {H : Hp} (I : Inv Y pins σ0 H s) (st : tn 0 s.heap) (hn : ∀ b ∈ fp, H b = none) (lv : lev J g tt ti σ0 Qe H) :
    codeAny (model Y.prog Y.w) Y.A (.compLoop (.SetComp elt gens scope pos) d (.ref it) acc Y.env) R s := by
  obtain ⟨W, ⟨m0, w0⟩, turn⟩ := lv
  refine codeAny_loop rfl (fun n z => ∃ i G, Inv Y pins σ0 G z ∧ tn i z.heap ∧ (∀ b ∈ fp, G b = none) ∧ W i n G) ?_ m0 ⟨0, H, I, st, hn, w0⟩
  rintro n z ⟨i, G, IG, sz, nz, wz⟩
  show wpAny _ Y.A (Sem.onRaise (compTurn (.SetComp elt gens scope pos) d (.ref it) acc Y.env) _) _ _ z
  refine wpAny_noted ?_
  rw [hT]
  refine wpAny_mono (oneTurn_wp (Rn := fun s' => R (.ok .next) s') (Nx := fun s' => ∃ m, m < n ∧ ∃ i G, Inv Y pins σ0 G s' ∧ tn i s'.heap ∧ (∀ b ∈ fp, G b = none) ∧ W i m G) (E := fun _ _ => False) ?_) (fun fin s' q => ?_) fun _ _ f => f.elim
  · rcases turn i n G wz with ⟨stop, qe⟩ | ⟨go, Nx, hNx, step⟩
    · refine thnF (T.done Y rfl rfl rfl hc i pins z σ0 G Fls IG (ex IG nz) sz stop) fun r s1 ⟨er, I1⟩ => ?_
      subst er
      exact hR s1 G I1 qe
    · refine thnF (T.item Y rfl rfl rfl hc i pins z σ0 G Fls IG (ex IG nz) sz go) fun r s1 ⟨u, er, h1⟩ => ?_
      subst er
      refine thnF h1 fun _ s2 ⟨x, H2, I2, r2, y2, st2, n2⟩ => ?_
      have IP := I2.pinned (ex I2 n2) (T.obj _ _ st2)
      have fin : ∀ (s' : Shared), (∃ H', Inv Y (pins ++ pinsAt fp s2.heap) σ0 H' s' ∧ Nx H') → ∃ m, m < n ∧ ∃ i G, Inv Y pins σ0 G s' ∧ tn i s'.heap ∧ (∀ b ∈ fp, G b = none) ∧ W i m G := by
        rintro s' ⟨H', I', nx⟩
        obtain ⟨m', hm, w'⟩ := hNx H' nx
        have still : ∀ b ∈ fp, ∀ o, s2.heap.get? b = some o → s'.heap.get? b = some o ∧ H' b = none := fun b hb o e =>
          have q := I'.pin (b, o) (List.mem_append_right _ (List.mem_append_right _ (mem_pinsAt hb e)))
          ⟨q.1, q.2.1⟩
        exact ⟨m', hm, i + 1, H', I'.unpinned, T.keep _ _ _ st2 fun b hb o e => (still b hb o e).1, fun b hb => by
          obtain ⟨o, e, _⟩ := T.obj _ _ st2 b hb
          exact (still b hb o e).2, w'⟩
      refine thnX hx (pg.run _ s2 σ0 H2 x u _ IP r2 (step x H2 y2)) fun _ s3 ⟨σ3, H3, I3, kn, q3⟩ => ?_
      refine thnX hx (pt.run _ s3 σ3 H3 _ I3 q3) fun b s4 ⟨H4, I4, q4⟩ => ?_
      cases b with
      | false => exact fin s4 ⟨H4, I4.weak kn.len kn.get, by simpa using q4⟩
      | true =>
        simp only [if_true] at q4 ⊢
        exact thnF (inn _ s4 σ3 H4 Nx kn I4 q4) fun _ s5 q5 => ⟨q5.1, fin s5 q5.2⟩
  · cases fin with
    | done f =>
      obtain ⟨rfl, q⟩ := q
      exact q
    | again c' => exact q
end
end SC

/-! a set of ints by two clauses -/
namespace SC
open PySem PySem.Spec PyProof.Rows L2

abbrev two (elt t0 i0 : Expr) (f0 : List Expr) (t1 i1 : Expr) (f1 : List Expr) (scope : Scope) (pos : Pos) : Expr := .SetComp elt [⟨t0, i0, f0, 0⟩, ⟨t1, i1, f1, 0⟩] scope pos
def put (elt : Expr) (acc : Value) (env : Env) (c : Code) : Sem Fin := do
  (do let v ← eval elt env; standAt elt.pos; let _ ← call (.builtin "set.add") [acc, v])
  again c
def deeper (e i1 : Expr) (acc : Value) (env : Env) (c : Code) : Sem Fin := do
  let x ← eval i1 env
  standAt i1.pos
  let y ← foldedSetIterable i1 env x
  let _ ← runOwn (.compStart e 1 (← holding [y] (pyIter y)) acc env) env
  again c
section
variable {elt t0 i0 t1 i1 : Expr} {f0 f1 : List Expr} {scope : Scope} {pos : Pos} {it acc : Value} {env : Env}
theorem turn0 : compTurn (two elt t0 i0 f0 t1 i1 f1 scope pos) 0 it acc env = oneTurn i0.pos t0 f0 (deeper (two elt t0 i0 f0 t1 i1 f1 scope pos) i1 acc env (.compLoop (two elt t0 i0 f0 t1 i1 f1 scope pos) 0 it acc env)) it env (.compLoop (two elt t0 i0 f0 t1 i1 f1 scope pos) 0 it acc env) := rfl
theorem turn1 : compTurn (two elt t0 i0 f0 t1 i1 f1 scope pos) 1 it acc env = oneTurn i1.pos t1 f1 (put elt acc env (.compLoop (two elt t0 i0 f0 t1 i1 f1 scope pos) 1 it acc env)) it env (.compLoop (two elt t0 i0 f0 t1 i1 f1 scope pos) 1 it acc env) := rfl
variable {prog : Program} {w : World} {A : Around} {R : Result → Shared → Prop} {s : Shared}
theorem start1 (h0 : codeAny (model prog w) A (.compLoop (two elt t0 i0 f0 t1 i1 f1 scope pos) 1 it acc env) R s)
    (h : wpAny (model prog w) A (pyIter it) (fun j s' => codeAny (model prog w) A (.compLoop (two elt t0 i0 f0 t1 i1 f1 scope pos) 1 j acc env) R s') Fls s) :
    codeAny (model prog w) A (.compStart (two elt t0 i0 f0 t1 i1 f1 scope pos) 1 it acc env) R s := by
  refine codeAny_of_tree ?_
  show wpAny _ _ (Sem.onRaise (compStart (two elt t0 i0 f0 t1 i1 f1 scope pos) 1 it acc env) (fun x => do noteFrame x env; standAt theWindowsPlace)) _ _ s
  refine wpAny_notedAt ?_
  unfold compStart
  show wpAny _ _ (ask >>= _) _ _ s
  refine wpAny_bind (wpAny_askSetting (wpAny_ite ?_))
  split
  · first
      | exact wpAny_pure (And.intro rfl h0)
      | exact wpAny_bind (wpAny_pure (wpAny_pure (And.intro rfl h0)))
  · refine wpAny_bind (wpAny_rule ?_)
    first
      | exact wpAny_bind (wpAny_standAt (wpAny_bind (thnF h fun j s' q => wpAny_pure (And.intro rfl q))))
      | (show wpAny _ _ (standAt i1.pos >>= _) _ _ s
         exact wpAny_bind (wpAny_standAt (wpAny_bind (thnF h fun j s' q => wpAny_pure (And.intro rfl q)))))
end

def tPut (w : World) (D : Addr) (te : TE) : TInn := fun σ H N => te σ H fun y H4 => ∃ (c : Int) (S : Int → Bool) (n : Nat), y = .int c ∧ H4 D = some (SetO w D S n) ∧ n + 1 < scanBound ∧ N (upd H4 D (SetO w D (fun j => S j || decide (j = c)) (if S c = true then n else n + 1)))
def tDeep (wi1 : TI) (g1 : TG) (tt1 : TT) (ti : TInn) (vs1 : List Nat) : TInn := fun σ H N => wi1 σ H fun J1 H4 => lev J1 g1 tt1 ti (wipe σ vs1) N H4
def tSc2 (w : World) (wi : TI) (g : TG) (tt : TT) (wi1 : TI) (g1 : TG) (tt1 : TT) (te : TE) (vs vs1 : List Nat) : TE := fun σ H Q => wi σ H fun J H1 => ∀ D, H1 D = none →
  lev J g tt (tDeep wi1 g1 tt1 (tPut w D te) vs1) (wipe σ vs) (Q (.ref D)) (upd H1 D (SetO w D (fun _ => false) 0))

section
variable {Y : Cx}
theorem put_ok (hx : Y.xe = Fls) {elt : Expr} {te : TE} {D : Addr} (pe : PE Y elt te) {c : Code} {σ0 σ : L2.St} {pins : List (Addr × Obj)} {s : Shared} {H : Hp} {N : Hp → Prop} (kn : Kn σ0 σ) (I : Inv Y pins σ H s) (q : tPut Y.w D te σ H N) :
    wpAny (model Y.prog Y.w) Y.A (put elt (.ref D) Y.env c) (fun fin s' => fin = .again c ∧ ∃ H', Inv Y pins σ0 H' s' ∧ N H') Fls s := by
  unfold put
  refine wpAny_bind (wpAny_bind (thnX hx (pe.run pins s σ H _ I q) fun v s1 ⟨y, H1, I1, r1, c, S, n, ey, hD, room, nx⟩ => ?_))
  subst ey
  obtain ⟨tk, rfl⟩ := r1
  refine wpAny_bind (wpAny_standAt (wpAny_bind (setR_add (setO_get I1 hD) room fun h' sb new => ?_)))
  have he : ∃ u, h'.get? D = some u := let ⟨o, _, _, _, ho, _⟩ := new; ⟨o, ho⟩
  exact wpAny_pure (wpAny_pure ⟨rfl, _, (I1.write (e := D) (t' := s1.toks + 1) (by rw [hD]; trivial) (.inl rfl) (fun b u hb hu => (sb.2 b hb).trans hu) he (setO_new new)).weak kn.len kn.get, nx⟩)
theorem deep_ok (hc : Y.calm = true) (hx : Y.xe = Fls) {elt t0 i0 t1 i1 : Expr} {f0 f1 : List Expr} {scope : Scope} {pos : Pos} {wi1 : TI} {g1 : TG} {tt1 : TT} {te : TE} {D : Addr} {vs1 : List Nat} {c : Code} (pi1 : PI Y t1 i1 wi1) (pg1 : PG Y t1 g1) (pt1 : PTs Y f1 tt1) (pe : PE Y elt te)
    (hs1 : ∀ x, foldedSetIterable i1 Y.env x = pure x) {σ0 σ : L2.St} (away : ∀ (j : Nat) v, σ0[j]? = some (some v) → j ∉ vs1) {pins : List (Addr × Obj)} {s : Shared} {H : Hp} {N : Hp → Prop} (kn : Kn σ0 σ) (I : Inv Y pins σ H s) (q : tDeep wi1 g1 tt1 (tPut Y.w D te) vs1 σ H N) :
    wpAny (model Y.prog Y.w) Y.A (deeper (two elt t0 i0 f0 t1 i1 f1 scope pos) i1 (.ref D) Y.env c) (fun fin s' => fin = .again c ∧ ∃ H', Inv Y pins σ0 H' s' ∧ N H') Fls s := by
  unfold deeper
  refine wpAny_bind (thnX hx (pi1.run pins s σ H _ I q) fun x s1 h1 => wpAny_bind (wpAny_standAt (wpAny_bind (wpAny_of_eq (hs1 x) ?_))))
  refine wpAny_bind (wpAny_holding (thnX hx h1 fun v s2 h2 => ?_))
  obtain ⟨it, fp, tn, J, H2, rfl, I2, T, st2, f2, lv⟩ := h2
  have kn1 : Kn σ0 (wipe σ vs1) := ⟨kn.len.trans (wipe_length σ vs1).symm, fun j v e => by rw [wipe_out (away j v e)]; exact kn.get j v e⟩
  refine wpAny_bind (wpAny_runOwn ?_)
  rw [Around.mark_none]
  have lp : codeAny (model Y.prog Y.w) Y.A (.compLoop (two elt t0 i0 f0 t1 i1 f1 scope pos) 1 (.ref it) (.ref D) Y.env) (fun r s' => match r with
      | .ok _ => ∃ H', Inv Y pins σ0 H' s' ∧ N H'
      | .error _ => False) s2 :=
    level hc hx turn1 T pg1 pt1 (fun pl s σ H N kn I q => put_ok hx pe kn I q) (fun {_ _ _} _ hn b hb => ⟨hn b hb, (f2 b hb).2⟩) (fun s' H' I' n' => ⟨H', I'.weak kn1.len kn1.get, n'⟩) (I2.weak (wipe_length _ _) fun j v e => (wipe_some e).1) st2 (fun b hb => (f2 b hb).1) lv
  refine codeAny_mono (start1 lp (T.self Y.A 0 _ _ _ st2 lp)) fun r s' hr => ?_
  cases r with
  | ok f => exact wpAny_pure ⟨rfl, hr⟩
  | error e => exact hr.elim
end
section
variable {X : Cx}
abbrev InBlk (X : Cx) (scope : Scope) (F : Cx → Prop) : Prop := ∀ (s : Shared) (H : Hp) (C : Addr) (cl : List (PySem.Str × Addr)) (fp : List Addr), F (X.blk s H scope (compEnvC scope cl C X.env) fp)
theorem pe_sc2 {elt t0 i0 t1 i1 : Expr} {f0 f1 : List Expr} {scope : Scope} {own : List (PySem.Str × Nat)} {vs1 : List Nat} {pos : Pos} {wi wi1 : TI} {g g1 : TG} {tt tt1 : TT} {te : TE} (hc : X.calm = true) (hN : X.N.Nodup) (hi : PI X t0 i0 wi) (ok : BlkOk X.N X.env.scope scope own) (hv : ∀ i ∈ vs1, i ∈ own.map (·.2))
    (hg : InBlk X scope fun Y => PG Y t0 g) (ht : InBlk X scope fun Y => PTs Y f0 tt) (hi1 : InBlk X scope fun Y => PI Y t1 i1 wi1) (hg1 : InBlk X scope fun Y => PG Y t1 g1) (ht1 : InBlk X scope fun Y => PTs Y f1 tt1) (he : InBlk X scope fun Y => PE Y elt te)
    (hs : ∀ x, foldedSetIterable i0 X.env x = pure x := by intro _; rfl) (hs1 : ∀ env x, foldedSetIterable i1 env x = pure x := by intro _ _; rfl) :
    PE X (two elt t0 i0 f0 t1 i1 f1 scope pos) (tSc2 X.w wi g tt wi1 g1 tt1 te (own.map (·.2)) vs1) := by
  refine ⟨fun pins s σ H Q I h => ?_⟩
  rw [PpSet.eval_SetComp]
  have cells : ∀ y ∈ scope.names, y.2 = .free → ∃ c, X.env.cells.lookup y.1 = some c := fun y hy e => (ok.free y hy e).elim (fun k => I.ok.has _ (.inl k)) fun k => I.ok.has _ (.inr k)
  refine wpAny_comprehension_free rfl hs (closure_ok cells) ok.kind (fun y hy e => by rw [ok.uniq y hy, e]) (thn (hi.run pins s σ H _ I h) fun x s1 h1 => thn h1 fun v s2 h2 => ?_)
  obtain ⟨it, fp, tn, J, H2, rfl, I2, T, st2, f2, q⟩ := h2
  refine PpSet.newSet_ok (newEnv_comp ?_)
  have hDn : H2 s2.heap.objs.size = none := I2.hok.fresh (Nat.le_refl _)
  have lv := q _ hDn
  generalize eo : ({ cls := .type "set", dict := none, data := .set #[] 0 (.fresh 0 0 (!X.w.params.followText "set-order")) } : Obj) = ob
  have new : SetR X.w (s2.heap.push ob) s2.heap.objs.size (fun _ => false) 0 := by
    subst eo
    exact setR_fresh X.w
  generalize eD : s2.heap.objs.size = D at hDn lv new
  have fpD : ∀ b ∈ fp, b < D := fun b hb => by
    obtain ⟨o, e, _⟩ := T.obj _ _ st2 b hb
    rw [← eD]
    exact Heap.lt_size e
  have pk : ∀ b o, s2.heap.get? b = some o → (s2.heap.push ob).get? b = some o := fun b o e => Heap.get?_push_of_some _ e
  have I3 : Inv X pins σ (upd H2 D (SetO X.w D (fun _ => false) 0)) { s2 with heap := s2.heap.push ob } := I2.laid (t' := s2.toks) pk (Nat.le_of_eq eD) (setO_new new)
  have f3 : ∀ b ∈ fp, FpOk X pins (upd H2 D (SetO X.w D (fun _ => false) 0)) b ∧ b < (s2.heap.push ob).objs.size := fun b hb =>
    ⟨⟨by rw [upd_ne (Nat.ne_of_lt (fpD b hb))]; exact (f2 b hb).1, (f2 b hb).2⟩, by rw [Heap.size_push, eD]; exact Nat.lt_succ_of_lt (fpD b hb)⟩
  have st3 : tn 0 (s2.heap.push ob) := T.keep _ _ _ st2 fun b _ o e => pk b o e
  generalize eH : upd H2 D (SetO X.w D (fun _ => false) 0) = H3 at lv I3 f3
  generalize es : ({ s2 with heap := s2.heap.push ob } : Shared) = s3 at I3
  have eh : s2.heap.push ob = s3.heap := by subst es; rfl
  rw [eh] at f3 st3
  have I4 := block_start I3 ok hN f3
  have nf : ∀ b ∈ fp, H3 b = none := fun b hb => (f3 b hb).1.1
  generalize ec : cellsFrom (s3.heap.objs.size + 1) scope.names (cloFrom X.env.cells scope.names []) = cl at I4
  generalize ee : compEnvC scope cl s3.heap.objs.size X.env = ce at I4
  have cL : ce.locals = s3.heap.objs.size := by subst ee; rfl
  generalize ey : X.blk s3 H3 scope ce fp = Y at I4
  have blk : ∀ {F : Cx → Prop}, InBlk X scope F → F Y := fun {F} k => by
    subst ey ee
    exact k s3 H3 s3.heap.objs.size cl fp
  have hYe : Y.env = ce := by subst ey; rfl
  have st4 : tn 0 (pushCells (s3.heap.push { cls := .type "dict", data := .dict #[] }) scope.names) := T.keep _ _ _ st3 fun b _ o e => pushCells_keeps _ _ _ _ (Heap.get?_push_of_some _ e)
  generalize e4 : ({ s3 with heap := pushCells (s3.heap.push { cls := .type "dict", data := .dict #[] }) scope.names } : Shared) = s4 at I4
  have e4h : pushCells (s3.heap.push { cls := .type "dict", data := .dict #[] }) scope.names = s4.heap := by subst e4; rfl
  rw [e4h] at st4
  have away : ∀ (j : Nat) v, (wipe σ (own.map (·.2)))[j]? = some (some v) → j ∉ vs1 := fun j v e z => (wipe_some e).2 (hv j z)
  have lp : codeAny (model X.prog X.w) X.A (.compLoop (two elt t0 i0 f0 t1 i1 f1 scope pos) 0 (.ref it) (.ref D) ce) (compPost (model X.prog X.w) X.A X.xe none (EP X pins σ Q) (.ref D) s3.heap.objs.size) s4 := by
    have hYc : Y.calm = true := by subst ey; exact hc
    have hYx : Y.xe = Fls := by subst ey; rfl
    have hYp : Y.prog = X.prog ∧ Y.w = X.w ∧ Y.K = X.K ∧ Y.A = X.A := by subst ey; exact ⟨rfl, rfl, rfl, rfl⟩
    have key := level (Y := Y) (pins := []) (R := compPost (model X.prog X.w) X.A X.xe none (EP X pins σ Q) (.ref D) s3.heap.objs.size) hYc hYx (turn0 (elt := elt) (t0 := t0) (i0 := i0) (t1 := t1) (i1 := i1) (f0 := f0) (f1 := f1) (scope := scope) (pos := pos) (acc := .ref D)) (by rw [hYp.1, hYp.2.1, hYp.2.2.1]; exact T) (blk hg) (blk ht)
      (fun pl s σ H N kn I q => deep_ok hYc hYx (blk hi1) (blk hg1) (blk ht1) (blk he) (hs1 _) away kn I (by rw [hYp.2.1]; exact q)) ?ex ?hR I4 st4 nf lv
    case ex =>
      intro σ' H' s' I' hn b hb
      subst ey
      exact ⟨hn b hb, (I'.ok.exf b hb).1, I'.ok.exfs b hb, .inl hb, fun x c e => (I'.ok.exf b hb).2 x c e, fun p hp => absurd (show p ∈ ([] : List (Addr × Obj)) ++ [] from hp) (by simp)⟩
    case hR =>
      intro s6 H5 I6 qq
      subst ey
      have I7 : Inv X pins σ H5 s6 := I3.call' (ch := fp) I6.os I6.base I6.hok I6.bare fun b hb => have z := (f3 b hb).1.2; ⟨z.2.2.1, z.1, z.2.2.2.1, z.2.2.2.2⟩
      have nC : H5 s3.heap.objs.size = none := by
        have z : H5 ce.locals = none := I6.free
        rwa [cL] at z
      obtain ⟨m, hn, _⟩ := I6.loc
      have hn : s6.heap.Ns ce.locals m := hn
      rw [cL] at hn
      refine ⟨m, hn, fun h'' sb => ?_⟩
      obtain ⟨g0, g1, g2, g3, g4, g5⟩ := I3.fpOk (Nat.le_refl _) nC
      exact ⟨.ref D, H5, I7.turned (t' := s6.toks) (fun b o hb e => (sb.2 b hb).trans e) g0 g1 g3 g4 g5, rfl, qq⟩
    rw [hYp.1, hYp.2.1, hYp.2.2.2, hYe] at key
    exact key
  have := PpSet.codeAny_compStart_set lp (T.self X.A 0 _ _ _ st4 lp)
  subst ee
  exact this
end
end SC

/-! set(xs) of a list of ints, walked later -/
namespace SC
open PySem PySem.Spec PyProof.Rows L2
abbrev zo (w : World) : Obj := { cls := .type "set", dict := none, data := .set #[] 0 (.fresh 0 0 (!w.params.followText "set-order")) }
section
variable {P : Program} {w : World} {A : Around} {E : Value → Shared → Prop} {s : Shared}
/-- what set.__init__ leaves of the new set -/
def Filled (w : World) (s : Shared) (ns : List Int) (r : Value) (z : Shared) : Prop := r = .none ∧ ∃ g tk c, z = { s with heap := g, toks := tk } ∧ SetR w g s.heap.objs.size (fun j => decide (j ∈ ns)) c ∧ ∀ b o, s.heap.get? b = some o → g.get? b = some o
theorem init_list {l : Addr} {items : Array Value} (ns : List Int) (hh : A.handled = none) (hl : s.heap.IsList l items) (hi : IntsAre items.toList ns) (hb : ns.length + 1 < scanBound) {QQ : PySem.Fin → Shared → Prop} (hQ : ∀ z, Filled w s ns .none z → QQ (.done (.ret .none)) z) :
    wpAny (model P w) A (Builtin.«set.__init__» ⟨[.ref s.heap.objs.size, .ref l], []⟩) QQ E { s with heap := s.heap.push (zo w) } := by
  obtain ⟨⟨oc, od, odt, osl⟩, ho, hc, nl, hd⟩ := hl
  simp only at hc hd
  subst hc hd
  have ho' : (s.heap.push (zo w)).get? l = some { cls := .type "list", dict := od, data := .seq items nl, slots := osl } := Heap.get?_push_of_some _ ho
  have il : (s.heap.push (zo w)).IsList l items := ⟨_, ho', rfl, nl, rfl⟩
  have k1 := F.sub_list_set
  have k2 := F.sub_list_frozenset
  have k3 : (Value.type "list" == Value.type "dict") = false := by decide
  unfold Builtin.«set.__init__» noKeywords Builtin.Frozenset.updateFrom
  generalize ePI : pyIter = PI
  wp_walk
  subst ePI
  refine wpAny_pyIter_list il (wpAny_bind (wpAny_runValue ?_))
  have hlS : l < s.heap.objs.size := Heap.lt_size ho
  have sz : (s.heap.push (zo w)).objs.size = s.heap.objs.size + 1 := Heap.size_push ..
  have len : items.size = ns.length := by
    have q := IntsAre.length hi
    rwa [Array.length_toList] at q
  refine set_update_ints ((Walks.list (by simp [hh]) _ l (Nat.ne_of_lt (by rw [sz]; exact Nat.lt_succ_of_lt hlS)) items).toS) s.heap.objs.size (by rw [sz]; exact fun z => (List.mem_cons.mp z).elim (fun e => Nat.ne_of_lt (Nat.lt_succ_self _) e) fun z => Nat.ne_of_gt hlS (List.mem_singleton.mp z)) ns len hb (fun i v hv => ?_) (items.size - 0) 0 _ (by omega) (Nat.zero_le _)
    ⟨⟨_, Heap.get?_push_size _ rfl, rfl, rfl⟩, il.push _⟩ ⟨0, Nat.le_refl 0, setR_new_at (Heap.get?_push_of_some _ (Heap.get?_push_size _ rfl))⟩ fun z c hm hc hS => ?_
  · have hin : i < ns.length := by
      rw [← len]
      exact (Array.getElem?_eq_some_iff.mp hv).1
    obtain ⟨t, e⟩ := IntsAre.int_at hi i v (by rw [Array.getElem?_toList]; exact hv)
    refine ⟨ns[i], t, List.getElem?_eq_getElem hin, ?_⟩
    rw [e, List.getD_eq_getElem?_getD, List.getElem?_eq_getElem hin]
    rfl
  · obtain ⟨g, g2, d2, tk, o2⟩ := z
    have e1 : g2 = s.gens := hm.gens
    have e2 : d2 = s.drawn := hm.drawn
    have e3 : o2 = s.os := hm.os
    subst e1 e2 e3
    show wpAny _ _ _ _ _ _
    refine wpAny_pure ?_
    show wpAny _ _ (ret Value.none) _ _ _
    refine wpAny_pure (hQ _ ⟨rfl, g, tk, c, rfl, hS, fun b o e => ?_⟩)
    have hb0 : b < s.heap.objs.size := Heap.lt_size e
    exact hm.heap b o (by rw [sz]; exact fun z => (List.mem_cons.mp z).elim (Nat.ne_of_lt hb0) fun z => Nat.ne_of_lt (Nat.lt_succ_of_lt hb0) (List.mem_singleton.mp z)) (Heap.get?_push_of_some _ (Heap.get?_push_of_some _ e))
set_option maxHeartbeats 3200000 in
theorem call_set_ints {l : Addr} {items : Array Value} (ns : List Int) {Q : Value → Shared → Prop} (hh : A.handled = none) (hl : s.heap.IsList l items) (hi : IntsAre items.toList ns) (hb : ns.length + 1 < scanBound)
    (h : ∀ (g : Heap) (tk c : Nat), SetR w g s.heap.objs.size (fun j => decide (j ∈ ns)) c → (∀ b o, s.heap.get? b = some o → g.get? b = some o) → Q (.ref s.heap.objs.size) { s with heap := g, toks := tk }) :
    wpAny (model P w) A (call (.type "set") [.ref l]) Q E s := by
  obtain ⟨c0, tl, mro⟩ := F.called_set.mro
  have k1 := F.called_set.made
  have k2 := F.called_set.sub
  have k3 := F.called_set.notType
  have k4 := F.called_set.canCreate
  have k5 := F.typeCall_set_1 (.ref l)
  refine wpAny_call (codeAny_of_tree ?_)
  show wpAny _ _ (callAny (.type "set") _) _ _ _
  refine wpAny_pure ⟨Code.quiet_builtin _ (by decide +kernel), codeAny_builtin F.entry_type_call ?_⟩
  rw [Around.under_plain (weight_type_call_type "set" [.ref l] []) rfl]
  repeat (any_goals (first | assumption | wp_step))
  refine codeAny_mono (code_set_led1 (.ref l) (E := E) (Q₁ := fun v z => v = .ref s.heap.objs.size ∧ z = { s with heap := s.heap.push (zo w) }) ⟨rfl, rfl⟩) fun r z hr => ?_
  rcases r with e | (_ | _ | _ | v)
  all_goals first | exact hr.elim | exact hr | skip
  obtain ⟨rfl, rfl⟩ := hr
  have got : (s.heap.push (zo w)).get? s.heap.objs.size = some (zo w) := Heap.get?_push_size _ rfl
  have isS : Shared.TypeIs { s with heap := s.heap.push (zo w) } (.ref s.heap.objs.size) "set" := ⟨_, got, rfl⟩
  have k6 := F.called_set.init.lookup
  have k7 := F.called_set.init.bind (.ref s.heap.objs.size)
  repeat (any_goals (first | assumption | wp_step))
  refine codeAny_mono (codeAny_call_builtin (R := wants (Filled w s ns) E) F.called_set.init.plain F.entry_set_init (check_set_init_1 isS (init_list ns (by first | exact hh | simp [hh]) hl hi hb fun z q => q))) fun r z hr => ?_
  rcases r with e | (_ | _ | _ | v)
  all_goals first | exact hr.elim | exact hr | skip
  obtain ⟨rfl, g, tk, c, rfl, hS, hk⟩ := hr
  repeat (any_goals (first | assumption | wp_step))
  exact h g tk c hS hk
end
end SC

namespace DL
open PySem PySem.Spec PyProof.Rows L2 SC
/-! ### sets of ints, as they are sorted -/
/-- the set of the ints acc, none of which stands in it twice -/
def setOf (w : World) (acc : List Int) : O := .any fun a => SetO w a (fun k => decide (k ∈ acc)) acc.length
def ins1 (acc : List Int) (z : Int) : List Int := if z ∈ acc then acc else acc ++ [z]
theorem ins1_set {w : World} {a : Addr} {acc : List Int} {z : Int} : SetO w a (fun j => decide (j ∈ acc) || decide (j = z)) (if decide (z ∈ acc) = true then acc.length else acc.length + 1) = SetO w a (fun k => decide (k ∈ ins1 acc z)) (ins1 acc z).length := by
  unfold ins1
  by_cases h : z ∈ acc
  · rw [if_pos h, if_pos (decide_eq_true h)]
    congr 1
    funext j
    by_cases e : j = z
    · subst e; simp [h]
    · simp [e]
  · rw [if_neg h, if_neg (by simp [h])]
    congr 1
    · funext j
      by_cases e : j = z <;> simp [e]
    · simp
abbrev DInn := Ev → Sto → (Sto → Prop) → Prop
def dLev (ds : List D) (ok : Sto → Prop) (G : DTG) (TT : DTT) (TIn : DInn) (vs : List Nat) (env : Ev) (S1 : Sto) (N : Sto → Prop) : Prop := ∃ I : Nat → Sto → Prop, I 0 S1 ∧ (∀ i S', i ≤ ds.length → I i S' → ok S') ∧
  (∀ i x S', ds[i]? = some x → I i S' → G x (wipeE env vs) S' fun env2 S2 => TT env2 S2 fun k S3 => if k = true then TIn env2 S3 (I (i + 1)) else I (i + 1) S3) ∧ ∀ S', I ds.length S' → N S'
def dPut (w : World) (k : Nat) (T : DTE) : DInn := fun env S N => T env S fun d S1 => xInt (fun z => ∃ acc, S1[k]? = some (setOf w acc) ∧ acc.length < 60 ∧ N (S1.set k (setOf w (ins1 acc z)))) d
def dDeep (TI1 : DTI) (G1 : DTG) (TT1 : DTT) (TIn : DInn) (vs1 : List Nat) : DInn := fun env S N => TI1 env S fun ds ok S1 => dLev ds ok G1 TT1 TIn vs1 env S1 N
def xSorted (w : World) (k : Nat) (P : List D → Sto → Prop) (S : Sto) : Prop := ∃ acc, S[k]? = some (setOf w acc) ∧ acc.length < 60 ∧ ∀ ns : List Int, ns.Pairwise (· < ·) → (∀ k, k ∈ ns ↔ k ∈ acc) → P (ns.map .int) S
def dSc2 (w : World) (TI : DTI) (G : DTG) (TT : DTT) (TI1 : DTI) (G1 : DTG) (TT1 : DTT) (T : DTE) (vs vs1 : List Nat) : DTN := fun env S P => TI env S fun ds ok S1 =>
  dLev ds ok G TT (dDeep TI1 G1 TT1 (dPut w S1.length T) vs1) vs env (S1 ++ [setOf w []]) (xSorted w S1.length P)
theorem Gives.mono {K : PySem.W.Frag} {W W2 : Wd} {H H2 : Hp} {ok : Sto → Prop} {ds : List D} {J : It} (g : Gives K W H ok ds J) (l : Stp W H W2 H2) : Gives K W2 H2 ok ds J := by
  obtain ⟨Gd, Y, wk, h1, h2⟩ := g
  exact ⟨Gd, Y, wk, fun W' S' H' l' => h1 W' S' H' (l.trans l'), fun i d W' S' H' x H'' hd l' => h2 i d W' S' H' x H'' hd (l.trans l')⟩
section
variable {X : Cx} {W0 : Wd}
theorem lift_lev {J : It} {ds : List D} {ok : Sto → Prop} {G : DTG} {TT : DTT} {TIn : DInn} {ti : TInn} {ss vs : List Nat} {σ : L2.St} {env : Ev} {W1 : Wd} {S1 : Sto} {H1 : Hp} {N : Sto → Prop} {Qe : Hp → Prop} (hss : ∀ i ∈ ss, i ∈ vs)
    (hW : W0.le W1) (s : Sim X.K W1 S1 H1) (er : EnvR X.K W1 env σ) (gv : Gives X.K W1 H1 ok ds J) (h : dLev ds ok G TT TIn vs env S1 N)
    (hin : ∀ {W : Wd} {S : Sto} {H : Hp} {env : Ev} {σ : L2.St} {M : Sto → Prop} {NH : Hp → Prop}, Stp W1 H1 W H → Sim X.K W S H → EnvR X.K W env σ → TIn env S M → (∀ W' S' H', Stp W H W' H' → Sim X.K W' S' H' → M S' → NH H') → ti σ H NH)
    (fin : ∀ W' S' H', Stp W1 H1 W' H' → Sim X.K W' S' H' → N S' → Qe H') : lev J (liftG X.K W0 ss G) (liftT X.K W0 TT) ti (L2.wipe σ vs) Qe H1 := by
  obtain ⟨I, i0, iok, turn, nd⟩ := h
  obtain ⟨Gd, Y, wk, wok, wy⟩ := gv
  refine ⟨fun i m H => m = ds.length - i ∧ i ≤ ds.length ∧ ∃ W' S', Stp W1 H1 W' H ∧ Sim X.K W' S' H ∧ I i S', ⟨ds.length, by simp, Nat.zero_le _, W1, S1, .refl, s, i0⟩, ?_⟩
  rintro i m H ⟨rfl, hi, W', S', l', s', ii⟩
  have gd := wok W' S' H l' s' (iok i S' hi ii)
  by_cases hlt : i < ds.length
  · refine .inr ⟨wk.goes i H hlt gd, fun H' => ∃ W' S', Stp W1 H1 W' H' ∧ Sim X.K W' S' H' ∧ I (i + 1) S', fun H' p => ⟨ds.length - (i + 1), by omega, rfl, hlt, p⟩, fun x H' y => ?_⟩
    have hd : ds[i]? = some ds[i] := List.getElem?_eq_getElem hlt
    obtain ⟨W2, s2, l2, r2⟩ := wy i _ W' S' H x H' hd l' s' (iok i S' hi ii) (wk.yields i H x H' hlt gd y)
    have lx := l'.trans l2
    refine ⟨W2, wipeE env vs, S', _, _, hW.trans lx.le, s2, (er.mono lx.le).wipe vs, r2, turn i _ S' hd ii, fun env3 S3 W3 H3 σ3 q3 s3 l3 er3 ag => ⟨⟨ag.len.symm, fun j v e => ?_⟩, ?_⟩⟩
    · rw [ag.out j fun z => (wipe_some e).2 (hss j z)]
      exact e
    · refine lift_if (hW.trans (lx.trans l3).le) s3 er3 q3 fun k S4 W4 H4 q4 s4 l4 => ?_
      have ly := lx.trans (l3.trans l4)
      cases k with
      | true => exact hin ly s4 (er3.mono l4.le) q4 fun W' S' H' l s m => ⟨W', S', ly.trans l, s, m⟩
      | false => exact ⟨W4, S4, ly, s4, q4⟩
  · have e : i = ds.length := by omega
    subst e
    exact .inl ⟨wk.stops H gd, fin W' S' H l' s' (nd S' ii)⟩
theorem lift_put {T : DTE} {k : Nat} {Da : Addr} {W : Wd} {S : Sto} {H : Hp} {env : Ev} {σ : L2.St} {M : Sto → Prop} {NH : Hp → Prop} (hW : W0.le W) (hk : W.m[k]? = some Da) (s : Sim X.K W S H) (er : EnvR X.K W env σ) (h : dPut X.w k T env S M)
    (go : ∀ W' S' H', Stp W H W' H' → Sim X.K W' S' H' → M S' → NH H') : tPut X.w Da (liftE X.K W0 T) σ H NH := by
  refine ⟨W, env, S, _, hW, s, er, h, fun d S1 W1 H1 v ⟨z, ez, acc, e, hl, m⟩ s1 l1 r1 => ?_⟩
  subst ez
  have hk1 := l1.le.pre _ _ hk
  obtain ⟨hB, hH⟩ := s1.obj k Da _ hk1 e
  refine ⟨z, _, _, r1.intV, hH, Nat.lt_trans (Nat.succ_lt_succ hl) (by decide), ?_⟩
  rw [ins1_set]
  exact go W1 _ _ (l1.trans (.setO hk1)) (s1.setO (o' := setOf X.w (ins1 acc z)) hk1 e hB ⟨hB, upd_same⟩) m
theorem lift_sc2 {TI : DTI} {G : DTG} {TT : DTT} {TI1 : DTI} {G1 : DTG} {TT1 : DTT} {T : DTE} {ss ss1 vs vs1 : List Nat} {σ : L2.St} {H : Hp} {Q : VK} (hss : ∀ i ∈ ss, i ∈ vs) (hss1 : ∀ i ∈ ss1, i ∈ vs1) (h : liftN X.K W0 (dSc2 X.w TI G TT TI1 G1 TT1 T vs vs1) σ H Q) :
    tSc2 X.w (liftI X.K W0 TI) (liftG X.K W0 ss G) (liftT X.K W0 TT) (liftI X.K W0 TI1) (liftG X.K W0 ss1 G1) (liftT X.K W0 TT1) (liftE X.K W0 T) vs vs1 σ H fun x H1 => rSortedSet X.w [x] H1 Q := by
  obtain ⟨W, env, S, P, hW, sim, er, ht, post⟩ := h
  refine ⟨W, env, S, _, hW, sim, er, ht, fun ds ok S1 W1 H1 J hq s l gv Da hD => ?_⟩
  have hk : (W1.new Da).m[S1.length]? = some Da := by
    show (W1.m ++ [Da])[S1.length]? = some Da
    rw [← s.len, List.getElem?_append_right (Nat.le_refl _), Nat.sub_self]
    rfl
  have s2 : Sim X.K (W1.new Da) (S1 ++ [setOf X.w []]) (upd H1 Da (SetO X.w Da (fun _ => false) 0)) := s.newO hD ⟨s.free hD, by rw [upd_same]; simp⟩
  have l2 : Stp W1 H1 (W1.new Da) (upd H1 Da (SetO X.w Da (fun _ => false) 0)) := .newO hD
  have lw := l.trans l2
  refine lift_lev hss (hW.trans lw.le) s2 (er.mono lw.le) (gv.mono l2) hq (fun {W3 S3 H3 env3 σ3 M NH} l3 s3 er3 h3 go => ?_) fun W3 S3 H3 l3 s3 ⟨acc, e, hl, m⟩ => ?_
  · refine ⟨W3, env3, S3, _, hW.trans (lw.trans l3).le, s3, er3, h3, fun ds1 ok1 S4 W4 H4 J1 q1 s4 l4 gv1 => ?_⟩
    refine lift_lev hss1 (hW.trans (lw.trans (l3.trans l4)).le) s4 (er3.mono l4.le) gv1 q1 (fun {W5 S5 H5 env5 σ5 M5 N5} l5 s5 er5 h5 go5 => ?_) fun W5 S5 H5 l5 s5 m5 => go W5 S5 H5 (l4.trans l5) s5 m5
    exact lift_put (hW.trans (lw.trans (l3.trans (l4.trans l5))).le) ((l3.trans (l4.trans l5)).le.pre _ _ hk) s5 er5 h5 go5
  · obtain ⟨hB, hH⟩ := s3.obj _ Da _ (l3.le.pre _ _ hk) e
    refine ⟨Da, _, _, rfl, hH, by omega, fun ns p hs hm hn hp => ?_⟩
    exact (post.mono (lw.trans l3)).laid (m ns hs fun k => by rw [hm k]; simp) s3 (reps_ints ns) p hp
theorem dn_ssc {elt t0 i0 t1 i1 : Expr} {f0 f1 : List Expr} {scope : Scope} {own : List (Str × Nat)} {vs1 ss ss1 : List Nat} {p pos pos' : Pos} {TI : DTI} {G : DTG} {TT : DTT} {TI1 : DTI} {G1 : DTG} {TT1 : DTT} {T : DTE}
    (hss : ∀ i ∈ ss, i ∈ own.map (·.2)) (hss1 : ∀ i ∈ ss1, i ∈ vs1) (hv : ∀ i ∈ vs1, i ∈ own.map (·.2)) (hc : X.calm = true) (hN : X.N.Nodup) (hi : DI X W0 t0 i0 TI) (ok : BlkOk X.N X.env.scope scope own)
    (hg : InBlk X scope fun Y => PG Y t0 (liftG X.K W0 ss G)) (ht : InBlk X scope fun Y => PTs Y f0 (liftT X.K W0 TT)) (hi1 : InBlk X scope fun Y => PI Y t1 i1 (liftI X.K W0 TI1)) (hg1 : InBlk X scope fun Y => PG Y t1 (liftG X.K W0 ss1 G1))
    (ht1 : InBlk X scope fun Y => PTs Y f1 (liftT X.K W0 TT1)) (he : InBlk X scope fun Y => PE Y elt (liftE X.K W0 T)) (hgl : Gl X "sorted") (hm : X.mg "sorted" = none)
    (hs : ∀ x, foldedSetIterable i0 X.env x = pure x := by intro _; rfl) (hs1 : ∀ env x, foldedSetIterable i1 env x = pure x := by intro _ _; rfl) :
    DN X W0 (.Call (.Name "sorted" p) [two elt t0 i0 f0 t1 i1 f1 scope pos'] [] pos) (dSc2 X.w TI G TT TI1 G1 TT1 T (own.map (·.2)) vs1) :=
  (pe_callB (cr_sortedSet hc) hgl hm (by decide +kernel) (pa_cons (pe_sc2 hc hN hi ok hv hg ht hi1 hg1 ht1 he hs hs1) pa_nil)).imp fun _ _ _ q => lift_sc2 hss hss1 q
/-! ### sorted(set(xs)) -/
theorem len_le : ∀ {l L : List Int}, l.Nodup → (∀ k ∈ l, k ∈ L) → l.length ≤ L.length
  | [], _, _, _ => Nat.zero_le _
  | x :: l, L, nd, h => by
    obtain ⟨h1, h2⟩ := List.nodup_cons.mp nd
    have hx := h x List.mem_cons_self
    have := len_le (L := L.erase x) h2 fun k hk => (List.mem_erase_of_ne fun (e : k = x) => h1 (by rw [← e]; exact hk)).mpr (h k (List.mem_cons_of_mem _ hk))
    rw [List.length_erase_of_mem hx] at this
    have := List.length_pos_of_mem hx
    simp only [List.length_cons]
    omega
theorem SetR_count {w : World} {h : Heap} {a : Addr} {S : Int → Bool} {n : Nat} (R : SetR w h a S n) {L : List Int} (hL : ∀ k, S k = true → k ∈ L) : n ≤ L.length := by
  obtain ⟨o, es, ep, t, _, _, _, _, nd, hm, _, _, hn, _⟩ := R
  have := len_le nd fun k hk => hL k ((hm k).mpr hk)
  rw [List.length_map, Array.length_toList, hn] at this
  exact this
def rSetI (K : PySem.W.Frag) (w : World) : List V → Hp → VK → Prop := fun vs H Q => ∃ (l : Addr) (ns : List Int), vs = [.ref l] ∧ SqL K H l (ns.map V.int) ∧ ns.length + 1 < scanBound ∧
  ∀ p c, H p = none → (∀ L : List Int, (∀ k ∈ ns, k ∈ L) → c ≤ L.length) → Q (.ref p) (upd H p (SetO w p (fun j => decide (j ∈ ns)) c))
theorem cr_setI (hc : X.calm = true) : CallR X (.type "set") (rSetI X.K X.w) := by
  intro pins s σ H xs us Q I r h
  obtain ⟨l, ns, rfl, hs, hb, q⟩ := h
  rw [Vals.ref1 r]
  obtain ⟨its, rv, hl, _⟩ := I.list hs
  refine call_set_ints ns (I.ok.hd hc) (items := its.toArray) ?_ (by simpa using ints_of_vals rv) hb fun g tk c hS hk => ?_
  · obtain ⟨o, n, ho, hc', hdn, hd⟩ := hl
    exact ⟨o, ho, hc', n, hd⟩
  · exact ⟨.ref _, _, I.laid (t' := tk) hk (Nat.le_refl _) (setO_new hS), rfl, q _ c (I.hok.fresh (Nat.le_refl _)) fun L hL => SetR_count hS fun k e => hL k (of_decide_eq_true e)⟩
def xSS (P : List D → Sto → Prop) (d : D) (S : Sto) : Prop := ∃ (ns0 L : List Int), lstOf S d = some (ns0.map .int) ∧ ns0.length < 1000 ∧ L.length < 60 ∧ (∀ k ∈ ns0, k ∈ L) ∧ ∀ ns : List Int, ns.Pairwise (· < ·) → (∀ k, k ∈ ns ↔ k ∈ ns0) → P (ns.map .int) S
def dSS (T : DTE) : DTN := fun env S P => T env S (xSS P)
theorem dn_ss {e : Expr} {T : DTE} {p p1 p2 pos : Pos} (hc : X.calm = true) (h : DE X W0 e T) (hg : Gl X "sorted") (hm : X.mg "sorted" = none) (hg2 : Gl X "set") (hm2 : X.mg "set" = none) (hs : starEach [e] X.env = [(false, eval e X.env)] := by rfl) :
    DN X W0 (.Call (.Name "sorted" p) [.Call (.Name "set" p1) [e] [] p2] [] pos) (dSS T) :=
  (pe_callB (cr_sortedSet hc) hg hm (by decide +kernel) (pa_cons (pe_callTy (cr_setI hc) hg2 hm2 (by decide +kernel) (pa_cons h pa_nil hs) (he := hs)) pa_nil)).imp fun σ H Q ⟨W, env, S, P, hW, sim, er, ht, post⟩ =>
    ⟨W, env, S, _, hW, sim, er, ht, fun d S1 W1 H1 v ⟨ns0, L, e1, h1, h2, h3, q⟩ s1 l1 r1 => by
      obtain ⟨a, vs, rfl, hH, rr⟩ := r1.lst_of s1 e1
      refine ⟨a, ns0, rfl, by rw [← rr.ints]; exact SqL.of hH, Nat.lt_trans (Nat.succ_lt_succ h1) (by decide), fun p c hp hL => ?_⟩
      refine ⟨p, _, c, rfl, upd_same, by have := hL L h3; omega, fun ns z hs hmm hn hz => ?_⟩
      have l2 : Stp W1 H1 W1 (upd H1 p (SetO X.w p (fun j => decide (j ∈ ns0)) c)) := .lay hp
      exact (post.mono (l1.trans l2)).laid (q ns hs fun k => by rw [hmm k]; simp) (s1.lay hp) (reps_ints ns) z hz⟩
end
section
variable {env env2 : Ev} {S S' : Sto} {P : DP} {Q : List D → Sto → Prop} {T : DTE} {w : World} {k : Nat} {d : D} {TIn : DInn} {N : Sto → Prop} {TI TI1 : DTI} {G G1 : DTG} {TT TT1 : DTT} {vs vs1 : List Nat}
theorem i_ssc (q : TI env S fun ds ok S1 => dLev ds ok G TT (dDeep TI1 G1 TT1 (dPut w S1.length T) vs1) vs env (S1 ++ [setOf w []]) (xSorted w S1.length Q)) : dSc2 w TI G TT TI1 G1 TT1 T vs vs1 env S Q := q
theorem i_deep (q : TI1 env S fun ds ok S1 => dLev ds ok G1 TT1 TIn vs1 env S1 N) : dDeep TI1 G1 TT1 TIn vs1 env S N := q
theorem i_put (q : T env S fun d S1 => xInt (fun z => ∃ acc, S1[k]? = some (setOf w acc) ∧ acc.length < 60 ∧ N (S1.set k (setOf w (ins1 acc z)))) d) : dPut w k T env S N := q
theorem i_ss (q : T env S (xSS Q)) : dSS T env S Q := q
end
end DL

namespace DL
open PySem PySem.Spec PyProof.Rows L2
/-! ### what the top has written -/
mutual
inductive KR (K : PySem.W.Frag) : Value → D → Prop where
  | int (n : Int) (t : PySem.Tok) : KR K (.int n t) (.int n)
  | str (x : Str) (t : PySem.Tok) : KR K (.str x t) (.str x)
  | tup {a : Addr} {d : Option Addr} {its : Array Value} {n : Nat} {sl : Array (Option Value)} {ds : List D} : K.lookup a = some ⟨.type "tuple", d, .seq its n, sl⟩ → ds.length ≤ 1000 → KRs K its.toList ds → KR K (.ref a) (.tup ds)
inductive KRs (K : PySem.W.Frag) : List Value → List D → Prop where
  | nil : KRs K [] []
  | cons {u : Value} {d : D} {us : List Value} {ds : List D} : KR K u d → KRs K us ds → KRs K (u :: us) (d :: ds)
end
section
variable {K : PySem.W.Frag}
mutual
theorem KR.rep : ∀ {u : Value} {d : D}, KR K u d → ∃ v, RelV v u ∧ ∀ W, Rep K W v d
  | _, _, .int n t => ⟨.int n, ⟨t, rfl⟩, fun _ => .int n⟩
  | _, _, .str x t => ⟨.str x, ⟨t, rfl⟩, fun _ => .str x⟩
  | _, _, .tup (a := a) l h r => by
    obtain ⟨vs, h1, h2⟩ := KRs.rep r
    refine ⟨.ref a, rfl, fun W => .tup (.inr ⟨_, _, _, l, rfl, rfl, ?_, h1⟩) (h2 W)⟩
    rw [← Array.length_toList, ← h1.length, (h2 W).length]
    exact sz_le (by omega)
theorem KRs.rep : ∀ {us : List Value} {ds : List D}, KRs K us ds → ∃ vs, Vals vs us ∧ ∀ W, Reps K W vs ds
  | _, _, .nil => ⟨[], .nil, fun _ => .nil⟩
  | _, _, .cons r rs => by
    obtain ⟨v, h1, h2⟩ := KR.rep r
    obtain ⟨vs, h3, h4⟩ := KRs.rep rs
    exact ⟨v :: vs, .cons h1 h3, fun W => .cons (h2 W) (h4 W)⟩
end
/-- a written dict's entries -/
inductive KEs (K : PySem.W.Frag) : List DictEntry → List Str → List D → Prop where
  | nil : KEs K [] [] []
  | cons {e : DictEntry} {x : Str} {t : PySem.Tok} {d : D} {es : List DictEntry} {xs : List Str} {ds : List D} : e.key = .str x t → KR K e.val d → KEs K es xs ds → KEs K (e :: es) (x :: xs) (d :: ds)
theorem KEs.out {P : Program} {w : World} : ∀ {es : List DictEntry} {xs : List Str} {ds : List D}, KEs K es xs ds → ∃ (vs : List V) (us : List Value), xs.length = vs.length ∧ (∀ W, Reps K W vs ds) ∧
    KV ((xs.map (Sum.inr : Str → Key)).zip vs) ((xs.map (Sum.inr : Str → Key)).zip us) ∧ Pairs (mixKind P w) es ((xs.map (Sum.inr : Str → Key)).zip us) ∧ xs.length = us.length
  | _, _, _, .nil => ⟨[], [], rfl, fun _ => .nil, .nil, .nil, rfl⟩
  | _, _, _, .cons (t := t) e r rs => by
    obtain ⟨v, h1, h2⟩ := r.rep
    obtain ⟨vs, us, a1, a2, a3, a4, a5⟩ := KEs.out (P := P) (w := w) rs
    exact ⟨v :: vs, _ :: us, congrArg (· + 1) a1, fun W => .cons (h2 W) (a2 W), .cons ⟨rfl, h1⟩ a3, .cons (by rw [e]; exact keyIs_str _ t) rfl a4, congrArg (· + 1) a5⟩
theorem inr_inj {a b : Str} (h : (Sum.inr a : Key) = Sum.inr b) : a = b := by cases h; rfl
theorem KEs.tab {P : Program} {w : World} {a : Addr} {es : Array DictEntry} {n : Nat} {xs : List Str} {ds : List D} (h : KEs K es.toList xs ds) (l : K.lookup a = some ⟨.type "dict", none, .dict es n, #[]⟩) (lit : PySem.W.KeysLit w.params es.toList) (low : (a == sysModules) = false) (nd : xs.Nodup) (few : xs.length ≤ 1000) :
    KTab P w K a (xs.map .inr) ds := by
  obtain ⟨vs, us, a1, a2, a3, a4, a5⟩ := h.out (P := P) (w := w)
  refine ⟨vs, _, by rw [List.length_map]; exact a1, a2, a3, by rw [List.length_map]; exact few, low, fun hp X => ⟨_, es, n, X _ _ l, ⟨rfl, rfl, rfl⟩, rfl, fun e he => ?_, a4, ?_⟩⟩
  · obtain ⟨x, t, e1, e2⟩ := lit.all e (Array.mem_toList_iff.mpr he)
    exact ⟨.inr x, by rw [e1]; exact keyIs_str x t, e2⟩
  · rw [List.map_fst_zip (by rw [List.length_map]; omega)]
    exact (List.pairwise_map.mpr (nd.imp fun hne e => hne (inr_inj e)))
theorem KEs.find {w : World} {z : Str} {d : D} : ∀ {es : List DictEntry} {xs : List Str} {ds : List D}, KEs K es xs ds → dlook (xs.map .inr) ds (.inr z) = some d → ∃ e, es.find? (fun e => e.key.isStr z) = some e ∧ KR K e.val d
  | _, _, _, .nil, h => by cases h
  | _, _, _, .cons (e := e) (x := x) (t := t) ek r rs, h => by
    have h : (if (Sum.inr x : Key) = .inr z then _ else _) = some d := h
    by_cases hx : x = z
    · subst hx
      rw [if_pos rfl] at h
      cases h
      exact ⟨e, by rw [List.find?_cons_of_pos]; rw [ek, PySem.W.isStr_of]; simp [Value.isStrOf], r⟩
    · rw [if_neg fun q => hx (inr_inj q)] at h
      obtain ⟨e', h1, h2⟩ := KEs.find (w := w) rs h
      refine ⟨e', ?_, h2⟩
      rw [List.find?_cons_of_neg]
      · exact h1
      · rw [ek, PySem.W.isStr_of]
        simpa [Value.isStrOf] using hx
theorem KEs.getK {w : World} {a : Addr} {es : Array DictEntry} {n : Nat} {xs : List Str} {ds : List D} (h : KEs K es.toList xs ds) (l : K.lookup a = some ⟨.type "dict", none, .dict es n, #[]⟩) (lit : PySem.W.KeysLit w.params es.toList) : KGet w K a (xs.map .inr) ds := by
  refine ⟨fun z d hd => ?_⟩
  obtain ⟨e, h1, h2⟩ := h.find (w := w) hd
  obtain ⟨v, h3, h4⟩ := h2.rep
  refine ⟨v, ⟨es, n, e.val, l, lit, ?_, h3⟩, h4⟩
  unfold PySem.W.nsIn
  rw [l]
  dsimp only
  rw [h1]
end
section
variable {K : PySem.W.Frag} {h : Heap} {mg : Str → Option Value} {goal : Prop}
theorem at_of (X : K.In h) (G : h.Ns mainGlobals mg) {x : Str} {st : Stmt} {ps : List Str} {f : Addr} {od an : Option Addr} {sl : Array (Option Value)} {oc kV dc pm cd ct : Value}
    (a : PySem.W.nsIn K mainGlobals x = some (some (.ref f))) (l : K.lookup f = some ⟨oc, od, .func (PySem.W.fnOf x x (defArgs st) (defBody st) (defScope st) .none kV dc pm an cd ct), sl⟩) (c : PySem.W.codeIn K cd x = true) (k : PySem.W.keepIn K (.ref f) = true)
    (b : ∀ (kV doc pm : Value) (an : Option Addr) (cdv ct : Value) (us : List Value), us.length = ps.length → bindArgs (PySem.W.fnOf x x (defArgs st) (defBody st) (defScope st) .none kV doc pm an cdv ct) ⟨us, []⟩ = pure (ps.zip us)) : At K mg x st ps := by
  have F := fun_mk (st := st) l c k
  exact ⟨f, _, PySem.W.mg_of X G a, F, F.binds b⟩
theorem with_at (X : K.In h) (G : h.Ns mainGlobals mg) (x : Str) (st : Stmt) (ps : List Str) {f : Addr} {od an : Option Addr} {sl : Array (Option Value)} {oc kV dc pm cd ct : Value}
    (a : PySem.W.nsIn K mainGlobals x = some (some (.ref f))) (l : K.lookup f = some ⟨oc, od, .func (PySem.W.fnOf x x (defArgs st) (defBody st) (defScope st) .none kV dc pm an cd ct), sl⟩) (c : PySem.W.codeIn K cd x = true) (k : PySem.W.keepIn K (.ref f) = true)
    (b : ∀ (kV doc pm : Value) (an : Option Addr) (cdv ct : Value) (us : List Value), us.length = ps.length → bindArgs (PySem.W.fnOf x x (defArgs st) (defBody st) (defScope st) .none kV doc pm an cdv ct) ⟨us, []⟩ = pure (ps.zip us)) (q : At K mg x st ps → goal) : goal := q (at_of X G a l c k b)
theorem with_int (X : K.In h) (G : h.Ns mainGlobals mg) (x : Str) (n : Int) {t : PySem.Tok} (a : PySem.W.nsIn K mainGlobals x = some (some (.int n t))) (q : (∃ t, mg x = some (.int n t)) → goal) : goal := q ⟨t, PySem.W.mg_of X G a⟩
theorem with_none (X : K.In h) (G : h.Ns mainGlobals mg) (x : Str) (a : PySem.W.nsIn K mainGlobals x = some none) (q : mg x = none → goal) : goal := q (PySem.W.mg_none_of X G a)
/-- a name of the top that stands for d -/
def Tops (K : PySem.W.Frag) (mg : Str → Option Value) (x : Str) (d : D) : Prop := ∃ u v, mg x = some u ∧ RelV v u ∧ ∀ W, Rep K W v d
theorem with_val (X : K.In h) (G : h.Ns mainGlobals mg) (x : Str) (d : D) {u : Value} (a : PySem.W.nsIn K mainGlobals x = some (some u)) (r : KR K u d) (q : Tops K mg x d → goal) : goal := by
  obtain ⟨v, h1, h2⟩ := r.rep
  exact q ⟨u, v, PySem.W.mg_of X G a, h1, h2⟩
def TopD (P : Program) (w : World) (K : PySem.W.Frag) (mg : Str → Option Value) (x : Str) (xs : List Str) (ds : List D) : Prop := ∃ a, mg x = some (.ref a) ∧ KTab P w K a (xs.map .inr) ds ∧ KGet w K a (xs.map .inr) ds
theorem with_dict {P : Program} {w : World} (X : K.In h) (G : h.Ns mainGlobals mg) (x : Str) (xs : List Str) (ds : List D) {a : Addr} {es : Array DictEntry} {n : Nat} (e : PySem.W.nsIn K mainGlobals x = some (some (.ref a)))
    (l : K.lookup a = some ⟨.type "dict", none, .dict es n, #[]⟩) (k : KEs K es.toList xs ds) (lit : PySem.W.KeysLit w.params es.toList) (low : (a == sysModules) = false) (nd : xs.Nodup) (few : xs.length ≤ 1000) (q : TopD P w K mg x xs ds → goal) : goal :=
  q ⟨a, PySem.W.mg_of X G e, k.tab l lit low nd few, k.getK l lit⟩
/-- the law, of no world -/
theorem sp_law {sp : DSp} {a : Addr} {ns : List Int} {H : Hp} (hS : SqL K H a (ns.map V.int)) (h : sp [.scr ns] [] fun d _ => d = .bl true) : liftSp K sp [.ref a] H (fun v _ => v = .bl true) fun _ _ _ => False :=
  ⟨⟨[], H⟩, [.scr ns], [], _, ⟨Same.refl _, rfl, List.nodup_nil, fun a ha => absurd ha List.not_mem_nil, fun i a o h1 _ => absurd (show ([] : List Addr)[i]? = some a from h1) (by simp)⟩, .cons (.scr hS) .nil, h, fun d S' W' H' v e _ _ r => by subst e; exact r.bool⟩
/-- the law stands at fa -/
theorem law_at {P : Program} {w : World} {x : Str} {st : Stmt} {ps : Str} {fa : Addr} {k : Nat} {sp : Sp} (A : At K mg x st [ps]) (hfa : mg x = some (.ref fa)) (ok : ∀ (base : Heap) (f : Addr) (fd : FuncData), Fun K x x st f fd → FnOk P w K mg base CX0 k f fd [ps] sp)
    (b : ∀ (kV doc pm : Value) (an : Option Addr) (cdv ct : Value) (u : Value), bindArgs (PySem.W.fnOf x x (defArgs st) (defBody st) (defScope st) .none kV doc pm an cdv ct) ⟨[u], []⟩ = pure [(ps, u)]) :
    ∃ fd : FuncData, (∀ (s : Shared) (u : Value), BindsTo s fd ⟨[u], []⟩ [(ps, u)]) ∧ ∀ base : Heap, K.In base → base.Ns mainGlobals mg → FnOk P w K mg base CX0 k fa fd [ps] sp := by
  obtain ⟨f, fd, h1, F, _⟩ := A.ex
  have e := hfa.symm.trans h1
  cases e
  refine ⟨fd, fun s u => ?_, fun base _ _ => ok base _ _ F⟩
  obtain ⟨oc, od, kV, doc, pm, an, cdv, ct, osl, rfl, lk, hcd⟩ := F.ex
  exact .of_eq (b kV doc pm an cdv ct u)
end
end DL
namespace DL
open PySem PySem.Spec PyProof.Rows L2
theorem nones {mg : Str → Option Value} {l : List Str} (h : ∀ x ∈ l, mg x = none) : ∀ x, l.contains x = true → mg x = none := fun x hx => h x (by simpa using hx)
theorem ints_of_top {mg : Str → Option Value} : ∀ {l : List (Str × Int)}, (∀ p ∈ l, ∃ t, mg p.1 = some (.int p.2 t)) → ∀ x n, l.lookup x = some n → ∃ t, mg x = some (.int n t)
  | [], _, _, _, h => by cases h
  | (y, m) :: l, a, x, n, h => by
    rw [List.lookup_cons] at h
    cases e : (x == y) with
    | true =>
      rw [e] at h
      cases h
      obtain ⟨t, ht⟩ := a (y, m) List.mem_cons_self
      exact ⟨t, by rw [eq_of_beq e]; exact ht⟩
    | false =>
      rw [e] at h
      exact ints_of_top (fun p hp => a p (List.mem_cons_of_mem _ hp)) x n h
end DL

namespace DL
open PySem PySem.Spec PyProof.Rows L2
section
variable {X : Cx} {W0 : Wd} {a b c : Expr} {Ta Tb Tc : DTE} {pos : Pos}
theorem dt_chain {op op' : CmpOp} {r r' : R2} {R R' : D2} (ho : OpR X (compareOp op) r) (ho' : OpR X (compareOp op') r') (hr : DOp X.K r R) (hr' : DOp X.K r' R') (ha : DE X W0 a Ta) (hb : DE X W0 b Tb) (hc : DE X W0 c Tc)
    (hm : lastMarks [op, op'] [b, c] = false := by with_unfolding_all rfl) : DT X W0 (.Compare a [op, op'] [b, c] pos) (dB (dChain R R' Ta Tb Tc)) := (pt_chain ho ho' ha hb hc hm).imp fun _ _ _ h => lift_chain hr hr' (lift_B h)
/-- try: body / except ..: where the body raises nothing -/
theorem ds_tryNo {body : List Stmt} {h₀ : ExceptHandler} {hs : List ExceptHandler} {T : DTS} (h : DSs X.nox W0 body T) : DS X W0 (.Try body (h₀ :: hs) [] [] pos) T := ps_try_thru0 h
end
/-! ### == of lists of texts -/
theorem allOf_strs {S : Sto} {m : Nat} : ∀ l : List Str, allOf (pyOf S (m + 1)) (l.map .str) = some (l.map .str)
  | [] => rfl
  | x :: l => by
    have ih := allOf_strs (S := S) (m := m) l
    show (match pyOf S (m + 1) (.str x), allOf (pyOf S (m + 1)) (l.map .str) with | some q, some qs => some (q :: qs) | _, _ => none) = _
    rw [ih]
    rfl
theorem canLay_strs : ∀ l : List Str, (∀ x ∈ l, PyData.strOk x = true) → PyData.canLayAll0 (l.map .str) = true
  | [], _ => rfl
  | x :: l, h => by
    have ih := canLay_strs l fun y hy => h y (List.mem_cons_of_mem _ hy)
    simp only [List.map_cons, PyData.canLayAll0, ih, Bool.and_true]
    simpa [PyData.canLay0] using h x List.mem_cons_self
theorem depth_strs : ∀ l : List Str, PyData.depthAll (l.map .str) = 0
  | [] => rfl
  | x :: l => by simp [PyData.depthAll, PyData.depth, depth_strs l]
theorem shaped_strs (l : List Str) (h : ∀ x ∈ l, PyData.strOk x = true) : SeqAt.shaped (.list (l.map .str)) = true := by
  unfold SeqAt.shaped
  rw [show PyData.canLay0 (.list (l.map .str)) = true from canLay_strs l h]
  simp [PyData.depth, depth_strs]
theorem eqv_strs : ∀ l l' : List Str, PyData.eqvAll (l.map .str) (l'.map .str) = decide (l = l')
  | [], [] => rfl
  | [], _ :: _ => rfl
  | _ :: _, [] => rfl
  | x :: l, y :: l' => by
    have ih := eqv_strs l l'
    simp only [List.map_cons, PyData.eqvAll, ih, PyData.eqv]
    by_cases h : x = y
    · subst h; simp
    · simp [h]
theorem i_eqStrs {S : Sto} {P : DP} {g : Bool → Bool} {xs : List D} {l l' : List Str} (e : xs = l.map .str) (h : ∀ x ∈ l, PyData.strOk x = true) (h' : ∀ x ∈ l', PyData.strOk x = true) (q : P (.bl (g (decide (l = l')))) S) : dEqG g (.lst xs) (.lst (l'.map .str)) S P := by
  subst e
  refine ⟨2, .list (l.map .str), .list (l'.map .str), ?_, ?_, shaped_strs l h, shaped_strs l' h', ?_⟩
  · show (allOf (pyOf S 1) (l.map .str)).map PyData.list = _
    rw [allOf_strs]
    rfl
  · show (allOf (pyOf S 1) (l'.map .str)).map PyData.list = _
    rw [allOf_strs]
    rfl
  · rw [show PyData.eqv (.list (l.map .str)) (.list (l'.map .str)) = decide (l = l') by rw [PyData.eqv]; exact eqv_strs l l']
    exact q
end DL

namespace K6
open PySem PySem.Spec PyProof.Rows L2 DL
local macro_rules | `(tactic| walk_at "d1") => `(tactic| first
  | with_reducible refine i_seq ?_
  | with_reducible refine i_asg ?_
  | with_reducible refine i_op ?_
  | with_reducible refine i_opN ?_
  | with_reducible refine i_c ?_
  | with_reducible refine i_call ?_
  | with_reducible refine i_callN ?_
  | with_reducible refine i_cons ?_
  | with_reducible refine i_nil ?_
  | with_reducible refine i_max ?_
  | with_reducible refine i_min ?_
  | with_reducible refine i_nm ?_
  | with_reducible refine i_addI ?_
  | with_reducible refine i_I0 ?_
  | with_reducible refine i_eqI ?_
  | with_reducible refine i_eqS ?_
  | with_reducible refine i_eqB ?_
  | with_reducible refine i_is ?_
  | with_reducible refine i_if ?_
  | with_reducible refine i_ifS ?_
  | with_reducible refine i_B ?_
  | with_reducible refine i_Bx ?_
  | with_reducible refine i_ret ?_
  | with_reducible refine i_next ?_
  | with_reducible refine i_pure ?_
  | with_reducible refine i_new ?_
  | with_reducible refine i_par ?_
  | with_reducible refine i_xpar ?_
  | with_reducible refine i_lst ?_
  | with_reducible refine i_tup ?_
  | with_reducible refine i_sb ?_
  | with_reducible refine i_and ?_
  | with_reducible refine i_or ?_
  | with_reducible refine i_not ?_
  | with_reducible refine i_chain ?_
  | with_reducible refine i_andV ?_
  | with_reducible refine i_orV ?_
  | with_reducible refine i_notV ?_
  | with_reducible refine i_star ?_
  | with_reducible refine i_gc ?_
  | with_reducible refine i_gn ?_
  | with_reducible refine i_drop ?_
  | with_reducible refine i_mt ?_
  | with_reducible refine i_addL ?_
  | with_reducible refine i_addR ?_
  | ((with_reducible refine' i_var ?k1 ?k2); (case k1 => exact rfl))
  | ((with_reducible refine' i_len ?k1 ?k2); (case k1 => exact rfl))
  | ((with_reducible refine' i_list ?k1 ?k2); (case k1 => exact rfl))
  | ((with_reducible refine' i_tuple ?k1 ?k2); (case k1 => exact rfl))
  | ((with_reducible refine' i_tp ?k1 ?k2); (case k1 => exact rfl))
  | ((with_reducible refine' i_mtx ?k1 ?k2); (case k1 => exact rfl))
  | with_reducible refine i_irg1 ?_
  | with_reducible refine i_itp ?_
  | with_reducible refine i_ils ?_
  | with_reducible refine i_ien ?_
  | with_reducible refine i_izp ?_
  | with_reducible refine i_xtp ?_
  | with_reducible refine i_xls ?_
  | with_reducible refine i_xlsS ?_
  | with_reducible refine i_xen ?_
  | with_reducible refine i_xzpL ?_
  | with_reducible refine i_xzpT ?_
  | with_reducible refine i_for ?_
  | with_reducible refine i_lc ?_
  | with_reducible refine i_yes ?_
  | with_reducible refine i_xint ?_
  | with_reducible refine i_neg ?_
  | with_reducible refine i_part ?_
  | with_reducible refine i_nopart ?_
  | with_reducible refine i_sl ?_
  | with_reducible refine i_slT ?_
  | ((with_reducible refine' i_xstar ?k1 ?k2); (case k1 => exact rfl))
  | with_reducible refine i_xslT ?_
  | ((with_reducible refine' i_addT ?k1 ?k2); (case k1 => exact sz_le (by first | decide | (simp; done) | omega)))
  | ((with_reducible refine' i_xslL ?k1 ?k2); (case k1 => exact rfl))
  | ((with_reducible refine' i_cat ?k1 ?k2 ?k3 ?k4); (case k1 => exact rfl); (case k2 => exact rfl); (case k3 => exact sz_le (by first | decide | (simp; done) | omega)))
  | ((with_reducible refine' i_isi ?k1 ?k2 ?k3); (case k1 => exact rfl); (case k2 => first | exact kit_NoneType_int | exact kit_NoneType_bool | exact kit_NoneType_str | exact kit_NoneType_tuple | exact kit_NoneType_list | exact kit_bool_int | exact kit_bool_bool | exact kit_bool_str | exact kit_bool_tuple | exact kit_bool_list | exact kit_int_int | exact kit_int_bool | exact kit_int_str | exact kit_int_tuple | exact kit_int_list | exact kit_str_int | exact kit_str_bool | exact kit_str_str | exact kit_str_tuple | exact kit_str_list | exact kit_tuple_int | exact kit_tuple_bool | exact kit_tuple_str | exact kit_tuple_tuple | exact kit_tuple_list | exact kit_list_int | exact kit_list_bool | exact kit_list_str | exact kit_list_tuple | exact kit_list_list))
  | with_reducible refine i_kix ?_
  | with_reducible refine i_newD ?_
  | with_reducible refine i_dget ?_
  | with_reducible refine i_dget1 ?_
  | with_reducible refine i_dd ?_
  | with_reducible refine i_disp ?_
  | with_reducible refine i_pnil ?_
  | with_reducible refine i_pcons ?_
  | with_reducible refine i_ienT ?_
  | with_reducible refine i_xenT ?_
  | ((with_reducible refine' i_xkix ?k1 ?k2); (case k1 => exact rfl))
  | ((with_reducible refine' i_xdget ?k1 ?k2 ?k3); (case k1 => exact rfl); (case k2 => exact rfl))
  | ((with_reducible refine' i_xdget1 ?k1 ?k2); (case k1 => exact rfl))
  | ((with_reducible refine' i_set ?k1 ?k2 ?k3); (case k1 => exact rfl); (case k2 => exact rfl))
  | ((with_reducible refine' i_ix ?k1 ?k2 ?k3); (case k1 => exact rfl); (case k2 => first | exact rfl | exact at0 _ _))
  | with_reducible refine i_sz rfl ?_
  | ((with_reducible refine' i_I ?k1 ?k2); (case k1 => first | decide | assumption | omega | exact ⟨by decide, by decide, by decide⟩ | exact ⟨by omega, by omega⟩ | exact Or.inr ⟨by decide, by decide⟩ | exact Or.inl ⟨by decide, by decide⟩)))
local macro_rules | `(tactic| walk_at "d") => `(tactic| repeat walk_at "d1")
local macro_rules | `(tactic| walk_at "st") => `(tactic| simp only [startE, List.map_cons, List.map_nil, List.length_cons, List.length_nil, Nat.reduceAdd, Nat.reduceSub, List.replicate, List.cons_append, List.nil_append])
local macro_rules | `(tactic| walk_at "e") => `(tactic| dsimp only [List.set_cons_zero, List.set_cons_succ])
def topS (i : Nat) : Stmt := PySem.Challenge.pw_slideboxes_k06_whole_made_and_back.main.body.getD i (.Pass ⟨0, 0, 0, 0⟩)
/-- the built-ins that the text leaves as they are -/
def isB (x : Str) : Bool := (["len", "max", "min", "sum", "all", "tuple", "list", "isinstance", "range", "enumerate", "zip", "sorted", "set", "int", "str", "bool", "dict"] : List Str).contains x
/-- the whole numbers of the text's top -/
def isG (x : Str) : Option Int := ([("MOST_FUNCTIONS", 8), ("MOST_ARGUMENTS", 3), ("MOST_PROGRAM_ROWS", 30), ("PROGRAM_BOXES", 8), ("NUMBERS", 1000), ("FIRST_OWN", 4), ("FIRST_OUT", 12), ("MOST_CODE_ROWS", 200), ("CODE_BOXES", 16)] : List (Str × Int)).lookup x
/-! ### the drawing state -/
structure Tok where
  cells : List Int
  m : Int
  n : Int
def hd (t : Tok) : Sto := [.lst (t.cells.map .int), .lst [.int t.m, .ref 0, .int t.n]]
theorem unders_ints (n : Nat) : ∀ ns : List Int, unders n (ns.map .int) = true
  | [] => rfl
  | _ :: ns => unders_ints n ns
theorem exit_hd {t t' : Tok} {T T' S' : Sto} {P : DP} {d : D} (e : S' = hd t' ++ T ++ T') (h : ∀ n, d.under n = true) (q : P d (hd t' ++ T)) : atExit (hd t ++ T) P d S' := by
  refine i_exit (S1 := hd t' ++ T) (T' := T') e (by simp [hd]) (fun o ho => ?_) (h _) q
  rcases List.mem_append.mp ho with ho | ho
  · refine .inr ?_
    have hl : 0 < (hd t' ++ T).length := by simp [hd]
    simp only [hd, List.mem_cons, List.not_mem_nil, or_false] at ho
    rcases ho with rfl | rfl
    · exact unders_ints _ _
    · show (true && (decide (0 < (hd t' ++ T).length) && (true && true))) = true
      rw [decide_eq_true hl]
      rfl
  · exact .inl (List.mem_append_right _ ho)
theorem exit_hd0 {t t' : Tok} {T : Sto} {P : DP} {d : D} (h : ∀ n, d.under n = true) (q : P d (hd t' ++ T)) : atExit (hd t ++ T) P d (hd t' ++ T) := exit_hd (T' := []) (List.append_nil _).symm h q
/-- a def that draws nothing -/
theorem exit_pure {S T' S' : Sto} {P : DP} {d : D} (e : S' = S ++ T') (h : ∀ n, d.under n = true) (q : P d S) : atExit S P d S' := i_exit e rfl (fun o ho => .inl ho) (h _) q
theorem exit_pure0 {S : Sto} {P : DP} {d : D} (h : ∀ n, d.under n = true) (q : P d S) : atExit S P d S := exit_pure (T' := []) (List.append_nil _).symm h q
/-! ### programs -/
inductive Ar where
  | plus | less | times
def Ar.s : Ar → Str
  | .plus => "plus"
  | .less => "less"
  | .times => "times"
inductive Row where
  | num (b n : Int) | ar (w : Ar) (b c d : Int) | call (b f : Int) (bs : List Int) | skip (b m : Int) | say (b : Int) | rest | tell (b : Int)
def Row.e : Row → D
  | .num b n => .tup [.str "num", .int b, .int n]
  | .ar w b c d => .tup [.str w.s, .int b, .int c, .int d]
  | .call b f bs => .tup [.str "call", .int b, .int f, .tup (bs.map .int)]
  | .skip b m => .tup [.str "skip", .int b, .int m]
  | .say b => .tup [.str "say", .int b]
  | .rest => .tup [.str "rest"]
  | .tell b => .tup [.str "tell", .int b]
structure Func where
  many : Int
  rows : List Row
def Func.e (f : Func) : D := .tup [.int f.many, .tup (f.rows.map Row.e)]
def progE (p : List Func) : D := .tup (p.map Func.e)
def box (b : Int) : Prop := 0 ≤ b ∧ b < 8
/-- a row that can be: manyOf tells the functions' arguments, left how many rows are behind it -/
def Row.ok (manyOf : Int → Option Nat) (left : Int) : Row → Prop
  | .num b n => box b ∧ 0 ≤ n ∧ n < 1000
  | .ar _ b c d => box b ∧ box c ∧ box d
  | .call b f bs => box b ∧ manyOf f = some bs.length ∧ ∀ x ∈ bs, box x
  | .skip b m => box b ∧ 0 ≤ m ∧ m ≤ left
  | .say b => box b
  | .rest => True
  | .tell b => box b
def rowsOk (manyOf : Int → Option Nat) (rs : List Row) : Prop := ∀ (i : Nat) (r : Row), rs[i]? = some r → r.ok manyOf (rs.length - 1 - i)
structure Func.ok (manyOf : Int → Option Nat) (f : Func) : Prop where
  lo : 0 ≤ f.many
  hi : f.many ≤ 3
  len : f.rows.length ≤ 30
  rows : rowsOk manyOf f.rows
theorem row_under (n : Nat) (r : Row) : r.e.under n = true := by
  cases r with
  | call b f bs =>
    show (true && (true && (true && (unders n (bs.map .int) && true)))) = true
    rw [unders_ints]
    rfl
  | _ => rfl
theorem unders_map {α : Type} {f : α → D} (n : Nat) (h : ∀ a, (f a).under n = true) : ∀ xs : List α, unders n (xs.map f) = true
  | [] => rfl
  | x :: xs => by
    show ((f x).under n && unders n (xs.map f)) = true
    rw [h x, unders_map n h xs]
    rfl
theorem func_under (n : Nat) (f : Func) : f.e.under n = true := by
  show (true && (unders n (f.rows.map Row.e) && true)) = true
  rw [unders_map n (row_under n)]
  rfl
theorem prog_under (n : Nat) (p : List Func) : (progE p).under n = true := unders_map n (func_under n) p
def spNext : DSp := fun ds S P => ∃ t T k, ds = [.ref 1, .int k] ∧ S = hd t ++ T ∧ 0 < k ∧ k < 1073741824 ∧ ∀ r t', 0 ≤ r → r < k → P (.int r) (hd t' ++ T)
theorem i_draw {t : Tok} {T : Sto} {k : Int} {P : DP} (h0 : 0 < k) (h1 : k < 1073741824) (q : ∀ r t', 0 ≤ r → r < k → P (.int r) (hd t' ++ T)) : spNext [.ref 1, .int k] (hd t ++ T) P := ⟨t, T, k, rfl, rfl, h0, h1, q⟩
abbrev s_Lnext : Stmt := topS 45
abbrev N_Lnext : List Str := ["_law_h", "_law_many", "_law_at", "_law_cell"]
theorem sc_Lnext : FnScope N_Lnext ["_law_h", "_law_many"] (defScope s_Lnext) := ⟨rfl, rfl, rfl, by decide +kernel, rfl, by decide +kernel, by decide +kernel⟩
section
variable {P : Program} {w : World} {K : PySem.W.Frag} {mg : Str → Option Value} {base : Heap}
theorem ok_Lnext (at_ : At K mg "_law_next" s_Lnext ["_law_h", "_law_many"]) (mb : ∀ x, isB x = true → mg x = none) : Fn P w K mg base "_law_next" 1 ["_law_h", "_law_many"] spNext := by
  refine fn_at at_ fun f fd F => fn_d F sc_Lnext (fun ds S P h => ?_) ?_
  · obtain ⟨t, T, k, rfl, _⟩ := h
    rfl
  · rintro X W0 cdv A outer s H E rfl hr
    have hu := hr.units
    refine ⟨_, (dss_cons (ds_set (i := 2) (de_mod (de_ix (de_var (pv 0)) de_int (fun _ _ => rfl)) (de_b dc_max (da_cons de_int (da_cons (de_b dc_len (da_cons (de_ix (de_var (pv 0)) de_int (fun _ _ => rfl)) da_nil) (fun h => pe_callB call_len_seq (by rfl) (mb "len" rfl) PySem.boot_len h)) da_nil)) (fun h => pe_callB (call_max2 rfl) (by rfl) (mb "max" rfl) (by decide +kernel) h))) (fun h => ps_set sc_Lnext.nd rfl (by first | exact Or.inl rfl | exact Or.inr rfl) h))
      (dss_cons (ds_set (i := 3) (de_if (dt_cmp (op_neA hu) do_ne (de_ix (de_var (pv 0)) de_int (fun _ _ => rfl)) (de_pure (dn_lst da_nil)) (nomark _)) (de_ix (de_ix (de_var (pv 0)) de_int (fun _ _ => rfl)) (de_var (pv 2)) (fun _ _ => rfl)) de_int) (fun h => ps_set sc_Lnext.nd rfl (by first | exact Or.inl rfl | exact Or.inr rfl) h))
      (dss_cons (ds_if (dt_cmp op_ge do_ge (de_var (pv 3)) (de_pow de_int de_int) (nomark _)) (dss_cons (ds_asg (de_fdiv (de_var (pv 3)) (de_var (pv 1))) (dg_sub (de_ix (de_var (pv 0)) de_int (fun _ _ => rfl)) (de_var (pv 2)) (fun h1 h2 => pg_sub h1 h2 set_list)) (fun h1 h2 => ps_asg h1 h2))
      (dss_one (ds_ret (de_mod (de_var (pv 3)) (de_var (pv 1)))))) dss_nil)
      (dss_cons (ds_asg (de_mod (de_add (de_add (de_mul (de_ix (de_var (pv 0)) de_int (fun _ _ => rfl)) de_int) (de_mul (de_var (pv 3)) de_int)) de_int) de_int) (dg_sub (de_var (pv 0)) de_int (fun h1 h2 => pg_sub h1 h2 set_list)) (fun h1 h2 => ps_asg h1 h2))
      (dss_cons (ds_asg (de_add (de_ix (de_var (pv 0)) de_int (fun _ _ => rfl)) de_int) (dg_sub (de_var (pv 0)) de_int (fun h1 h2 => pg_sub h1 h2 set_list)) (fun h1 h2 => ps_asg h1 h2))
      (dss_one (ds_ret (de_mod (de_fdiv (de_ix (de_var (pv 0)) de_int (fun _ _ => rfl)) de_int) (de_var (pv 1)))))))))), ?_⟩
    rintro ds S P ⟨t, T, k, rfl, rfl, hk, hk2, post⟩
    walk_at "st"
    walk_at "d"
    refine i_eqNil (ns := t.cells) rfl ?_
    walk_at "d"
    walk_at "e"
    have fin : ∀ (c m' : Int) (hm : m' = (t.m * 48271 + c * 69621 + 11) % 2147483647), atExit (hd t ++ T) P (.int (m' / 7 % k)) (hd ⟨t.cells, m', t.n + 1⟩ ++ T) := fun c m' _ =>
      exit_hd0 (fun _ => rfl) (post _ _ (Int.emod_nonneg _ (by omega)) (Int.emod_lt_of_pos _ hk))
    by_cases hc : t.cells = []
    · refine ite_f (by rw [hc]; simp) ?_
      walk_at "d"
      walk_at "e"
      refine ite_f (by simp) ?_
      walk_at "d"
      exact fin 0 _ rfl
    · have hl : 0 < t.cells.length := List.length_pos_iff.mpr hc
      refine ite_t (by simp [hc]) ?_
      walk_at "d"
      have hat : ∃ a : Int, 0 ≤ a ∧ a < t.cells.length ∧ (t.n % if ((t.cells.map D.int).length : Int) > 1 then ((t.cells.map D.int).length : Int) else 1) = a := by
        refine ⟨_, ?_, ?_, rfl⟩
        · exact Int.emod_nonneg _ (by rw [List.length_map]; split <;> omega)
        · refine Int.lt_of_lt_of_le (Int.emod_lt_of_pos _ (by rw [List.length_map]; split <;> omega)) ?_
          rw [List.length_map]
          split <;> omega
      obtain ⟨a, a0, a1, ha⟩ := hat
      rw [ha]
      obtain ⟨c, hcell⟩ := at_get (ns := t.cells) a0 a1
      refine i_ix rfl hcell ?_
      walk_at "d"
      walk_at "e"
      by_cases hge : (10 : Int) ^ (18 : Int).toNat ≤ c
      · refine ite_t (decide_eq_true hge) ?_
        walk_at "d"
        have hp : ixN (t.cells.map D.int).length a = some a.toNat := by
          unfold ixN
          rw [if_pos a0, if_pos (by rw [List.length_map]; exact a1)]
        refine i_set rfl hp ?_
        walk_at "d"
        refine exit_hd (t' := ⟨t.cells.set a.toNat (c / k), t.m, t.n⟩) (T' := []) ?_ (fun _ => rfl) (post _ _ (Int.emod_nonneg _ (by omega)) (Int.emod_lt_of_pos _ hk))
        rw [List.append_nil]
        show _ = O.lst ((t.cells.set a.toNat (c / k)).map D.int) :: _
        rw [List.map_set]
        rfl
      · refine ite_f (by simpa using hge) ?_
        walk_at "d"
        exact fin c _ rfl
end
abbrev s_Lplainrow : Stmt := topS 46
abbrev N_Lplainrow : List Str := ["_law_h", "_law_way", "_law_b", "_law_c", "_law_d"]
theorem sc_Lplainrow : FnScope N_Lplainrow ["_law_h"] (defScope s_Lplainrow) := ⟨rfl, rfl, rfl, by decide +kernel, rfl, by decide +kernel, by decide +kernel⟩
/-- a row without calls and skips -/
def Row.plain (r : Row) : Prop := (∀ mo l, r.ok mo l) ∧ (match r with | .call _ _ _ => False | .skip _ _ => False | _ => True)
def spPlain : DSp := fun ds S P => ∃ t T, ds = [.ref 1] ∧ S = hd t ++ T ∧ ∀ (r : Row) t', r.plain → P r.e (hd t' ++ T)
section
variable {P : Program} {w : World} {K : PySem.W.Frag} {mg : Str → Option Value} {base : Heap}
theorem ok_Lplainrow (at_ : At K mg "_law_plain_row" s_Lplainrow ["_law_h"]) (mb : ∀ x, isB x = true → mg x = none) (G_Lnext : Fn P w K mg base "_law_next" 1 ["_law_h", "_law_many"] spNext) : Fn P w K mg base "_law_plain_row" 2 ["_law_h"] spPlain := by
  refine fn_at at_ fun f fd F => fn_d F sc_Lplainrow (fun ds S P h => ?_) ?_
  · obtain ⟨t, T, rfl, _⟩ := h
    rfl
  · rintro X W0 cdv A outer s H E rfl hr
    have hu := hr.units
    refine ⟨_, (dss_cons (ds_asg (de_tup (da_cons (de_fn G_Lnext (hr.mono (by decide)) (by rfl) (da_cons (de_var (pv 0)) (da_cons de_int da_nil))) (da_cons (de_fn G_Lnext (hr.mono (by decide)) (by rfl) (da_cons (de_var (pv 0)) (da_cons de_int da_nil))) (da_cons (de_fn G_Lnext (hr.mono (by decide)) (by rfl) (da_cons (de_var (pv 0)) (da_cons de_int da_nil))) (da_cons (de_fn G_Lnext (hr.mono (by decide)) (by rfl) (da_cons (de_var (pv 0)) (da_cons de_int da_nil))) da_nil))))) (dg_tup (n := 4) rfl (dgs_cons (dg_name (pg_name (i := 1) sc_Lplainrow.nd rfl (by first | exact Or.inl rfl | exact Or.inr rfl))) (dgs_cons (dg_name (pg_name (i := 2) sc_Lplainrow.nd rfl (by first | exact Or.inl rfl | exact Or.inr rfl))) (dgs_cons (dg_name (pg_name (i := 3) sc_Lplainrow.nd rfl (by first | exact Or.inl rfl | exact Or.inr rfl))) (dgs_cons (dg_name (pg_name (i := 4) sc_Lplainrow.nd rfl (by first | exact Or.inl rfl | exact Or.inr rfl))) dgs_nil))))) (fun h1 h2 => ps_asg h1 h2))
      (dss_cons (ds_if (dt_cmp (op_eqA hu) do_eq (de_var (pv 1)) de_int (nomark _)) (dss_one (ds_ret (de_tup (da_cons de_str da_nil)))) dss_nil)
      (dss_cons (ds_if (dt_cmp op_lt do_lt (de_var (pv 1)) de_int (nomark _)) (dss_one (ds_ret (de_tup (da_cons de_str (da_cons (de_var (pv 2)) da_nil))))) dss_nil)
      (dss_cons (ds_if (dt_cmp op_lt do_lt (de_var (pv 1)) de_int (nomark _)) (dss_one (ds_ret (de_tup (da_cons de_str (da_cons (de_var (pv 2)) (da_cons (de_ix (de_pure (dn_lst (da_cons (de_fn G_Lnext (hr.mono (by decide)) (by rfl) (da_cons (de_var (pv 0)) (da_cons de_int da_nil))) (da_cons (de_fn G_Lnext (hr.mono (by decide)) (by rfl) (da_cons (de_var (pv 0)) (da_cons de_int da_nil))) (da_cons (de_sub de_int (de_fn G_Lnext (hr.mono (by decide)) (by rfl) (da_cons (de_var (pv 0)) (da_cons de_int da_nil)))) da_nil))))) (de_fn G_Lnext (hr.mono (by decide)) (by rfl) (da_cons (de_var (pv 0)) (da_cons de_int da_nil))) (fun _ _ => rfl)) da_nil)))))) dss_nil)
      (dss_one (ds_ret (de_tup (da_cons (de_ix (de_pure (dn_lst (da_cons de_str (da_cons de_str (da_cons de_str (da_cons de_str da_nil)))))) (de_sub (de_var (pv 1)) de_int) (fun _ _ => rfl)) (da_cons (de_var (pv 2)) (da_cons (de_var (pv 3)) (da_cons (de_ix (de_pure (dn_lst (da_cons (de_var (pv 4)) (da_cons (de_var (pv 4)) (da_cons (de_var (pv 4)) (da_cons (de_var (pv 3)) da_nil)))))) (de_fn G_Lnext (hr.mono (by decide)) (by rfl) (da_cons (de_var (pv 0)) (da_cons de_int da_nil))) (fun _ _ => rfl)) da_nil))))))))))), ?_⟩
    rintro ds S P ⟨t, T, rfl, rfl, post⟩
    walk_at "st"
    walk_at "d"
    refine i_draw (by decide) (by decide) fun way t1 w0 w1 => ?_
    walk_at "d"
    refine i_draw (by decide) (by decide) fun b t2 b0 b1 => ?_
    walk_at "d"
    refine i_draw (by decide) (by decide) fun c t3 c0 c1 => ?_
    walk_at "d"
    refine i_draw (by decide) (by decide) fun d t4 d0 d1 => ?_
    walk_at "d"
    walk_at "e"
    have bb : box b := ⟨b0, b1⟩
    refine ite2 (fun e => ?_) (fun e => ?_)
    · walk_at "d"
      exact exit_hd0 (row_under · .rest) (post .rest t4 ⟨fun _ _ => trivial, trivial⟩)
    · walk_at "d"
      refine ite2 (fun e => ?_) (fun e => ?_)
      · walk_at "d"
        exact exit_hd0 (row_under · (.say b)) (post (.say b) t4 ⟨fun _ _ => bb, trivial⟩)
      · walk_at "d"
        refine ite2 (fun e => ?_) (fun e => ?_)
        · walk_at "d"
          refine i_draw (by decide) (by decide) fun n1 t5 n10 n11 => ?_
          walk_at "d"
          refine i_draw (by decide) (by decide) fun n2 t6 n20 n21 => ?_
          walk_at "d"
          refine i_draw (by decide) (by decide) fun n3 t7 n30 n31 => ?_
          walk_at "d"
          refine i_draw (by decide) (by decide) fun j t8 j0 j1 => ?_
          have at_ : ∃ n : Int, L2.atI [D.int n1, D.int n2, D.int (999 - n3)] j = some (.int n) ∧ 0 ≤ n ∧ n < 1000 := by
            have : j = 0 ∨ j = 1 ∨ j = 2 := by omega
            rcases this with rfl | rfl | rfl
            · exact ⟨n1, rfl, by omega, by omega⟩
            · exact ⟨n2, rfl, by omega, by omega⟩
            · exact ⟨999 - n3, rfl, by omega, by omega⟩
          obtain ⟨n, hn, n0, n1'⟩ := at_
          refine i_ix rfl hn ?_
          walk_at "d"
          exact exit_hd0 (row_under · (.num b n)) (post (.num b n) t8 ⟨fun _ _ => ⟨bb, n0, n1'⟩, trivial⟩)
        · walk_at "d"
          have w5 : ¬ way < 5 := by simpa using e
          have at_ : ∃ w : Ar, L2.atI [D.str "plus", D.str "less", D.str "times", D.str "plus"] (way - 5) = some (.str w.s) := by
            have : way - 5 = 0 ∨ way - 5 = 1 ∨ way - 5 = 2 ∨ way - 5 = 3 := by omega
            rcases this with q | q | q | q <;> rw [q]
            · exact ⟨.plus, rfl⟩
            · exact ⟨.less, rfl⟩
            · exact ⟨.times, rfl⟩
            · exact ⟨.plus, rfl⟩
          obtain ⟨w', hw⟩ := at_
          refine i_ix rfl hw ?_
          walk_at "d"
          refine i_draw (by decide) (by decide) fun j t5 j0 j1 => ?_
          have at2 : ∃ n : Int, L2.atI [D.int d, D.int d, D.int d, D.int c] j = some (.int n) ∧ box n := by
            have : j = 0 ∨ j = 1 ∨ j = 2 ∨ j = 3 := by omega
            rcases this with rfl | rfl | rfl | rfl
            · exact ⟨d, rfl, d0, d1⟩
            · exact ⟨d, rfl, d0, d1⟩
            · exact ⟨d, rfl, d0, d1⟩
            · exact ⟨c, rfl, c0, c1⟩
          obtain ⟨n, hn, hb⟩ := at2
          refine i_ix rfl hn ?_
          walk_at "d"
          exact exit_hd0 (row_under · (.ar w' b c n)) (post (.ar w' b c n) t5 ⟨fun _ _ => ⟨bb, ⟨c0, c1⟩, hb⟩, trivial⟩)
end
abbrev s_Lcounter : Stmt := topS 47
abbrev N_Lcounter : List Str := ["_law_h", "_law_me", "_law_often", "_law_inner", "_law_turn", "_law_at", "_law_some"]
theorem sc_Lcounter : FnScope N_Lcounter ["_law_h", "_law_me", "_law_often"] (defScope s_Lcounter) := ⟨rfl, rfl, rfl, by decide +kernel, rfl, by decide +kernel, by decide +kernel⟩
/-- rows that can be whatever is behind them -/
def Row.free (mo : Int → Option Nat) (r : Row) : Prop := ∀ l, r.ok mo l
def spCounter : DSp := fun ds S P => ∃ t T me o, ds = [.ref 1, .int me, .int o] ∧ S = hd t ++ T ∧ 0 ≤ o ∧ o ≤ 2 ∧ ∀ (rs : List Row) t', rs.length ≤ 30 → (∀ mo, mo me = some 1 → rowsOk mo rs) → P (Func.e ⟨1, rs⟩) (hd t' ++ T)
theorem cutD_nat {α : Type} (xs : List α) (k : Nat) (h : k ≤ xs.length) : DL.cutD xs none (some (k : Int)) = xs.take k := by
  unfold DL.cutD
  rw [HT.sIx_none, HT.sIx_nat, Nat.min_eq_left h, List.drop_zero, Nat.sub_zero]
theorem cutD_from {α : Type} (xs : List α) (k : Nat) (h : k ≤ xs.length) : DL.cutD xs (some (k : Int)) none = xs.drop k := by
  unfold DL.cutD
  rw [HT.sIx_none, HT.sIx_nat, Nat.min_eq_left h]
  exact List.take_of_length_le (by rw [List.length_drop]; exact Nat.le_refl _)
theorem rowsOk_free {mo : Int → Option Nat} {m : Nat} {rs : List Row} (h : ∀ r ∈ rs, r.free mo) (hm : m ≤ rs.length) : rowsOk mo (.skip 0 m :: rs) := by
  intro i r hr
  cases i with
  | zero =>
    simp at hr
    subst hr
    exact ⟨⟨by decide, by decide⟩, by omega, by simp; omega⟩
  | succ i => exact h r (List.mem_of_getElem? (by simpa using hr)) _
section
variable {P : Program} {w : World} {K : PySem.W.Frag} {mg : Str → Option Value} {base : Heap}
theorem ok_Lcounter (at_ : At K mg "_law_counter" s_Lcounter ["_law_h", "_law_me", "_law_often"]) (mb : ∀ x, isB x = true → mg x = none) (G_Lnext : Fn P w K mg base "_law_next" 1 ["_law_h", "_law_many"] spNext) : Fn P w K mg base "_law_counter" 2 ["_law_h", "_law_me", "_law_often"] spCounter := by
  refine fn_at at_ fun f fd F => fn_d F sc_Lcounter (fun ds S P h => ?_) ?_
  · obtain ⟨t, T, me, o, rfl, _⟩ := h
    rfl
  · rintro X W0 cdv A outer s H E rfl hr
    have hu := hr.units
    refine ⟨_, (dss_cons (ds_set (i := 3) (de_pure (dn_add (de_pure (dn_lst (da_cons (de_tup (da_cons de_str (da_cons de_int (da_cons de_int da_nil)))) (da_cons (de_tup (da_cons de_str (da_cons de_int (da_cons de_int (da_cons de_int da_nil))))) da_nil)))) (de_pure (dn_rep (de_pure (dn_lst (da_cons (de_tup (da_cons de_str (da_cons de_int (da_cons (de_var (pv 1)) (da_cons (de_tup (da_cons de_int da_nil)) da_nil))))) (da_cons (de_tup (da_cons de_str (da_cons de_int (da_cons de_int (da_cons de_int da_nil))))) da_nil)))) (de_var (pv 2)))))) (fun h => ps_set sc_Lcounter.nd rfl (by first | exact Or.inl rfl | exact Or.inr rfl) h))
      (dss_cons (ds_for PassesOwn.never rfl (di_range1 (by rfl) (mb "range" rfl) (da_cons (de_fn G_Lnext (hr.mono (by decide)) (by rfl) (da_cons (de_var (pv 0)) (da_cons de_int da_nil))) da_nil)) (dg_name (pg_name (i := 4) sc_Lcounter.nd rfl (by first | exact Or.inl rfl | exact Or.inr rfl))) (dss_cons (ds_set (i := 5) (de_add de_int (de_fn G_Lnext (hr.mono (by decide)) (by rfl) (da_cons (de_var (pv 0)) (da_cons (de_sub (de_b dc_len (da_cons (de_var (pv 3)) da_nil) (fun h => pe_callB call_len_seq (by rfl) (mb "len" rfl) PySem.boot_len h)) de_int) da_nil)))) (fun h => ps_set sc_Lcounter.nd rfl (by first | exact Or.inl rfl | exact Or.inr rfl) h))
      (dss_one (ds_set (i := 3) (de_pure (dn_add (de_pure (dn_add (de_pure (dn_slice (de_var (pv 3)) do_none (do_some (de_var (pv 5))))) (de_pure (dn_lst (da_cons (de_ix (de_pure (dn_lst (da_cons (de_tup (da_cons de_str (da_cons de_int da_nil))) (da_cons (de_tup (da_cons de_str da_nil)) (da_cons (de_tup (da_cons de_str (da_cons de_int da_nil))) (da_cons (de_tup (da_cons de_str (da_cons de_int (da_cons de_int (da_cons de_int da_nil))))) da_nil)))))) (de_fn G_Lnext (hr.mono (by decide)) (by rfl) (da_cons (de_var (pv 0)) (da_cons de_int da_nil))) (fun _ _ => rfl)) da_nil))))) (de_pure (dn_slice (de_var (pv 3)) (do_some (de_var (pv 5))) do_none)))) (fun h => ps_set sc_Lcounter.nd rfl (by first | exact Or.inl rfl | exact Or.inr rfl) h)))))
      (dss_cons (ds_set (i := 6) (de_pure (dn_lst (da_cons (de_tup (da_cons de_str (da_cons de_int (da_cons de_int (da_cons de_int da_nil))))) (da_cons (de_tup (da_cons de_str (da_cons de_int da_nil))) da_nil)))) (fun h => ps_set sc_Lcounter.nd rfl (by first | exact Or.inl rfl | exact Or.inr rfl) h))
      (dss_one (ds_ret (de_tup (da_cons de_int (da_cons (de_b dc_tuple (da_cons (de_pure (dn_add (de_pure (dn_add (de_pure (dn_lst (da_cons (de_tup (da_cons de_str (da_cons de_int (da_cons (de_b dc_len (da_cons (de_var (pv 3)) da_nil) (fun h => pe_callB call_len_seq (by rfl) (mb "len" rfl) PySem.boot_len h)) da_nil)))) da_nil))) (de_var (pv 3)))) (de_pure (dn_slice (de_var (pv 6)) do_none (do_some (de_fn G_Lnext (hr.mono (by decide)) (by rfl) (da_cons (de_var (pv 0)) (da_cons de_int da_nil)))))))) da_nil) (fun h => pe_callTy call_tuple_of (by rfl) (mb "tuple" rfl) (by decide +kernel) h)) da_nil)))))))), ?_⟩
    rintro ds S P ⟨t, T, me, o, rfl, rfl, o0, o2, post⟩
    walk_at "st"
    walk_at "d"
    refine i_rep rfl (by omega) (by omega) (sz_le (by simp; omega)) ?_
    have hrs : ∃ rs : List Row, [Row.e (.num 7 1), Row.e (.ar .less 6 0 7)] ++ (List.replicate o.toNat [Row.e (.call 5 me [6]), Row.e (.ar .plus 4 4 5)]).flatten = rs.map Row.e ∧ 2 ≤ rs.length ∧ rs.length ≤ 6 ∧ ∀ mo, mo me = some 1 → ∀ r ∈ rs, r.free mo := by
      have bx : ∀ k : Int, 0 ≤ k → k < 8 → box k := fun k h1 h2 => ⟨h1, h2⟩
      have ok4 : ∀ mo : Int → Option Nat, mo me = some 1 → Row.free mo (.num 7 1) ∧ Row.free mo (.ar .less 6 0 7) ∧ Row.free mo (.call 5 me [6]) ∧ Row.free mo (.ar .plus 4 4 5) := fun mo hm =>
        ⟨fun _ => ⟨bx 7 (by decide) (by decide), by decide, by decide⟩, fun _ => ⟨bx 6 (by decide) (by decide), bx 0 (by decide) (by decide), bx 7 (by decide) (by decide)⟩,
          fun _ => ⟨bx 5 (by decide) (by decide), hm, fun x hx => by rw [List.mem_singleton.mp hx]; exact bx 6 (by decide) (by decide)⟩, fun _ => ⟨bx 4 (by decide) (by decide), bx 4 (by decide) (by decide), bx 5 (by decide) (by decide)⟩⟩
      have : o = 0 ∨ o = 1 ∨ o = 2 := by omega
      rcases this with rfl | rfl | rfl
      · refine ⟨[.num 7 1, .ar .less 6 0 7], rfl, by decide, by decide, fun mo hm r hr => ?_⟩
        obtain ⟨a1, a2, a3, a4⟩ := ok4 mo hm
        simp only [List.mem_cons, List.not_mem_nil, or_false] at hr
        rcases hr with rfl | rfl <;> assumption
      · refine ⟨[.num 7 1, .ar .less 6 0 7, .call 5 me [6], .ar .plus 4 4 5], rfl, by simp, by simp, fun mo hm r hr => ?_⟩
        obtain ⟨a1, a2, a3, a4⟩ := ok4 mo hm
        simp only [List.mem_cons, List.not_mem_nil, or_false] at hr
        rcases hr with rfl | rfl | rfl | rfl <;> assumption
      · refine ⟨[.num 7 1, .ar .less 6 0 7, .call 5 me [6], .ar .plus 4 4 5, .call 5 me [6], .ar .plus 4 4 5], rfl, by simp, by simp, fun mo hm r hr => ?_⟩
        obtain ⟨a1, a2, a3, a4⟩ := ok4 mo hm
        simp only [List.mem_cons, List.not_mem_nil, or_false] at hr
        rcases hr with rfl | rfl | rfl | rfl | rfl | rfl <;> assumption
    obtain ⟨rs0, e0, l0, l1, f0⟩ := hrs
    refine i_cat (xs := [Row.e (.num 7 1), Row.e (.ar .less 6 0 7)]) (ys := (List.replicate o.toNat [Row.e (.call 5 me [6]), Row.e (.ar .plus 4 4 5)]).flatten) rfl rfl (sz_le (by
      have := congrArg List.length e0
      rw [List.length_append, List.length_map] at this
      omega)) ?_
    rw [e0]
    walk_at "d"
    refine i_draw (by decide) (by decide) fun n t1 n0 n1 => ?_
    walk_at "d"
    refine i_rg1 (by omega) (by omega) ?_
    walk_at "e"
    refine ⟨fun i env S => ∃ (rs : List Row) (t' : Tok) (x4 x5 : Option D), env = [some (.ref 1), some (.int me), some (.int o), some (.lst (rs.map Row.e)), x4, x5, none] ∧ S = hd t' ++ T ∧ 2 ≤ rs.length ∧ rs.length ≤ 6 + i ∧ ∀ mo, mo me = some 1 → ∀ r ∈ rs, r.free mo,
      ⟨rs0, t1, none, none, rfl, rfl, l0, by omega, f0⟩, fun _ _ _ _ _ => trivial, ?_, ?_⟩
    · rintro i x env S hx ⟨rs, t', x4, x5, rfl, rfl, g1, g2, g3⟩
      have hi := (rangeD_get hx).1
      walk_at "d"
      walk_at "e"
      have hl : ((rs.map Row.e).length : Int) = rs.length := by rw [List.length_map]
      refine i_draw (by omega) (by omega) fun k t2 k0 k1 => ?_
      walk_at "d"
      walk_at "e"
      obtain ⟨m, hm⟩ : ∃ m : Nat, 2 + k = m := ⟨(2 + k).toNat, by omega⟩
      have hm2 : m ≤ (rs.map Row.e).length := by omega
      rw [hm, cutD_nat _ m hm2]
      refine i_draw (by decide) (by decide) fun j t3 j0 j1 => ?_
      have at2 : ∃ r : Row, L2.atI [Row.e (.say 0), Row.e .rest, Row.e (.say 4), Row.e (.ar .times 3 5 0)] j = some r.e ∧ ∀ mo, r.free mo := by
        have : j = 0 ∨ j = 1 ∨ j = 2 ∨ j = 3 := by omega
        rcases this with rfl | rfl | rfl | rfl
        · exact ⟨_, rfl, fun _ _ => ⟨by decide, by decide⟩⟩
        · exact ⟨_, rfl, fun _ _ => trivial⟩
        · exact ⟨_, rfl, fun _ _ => ⟨by decide, by decide⟩⟩
        · exact ⟨_, rfl, fun _ _ => ⟨⟨by decide, by decide⟩, ⟨by decide, by decide⟩, ⟨by decide, by decide⟩⟩⟩
      obtain ⟨r, hr', fr⟩ := at2
      refine i_ix (xs := [Row.e (.say 0), Row.e .rest, Row.e (.say 4), Row.e (.ar .times 3 5 0)]) rfl hr' ?_
      walk_at "d"
      refine i_cat rfl rfl (sz_le (by rw [List.length_take, List.length_map]; simp; omega)) ?_
      walk_at "d"
      rw [cutD_from _ m hm2]
      refine i_cat rfl rfl (sz_le (by rw [List.length_append, List.length_take, List.length_drop, List.length_map]; simp; omega)) ?_
      walk_at "d"
      walk_at "e"
      refine ⟨rs.take m ++ [r] ++ rs.drop m, t3, some x, some (.int m), ?_, rfl, ?_, ?_, ?_⟩
      · rw [List.map_append, List.map_append, List.map_take, List.map_drop]
        rfl
      · rw [List.length_append, List.length_append, List.length_take, List.length_drop]
        simp
        omega
      · rw [List.length_append, List.length_append, List.length_take, List.length_drop]
        simp
        omega
      · intro mo hmo q hq
        rcases List.mem_append.mp hq with hq | hq
        · rcases List.mem_append.mp hq with hq | hq
          · exact g3 mo hmo q (List.mem_of_mem_take hq)
          · rw [List.mem_singleton.mp hq]
            exact fr mo
        · exact g3 mo hmo q (List.mem_of_mem_drop hq)
    · rintro env S ⟨rs, t', x4, x5, rfl, rfl, g1, g2, g3⟩
      rw [rangeD_len] at g2
      walk_at "d"
      walk_at "e"
      have hl : (rs.map Row.e).length = rs.length := by rw [List.length_map]
      refine i_cat (xs := [Row.e (.skip 0 rs.length)]) (by rw [hl]; rfl) rfl (sz_le (by simp; omega)) ?_
      walk_at "d"
      refine i_draw (by decide) (by decide) fun k t2 k0 k1 => ?_
      walk_at "d"
      have cut2 : ∃ m : Nat, m ≤ 2 ∧ DL.cutD [Row.e (.ar .plus 4 4 0), Row.e (.tell 4)] none (some k) = ([Row.ar .plus 4 4 0, Row.tell 4].take m).map Row.e := by
        obtain ⟨m, rfl⟩ : ∃ m : Nat, k = m := ⟨k.toNat, by omega⟩
        exact ⟨m, by omega, by rw [cutD_nat _ m (by simp; omega), List.map_take]; rfl⟩
      obtain ⟨m, hm, ec⟩ := cut2
      refine i_cat (ys := ([Row.ar .plus 4 4 0, Row.tell 4].take m).map Row.e) rfl (by rw [← ec]; rfl) (sz_le (by simp; omega)) ?_
      walk_at "d"
      have er : [Row.e (.skip 0 rs.length)] ++ rs.map Row.e ++ ([Row.ar .plus 4 4 0, Row.tell 4].take m).map Row.e = (Row.skip 0 rs.length :: (rs ++ [Row.ar .plus 4 4 0, Row.tell 4].take m)).map Row.e := by simp
      rw [er]
      refine exit_hd0 (func_under · ⟨1, _⟩) (post (Row.skip 0 rs.length :: (rs ++ [Row.ar .plus 4 4 0, Row.tell 4].take m)) t2 (by simp; omega) fun mo hmo => rowsOk_free (fun r hr => ?_) (by simp))
      rcases List.mem_append.mp hr with hr | hr
      · exact g3 mo hmo r hr
      · have hr := List.mem_of_mem_take hr
        simp only [List.mem_cons, List.not_mem_nil, or_false] at hr
        rcases hr with rfl | rfl
        · exact fun _ => ⟨⟨by decide, by decide⟩, ⟨by decide, by decide⟩, ⟨by decide, by decide⟩⟩
        · exact fun _ => ⟨by decide, by decide⟩
end
abbrev s_Ldrawn : Stmt := topS 48
abbrev N_Ldrawn : List Str := ["_law_h", "_law_me", "_law_counts", "_law_rows", "_law_k", "_law_way", "_law_f", "_law_x", "_law_boxes", "_law_at", "_law_found", "_law_place", "_law_row"]
theorem sc_Ldrawn : FnScope N_Ldrawn ["_law_h", "_law_me", "_law_counts"] (defScope s_Ldrawn) := ⟨rfl, rfl, rfl, by decide +kernel, rfl, by decide +kernel, by decide +kernel⟩
def moOf (cs : List Int) (f : Int) : Option Nat := if 0 ≤ f then (cs[f.toNat]?).map Int.toNat else none
/-- what the last loop does with a row: at place i of n -/
def clamp (n i : Nat) : Row → Row
  | .skip b m => .skip b (if ((n : Int) - 1 - i) < m then (n : Int) - 1 - i else m)
  | r => r
/-- a row ahead of the cutting of its skip -/
def Row.pre (mo : Int → Option Nat) : Row → Prop
  | .skip b m => box b ∧ 0 ≤ m
  | r => ∀ l, r.ok mo l
def spDrawn : DSp := fun ds S P => ∃ t T me cs c, ds = [.ref 1, .int me, .lst (cs.map .int)] ∧ S = hd t ++ T ∧ 0 ≤ me ∧ cs.length ≤ 8 ∧ (∀ c ∈ cs, 0 ≤ c ∧ c ≤ 3) ∧ cs[me.toNat]? = some c ∧ ∀ (rs : List Row) t', rs.length ≤ 30 → rowsOk (moOf cs) rs → P (Func.e ⟨c, rs⟩) (hd t' ++ T)
theorem clamp_ok {mo : Int → Option Nat} {n i : Nat} {r : Row} (h : r.pre mo) (hi : i < n) : (clamp n i r).ok mo ((n : Int) - 1 - i) := by
  cases r with
  | skip b m =>
    obtain ⟨h1, h2⟩ := h
    refine ⟨h1, ?_, ?_⟩
    · show 0 ≤ if ((n : Int) - 1 - i) < m then (n : Int) - 1 - i else m
      split <;> omega
    · show (if ((n : Int) - 1 - i) < m then (n : Int) - 1 - i else m) ≤ _
      split <;> omega
  | _ => exact h _
def clamps (n : Nat) : Nat → List Row → List Row
  | _, [] => []
  | i, r :: rs => clamp n i r :: clamps n (i + 1) rs
theorem clamps_len (n : Nat) : ∀ (i : Nat) (rs : List Row), (clamps n i rs).length = rs.length
  | _, [] => rfl
  | i, _ :: rs => congrArg (· + 1) (clamps_len n (i + 1) rs)
theorem clamps_get (n : Nat) : ∀ (k : Nat) (rs : List Row) (i : Nat), (clamps n k rs)[i]? = (rs[i]?).map (clamp n (k + i))
  | _, [], i => by simp [clamps]
  | k, r :: rs, 0 => by simp [clamps]
  | k, r :: rs, i + 1 => by
    have := clamps_get n (k + 1) rs i
    simp only [clamps, List.getElem?_cons_succ]
    rw [this]
    congr 2
    omega
theorem clamps_ok {mo : Int → Option Nat} {rs : List Row} (h : ∀ r ∈ rs, r.pre mo) : rowsOk mo (clamps rs.length 0 rs) := by
  intro i r hr
  rw [clamps_get] at hr
  cases e : rs[i]? with
  | none => rw [e] at hr; cases hr
  | some q =>
    rw [e] at hr
    cases hr
    rw [clamps_len, Nat.zero_add]
    exact clamp_ok (h q (List.mem_of_getElem? e)) (List.getElem?_eq_some_iff.mp e).1
theorem clamps_snoc (n : Nat) : ∀ (k : Nat) (rs : List Row) (i : Nat) (r : Row), rs[i]? = some r → (clamps n k rs).take (i + 1) = (clamps n k rs).take i ++ [clamp n (k + i) r] := fun k rs i r h => by
  rw [List.take_add_one, clamps_get, h]
  rfl
section
variable {t : Tok} {T G : Sto} {g : Nat} {o : O}
theorem lst_ref {S : Sto} {m : Nat} {xs : List D} (h : S[m]? = some (.lst xs)) : lstOf S (.ref m) = some xs := by simp [lstOf, h]
theorem get_g : (hd t ++ (T ++ G))[2 + T.length + g]? = G[g]? := by
  rw [List.getElem?_append_right (by simp [hd]; omega), List.getElem?_append_right (by simp [hd]; omega)]
  congr 1
  simp [hd]
  omega
theorem set_g : (hd t ++ (T ++ G)).set (2 + T.length + g) o = hd t ++ (T ++ G.set g o) := by
  rw [List.set_append_right _ _ (by simp [hd]; omega), List.set_append_right _ _ (by simp [hd]; omega)]
  congr 3
  simp [hd]
  omega
theorem len_g : (hd t ++ (T ++ G)).length = 2 + T.length + G.length := by simp [hd]; omega
theorem app_g : (hd t ++ (T ++ G)) ++ [o] = hd t ++ (T ++ (G ++ [o])) := by simp
end
section
variable {P : Program} {w : World} {K : PySem.W.Frag} {mg : Str → Option Value} {base : Heap}
theorem ok_Ldrawn (at_ : At K mg "_law_drawn" s_Ldrawn ["_law_h", "_law_me", "_law_counts"]) (mb : ∀ x, isB x = true → mg x = none) (G_Lnext : Fn P w K mg base "_law_next" 1 ["_law_h", "_law_many"] spNext) (G_Lplainrow : Fn P w K mg base "_law_plain_row" 2 ["_law_h"] spPlain) :
    Fn P w K mg base "_law_drawn" 3 ["_law_h", "_law_me", "_law_counts"] spDrawn := by
  refine fn_at at_ fun f fd F => fn_d F sc_Ldrawn (fun ds S P h => ?_) ?_
  · obtain ⟨t, T, me, cs, c, rfl, _⟩ := h
    rfl
  · rintro X W0 cdv A outer s H E rfl hr
    have hu := hr.units
    refine ⟨_, (dss_cons (ds_set (i := 3) (de_new (dn_lst da_nil)) (fun h => ps_set sc_Ldrawn.nd rfl (by first | exact Or.inl rfl | exact Or.inr rfl) h))
      (dss_cons (ds_for PassesOwn.never rfl (di_range1 (by rfl) (mb "range" rfl) (da_cons (de_fn G_Lnext (hr.mono (by decide)) (by rfl) (da_cons (de_var (pv 0)) (da_cons (de_ix (de_pure (dn_lst (da_cons de_int (da_cons de_int (da_cons de_int (da_cons de_int da_nil)))))) (de_fn G_Lnext (hr.mono (by decide)) (by rfl) (da_cons (de_var (pv 0)) (da_cons de_int da_nil))) (fun _ _ => rfl)) da_nil))) da_nil)) (dg_name (pg_name (i := 4) sc_Ldrawn.nd rfl (by first | exact Or.inl rfl | exact Or.inr rfl))) (dss_cons (ds_set (i := 5) (de_fn G_Lnext (hr.mono (by decide)) (by rfl) (da_cons (de_var (pv 0)) (da_cons de_int da_nil))) (fun h => ps_set sc_Ldrawn.nd rfl (by first | exact Or.inl rfl | exact Or.inr rfl) h))
      (dss_one (ds_if (dt_w (dw_and (dt_cmp (op_eqA hu) do_eq (de_var (pv 5)) de_int (nomark _)) (dw_and1 (dt_cmp op_lt do_lt (de_add (de_var (pv 1)) de_int) (de_b dc_len (da_cons (de_var (pv 2)) da_nil) (fun h => pe_callB call_len_seq (by rfl) (mb "len" rfl) PySem.boot_len h)) (nomark _))))) (dss_cons (ds_par (i := 6) (j := 7) (da_cons (de_add (de_add (de_var (pv 1)) de_int) (de_fn G_Lnext (hr.mono (by decide)) (by rfl) (da_cons (de_var (pv 0)) (da_cons (de_sub (de_sub (de_b dc_len (da_cons (de_var (pv 2)) da_nil) (fun h => pe_callB call_len_seq (by rfl) (mb "len" rfl) PySem.boot_len h)) (de_var (pv 1))) de_int) da_nil)))) (da_cons (de_fn G_Lnext (hr.mono (by decide)) (by rfl) (da_cons (de_var (pv 0)) (da_cons de_int da_nil))) da_nil)) (fun h => ps_par (by rfl) sc_Ldrawn.nd rfl rfl (by decide) rfl rfl h (by rfl)))
      (dss_cons (ds_set (i := 8) (de_tup (da_cons (de_var (pv 7)) (da_cons (de_fn G_Lnext (hr.mono (by decide)) (by rfl) (da_cons (de_var (pv 0)) (da_cons de_int da_nil))) (da_cons (de_fn G_Lnext (hr.mono (by decide)) (by rfl) (da_cons (de_var (pv 0)) (da_cons de_int da_nil))) da_nil)))) (fun h => ps_set sc_Ldrawn.nd rfl (by first | exact Or.inl rfl | exact Or.inr rfl) h))
      (dss_one (ds_set (i := 3) (de_new (dn_add (de_var (pv 3)) (de_pure (dn_lst (da_cons (de_tup (da_cons de_str (da_cons (de_var (pv 7)) (da_cons (de_fn G_Lnext (hr.mono (by decide)) (by rfl) (da_cons (de_var (pv 0)) (da_cons de_int da_nil))) da_nil)))) (da_cons (de_tup (da_cons de_str (da_cons (de_fn G_Lnext (hr.mono (by decide)) (by rfl) (da_cons (de_var (pv 0)) (da_cons de_int da_nil))) (da_cons (de_var (pv 6)) (da_cons (de_sliceT (de_var (pv 8)) do_none (do_some (de_ix (de_var (pv 2)) (de_var (pv 6)) (fun _ _ => rfl)))) da_nil))))) da_nil)))))) (fun h => ps_set sc_Ldrawn.nd rfl (by first | exact Or.inl rfl | exact Or.inr rfl) h))))) (dss_one (ds_if (dt_cmp (op_eqA hu) do_eq (de_var (pv 5)) de_int (nomark _)) (dss_one (ds_expr (de_mt dm_append (de_var (pv 3)) (da_cons (de_tup (da_cons de_str (da_cons (de_fn G_Lnext (hr.mono (by decide)) (by rfl) (da_cons (de_var (pv 0)) (da_cons de_int da_nil))) (da_cons (de_fn G_Lnext (hr.mono (by decide)) (by rfl) (da_cons (de_var (pv 0)) (da_cons (de_ix (de_pure (dn_lst (da_cons de_int (da_cons de_int (da_cons de_int da_nil))))) (de_fn G_Lnext (hr.mono (by decide)) (by rfl) (da_cons (de_var (pv 0)) (da_cons de_int da_nil))) (fun _ _ => rfl)) da_nil))) da_nil)))) da_nil) (fun h1 h2 => pe_bm PySem.F.plainAttrs_list PySem.F.slot_list_append PySem.F.type_list_append mt_append h1 h2)))) (dss_one (ds_expr (de_mt dm_append (de_var (pv 3)) (da_cons (de_fn G_Lplainrow (hr.mono (by decide)) (by rfl) (da_cons (de_var (pv 0)) da_nil)) da_nil) (fun h1 h2 => pe_bm PySem.F.plainAttrs_list PySem.F.slot_list_append PySem.F.type_list_append mt_append h1 h2))))))))))
      (dss_cons (ds_set (i := 3) (de_pure (dn_slice (de_var (pv 3)) do_none (do_some de_int))) (fun h => ps_set sc_Ldrawn.nd rfl (by first | exact Or.inl rfl | exact Or.inr rfl) h))
      (dss_cut (ds_if (dt_cmp (op_eqA hu) do_eq (de_fn G_Lnext (hr.mono (by decide)) (by rfl) (da_cons (de_var (pv 0)) (da_cons de_int da_nil))) de_int (nomark _)) (dss_cons (ds_set (i := 9) (de_fn G_Lnext (hr.mono (by decide)) (by rfl) (da_cons (de_var (pv 0)) (da_cons (de_add (de_b dc_len (da_cons (de_var (pv 3)) da_nil) (fun h => pe_callB call_len_seq (by rfl) (mb "len" rfl) PySem.boot_len h)) de_int) da_nil))) (fun h => ps_set sc_Ldrawn.nd rfl (by first | exact Or.inl rfl | exact Or.inr rfl) h))
      (dss_one (ds_set (i := 3) (de_pure (dn_add (de_pure (dn_add (de_pure (dn_slice (de_var (pv 3)) do_none (do_some (de_var (pv 9))))) (de_pure (dn_lst (da_cons (de_tup (da_cons de_str (da_cons (de_fn G_Lnext (hr.mono (by decide)) (by rfl) (da_cons (de_var (pv 0)) (da_cons de_int da_nil))) da_nil))) da_nil))))) (de_pure (dn_slice (de_var (pv 3)) (do_some (de_var (pv 9))) do_none)))) (fun h => ps_set sc_Ldrawn.nd rfl (by first | exact Or.inl rfl | exact Or.inr rfl) h)))) dss_nil)
      (dss_cons (ds_set (i := 10) (de_new (dn_lst da_nil)) (fun h => ps_set sc_Ldrawn.nd rfl (by first | exact Or.inl rfl | exact Or.inr rfl) h))
      (dss_cons (ds_for PassesOwn.never rfl (di_enum (by rfl) (mb "enumerate" rfl) (da_cons (de_var (pv 3)) da_nil)) (dg_tup (n := 2) rfl (dgs_cons (dg_name (pg_name (i := 11) sc_Ldrawn.nd rfl (by first | exact Or.inl rfl | exact Or.inr rfl))) (dgs_cons (dg_name (pg_name (i := 12) sc_Ldrawn.nd rfl (by first | exact Or.inl rfl | exact Or.inr rfl))) dgs_nil))) (dss_one (ds_expr (de_mt dm_append (de_var (pv 10)) (da_cons (de_if (dt_cmp (op_eqA hu) do_eq (de_ix (de_var (pv 12)) de_int (fun _ _ => rfl)) de_str (nomark _)) (de_add (de_sliceT (de_var (pv 12)) do_none (do_some de_int)) (de_tup (da_cons (de_b dc_min (da_cons (de_ix (de_var (pv 12)) de_int (fun _ _ => rfl)) (da_cons (de_sub (de_sub (de_b dc_len (da_cons (de_var (pv 3)) da_nil) (fun h => pe_callB call_len_seq (by rfl) (mb "len" rfl) PySem.boot_len h)) de_int) (de_var (pv 11))) da_nil)) (fun h => pe_callB (call_min2 rfl) (by rfl) (mb "min" rfl) (by decide +kernel) h)) da_nil))) (de_var (pv 12))) da_nil) (fun h1 h2 => pe_bm PySem.F.plainAttrs_list PySem.F.slot_list_append PySem.F.type_list_append mt_append h1 h2)))))
      (dss_one (ds_ret (de_tup (da_cons (de_ix (de_var (pv 2)) (de_var (pv 1)) (fun _ _ => rfl)) (da_cons (de_b dc_tuple (da_cons (de_var (pv 10)) da_nil) (fun h => pe_callTy call_tuple_of (by rfl) (mb "tuple" rfl) (by decide +kernel) h)) da_nil))))))))))), ?_⟩
    rintro ds S P ⟨t, T, me, cs, c, rfl, rfl, m0, c8, c3, hme, post⟩
    have hml : me.toNat < cs.length := (List.getElem?_eq_some_iff.mp hme).1
    have ecl : ((cs.map D.int).length : Int) = cs.length := by rw [List.length_map]
    walk_at "st"
    walk_at "d"
    walk_at "e"
    rw [show (hd t ++ T ++ [O.lst []] : Sto) = hd t ++ (T ++ [O.lst []]) by simp, show (hd t ++ T).length = 2 + T.length + 0 by simp [hd]; omega]
    refine i_draw (by decide) (by decide) fun j t1 j0 j1 => ?_
    have at1 : ∃ n : Int, L2.atI [D.int 4, D.int 10, D.int 19, D.int 31] j = some (.int n) ∧ 0 < n ∧ n ≤ 31 := by
      have : j = 0 ∨ j = 1 ∨ j = 2 ∨ j = 3 := by omega
      rcases this with rfl | rfl | rfl | rfl
      · exact ⟨4, rfl, by decide, by decide⟩
      · exact ⟨10, rfl, by decide, by decide⟩
      · exact ⟨19, rfl, by decide, by decide⟩
      · exact ⟨31, rfl, by decide, by decide⟩
    obtain ⟨n, hn, n0, n1⟩ := at1
    refine i_ix rfl hn ?_
    walk_at "d"
    refine i_draw n0 (by omega) fun r t2 r0 r1 => ?_
    walk_at "d"
    refine i_rg1 (by omega) (by omega) ?_
    refine ⟨fun i env S => ∃ (rs : List Row) (t' : Tok) (G : Sto) (g : Nat) (y4 y5 y6 y7 y8 : Option D), env = [some (.ref 1), some (.int me), some (.lst (cs.map .int)), some (.ref (2 + T.length + g)), y4, y5, y6, y7, y8, none, none, none, none] ∧ S = hd t' ++ (T ++ G) ∧ G[g]? = some (.lst (rs.map Row.e)) ∧ rs.length ≤ 2 * i ∧ ∀ r ∈ rs, r.pre (moOf cs),
      ⟨[], t2, [O.lst []], 0, none, none, none, none, none, rfl, rfl, rfl, by simp, fun _ h => nomatch h⟩, fun _ _ _ _ _ => trivial, ?_, ?_⟩
    · rintro i x env S hx ⟨rs, t3, G, g, y4, y5, y6, y7, y8, rfl, rfl, hG, hl, hp⟩
      have hi := (rangeD_get hx).1
      have hL : ∀ t' : Tok, (hd t' ++ (T ++ G))[2 + T.length + g]? = some (O.lst (rs.map Row.e)) := fun t' => get_g.trans hG
      have grow : ∀ (t' : Tok) (q : Row) (z4 z5 z6 z7 z8 : Option D), q.pre (moOf cs) → mAppend (.ref (2 + T.length + g)) [q.e] (hd t' ++ (T ++ G)) fun _ S1 => ∃ (rs : List Row) (t'' : Tok) (G : Sto) (g' : Nat) (y4 y5 y6 y7 y8 : Option D),
          [some (D.ref 1), some (.int me), some (.lst (cs.map .int)), some (.ref (2 + T.length + g)), z4, z5, z6, z7, z8, none, none, none, none] = [some (D.ref 1), some (.int me), some (.lst (cs.map .int)), some (.ref (2 + T.length + g')), y4, y5, y6, y7, y8, none, none, none, none] ∧ S1 = hd t'' ++ (T ++ G) ∧ G[g']? = some (.lst (rs.map Row.e)) ∧ rs.length ≤ 2 * (i + 1) ∧ ∀ r ∈ rs, r.pre (moOf cs) := fun t' q z4 z5 z6 z7 z8 hq => by
        refine i_append (hL _) (sz_lt (by rw [List.length_map]; omega)) ?_
        rw [set_g]
        refine ⟨rs ++ [q], t', _, g, z4, z5, z6, z7, z8, rfl, rfl, ?_, by simp; omega, fun r' hr' => ?_⟩
        · rw [List.getElem?_set_self (List.getElem?_eq_some_iff.mp hG).1, List.map_append]
          rfl
        · rcases List.mem_append.mp hr' with hr' | hr'
          · exact hp r' hr'
          · rw [List.mem_singleton.mp hr']
            exact hq
      walk_at "d"
      walk_at "e"
      refine i_draw (by decide) (by decide) fun way t4 w0 w1 => ?_
      walk_at "d"
      walk_at "e"
      refine ite2 (fun e0 => ?_) (fun e0 => ?_)
      · walk_at "d"
        refine ite2 (fun e1 => ?_) (fun e1 => ?_)
        · have e1 : me + 1 < cs.length := by rw [← ecl]; exact of_decide_eq_true e1
          walk_at "d"
          refine i_draw (by omega) (by omega) fun k t5 k0 k1 => ?_
          walk_at "d"
          refine i_draw (by decide) (by decide) fun x1 t6 x10 x11 => ?_
          walk_at "d"
          walk_at "e"
          refine i_draw (by decide) (by decide) fun x2 t7 x20 x21 => ?_
          walk_at "d"
          refine i_draw (by decide) (by decide) fun x3 t8 x30 x31 => ?_
          walk_at "d"
          walk_at "e"
          refine i_draw (by decide) (by decide) fun n7 t9 n70 n71 => ?_
          walk_at "d"
          refine i_draw (by decide) (by decide) fun b t10 b0 b1 => ?_
          walk_at "d"
          have hf : (me + 1 + k).toNat < cs.length := by omega
          have atf : L2.atI (cs.map D.int) (me + 1 + k) = some (.int cs[(me + 1 + k).toNat]) := by
            have e : (me + 1 + k) = ((me + 1 + k).toNat : Int) := by omega
            conv => lhs; rw [e]
            refine atI_nat ?_
            rw [List.getElem?_map, List.getElem?_eq_getElem hf]
            rfl
          obtain ⟨cf0, cf3⟩ := c3 _ (List.getElem_mem hf)
          have hmo : moOf cs (me + 1 + k) = some cs[(me + 1 + k).toNat].toNat := by
            unfold moOf
            rw [if_pos (by omega), List.getElem?_eq_getElem hf]
            rfl
          revert atf hmo cf0 cf3
          generalize cs[(me + 1 + k).toNat] = cf
          intro atf cf0 cf3 hmo
          refine i_ix rfl atf ?_
          walk_at "d"
          obtain ⟨m, rfl⟩ : ∃ m : Nat, cf = m := ⟨cf.toNat, by omega⟩
          rw [cutD_nat _ m (by simp; omega)]
          refine i_cat (lst_ref (hL _)) rfl (sz_le (by simp; omega)) ?_
          walk_at "d"
          walk_at "e"
          rw [len_g, app_g]
          refine ⟨rs ++ [.num x1 n7, .call b (me + 1 + k) ([x1, x2, x3].take m)], t10, _, G.length, _, _, _, _, _, rfl, rfl, ?_, by simp; omega, fun r' hr' => ?_⟩
          · rw [List.getElem?_append_right (Nat.le_refl _), Nat.sub_self, List.map_append]
            simp [Row.e, List.map_take]
          · rcases List.mem_append.mp hr' with hr' | hr'
            · exact hp r' hr'
            · simp only [List.mem_cons, List.not_mem_nil, or_false] at hr'
              rcases hr' with rfl | rfl
              · exact fun _ => ⟨⟨x10, x11⟩, by omega, by omega⟩
              · refine fun _ => ⟨⟨b0, b1⟩, ?_, fun y hy => ?_⟩
                · rw [hmo, List.length_take]
                  simp
                  omega
                · have hy := List.mem_of_mem_take hy
                  simp only [List.mem_cons, List.not_mem_nil, or_false] at hy
                  rcases hy with rfl | rfl | rfl
                  · exact ⟨x10, x11⟩
                  · exact ⟨x20, x21⟩
                  · exact ⟨x30, x31⟩
        · walk_at "d"
          refine ite2 (fun e1 => ?_) (fun e1 => ?_)
          · walk_at "d"
            refine i_mtx (hL _) ?_
            walk_at "d"
            refine i_draw (by decide) (by decide) fun b t5 b0 b1 => ?_
            walk_at "d"
            refine i_draw (by decide) (by decide) fun j t6 j0 j1 => ?_
            have at2 : ∃ n : Int, L2.atI [D.int 3, D.int 3, D.int 25] j = some (.int n) ∧ 0 < n ∧ n ≤ 25 := by
              have : j = 0 ∨ j = 1 ∨ j = 2 := by omega
              rcases this with rfl | rfl | rfl
              · exact ⟨3, rfl, by decide, by decide⟩
              · exact ⟨3, rfl, by decide, by decide⟩
              · exact ⟨25, rfl, by decide, by decide⟩
            obtain ⟨n', hn', n0', n1'⟩ := at2
            refine i_ix rfl hn' ?_
            walk_at "d"
            refine i_draw n0' (by omega) fun m t7 m0' m1 => ?_
            walk_at "d"
            exact grow t7 (.skip b m) _ _ _ _ _ ⟨⟨b0, b1⟩, m0'⟩
          · walk_at "d"
            refine i_mtx (hL _) ?_
            walk_at "d"
            refine ⟨t4, T ++ G, rfl, rfl, fun q t5 hq => ?_⟩
            walk_at "d"
            refine grow t5 q _ _ _ _ _ ?_
            obtain ⟨h1, h2⟩ := hq
            cases q <;> first | exact h2.elim | exact h1 _
      · refine ite_f Bool.false_ne_true ?_
        walk_at "d"
        refine ite2 (fun e1 => ?_) (fun e1 => ?_)
        · walk_at "d"
          refine i_mtx (hL _) ?_
          walk_at "d"
          refine i_draw (by decide) (by decide) fun b t5 b0 b1 => ?_
          walk_at "d"
          refine i_draw (by decide) (by decide) fun j t6 j0 j1 => ?_
          have at2 : ∃ n : Int, L2.atI [D.int 3, D.int 3, D.int 25] j = some (.int n) ∧ 0 < n ∧ n ≤ 25 := by
            have : j = 0 ∨ j = 1 ∨ j = 2 := by omega
            rcases this with rfl | rfl | rfl
            · exact ⟨3, rfl, by decide, by decide⟩
            · exact ⟨3, rfl, by decide, by decide⟩
            · exact ⟨25, rfl, by decide, by decide⟩
          obtain ⟨n', hn', n0', n1'⟩ := at2
          refine i_ix rfl hn' ?_
          walk_at "d"
          refine i_draw n0' (by omega) fun m t7 m0' m1 => ?_
          walk_at "d"
          exact grow t7 (.skip b m) _ _ _ _ _ ⟨⟨b0, b1⟩, m0'⟩
        · walk_at "d"
          refine i_mtx (hL _) ?_
          walk_at "d"
          refine ⟨t4, T ++ G, rfl, rfl, fun q t5 hq => ?_⟩
          walk_at "d"
          refine grow t5 q _ _ _ _ _ ?_
          obtain ⟨h1, h2⟩ := hq
          cases q <;> first | exact h2.elim | exact h1 _
    · rintro env S ⟨rs, t3, G, g, y4, y5, y6, y7, y8, rfl, rfl, hG, hl, hp⟩
      rw [rangeD_len] at hl
      have hL : ∀ t' : Tok, (hd t' ++ (T ++ G))[2 + T.length + g]? = some (O.lst (rs.map Row.e)) := fun t' => get_g.trans hG
      walk_at "d"
      walk_at "e"
      refine i_xslL (lst_ref (hL _)) ?_
      walk_at "d"
      walk_at "e"
      obtain ⟨rs1, e1, l1, p1⟩ : ∃ rs1 : List Row, DL.cutD (rs.map Row.e) none (some 29) = rs1.map Row.e ∧ rs1.length ≤ 29 ∧ ∀ r ∈ rs1, r.pre (moOf cs) := by
        refine ⟨rs.take 29, ?_, by rw [List.length_take]; omega, fun r hr => hp r (List.mem_of_mem_take hr)⟩
        unfold DL.cutD
        rw [HT.sIx_none, show (some (29 : Int)) = some ((29 : Nat) : Int) from rfl, HT.sIx_nat, List.drop_zero, Nat.sub_zero, List.map_take, List.length_map]
        rw [← List.length_map (f := Row.e), ← List.take_eq_take_min]
      rw [e1]
      refine ⟨fun env S => ∃ (rs2 : List Row) (t4 : Tok) (y9 : Option D), env = [some (.ref 1), some (.int me), some (.lst (cs.map .int)), some (.lst (rs2.map Row.e)), y4, y5, y6, y7, y8, y9, none, none, none] ∧ S = hd t4 ++ (T ++ G) ∧ rs2.length ≤ 30 ∧ ∀ r ∈ rs2, r.pre (moOf cs), ?_, ?_⟩
      · walk_at "d"
        refine i_draw (by decide) (by decide) fun z t4 z0 z1 => ?_
        walk_at "d"
        refine ite2 (fun e2 => ?_) (fun e2 => ?_)
        · walk_at "d"
          have ll : ((rs1.map Row.e).length : Int) = rs1.length := by rw [List.length_map]
          refine i_draw (by omega) (by omega) fun k t5 k0 k1 => ?_
          walk_at "d"
          walk_at "e"
          obtain ⟨m, rfl⟩ : ∃ m : Nat, k = m := ⟨k.toNat, by omega⟩
          have hm2 : m ≤ (rs1.map Row.e).length := by omega
          rw [cutD_nat _ m hm2]
          refine i_draw (by decide) (by decide) fun b t6 b0 b1 => ?_
          walk_at "d"
          refine i_cat rfl rfl (sz_le (by rw [List.length_take, List.length_map]; simp; omega)) ?_
          walk_at "d"
          rw [cutD_from _ m hm2]
          refine i_cat rfl rfl (sz_le (by rw [List.length_append, List.length_take, List.length_drop, List.length_map]; simp; omega)) ?_
          walk_at "d"
          walk_at "e"
          refine ⟨rs1.take m ++ [.tell b] ++ rs1.drop m, t6, some (.int m), ?_, rfl, ?_, fun r hr => ?_⟩
          · rw [List.map_append, List.map_append, List.map_take, List.map_drop]
            rfl
          · rw [List.length_append, List.length_append, List.length_take, List.length_drop]
            simp
            omega
          · rcases List.mem_append.mp hr with hr | hr
            · rcases List.mem_append.mp hr with hr | hr
              · exact p1 r (List.mem_of_mem_take hr)
              · rw [List.mem_singleton.mp hr]
                exact fun _ => ⟨b0, b1⟩
            · exact p1 r (List.mem_of_mem_drop hr)
        · walk_at "d"
          exact ⟨rs1, t4, none, rfl, rfl, by omega, p1⟩
      · rintro env S ⟨rs2, t4, y9, rfl, rfl, l2, p2⟩
        have ll : ((rs2.map Row.e).length : Int) = rs2.length := by rw [List.length_map]
        walk_at "d"
        walk_at "e"
        rw [app_g, len_g]
        have hG2 : ∀ (t' : Tok) (xs : List D), (hd t' ++ (T ++ (G ++ [O.lst xs])))[2 + T.length + G.length]? = some (O.lst xs) := fun t' xs => by
          rw [get_g, List.getElem?_append_right (Nat.le_refl _), Nat.sub_self]
          rfl
        refine ⟨fun i env S => ∃ y11 y12 : Option D, env = [some (.ref 1), some (.int me), some (.lst (cs.map .int)), some (.lst (rs2.map Row.e)), y4, y5, y6, y7, y8, y9, some (.ref (2 + T.length + G.length)), y11, y12] ∧ S = hd t4 ++ (T ++ (G ++ [O.lst (((clamps rs2.length 0 rs2).take i).map Row.e)])),
          ⟨none, none, rfl, rfl⟩, fun _ _ _ _ _ => trivial, ?_, ?_⟩
        · rintro i x env S hx ⟨y11, y12, rfl, rfl⟩
          obtain ⟨d, hd', rfl⟩ := enumD_get 0 _ i x hx
          rw [List.getElem?_map] at hd'
          cases er : rs2[i]? with
          | none => rw [er] at hd'; cases hd'
          | some r =>
            rw [er] at hd'
            cases hd'
            have hi := (List.getElem?_eq_some_iff.mp er).1
            rw [Nat.zero_add]
            have grow : mAppend (.ref (2 + T.length + G.length)) [(clamp rs2.length i r).e] (hd t4 ++ (T ++ (G ++ [O.lst (((clamps rs2.length 0 rs2).take i).map Row.e)]))) fun _ S1 => S1 = hd t4 ++ (T ++ (G ++ [O.lst (((clamps rs2.length 0 rs2).take (i + 1)).map Row.e)])) := by
              refine i_append (hG2 _ _) (sz_lt (by rw [List.length_map, List.length_take, clamps_len]; omega)) ?_
              rw [set_g, List.set_append_right _ _ (Nat.le_refl _), Nat.sub_self, clamps_snoc _ 0 rs2 i r er, List.map_append, Nat.zero_add]
              rfl
            have step : ∀ {d : D} {Q : Sto → Prop}, d = (clamp rs2.length i r).e → Q (hd t4 ++ (T ++ (G ++ [O.lst (((clamps rs2.length 0 rs2).take (i + 1)).map Row.e)]))) → mAppend (.ref (2 + T.length + G.length)) [d] (hd t4 ++ (T ++ (G ++ [O.lst (((clamps rs2.length 0 rs2).take i).map Row.e)]))) fun _ S1 => Q S1 := fun {d Q} e q => by
              subst e
              obtain ⟨m, xs, y, h1, h2, h3, h4, h5⟩ := grow
              exact ⟨m, xs, y, h1, h2, h3, h4, by rw [h5]; exact q⟩
            walk_at "d"
            walk_at "e"
            refine i_mtx (hG2 _ _) ?_
            cases r with
            | skip b m =>
              walk_at "d"
              refine ite_t (by decide) ?_
              walk_at "d"
              refine i_xslT ?_
              rw [show DL.cutD [D.str "skip", D.int b, D.int m] none (some 2) = [D.str "skip", D.int b] from rfl]
              walk_at "d"
              rw [ll]
              exact step rfl ⟨_, _, rfl, rfl⟩
            | ar w' b c' d' =>
              walk_at "d"
              refine ite_f (by cases w' <;> decide) ?_
              walk_at "d"
              exact step rfl ⟨_, _, rfl, rfl⟩
            | _ =>
              walk_at "d"
              refine ite_f (by decide) ?_
              walk_at "d"
              exact step rfl ⟨_, _, rfl, rfl⟩
        · rintro env S ⟨y11, y12, rfl, rfl⟩
          rw [enumD_len, List.length_map, List.take_of_length_le (by rw [clamps_len]; exact Nat.le_refl _)]
          walk_at "d"
          have atm : L2.atI (cs.map D.int) me = some (.int c) := by
            have e : me = (me.toNat : Int) := by omega
            conv => lhs; rw [e]
            refine atI_nat ?_
            rw [List.getElem?_map, hme]
            rfl
          refine i_ix rfl atm ?_
          walk_at "d"
          refine i_tuple (lst_ref (hG2 _ _)) ?_
          walk_at "d"
          refine exit_hd (t' := t4) (T' := G ++ [O.lst ((clamps rs2.length 0 rs2).map Row.e)]) (by simp) (func_under · ⟨c, clamps rs2.length 0 rs2⟩) (post (clamps rs2.length 0 rs2) t4 (by rw [clamps_len]; exact l2) (clamps_ok p2))
end
abbrev s_Lprogram : Stmt := topS 49
abbrev N_Lprogram : List Str := ["_law_h", "_law_many", "_law_kinds", "_law_k", "_law_counts", "_law_kind", "_law_found", "_law_me"]
theorem sc_Lprogram : FnScope N_Lprogram ["_law_h"] (defScope s_Lprogram) := ⟨rfl, rfl, rfl, by decide +kernel, rfl, by decide +kernel, by decide +kernel⟩
structure progOk (p : List Func) : Prop where
  lo : 0 < p.length
  hi : p.length ≤ 8
  fs : ∀ f ∈ p, f.ok (moOf (p.map Func.many))
def spProgram : DSp := fun ds S P => ∃ t T, ds = [.ref 1] ∧ S = hd t ++ T ∧ ∀ (p : List Func) t', progOk p → P (progE p) (hd t' ++ T)
section
variable {P : Program} {w : World} {K : PySem.W.Frag} {mg : Str → Option Value} {base : Heap}
theorem ok_Lprogram (at_ : At K mg "_law_program" s_Lprogram ["_law_h"]) (mb : ∀ x, isB x = true → mg x = none) (G_Lnext : Fn P w K mg base "_law_next" 1 ["_law_h", "_law_many"] spNext) (G_Ldrawn : Fn P w K mg base "_law_drawn" 3 ["_law_h", "_law_me", "_law_counts"] spDrawn)
    (G_Lcounter : Fn P w K mg base "_law_counter" 2 ["_law_h", "_law_me", "_law_often"] spCounter) : Fn P w K mg base "_law_program" 4 ["_law_h"] spProgram := by
  refine fn_at at_ fun f fd F => fn_d F sc_Lprogram (fun ds S P h => ?_) ?_
  · obtain ⟨t, T, rfl, _⟩ := h
    rfl
  · rintro X W0 cdv A outer s H E rfl hr
    have hu := hr.units
    refine ⟨_, (dss_cons (ds_set (i := 1) (de_add de_int (de_fn G_Lnext (hr.mono (by decide)) (by rfl) (da_cons (de_var (pv 0)) (da_cons de_int da_nil)))) (fun h => ps_set sc_Lprogram.nd rfl (by first | exact Or.inl rfl | exact Or.inr rfl) h))
      (dss_cons (ds_setLc (i := 2) (vs := [3]) (by decide) (ps_setLc (own := [("_law_k", 3)]) rfl sc_Lprogram.nd rfl rfl (sw_true rfl rfl rfl (by decide +kernel)) (di_range1 (by rfl) (mb "range" rfl) (da_cons (de_var (pv 1)) da_nil)) (blkOk_by (N := N_Lprogram) (sc := defScope s_Lprogram) (by decide +kernel)) (fun _ _ _ _ _ => (dg_name (pg_name (i := 3) sc_Lprogram.nd rfl (Or.inl rfl)))) (fun _ _ _ _ _ => dts_nil) (fun _ _ _ _ _ => (de_fn G_Lnext (hr.mono (by decide)) (by rfl) (da_cons (de_var (pv 0)) (da_cons de_int da_nil))))))
      (dss_cons (ds_setLc (i := 4) (vs := [5]) (by decide) (ps_setLc (own := [("_law_kind", 5)]) rfl sc_Lprogram.nd rfl rfl (sw_true rfl rfl rfl (by decide +kernel)) (di_list (de_var (pv 2))) (blkOk_by (N := N_Lprogram) (sc := defScope s_Lprogram) (by decide +kernel)) (fun _ _ _ _ _ => (dg_name (pg_name (i := 5) sc_Lprogram.nd rfl (Or.inl rfl)))) (fun _ _ _ _ _ => dts_nil) (fun _ _ _ _ _ => (de_if (dt_cmp (op_eqA hu) do_eq (de_var (pv 5)) de_int (nomark _)) (de_fn G_Lnext (hr.mono (by decide)) (by rfl) (da_cons (de_var (pv 0)) (da_cons de_int da_nil))) de_int))))
      (dss_cons (ds_set (i := 6) (de_new (dn_lst da_nil)) (fun h => ps_set sc_Lprogram.nd rfl (by first | exact Or.inl rfl | exact Or.inr rfl) h))
      (dss_cons (ds_for PassesOwn.never rfl (di_range1 (by rfl) (mb "range" rfl) (da_cons (de_var (pv 1)) da_nil)) (dg_name (pg_name (i := 7) sc_Lprogram.nd rfl (by first | exact Or.inl rfl | exact Or.inr rfl))) (dss_one (ds_expr (de_mt dm_append (de_var (pv 6)) (da_cons (de_if (dt_cmp (op_eqA hu) do_eq (de_ix (de_var (pv 2)) (de_var (pv 7)) (fun _ _ => rfl)) de_int (nomark _)) (de_fn G_Ldrawn (hr.mono (by decide)) (by rfl) (da_cons (de_var (pv 0)) (da_cons (de_var (pv 7)) (da_cons (de_var (pv 4)) da_nil)))) (de_fn G_Lcounter (hr.mono (by decide)) (by rfl) (da_cons (de_var (pv 0)) (da_cons (de_var (pv 7)) (da_cons (de_ix (de_var (pv 2)) (de_var (pv 7)) (fun _ _ => rfl)) da_nil))))) da_nil) (fun h1 h2 => pe_bm PySem.F.plainAttrs_list PySem.F.slot_list_append PySem.F.type_list_append mt_append h1 h2)))))
      (dss_one (ds_ret (de_b dc_tuple (da_cons (de_var (pv 6)) da_nil) (fun h => pe_callTy call_tuple_of (by rfl) (mb "tuple" rfl) (by decide +kernel) h))))))))), ?_⟩
    rintro ds S P ⟨t, T, rfl, rfl, post⟩
    walk_at "st"
    walk_at "d"
    refine i_draw (by decide) (by decide) fun m t1 m0 m1 => ?_
    walk_at "d"
    walk_at "e"
    refine i_rg1 (by omega) (by omega) ?_
    refine ⟨fun i acc S => ∃ (ks : List Int) (t' : Tok), acc = ks.map .int ∧ S = hd t' ++ T ∧ ks.length = i ∧ ∀ k ∈ ks, 0 ≤ k ∧ k < 3, ⟨[], t1, rfl, rfl, rfl, fun _ h => nomatch h⟩, ?_, ?_, ?_⟩
    · rintro i acc S hi ⟨ks, t', rfl, rfl, hk, _⟩
      rw [rangeD_len] at hi
      exact ⟨trivial, sz_lt (by rw [List.length_map]; omega)⟩
    · rintro i x acc S hx ⟨ks, t', rfl, rfl, hk, hk3⟩
      walk_at "d"
      refine ite_t rfl ?_
      walk_at "d"
      refine i_draw (by decide) (by decide) fun k t2 k0 k1 => ?_
      refine ⟨ks ++ [k], t2, by simp, rfl, by simp [hk], fun q hq => ?_⟩
      rcases List.mem_append.mp hq with hq | hq
      · exact hk3 q hq
      · rw [List.mem_singleton.mp hq]
        exact ⟨k0, k1⟩
    rintro acc S ⟨ks, t2, rfl, rfl, hkl, hk3⟩
    rw [rangeD_len] at hkl
    walk_at "d"
    walk_at "e"
    refine ⟨fun i acc S => ∃ (cs : List Int) (t' : Tok), acc = cs.map .int ∧ S = hd t' ++ T ∧ cs.length = i ∧ (∀ c ∈ cs, 0 ≤ c ∧ c ≤ 3) ∧ ∀ (j : Nat) k c, ks[j]? = some k → cs[j]? = some c → k ≠ 0 → c = 1, ⟨[], t2, rfl, rfl, rfl, (fun _ h => nomatch h), fun _ _ _ _ h => by simp at h⟩, ?_, ?_, ?_⟩
    · rintro i acc S hi ⟨cs, t', rfl, rfl, hc, _⟩
      rw [List.length_map] at hi
      exact ⟨trivial, sz_lt (by rw [List.length_map]; omega)⟩
    · rintro i x acc S hx ⟨cs, t', rfl, rfl, hcl, hc3, hc1⟩
      rw [List.getElem?_map] at hx
      cases ek : ks[i]? with
      | none => rw [ek] at hx; cases hx
      | some k =>
        rw [ek] at hx
        cases hx
        have more : ∀ (c : Int) (t3 : Tok), 0 ≤ c → c ≤ 3 → (k ≠ 0 → c = 1) → ∃ (cs' : List Int) (t' : Tok), cs.map D.int ++ [.int c] = cs'.map .int ∧ hd t3 ++ T = hd t' ++ T ∧ cs'.length = i + 1 ∧ (∀ c ∈ cs', 0 ≤ c ∧ c ≤ 3) ∧ ∀ (j : Nat) k c, ks[j]? = some k → cs'[j]? = some c → k ≠ 0 → c = 1 := fun c t3 c0 c1 hk1 => by
          refine ⟨cs ++ [c], t3, by simp, rfl, by simp [hcl], fun q hq => ?_, fun j k' c' h1 h2 h3 => ?_⟩
          · rcases List.mem_append.mp hq with hq | hq
            · exact hc3 q hq
            · rw [List.mem_singleton.mp hq]
              exact ⟨c0, c1⟩
          · by_cases hj : j < cs.length
            · rw [List.getElem?_append_left hj] at h2
              exact hc1 j k' c' h1 h2 h3
            · have hj2 : j = i := by
                have := (List.getElem?_eq_some_iff.mp h2).1
                simp at this
                omega
              subst hj2
              rw [ek] at h1
              cases h1
              rw [List.getElem?_append_right (by omega), hcl, Nat.sub_self] at h2
              cases h2
              exact hk1 h3
        walk_at "d"
        refine ite_t rfl ?_
        walk_at "d"
        refine ite2 (fun e => ?_) (fun e => ?_)
        · have e : k = 0 := of_decide_eq_true e
          walk_at "d"
          refine i_draw (by decide) (by decide) fun c t3 c0 c1 => ?_
          exact more c t3 c0 (by omega) fun z => absurd e z
        · walk_at "d"
          exact more 1 t' (by decide) (by decide) fun _ => rfl
    rintro acc S ⟨cs, t3, rfl, rfl, hcl, hc3, hc1⟩
    rw [List.length_map, hkl] at hcl
    walk_at "d"
    walk_at "e"
    refine i_rg1 (by omega) (by omega) ?_
    have hG2 : ∀ (t' : Tok) (xs : List D), (hd t' ++ (T ++ [O.lst xs]))[2 + T.length + 0]? = some (O.lst xs) := fun t' xs => get_g
    rw [show (hd t3 ++ T ++ [O.lst []] : Sto) = hd t3 ++ (T ++ [O.lst []]) by simp, show (hd t3 ++ T).length = 2 + T.length + 0 by simp [hd]; omega]
    refine ⟨fun i env S => ∃ (fs : List Func) (t' : Tok) (y7 : Option D), env = [some (.ref 1), some (.int (1 + m)), some (.lst (ks.map .int)), none, some (.lst (cs.map .int)), none, some (.ref (2 + T.length + 0)), y7] ∧ S = hd t' ++ (T ++ [O.lst (fs.map Func.e)]) ∧ fs.map Func.many = cs.take i ∧ ∀ f ∈ fs, f.ok (moOf cs),
      ⟨[], t3, none, rfl, rfl, rfl, fun _ h => nomatch h⟩, fun _ _ _ _ _ => trivial, ?_, ?_⟩
    · rintro i x env S hx ⟨fs, t4, y7, rfl, rfl, hf, hok⟩
      obtain ⟨hi, rfl⟩ := rangeD_get hx
      have hfl : fs.length = i := by
        have := congrArg List.length hf
        rw [List.length_map, List.length_take] at this
        omega
      have hic : i < cs.length := by omega
      have hik : i < ks.length := by omega
      have eci : cs[i]? = some cs[i] := List.getElem?_eq_getElem hic
      have eki : ks[i]? = some ks[i] := List.getElem?_eq_getElem hik
      have hmo : moOf cs (0 + (i : Int)) = some cs[i].toNat := by
        unfold moOf
        rw [if_pos (by omega), show (0 + (i : Int)).toNat = i by omega, eci]
        rfl
      have grow : ∀ (t' : Tok) (f : Func) (z7 : Option D), f.ok (moOf cs) → f.many = cs[i] → mAppend (.ref (2 + T.length + 0)) [f.e] (hd t' ++ (T ++ [O.lst (fs.map Func.e)])) fun _ S1 => ∃ (fs : List Func) (t'' : Tok) (y7 : Option D),
          [some (D.ref 1), some (.int (1 + m)), some (.lst (ks.map .int)), none, some (.lst (cs.map .int)), none, some (.ref (2 + T.length + 0)), z7] = [some (D.ref 1), some (.int (1 + m)), some (.lst (ks.map .int)), none, some (.lst (cs.map .int)), none, some (.ref (2 + T.length + 0)), y7] ∧ S1 = hd t'' ++ (T ++ [O.lst (fs.map Func.e)]) ∧ fs.map Func.many = cs.take (i + 1) ∧ ∀ f ∈ fs, f.ok (moOf cs) := fun t' f z7 h1 h2 => by
        refine i_append (hG2 _ _) (sz_lt (by rw [List.length_map]; omega)) ?_
        rw [set_g]
        refine ⟨fs ++ [f], t', z7, rfl, by simp, ?_, fun q hq => ?_⟩
        · rw [List.map_append, hf, List.take_add_one, eci]
          simp [h2]
        · rcases List.mem_append.mp hq with hq | hq
          · exact hok q hq
          · rw [List.mem_singleton.mp hq]
            exact h1
      have atk : L2.atI (ks.map D.int) (0 + (i : Int)) = some (.int ks[i]) := by
        rw [Int.zero_add]
        refine atI_nat ?_
        rw [List.getElem?_map, eki]
        rfl
      walk_at "d"
      walk_at "e"
      refine i_mtx (hG2 _ _) ?_
      walk_at "d"
      refine i_ix rfl atk ?_
      walk_at "d"
      refine ite2 (fun e => ?_) (fun e => ?_)
      · walk_at "d"
        refine ⟨t4, T ++ [O.lst (fs.map Func.e)], 0 + (i : Int), cs, cs[i], rfl, rfl, by omega, by omega, hc3, by rw [show (0 + (i : Int)).toNat = i by omega]; exact eci, fun rs t5 hl hr' => ?_⟩
        walk_at "d"
        obtain ⟨c0, c3⟩ := hc3 _ (List.getElem_mem hic)
        exact grow t5 ⟨cs[i], rs⟩ _ ⟨c0, c3, hl, hr'⟩ rfl
      · have e : ¬ ks[i] = 0 := by simpa using e
        have c1 : cs[i] = 1 := hc1 i _ _ eki eci e
        obtain ⟨k0, k3⟩ := hk3 _ (List.getElem_mem hik)
        walk_at "d"
        refine i_ix rfl atk ?_
        walk_at "d"
        refine ⟨t4, T ++ [O.lst (fs.map Func.e)], 0 + (i : Int), ks[i], rfl, rfl, k0, by omega, fun rs t5 hl hr' => ?_⟩
        walk_at "d"
        exact grow t5 ⟨1, rs⟩ _ ⟨by show (0 : Int) ≤ 1; decide, by show (1 : Int) ≤ 3; decide, hl, hr' _ (by rw [hmo, c1]; rfl)⟩ c1.symm
    · rintro env S ⟨fs, t4, y7, rfl, rfl, hf, hok⟩
      rw [rangeD_len, List.take_of_length_le (by omega)] at hf
      have hfl : fs.length = cs.length := by rw [← hf, List.length_map]
      walk_at "d"
      refine i_tuple (lst_ref (hG2 _ _)) ?_
      refine exit_hd (t' := t4) (T' := [O.lst (fs.map Func.e)]) (by simp) (prog_under · fs) (post fs t4 ⟨by omega, by omega, by rw [hf]; exact hok⟩)
end
abbrev s_whole : Stmt := topS 15
abbrev N_whole : List Str := ["value"]
theorem sc_whole : FnScope N_whole ["value"] (defScope s_whole) := ⟨rfl, rfl, rfl, by decide +kernel, rfl, by decide +kernel, by decide +kernel⟩
abbrev s_below : Stmt := topS 16
abbrev N_below : List Str := ["value", "bound"]
theorem sc_below : FnScope N_below ["value", "bound"] (defScope s_below) := ⟨rfl, rfl, rfl, by decide +kernel, rfl, by decide +kernel, by decide +kernel⟩
abbrev s_allbelow : Stmt := topS 17
abbrev N_allbelow : List Str := ["values", "bound", "value"]
theorem sc_allbelow : FnScope N_allbelow ["values", "bound"] (defScope s_allbelow) := ⟨rfl, rfl, rfl, by decide +kernel, rfl, by decide +kernel, by decide +kernel⟩
def isInt : D → Bool
  | .int _ => true
  | _ => false
def inB (b : Int) : D → Bool
  | .int v => decide (0 ≤ v) && decide (v < b)
  | _ => false
def tyd (S : Sto) (d : D) : Prop := ∃ n, tyOf S d = some n
def spWhole : DSp := fun ds S P => ∃ d, ds = [d] ∧ tyd S d ∧ P (.bl (isInt d)) S
def spBelow : DSp := fun ds S P => ∃ d b, ds = [d, .int b] ∧ tyd S d ∧ P (.bl (inB b d)) S
def spAllBelow : DSp := fun ds S P => ∃ xs b, ds = [.tup xs, .int b] ∧ xs.length ≤ 1000 ∧ (∀ x ∈ xs, tyd S x) ∧ P (.bl (xs.all (inB b))) S
section
variable {P : Program} {w : World} {K : PySem.W.Frag} {mg : Str → Option Value} {base : Heap}
theorem ok_whole (at_ : At K mg "whole" s_whole ["value"]) (mb : ∀ x, isB x = true → mg x = none) : Fn P w K mg base "whole" 1 ["value"] spWhole := by
  refine fn_at at_ fun f fd F => fn_d F sc_whole (fun ds S P h => ?_) ?_
  · obtain ⟨d, rfl, _⟩ := h
    rfl
  · rintro X W0 cdv A outer s H E rfl hr
    refine ⟨_, (dss_one (ds_ret (de_and (de_b dc_isi (da_cons (de_var (pv 0)) (da_cons (de_bltn (n := "int") (by rfl) (mb "int" rfl) (by decide +kernel)) da_nil)) (fun h => pe_callB call_isi (by rfl) (mb "isinstance" rfl) (by decide +kernel) h)) (de_one (de_not (de_b dc_isi (da_cons (de_var (pv 0)) (da_cons (de_bltn (n := "bool") (by rfl) (mb "bool" rfl) (by decide +kernel)) da_nil)) (fun h => pe_callB call_isi (by rfl) (mb "isinstance" rfl) (by decide +kernel) h))))))), ?_⟩
    rintro ds S P ⟨d, rfl, ⟨n, hn⟩, post⟩
    walk_at "st"
    walk_at "d"
    have other : ∀ k : Bool, kitB n "int" = some false → isInt d = false → bIsi [d, .ty "int"] S fun x S1 => dBx (fun k => if k = true then dNotV (dCall bIsi (dCons (dVar 0) (dCons (dC (.ty "bool")) dNil))) [some d] S1 (atExit S P) else atExit S P (.bl false) S1) x := fun _ hk hi => by
      refine i_isi hn hk ?_
      refine i_Bx ?_
      refine ite_f Bool.false_ne_true ?_
      rw [hi] at post
      exact exit_pure0 (fun _ => rfl) post
    cases d with
    | int i =>
      cases hn
      walk_at "d"
      refine ite_t rfl ?_
      walk_at "d"
      exact exit_pure0 (fun _ => rfl) post
    | bl b =>
      cases hn
      refine i_isi rfl (show kitB "bool" "int" = some true by decide +kernel) ?_
      walk_at "d"
      refine ite_t rfl ?_
      walk_at "d"
      exact exit_pure0 (fun _ => rfl) post
    | ref i =>
      have e : n = "list" := by
        dsimp only [tyOf] at hn
        split at hn <;> cases hn
        rfl
      subst e
      exact other true (by decide +kernel) rfl
    | non => cases hn; exact other true (by decide +kernel) rfl
    | str x => cases hn; exact other true (by decide +kernel) rfl
    | tup xs => cases hn; exact other true (by decide +kernel) rfl
    | lst xs => cases hn; exact other true (by decide +kernel) rfl
    | _ => cases hn
theorem ok_below (at_ : At K mg "below" s_below ["value", "bound"]) (mb : ∀ x, isB x = true → mg x = none) (G_whole : Fn P w K mg base "whole" 1 ["value"] spWhole) : Fn P w K mg base "below" 2 ["value", "bound"] spBelow := by
  refine fn_at at_ fun f fd F => fn_d F sc_below (fun ds S P h => ?_) ?_
  · obtain ⟨d, b, rfl, _⟩ := h
    rfl
  · rintro X W0 cdv A outer s H E rfl hr
    refine ⟨_, (dss_one (ds_ret (de_and (de_fn G_whole (hr.mono (by decide)) (by rfl) (da_cons (de_var (pv 0)) da_nil)) (de_one (de_chain op_le op_lt do_le do_lt de_int (de_var (pv 0)) (de_var (pv 1))))))), ?_⟩
    rintro ds S P ⟨d, b, rfl, ht, post⟩
    walk_at "st"
    walk_at "d"
    refine ⟨d, rfl, ht, ?_⟩
    walk_at "d"
    cases d with
    | int i =>
      refine ite_t rfl ?_
      walk_at "d"
      refine ite2 (fun e => ?_) (fun e => ?_)
      · walk_at "d"
        have post : P (.bl (decide (0 ≤ i) && decide (i < b))) S := post
        rw [e, Bool.true_and] at post
        exact exit_pure0 (fun _ => rfl) post
      · have post : P (.bl (decide (0 ≤ i) && decide (i < b))) S := post
        rw [Bool.eq_false_iff.mpr e, Bool.false_and] at post
        exact exit_pure0 (fun _ => rfl) post
    | _ =>
      refine ite_f Bool.false_ne_true ?_
      exact exit_pure0 (fun _ => rfl) post
theorem ok_allbelow (at_ : At K mg "all_below" s_allbelow ["values", "bound"]) (mb : ∀ x, isB x = true → mg x = none) (G_below : Fn P w K mg base "below" 2 ["value", "bound"] spBelow) : Fn P w K mg base "all_below" 3 ["values", "bound"] spAllBelow := by
  refine fn_at at_ fun f fd F => fn_d F sc_allbelow (fun ds S P h => ?_) ?_
  · obtain ⟨d, b, rfl, _⟩ := h
    rfl
  · rintro X W0 cdv A outer s H E rfl hr
    refine ⟨_, (dss_one (ds_ret (de_b dc_all (da_cons (de_pure (dn_lc (own := [("value", 2)]) (by decide) rfl sc_allbelow.nd (di_tup (de_var (pv 0))) (blkOk_by (N := N_allbelow) (sc := defScope s_allbelow) (by decide +kernel)) (fun _ _ _ _ _ => (dg_name (pg_name (i := 2) sc_allbelow.nd rfl (Or.inl rfl)))) (fun _ _ _ _ _ => dts_nil) (fun _ _ _ _ _ => (de_fn G_below (hr.mono (by decide)) (by rfl) (da_cons (de_var (pv 2)) (da_cons (de_var (pv 1)) da_nil)))))) da_nil) (fun h => pe_callB (cr_all rfl) (by rfl) (mb "all" rfl) (by decide +kernel) h)))), ?_⟩
    rintro ds S P ⟨xs, b, rfl, hl, ht, post⟩
    walk_at "st"
    walk_at "d"
    refine ⟨fun i acc S' => S' = S ∧ acc = (xs.take i).map fun x => .bl (inB b x), ⟨rfl, rfl⟩, ?_, ?_, ?_⟩
    · rintro i acc S' hi ⟨rfl, rfl⟩
      exact ⟨trivial, sz_lt (by rw [List.length_map, List.length_take]; omega)⟩
    · rintro i x acc S' hx ⟨rfl, rfl⟩
      walk_at "d"
      refine ite_t rfl ?_
      walk_at "d"
      refine ⟨x, b, rfl, ht x (List.mem_of_getElem? hx), rfl, ?_⟩
      rw [List.take_add_one, hx]
      simp
    · rintro acc S' ⟨rfl, rfl⟩
      rw [List.take_length]
      walk_at "d"
      refine i_all (bs := xs.map (inB b)) (by rw [List.map_map]; rfl) ?_
      rw [List.all_map]
      exact exit_pure0 (fun _ => rfl) post
end
abbrev s_boxesby : Stmt := topS 18
abbrev N_boxesby : List Str := ["row", "kinds", "kind", "part"]
theorem sc_boxesby : FnScope N_boxesby ["row", "kinds"] (defScope s_boxesby) := ⟨rfl, rfl, rfl, by decide +kernel, rfl, by decide +kernel, by decide +kernel⟩
abbrev s_programboxes : Stmt := topS 19
abbrev N_programboxes : List Str := ["row", "boxes"]
theorem sc_programboxes : FnScope N_programboxes ["row"] (defScope s_programboxes) := ⟨rfl, rfl, rfl, by decide +kernel, rfl, by decide +kernel, by decide +kernel⟩
def prKs : List Key := [.inr "num", .inr "plus", .inr "less", .inr "times", .inr "call", .inr "skip", .inr "say", .inr "rest", .inr "tell"]
def sTup (l : List Str) : D := .tup (l.map .str)
def prDs : List D := [sTup ["box", "number"], sTup ["box", "box", "box"], sTup ["box", "box", "box"], sTup ["box", "box", "box"], sTup ["box", "function", "boxes"], sTup ["box", "count"], sTup ["box"], sTup [], sTup ["box"]]
def PrTab (P : Program) (w : World) (K : PySem.W.Frag) (mg : Str → Option Value) : Prop := ∃ a, mg "PROGRAM_ROWS" = some (.ref a) ∧ KTab P w K a prKs prDs ∧ KGet w K a prKs prDs
def boxesBy : List Str → List D → List D
  | k :: ks, p :: ps => if k = "box" then p :: boxesBy ks ps else boxesBy ks ps
  | _, _ => []
theorem boxesBy_snoc : ∀ (ks : List Str) (ps : List D) (i : Nat) (k : Str) (p : D), ks[i]? = some k → ps[i]? = some p → boxesBy (ks.take (i + 1)) (ps.take (i + 1)) = boxesBy (ks.take i) (ps.take i) ++ (if k = "box" then [p] else [])
  | [], _, i, _, _, h, _ => by simp at h
  | _ :: _, [], i, _, _, _, h => by simp at h
  | k :: ks, p :: ps, 0, k', p', h1, h2 => by
    simp at h1 h2
    subst h1 h2
    simp only [List.take_succ_cons, List.take_zero, boxesBy, List.nil_append]
  | k :: ks, p :: ps, i + 1, k', p', h1, h2 => by
    have ih := boxesBy_snoc ks ps i k' p' (by simpa using h1) (by simpa using h2)
    simp only [List.take_succ_cons, boxesBy] at ih ⊢
    rw [ih]
    split <;> simp
theorem boxesBy_min : ∀ (ks : List Str) (ps : List D), boxesBy (ks.take (min ks.length ps.length)) (ps.take (min ks.length ps.length)) = boxesBy ks ps
  | [], _ => by simp [boxesBy]
  | _ :: _, [] => by simp [boxesBy]
  | k :: ks, p :: ps => by
    have ih := boxesBy_min ks ps
    have e : min (k :: ks).length (p :: ps).length = min ks.length ps.length + 1 := by simp only [List.length_cons]; omega
    rw [e]
    simp only [List.take_succ_cons, boxesBy]
    rw [ih]
theorem boxesBy_len : ∀ (ks : List Str) (ps : List D), (boxesBy ks ps).length ≤ ps.length
  | [], _ => by simp [boxesBy]
  | _ :: _, [] => by simp [boxesBy]
  | k :: ks, p :: ps => by
    have ih := boxesBy_len ks ps
    simp only [boxesBy]
    split <;> simp <;> omega
theorem unders_by {n : Nat} : ∀ (ks : List Str) (ps : List D), unders n ps = true → unders n (boxesBy ks ps) = true
  | [], _, _ => by simp [boxesBy, unders]
  | _ :: _, [], _ => by simp [boxesBy, unders]
  | k :: ks, p :: ps, h => by
    have h' := Bool.and_eq_true_iff.mp h
    have ih := unders_by ks ps h'.2
    simp only [boxesBy]
    split
    · exact Bool.and_eq_true_iff.mpr ⟨h'.1, ih⟩
    · exact ih
def spBoxesBy : DSpN := fun ds S P => ∃ wd ps ks, ds = [.tup (wd :: ps), .tup (ks.map .str)] ∧ ps.length ≤ 100 ∧ (∀ n, unders n ps = true) ∧ P (boxesBy ks ps) S
def Row.boxes : Row → List Int
  | .num b _ => [b]
  | .ar _ b c d => [b, c, d]
  | .call b _ bs => b :: bs
  | .skip b _ => [b]
  | .say b => [b]
  | .rest => []
  | .tell b => [b]
def Row.short : Row → Prop
  | .call _ _ bs => bs.length ≤ 3
  | _ => True
def spProgramBoxes : DSpN := fun ds S P => ∃ r : Row, ds = [r.e] ∧ r.short ∧ P (r.boxes.map .int) S
section
variable {P : Program} {w : World} {K : PySem.W.Frag} {mg : Str → Option Value} {base : Heap}
theorem ok_boxesby (at_ : At K mg "boxes_by" s_boxesby ["row", "kinds"]) (mb : ∀ x, isB x = true → mg x = none) : FnN P w K mg base "boxes_by" 1 ["row", "kinds"] spBoxesBy := by
  refine fnN_at at_ fun f fd F => fn_dN F sc_boxesby (fun ds S P h => ?_) ?_
  · obtain ⟨wd, ps, ks, rfl, _⟩ := h
    rfl
  · rintro X W0 cdv A outer s H E rfl hr
    have hu := hr.units
    refine ⟨_, (dss_one (ds_ret (de_new (dn_lc (own := [("kind", 2), ("part", 3)]) (by decide) rfl sc_boxesby.nd (di_zip (da_cons (de_var (pv 1)) (da_cons (de_sliceT (de_var (pv 0)) (do_some de_int) do_none) da_nil)) (fun h => RZ.pi_zipA (by rfl) (mb "zip" rfl) h)) (blkOk_by (N := N_boxesby) (sc := defScope s_boxesby) (by decide +kernel)) (fun _ _ _ _ _ => (dg_tup (n := 2) rfl (dgs_cons (dg_name (pg_name (i := 2) sc_boxesby.nd rfl (Or.inl rfl))) (dgs_cons (dg_name (pg_name (i := 3) sc_boxesby.nd rfl (Or.inl rfl))) dgs_nil)))) (fun _ _ _ _ _ => (dts_one (dt_cmp (op_eqA hu) do_eq (de_var (pv 2)) de_str (nomark _)))) (fun _ _ _ _ _ => (de_var (pv 3))))))), ?_⟩
    rintro ds S P ⟨wd, ps, ks, rfl, hl, hun, post⟩
    walk_at "st"
    walk_at "d"
    rw [show DL.cutD (wd :: ps) (some 1) none = ps from cutD_from (wd :: ps) 1 (by simp)]
    walk_at "d"
    refine ⟨fun i acc S' => S' = S ∧ acc = boxesBy (ks.take i) (ps.take i), ⟨rfl, rfl⟩, ?_, ?_, ?_⟩
    · rintro i acc S' hi ⟨rfl, rfl⟩
      have := boxesBy_len (ks.take i) (ps.take i)
      rw [List.length_take] at this
      exact ⟨trivial, sz_lt (by omega)⟩
    · rintro i x acc S' hx ⟨rfl, rfl⟩
      obtain ⟨y, z, h1, h2, rfl⟩ := zipD_get _ _ i x hx
      rw [List.getElem?_map] at h1
      cases ek : ks[i]? with
      | none => rw [ek] at h1; cases h1
      | some k =>
        rw [ek] at h1
        cases h1
        have sn := boxesBy_snoc ks ps i k z ek h2
        walk_at "d"
        refine ite2 (fun e => ?_) (fun e => ?_)
        · rw [if_pos (of_decide_eq_true e)] at sn
          walk_at "d"
          exact ⟨rfl, sn.symm⟩
        · rw [if_neg (fun z => e (decide_eq_true z)), List.append_nil] at sn
          exact ⟨rfl, sn.symm⟩
    · rintro acc S' ⟨rfl, rfl⟩
      rw [zipD_len, List.length_map, boxesBy_min]
      exact exitN_one (fun n => unders_by ks ps (hun n)) post
theorem row_words (r : Row) : ∃ wd ps, r.e = .tup (.str wd :: ps) ∧ (wd = "call" ↔ ∃ b f bs, r = .call b f bs) := by
  cases r with
  | ar w' b c d => exact ⟨w'.s, _, rfl, ⟨fun z => by cases w' <;> exact absurd z (by decide), fun ⟨_, _, _, z⟩ => nomatch z⟩⟩
  | call b f bs => exact ⟨_, _, rfl, ⟨fun _ => ⟨b, f, bs, rfl⟩, fun _ => rfl⟩⟩
  | _ => exact ⟨_, _, rfl, ⟨fun z => absurd z (by decide), fun ⟨_, _, _, z⟩ => nomatch z⟩⟩
theorem ok_programboxes (at_ : At K mg "program_boxes" s_programboxes ["row"]) (mb : ∀ x, isB x = true → mg x = none) (pr : PrTab P w K mg) (G_boxesby : FnN P w K mg base "boxes_by" 1 ["row", "kinds"] spBoxesBy) : FnN P w K mg base "program_boxes" 2 ["row"] spProgramBoxes := by
  obtain ⟨aPR, tab_PROGRAM_ROWS⟩ := pr
  refine fnN_at at_ fun f fd F => fn_dN F sc_programboxes (fun ds S P h => ?_) ?_
  · obtain ⟨r, rfl, _⟩ := h
    rfl
  · rintro X W0 cdv A outer s H E rfl hr
    have hu := hr.units
    refine ⟨_, (dss_cons (ds_set (i := 1) (de_new (dn_fn G_boxesby (hr.mono (by decide)) (by rfl) (da_cons (de_var (pv 0)) (da_cons (de_kix tab_PROGRAM_ROWS.2.2 (by rfl) tab_PROGRAM_ROWS.1 (de_ix (de_var (pv 0)) de_int (fun _ _ => rfl)) (fun _ _ => rfl)) da_nil)))) (fun h => ps_set sc_programboxes.nd rfl (by first | exact Or.inl rfl | exact Or.inr rfl) h))
      (dss_cut (ds_if (dt_cmp (op_eqA hu) do_eq (de_ix (de_var (pv 0)) de_int (fun _ _ => rfl)) de_str (nomark _)) (dss_one (ds_expr (de_mt dm_extT (de_var (pv 1)) (da_cons (de_ix (de_var (pv 0)) de_int (fun _ _ => rfl)) da_nil) (fun h1 h2 => pe_bm PySem.F.plainAttrs_list PySem.F.slot_list_extend PySem.F.type_list_extend mt_extT h1 h2)))) dss_nil)
      (dss_one (ds_ret (de_var (pv 1)))))), ?_⟩
    rintro ds S P ⟨r, rfl, hsh, post⟩
    walk_at "st"
    have nocall : ∀ (bs : List Int), P (bs.map .int) S → atExitN S P (.ref S.length) (S ++ [.lst (bs.map .int)]) := fun bs q => exitN_one (fun n => unders_ints n bs) q
    have last : (S ++ [O.lst (r.boxes.map .int)]).length = (S ++ [O.lst (r.boxes.map .int)]).length := rfl
    cases r with
    | call b f' bs =>
      walk_at "d"
      refine ⟨_, [.int b, .int f', .tup (bs.map .int)], ["box", "function", "boxes"], rfl, by simp, fun n => ?_, ?_⟩
      · show (true && (true && (unders n (bs.map .int) && true))) = true
        rw [unders_ints]
        rfl
      walk_at "d"
      walk_at "e"
      refine ⟨fun env S' => env = [some (Row.e (.call b f' bs)), some (.ref S.length)] ∧ S' = S ++ [.lst ((b :: bs).map .int)], ?_, ?_⟩
      · walk_at "d"
        refine ite_t (by decide) ?_
        have hS : (S ++ [O.lst [D.int b]])[S.length]? = some (.lst [D.int b]) := by rw [List.getElem?_append_right (Nat.le_refl _), Nat.sub_self]; rfl
        walk_at "d"
        refine i_mtx hS ?_
        walk_at "d"
        have hsh : bs.length ≤ 3 := hsh
        refine i_extT hS (sz_le (by simp; omega)) ?_
        refine ⟨rfl, ?_⟩
        rw [List.set_append_right _ _ (Nat.le_refl _), Nat.sub_self]
        rfl
      · rintro env S' ⟨rfl, rfl⟩
        walk_at "d"
        exact nocall (b :: bs) post
    | ar w' b c d =>
      walk_at "d"
      have hk : dlook prKs prDs (.inr w'.s) = some (sTup ["box", "box", "box"]) := by cases w' <;> rfl
      refine i_xkix hk ?_
      walk_at "d"
      refine ⟨_, [.int b, .int c, .int d], ["box", "box", "box"], rfl, by simp, fun n => rfl, ?_⟩
      walk_at "d"
      walk_at "e"
      refine ⟨fun env S' => env = [some (Row.e (.ar w' b c d)), some (.ref S.length)] ∧ S' = S ++ [.lst ([b, c, d].map .int)], ?_, ?_⟩
      · walk_at "d"
        refine ite_f (by cases w' <;> decide) ?_
        exact ⟨rfl, rfl⟩
      · rintro env S' ⟨rfl, rfl⟩
        walk_at "d"
        exact nocall _ post
    | num b n =>
      walk_at "d"
      refine ⟨_, [.int b, .int n], ["box", "number"], rfl, by simp, fun n => rfl, ?_⟩
      walk_at "d"
      walk_at "e"
      refine ⟨fun env S' => env = [some (Row.e (.num b n)), some (.ref S.length)] ∧ S' = S ++ [.lst ([b].map .int)], ?_, ?_⟩
      · walk_at "d"
        refine ite_f (by decide) ?_
        exact ⟨rfl, rfl⟩
      · rintro env S' ⟨rfl, rfl⟩
        walk_at "d"
        exact nocall _ post
    | skip b m =>
      walk_at "d"
      refine ⟨_, [.int b, .int m], ["box", "count"], rfl, by simp, fun n => rfl, ?_⟩
      walk_at "d"
      walk_at "e"
      refine ⟨fun env S' => env = [some (Row.e (.skip b m)), some (.ref S.length)] ∧ S' = S ++ [.lst ([b].map .int)], ?_, ?_⟩
      · walk_at "d"
        refine ite_f (by decide) ?_
        exact ⟨rfl, rfl⟩
      · rintro env S' ⟨rfl, rfl⟩
        walk_at "d"
        exact nocall _ post
    | say b =>
      walk_at "d"
      refine ⟨_, [.int b], ["box"], rfl, by simp, fun n => rfl, ?_⟩
      walk_at "d"
      walk_at "e"
      refine ⟨fun env S' => env = [some (Row.e (.say b)), some (.ref S.length)] ∧ S' = S ++ [.lst ([b].map .int)], ?_, ?_⟩
      · walk_at "d"
        refine ite_f (by decide) ?_
        exact ⟨rfl, rfl⟩
      · rintro env S' ⟨rfl, rfl⟩
        walk_at "d"
        exact nocall _ post
    | rest =>
      walk_at "d"
      refine ⟨_, [], [], rfl, by simp, fun n => rfl, ?_⟩
      walk_at "d"
      walk_at "e"
      refine ⟨fun env S' => env = [some (Row.e (.rest)), some (.ref S.length)] ∧ S' = S ++ [.lst (([] : List Int).map .int)], ?_, ?_⟩
      · walk_at "d"
        refine ite_f (by decide) ?_
        exact ⟨rfl, rfl⟩
      · rintro env S' ⟨rfl, rfl⟩
        walk_at "d"
        exact nocall _ post
    | tell b =>
      walk_at "d"
      refine ⟨_, [.int b], ["box"], rfl, by simp, fun n => rfl, ?_⟩
      walk_at "d"
      walk_at "e"
      refine ⟨fun env S' => env = [some (Row.e (.tell b)), some (.ref S.length)] ∧ S' = S ++ [.lst ([b].map .int)], ?_, ?_⟩
      · walk_at "d"
        refine ite_f (by decide) ?_
        exact ⟨rfl, rfl⟩
      · rintro env S' ⟨rfl, rfl⟩
        walk_at "d"
        exact nocall _ post
end
abbrev s_functioncanbe : Stmt := topS 21
abbrev N_functioncanbe : List Str := ["function", "most", "many", "rows"]
theorem sc_functioncanbe : FnScope N_functioncanbe ["function", "most"] (defScope s_functioncanbe) := ⟨rfl, rfl, rfl, by decide +kernel, rfl, by decide +kernel, by decide +kernel⟩
abbrev s_firstbadfunction : Stmt := topS 22
abbrev N_firstbadfunction : List Str := ["functions", "most", "number", "function"]
theorem sc_firstbadfunction : FnScope N_firstbadfunction ["functions", "most"] (defScope s_firstbadfunction) := ⟨rfl, rfl, rfl, by decide +kernel, rfl, by decide +kernel, by decide +kernel⟩
/-! ### what is handed in: tuples, lists, texts, numbers, truth values, None -/
mutual
def dat : D → Bool
  | .non => true
  | .bl _ => true
  | .int _ => true
  | .str _ => true
  | .tup xs => dats xs
  | .lst xs => dats xs
  | _ => false
def dats : List D → Bool
  | [] => true
  | x :: xs => dat x && dats xs
end
theorem dat_ty {S : Sto} {d : D} (h : dat d = true) : tyd S d := by
  cases d <;> first | exact ⟨_, rfl⟩ | (simp [dat] at h)
theorem dats_mem : ∀ {xs : List D}, dats xs = true → ∀ x ∈ xs, dat x = true
  | _ :: _, h, _, .head _ => (Bool.and_eq_true _ _ ▸ h : _ ∧ _).1
  | _ :: _, h, _, .tail _ m => dats_mem (Bool.and_eq_true _ _ ▸ h : _ ∧ _).2 _ m
def isTup : D → Bool
  | .tup _ => true
  | _ => false
theorem isi_tup {S : Sto} {d : D} {P : DP} (h : dat d = true) (q : P (.bl (isTup d)) S) : bIsi [d, .ty "tuple"] S P := by
  cases d <;> first
    | exact i_isi rfl kit_NoneType_tuple q
    | exact i_isi rfl kit_bool_tuple q
    | exact i_isi rfl kit_int_tuple q
    | exact i_isi rfl kit_str_tuple q
    | exact i_isi rfl kit_tuple_tuple q
    | exact i_isi rfl kit_list_tuple q
    | (simp [dat] at h)
def isStr : D → Bool
  | .str _ => true
  | _ => false
theorem isi_str {S : Sto} {d : D} {P : DP} (h : dat d = true) (q : P (.bl (isStr d)) S) : bIsi [d, .ty "str"] S P := by
  cases d <;> first
    | exact i_isi rfl kit_NoneType_str q
    | exact i_isi rfl kit_bool_str q
    | exact i_isi rfl kit_int_str q
    | exact i_isi rfl kit_str_str q
    | exact i_isi rfl kit_tuple_str q
    | exact i_isi rfl kit_list_str q
    | (simp [dat] at h)
/-! ### functions as such -/
def fcan (most : Int) : D → Bool
  | .tup [m, .tup rows] => inB 4 m && decide ((rows.length : Int) ≤ most)
  | _ => false
theorem fcan_long {m : Int} {xs : List D} (h : xs.length ≠ 2) : fcan m (.tup xs) = false := by
  unfold fcan
  split
  · rename_i e
    cases e
    exact absurd rfl h
  · rfl
def fbf (most : Int) : Nat → List D → Option Nat
  | _, [] => none
  | i, f :: fs => if i = 8 ∨ fcan most f = false then some i else fbf most (i + 1) fs
def fbadF (most : Int) : D → Option Nat
  | .tup (f :: fs) => fbf most 0 (f :: fs)
  | _ => some 0
def optE : Option Nat → D
  | none => .non
  | some n => .int n
def spFcb : DSp := fun ds S P => ∃ (d : D) (m : Int), ds = [d, .int m] ∧ dat d = true ∧ P (.bl (fcan m d)) S
def spFbf : DSp := fun ds S P => ∃ (d : D) (m : Int), ds = [d, .int m] ∧ dat d = true ∧ P (optE (fbadF m d)) S
/-! ### rows -/
abbrev Shp := List (Str × List Str)
def shKs (sh : Shp) : List Key := sh.map fun p => .inr p.1
def shDs (sh : Shp) : List D := sh.map fun p => .tup (p.2.map .str)
theorem dlook_sh (wd : Str) : ∀ sh : Shp, dlook (shKs sh) (shDs sh) (.inr wd) = (sh.lookup wd).map fun l => .tup (l.map .str)
  | [] => rfl
  | (x, l) :: sh => by
    have ih := dlook_sh wd sh
    show (if (Sum.inr x : Key) = .inr wd then some (D.tup (l.map .str)) else dlook (shKs sh) (shDs sh) (.inr wd)) = _
    rw [List.lookup_cons]
    by_cases h : x = wd
    · subst h
      rw [if_pos rfl]
      simp
    · rw [if_neg fun q => h (inr_inj q), ih]
      have : (wd == x) = false := by simpa using fun e => h e.symm
      rw [this]
def bKs : List Key := [.inr "box", .inr "number", .inr "function", .inr "count"]
def bDs (bx fn cnt : Int) : List D := [.int bx, .int 1000, .int fn, .int cnt]
def bnd (bx fn cnt : Int) (k : Str) : Int := if k = "box" then bx else if k = "number" then 1000 else if k = "function" then fn else cnt
def manyAt (ms : List Int) : List D → Option Int
  | _ :: .int f :: _ => ms[f.toNat]?
  | _ => none
def boxesOk (bx : Int) (ms : List Int) (ps : List D) : D → Bool
  | .tup xs => decide (some (xs.length : Int) = manyAt ms ps) && xs.all (inB bx)
  | _ => false
def partOk (bx cnt : Int) (ms : List Int) (ps : List D) (k : Str) (p : D) : Bool := if k = "boxes" then boxesOk bx ms ps p else inB (bnd bx ms.length cnt k) p
def partsOk (bx cnt : Int) (ms : List Int) (ps : List D) : List Str → List D → Bool
  | k :: ks, q :: qs => partOk bx cnt ms ps k q && partsOk bx cnt ms ps ks qs
  | _, _ => true
def rcan (sh : Shp) (bx cnt : Int) (ms : List Int) : D → Bool
  | .tup (.str wd :: ps) => match sh.lookup wd with
    | some ks => decide (ps.length = ks.length) && partsOk bx cnt ms ps ks ps
    | none => false
  | _ => false
def shOk (sh : Shp) : Prop := ∀ p ∈ sh, (∀ k ∈ p.2, k ∈ (["box", "number", "function", "count"] : List Str)) ∨ p.2 = (["box", "function", "boxes"] : List Str)
def spRcb : DSp := fun ds S P => ∃ (d : D) (sh : Shp) (bx cnt : Int) (ms : List Int), ds = [d, .dct (shKs sh) (shDs sh), .dct bKs (bDs bx ms.length cnt), .lst (ms.map .int)] ∧ shOk sh ∧ dat d = true ∧ (∀ m ∈ ms, 0 ≤ m ∧ m ≤ 3) ∧ P (.bl (rcan sh bx cnt ms d)) S
theorem bnd_look {bx fn cnt : Int} {k : Str} (h : k ∈ (["box", "number", "function", "count"] : List Str)) : dlook bKs (bDs bx fn cnt) (.inr k) = some (.int (bnd bx fn cnt k)) ∧ k ≠ "boxes" := by
  simp only [List.mem_cons, List.not_mem_nil, or_false] at h
  rcases h with rfl | rfl | rfl | rfl
  · exact ⟨rfl, by decide⟩
  · exact ⟨rfl, by decide⟩
  · exact ⟨rfl, by decide⟩
  · exact ⟨rfl, by decide⟩
theorem lookup_mem {wd : Str} {ks : List Str} : ∀ {sh : Shp}, sh.lookup wd = some ks → (wd, ks) ∈ sh
  | (x, l) :: sh, h => by
    rw [List.lookup_cons] at h
    cases e : (wd == x) with
    | true => rw [e] at h; cases h; rw [eq_of_beq e]; exact List.mem_cons_self
    | false => rw [e] at h; exact List.mem_cons_of_mem _ (lookup_mem h)
section
variable {P : Program} {w : World} {K : PySem.W.Frag} {mg : Str → Option Value} {base : Heap}
theorem ok_functioncanbe (at_ : At K mg "function_can_be" s_functioncanbe ["function", "most"]) (mb : ∀ x, isB x = true → mg x = none) (gi : ∀ x n, isG x = some n → ∃ t, mg x = some (.int n t)) (G_below : Fn P w K mg base "below" 2 ["value", "bound"] spBelow) :
    Fn P w K mg base "function_can_be" 3 ["function", "most"] spFcb := by
  refine fn_at at_ fun f fd F => fn_d F sc_functioncanbe (fun ds S P h => ?_) ?_
  · obtain ⟨f, m, rfl, _⟩ := h
    rfl
  · rintro X W0 cdv A outer s H E rfl hr
    have hu := hr.units
    refine ⟨_, (dss_cons (ds_if (dt_w (dw_or (dt_not (dt_val (de_b dc_isi (da_cons (de_var (pv 0)) (da_cons (de_bltn (n := "tuple") (by rfl) (mb "tuple" rfl) (by decide +kernel)) da_nil)) (fun h => pe_callB call_isi (by rfl) (mb "isinstance" rfl) (by decide +kernel) h)))) (dw_or1 (dt_cmp (op_neA hu) do_ne (de_b dc_len (da_cons (de_var (pv 0)) da_nil) (fun h => pe_callB call_len_seq (by rfl) (mb "len" rfl) PySem.boot_len h)) de_int (nomark _))))) (dss_one (ds_ret de_bl)) dss_nil)
      (dss_cons (ds_asg (de_var (pv 0)) (dg_tup (n := 2) rfl (dgs_cons (dg_name (pg_name (i := 2) sc_functioncanbe.nd rfl (by first | exact Or.inl rfl | exact Or.inr rfl))) (dgs_cons (dg_name (pg_name (i := 3) sc_functioncanbe.nd rfl (by first | exact Or.inl rfl | exact Or.inr rfl))) dgs_nil))) (fun h1 h2 => ps_asg h1 h2))
      (dss_one (ds_ret (de_and (de_fn G_below (hr.mono (by decide)) (by rfl) (da_cons (de_var (pv 2)) (da_cons (de_add (de_gint (by rfl) (gi "MOST_ARGUMENTS" 3 rfl)) de_int) da_nil))) (de_and (de_b dc_isi (da_cons (de_var (pv 3)) (da_cons (de_bltn (n := "tuple") (by rfl) (mb "tuple" rfl) (by decide +kernel)) da_nil)) (fun h => pe_callB call_isi (by rfl) (mb "isinstance" rfl) (by decide +kernel) h)) (de_one (de_cmp op_le do_le (de_b dc_len (da_cons (de_var (pv 3)) da_nil) (fun h => pe_callB call_len_seq (by rfl) (mb "len" rfl) PySem.boot_len h)) (de_var (pv 1)) (nomark _))))))))), ?_⟩
    rintro ds S P ⟨d, m, rfl, hd, post⟩
    walk_at "st"
    have no : isTup d = false → fcan m d = false := fun h => by cases d <;> first | rfl | (simp [isTup] at h)
    refine i_seq ?_
    refine i_ifS ?_
    refine i_or ?_
    refine i_not ?_
    refine i_B ?_
    refine i_call ?_
    refine i_cons ?_
    refine i_var rfl ?_
    refine i_cons ?_
    refine i_c ?_
    refine i_nil ?_
    refine isi_tup hd ?_
    walk_at "d"
    cases d with
    | tup xs =>
      refine ite_f Bool.false_ne_true ?_
      walk_at "d"
      match xs, hd, post with
      | [a, b], hd, post =>
        have hab : dat a = true ∧ dat b = true := by simpa [dat, dats] using hd
        refine ite_f (by simp) ?_
        walk_at "d"
        walk_at "e"
        refine ⟨a, 3 + 1, rfl, dat_ty hab.1, ?_⟩
        walk_at "d"
        have e : fcan m (.tup [a, b]) = (inB 4 a && (isTup b && (match b with | .tup rows => decide ((rows.length : Int) ≤ m) | _ => false))) := by
          cases b <;> simp [fcan, isTup]
        cases hi : inB 4 a with
        | false =>
          refine ite_f (by show ¬ inB (3 + 1) a = true; rw [show (3 : Int) + 1 = 4 from rfl, hi]; decide) ?_
          rw [e, hi] at post
          exact exit_pure0 (fun _ => rfl) post
        | true =>
          refine ite_t (by show inB (3 + 1) a = true; exact hi) ?_
          walk_at "d"
          refine isi_tup hab.2 ?_
          walk_at "d"
          cases b with
          | tup rows =>
            refine ite_t rfl ?_
            walk_at "d"
            rw [e, hi] at post
            exact exit_pure0 (fun _ => rfl) post
          | _ =>
            refine ite_f (by simp [isTup]) ?_
            rw [e, hi] at post
            exact exit_pure0 (fun _ => rfl) post
      | [], hd, post =>
        refine ite_t (by decide) ?_
        walk_at "d"
        exact exit_pure0 (fun _ => rfl) post
      | [a], hd, post =>
        refine ite_t (by simp) ?_
        walk_at "d"
        exact exit_pure0 (fun _ => rfl) post
      | a :: b :: c :: r, hd, post =>
        refine ite_t (by simp; omega) ?_
        walk_at "d"
        rw [fcan_long (by simp)] at post
        exact exit_pure0 (fun _ => rfl) post
    | _ =>
      refine ite_t rfl ?_
      walk_at "d"
      exact exit_pure0 (fun _ => rfl) post
theorem fbf_take {most : Int} : ∀ (k : Nat) (fs : List D) (i : Nat) (f : D), fs[i]? = some f → (∀ (j : Nat) g, j < i → fs[j]? = some g → k + j ≠ 8 ∧ fcan most g = true) → k + i = 8 ∨ fcan most f = false → fbf most k fs = some (k + i)
  | k, g :: fs, 0, f, h, _, hb => by
    cases h
    unfold fbf
    exact if_pos hb
  | k, g :: fs, i + 1, f, h, hg, hb => by
    obtain ⟨h1, h2⟩ := hg 0 g (by omega) rfl
    unfold fbf
    rw [if_neg (by rw [h2]; simpa using h1), fbf_take (k + 1) fs i f (by simpa using h) (fun j g' hj e => ?_) (by rw [show k + 1 + i = k + (i + 1) by omega]; exact hb), show k + 1 + i = k + (i + 1) by omega]
    have := hg (j + 1) g' (by omega) (by simpa using e)
    rw [show k + 1 + j = k + (j + 1) by omega]
    exact this
theorem fbf_none {most : Int} : ∀ (k : Nat) (fs : List D), (∀ (j : Nat) g, fs[j]? = some g → k + j ≠ 8 ∧ fcan most g = true) → fbf most k fs = none
  | _, [], _ => rfl
  | k, g :: fs, hg => by
    obtain ⟨h1, h2⟩ := hg 0 g rfl
    unfold fbf
    rw [if_neg (by rw [h2]; simpa using h1)]
    refine fbf_none (k + 1) fs fun j g' e => ?_
    have := hg (j + 1) g' (by simpa using e)
    rw [show k + 1 + j = k + (j + 1) by omega]
    exact this
theorem ok_firstbadfunction (at_ : At K mg "first_bad_function" s_firstbadfunction ["functions", "most"]) (mb : ∀ x, isB x = true → mg x = none) (gi : ∀ x n, isG x = some n → ∃ t, mg x = some (.int n t)) (G_functioncanbe : Fn P w K mg base "function_can_be" 3 ["function", "most"] spFcb) :
    Fn P w K mg base "first_bad_function" 4 ["functions", "most"] spFbf := by
  refine fn_at at_ fun f fd F => fn_d F sc_firstbadfunction (fun ds S P h => ?_) ?_
  · obtain ⟨p, m, rfl, _⟩ := h
    rfl
  · rintro X W0 cdv A outer s H E rfl hr
    have hu := hr.units
    refine ⟨_, (dss_cons (ds_if (dt_w (dw_or (dt_not (dt_val (de_b dc_isi (da_cons (de_var (pv 0)) (da_cons (de_bltn (n := "tuple") (by rfl) (mb "tuple" rfl) (by decide +kernel)) da_nil)) (fun h => pe_callB call_isi (by rfl) (mb "isinstance" rfl) (by decide +kernel) h)))) (dw_or1 (dt_cmp (op_eqA hu) do_eq (de_b dc_len (da_cons (de_var (pv 0)) da_nil) (fun h => pe_callB call_len_seq (by rfl) (mb "len" rfl) PySem.boot_len h)) de_int (nomark _))))) (dss_one (ds_ret de_int)) dss_nil)
      (dss_cons (ds_for PassesOwn.never rfl (di_enumT (by rfl) (mb "enumerate" rfl) (da_cons (de_var (pv 0)) da_nil)) (dg_tup (n := 2) rfl (dgs_cons (dg_name (pg_name (i := 2) sc_firstbadfunction.nd rfl (by first | exact Or.inl rfl | exact Or.inr rfl))) (dgs_cons (dg_name (pg_name (i := 3) sc_firstbadfunction.nd rfl (by first | exact Or.inl rfl | exact Or.inr rfl))) dgs_nil))) (dss_one (ds_if (dt_w (dw_or (dt_cmp (op_eqA hu) do_eq (de_var (pv 2)) (de_gint (by rfl) (gi "MOST_FUNCTIONS" 8 rfl)) (nomark _)) (dw_or1 (dt_not (dt_val (de_fn G_functioncanbe (hr.mono (by decide)) (by rfl) (da_cons (de_var (pv 3)) (da_cons (de_var (pv 1)) da_nil)))))))) (dss_one (ds_ret (de_var (pv 2)))) dss_nil)))
      (dss_one (ds_ret de_non)))), ?_⟩
    rintro ds S P ⟨d, m, rfl, hd, post⟩
    walk_at "st"
    refine i_seq ?_
    refine i_ifS ?_
    refine i_or ?_
    refine i_not ?_
    refine i_B ?_
    refine i_call ?_
    refine i_cons ?_
    refine i_var rfl ?_
    refine i_cons ?_
    refine i_c ?_
    refine i_nil ?_
    refine isi_tup hd ?_
    walk_at "d"
    cases d with
    | tup xs =>
      refine ite_f Bool.false_ne_true ?_
      walk_at "d"
      have hds : ∀ x ∈ xs, dat x = true := dats_mem (show dats xs = true from hd)
      by_cases hx : xs = []
      · subst hx
        refine ite_t (by decide) ?_
        walk_at "d"
        exact exit_pure0 (fun _ => rfl) post
      · have post : P (optE (fbf m 0 xs)) S := by
          cases xs with
          | nil => exact absurd rfl hx
          | cons a r => exact post
        refine ite_f (by simpa using hx) ?_
        walk_at "d"
        refine ⟨fun i env S' => S' = S ∧ (∃ y2 y3, env = [some (.tup xs), some (.int m), y2, y3]) ∧ ∀ (j : Nat) g, j < i → xs[j]? = some g → 0 + j ≠ 8 ∧ fcan m g = true, ⟨rfl, ⟨none, none, rfl⟩, fun j g hj => absurd hj (by omega)⟩, fun _ _ _ _ _ => trivial, ?_, ?_⟩
        · rintro i x env S' hx' ⟨rfl, ⟨y2, y3, rfl⟩, hg⟩
          obtain ⟨f', hf', rfl⟩ := enumD_get 0 _ i x hx'
          have hdf := hds f' (List.mem_of_getElem? hf')
          walk_at "d"
          walk_at "e"
          by_cases h8 : 0 + i = 8
          · refine ite_t (by simpa using congrArg Int.ofNat h8) ?_
            refine ite_t rfl ?_
            walk_at "d"
            rw [fbf_take 0 xs i f' hf' hg (.inl h8)] at post
            exact exit_pure0 (fun _ => rfl) post
          · refine ite_f (by simp; omega) ?_
            walk_at "d"
            refine ⟨f', m, rfl, hdf, ?_⟩
            walk_at "d"
            cases hc : fcan m f' with
            | false =>
              refine ite_t rfl ?_
              walk_at "d"
              rw [fbf_take 0 xs i f' hf' hg (.inr hc)] at post
              exact exit_pure0 (fun _ => rfl) post
            | true =>
              refine ite_f Bool.false_ne_true ?_
              walk_at "d"
              refine ⟨rfl, ⟨_, _, rfl⟩, fun j g hj e => ?_⟩
              rcases Nat.lt_succ_iff_lt_or_eq.mp hj with hj | rfl
              · exact hg j g hj e
              · rw [hf'] at e
                cases e
                exact ⟨h8, hc⟩
        · rintro env S' ⟨rfl, ⟨y2, y3, rfl⟩, hg⟩
          walk_at "d"
          rw [enumD_len] at hg
          rw [fbf_none 0 xs fun j g e => hg j g (List.getElem?_eq_some_iff.mp e).1 e] at post
          exact exit_pure0 (fun _ => rfl) post
    | _ =>
      refine ite_t rfl ?_
      walk_at "d"
      exact exit_pure0 (fun _ => rfl) post
end
abbrev s_rowcanbe : Stmt := topS 23
abbrev N_rowcanbe : List Str := ["row", "shapes", "bounds", "manys", "kinds", "kind", "part"]
theorem sc_rowcanbe : FnScope N_rowcanbe ["row", "shapes", "bounds", "manys"] (defScope s_rowcanbe) := ⟨rfl, rfl, rfl, by decide +kernel, rfl, by decide +kernel, by decide +kernel⟩
theorem partsOk_from {bx cnt : Int} {ms : List Int} {ps : List D} : ∀ {ks : List Str} {qs : List D}, ks.length = qs.length → (partsOk bx cnt ms ps ks qs = true ↔ ∀ (i : Nat) k p, ks[i]? = some k → qs[i]? = some p → partOk bx cnt ms ps k p = true)
  | [], [], _ => by simp [partsOk]
  | k :: ks, q :: qs, h => by
    have ih := partsOk_from (bx := bx) (cnt := cnt) (ms := ms) (ps := ps) (ks := ks) (qs := qs) (by simpa using h)
    unfold partsOk
    rw [Bool.and_eq_true, ih]
    constructor
    · rintro ⟨h1, h2⟩ i k' p' g1 g2
      cases i with
      | zero => cases g1; cases g2; exact h1
      | succ i => exact h2 i k' p' (by simpa using g1) (by simpa using g2)
    · exact fun h => ⟨h 0 k q rfl rfl, fun i k' p' g1 g2 => h (i + 1) k' p' (by simpa using g1) (by simpa using g2)⟩
  | [], _ :: _, h => by simp at h
  | _ :: _, [], h => by simp at h
theorem parts_bad {bx cnt : Int} {ms : List Int} {ps : List D} {ks : List Str} {qs : List D} {i : Nat} {k : Str} {p : D} (h : ks.length = qs.length) (g1 : ks[i]? = some k) (g2 : qs[i]? = some p) (hb : partOk bx cnt ms ps k p = false) : partsOk bx cnt ms ps ks qs = false := by
  cases e : partsOk bx cnt ms ps ks qs with
  | false => rfl
  | true => rw [(partsOk_from h).mp e i k p g1 g2] at hb; cases hb
theorem inB_int {b : Int} {d : D} (h : inB b d = true) : ∃ v, d = .int v ∧ 0 ≤ v ∧ v < b := by
  cases d <;> first
    | (rename_i v; have h : (decide (0 ≤ v) && decide (v < b)) = true := h; rw [Bool.and_eq_true] at h; exact ⟨v, rfl, of_decide_eq_true h.1, of_decide_eq_true h.2⟩)
    | (simp [inB] at h)
section
variable {P : Program} {w : World} {K : PySem.W.Frag} {mg : Str → Option Value} {base : Heap}
theorem ok_rowcanbe (at_ : At K mg "row_can_be" s_rowcanbe ["row", "shapes", "bounds", "manys"]) (mb : ∀ x, isB x = true → mg x = none) (G_below : Fn P w K mg base "below" 2 ["value", "bound"] spBelow) (G_allbelow : Fn P w K mg base "all_below" 3 ["values", "bound"] spAllBelow) :
    Fn P w K mg base "row_can_be" 4 ["row", "shapes", "bounds", "manys"] spRcb := by
  refine fn_at at_ fun f fd F => fn_d F sc_rowcanbe (fun ds S P h => ?_) ?_
  · obtain ⟨d, sh, bx, cnt, ms, rfl, _⟩ := h
    rfl
  · rintro X W0 cdv A outer s H E rfl hr
    have hu := hr.units
    refine ⟨_, (dss_cons (ds_if (dt_w (dw_or (dt_not (dt_val (de_b dc_isi (da_cons (de_var (pv 0)) (da_cons (de_bltn (n := "tuple") (by rfl) (mb "tuple" rfl) (by decide +kernel)) da_nil)) (fun h => pe_callB call_isi (by rfl) (mb "isinstance" rfl) (by decide +kernel) h)))) (dw_or (dt_cmp (op_eqA hu) do_eq (de_b dc_len (da_cons (de_var (pv 0)) da_nil) (fun h => pe_callB call_len_seq (by rfl) (mb "len" rfl) PySem.boot_len h)) de_int (nomark _)) (dw_or1 (dt_not (dt_val (de_b dc_isi (da_cons (de_ix (de_var (pv 0)) de_int (fun _ _ => rfl)) (da_cons (de_bltn (n := "str") (by rfl) (mb "str" rfl) (by decide +kernel)) da_nil)) (fun h => pe_callB call_isi (by rfl) (mb "isinstance" rfl) (by decide +kernel) h)))))))) (dss_one (ds_ret de_bl)) dss_nil)
      (dss_cons (ds_set (i := 4) (de_dget1 (Nat.lt_of_le_of_lt (Nat.add_le_add_left (by decide) _) hu) (de_var (pv 1)) (de_ix (de_var (pv 0)) de_int (fun _ _ => rfl)) ⟨rfl, rfl, rfl, rfl⟩) (fun h => ps_set sc_rowcanbe.nd rfl (by first | exact Or.inl rfl | exact Or.inr rfl) h))
      (dss_cons (ds_if (dt_w (dw_or (dt_cmp op_isN do_isN (de_var (pv 4)) de_non (nomark _)) (dw_or1 (dt_cmp (op_neA hu) do_ne (de_b dc_len (da_cons (de_var (pv 0)) da_nil) (fun h => pe_callB call_len_seq (by rfl) (mb "len" rfl) PySem.boot_len h)) (de_add (de_b dc_len (da_cons (de_var (pv 4)) da_nil) (fun h => pe_callB call_len_seq (by rfl) (mb "len" rfl) PySem.boot_len h)) de_int) (nomark _))))) (dss_one (ds_ret de_bl)) dss_nil)
      (dss_cons (ds_for PassesOwn.never rfl (di_zip (da_cons (de_var (pv 4)) (da_cons (de_sliceT (de_var (pv 0)) (do_some de_int) do_none) da_nil)) (fun h => RZ.pi_zipA (by rfl) (mb "zip" rfl) h)) (dg_tup (n := 2) rfl (dgs_cons (dg_name (pg_name (i := 5) sc_rowcanbe.nd rfl (by first | exact Or.inl rfl | exact Or.inr rfl))) (dgs_cons (dg_name (pg_name (i := 6) sc_rowcanbe.nd rfl (by first | exact Or.inl rfl | exact Or.inr rfl))) dgs_nil))) (dss_one (ds_if (dt_cmp (op_eqA hu) do_eq (de_var (pv 5)) de_str (nomark _)) (dss_one (ds_if (dt_w (dw_or (dt_not (dt_val (de_b dc_isi (da_cons (de_var (pv 6)) (da_cons (de_bltn (n := "tuple") (by rfl) (mb "tuple" rfl) (by decide +kernel)) da_nil)) (fun h => pe_callB call_isi (by rfl) (mb "isinstance" rfl) (by decide +kernel) h)))) (dw_or (dt_cmp (op_neA hu) do_ne (de_b dc_len (da_cons (de_var (pv 6)) da_nil) (fun h => pe_callB call_len_seq (by rfl) (mb "len" rfl) PySem.boot_len h)) (de_ix (de_var (pv 3)) (de_ix (de_var (pv 0)) de_int (fun _ _ => rfl)) (fun _ _ => rfl)) (nomark _)) (dw_or1 (dt_not (dt_val (de_fn G_allbelow (hr.mono (by decide)) (by rfl) (da_cons (de_var (pv 6)) (da_cons (de_dget (Nat.lt_of_le_of_lt (Nat.add_le_add_left (by decide) _) hu) (de_var (pv 2)) de_str (fun _ _ => rfl)) da_nil))))))))) (dss_one (ds_ret de_bl)) dss_nil)) (dss_one (ds_if (dt_not (dt_val (de_fn G_below (hr.mono (by decide)) (by rfl) (da_cons (de_var (pv 6)) (da_cons (de_dget (Nat.lt_of_le_of_lt (Nat.add_le_add_left (by decide) _) hu) (de_var (pv 2)) (de_var (pv 5)) (fun _ _ => rfl)) da_nil))))) (dss_one (ds_ret de_bl)) dss_nil)))))
      (dss_one (ds_ret de_bl)))))), ?_⟩
    rintro ds S P ⟨d, sh, bx, cnt, ms, rfl, hsh, hd, hms, post⟩
    walk_at "st"
    refine i_seq ?_
    refine i_ifS ?_
    refine i_or ?_
    refine i_not ?_
    refine i_B ?_
    refine i_call ?_
    refine i_cons ?_
    refine i_var rfl ?_
    refine i_cons ?_
    refine i_c ?_
    refine i_nil ?_
    refine isi_tup hd ?_
    walk_at "d"
    have nope : P (.bl false) S → atExit S P (.bl false) S := fun q => exit_pure0 (fun _ => rfl) q
    cases d with
    | tup xs =>
      refine ite_f Bool.false_ne_true ?_
      walk_at "d"
      match xs, hd, post with
      | [], hd, post =>
        refine ite_t (by decide) ?_
        refine ite_t rfl ?_
        walk_at "d"
        exact nope post
      | w0 :: ps, hd, post =>
        have hdw : dat w0 = true ∧ dats ps = true := by simpa [dat, dats] using hd
        have hds := dats_mem hdw.2
        refine ite_f (by simp; omega) ?_
        walk_at "d"
        refine isi_str hdw.1 ?_
        walk_at "d"
        cases w0 with
        | str wd =>
          refine ite_f Bool.false_ne_true ?_
          walk_at "d"
          walk_at "e"
          rw [dlook_sh]
          cases hk : sh.lookup wd with
          | none =>
            have e : rcan sh bx cnt ms (.tup (.str wd :: ps)) = false := by simp only [rcan, hk]
            rw [e] at post
            refine ite_t rfl ?_
            refine ite_t rfl ?_
            walk_at "d"
            exact nope post
          | some ks =>
            have e : rcan sh bx cnt ms (.tup (.str wd :: ps)) = (decide (ps.length = ks.length) && partsOk bx cnt ms ps ks ps) := by simp only [rcan, hk]
            rw [e] at post
            rw [Option.map_some, Option.getD_some]
            refine ite_f Bool.false_ne_true ?_
            walk_at "d"
            by_cases hlen : ps.length = ks.length
            · rw [decide_eq_true hlen, Bool.true_and] at post
              refine ite_f (by simp [hlen]) ?_
              walk_at "d"
              rw [show DL.cutD (D.str wd :: ps) (some 1) none = ps from cutD_from (D.str wd :: ps) 1 (by simp)]
              walk_at "d"
              have hkk := hsh _ (lookup_mem hk)
              refine ⟨fun i env S' => S' = S ∧ (∃ y5 y6, env = [some (.tup (.str wd :: ps)), some (.dct (shKs sh) (shDs sh)), some (.dct bKs (bDs bx ms.length cnt)), some (.lst (ms.map .int)), some (.tup (ks.map .str)), y5, y6]) ∧ ∀ (j : Nat) k p, j < i → ks[j]? = some k → ps[j]? = some p → partOk bx cnt ms ps k p = true, ⟨rfl, ⟨none, none, rfl⟩, fun j k p hj => absurd hj (by omega)⟩, fun _ _ _ _ _ => trivial, ?_, ?_⟩
              · rintro i x env S' hx ⟨rfl, ⟨y5, y6, rfl⟩, hg⟩
                obtain ⟨y, z, h1, h2, rfl⟩ := zipD_get _ _ i x hx
                rw [List.getElem?_map] at h1
                cases ek : ks[i]? with
                | none => rw [ek] at h1; cases h1
                | some k =>
                  rw [ek] at h1
                  cases h1
                  have hdz := hds z (List.mem_of_getElem? h2)
                  have next : partOk bx cnt ms ps k z = true → ∀ (j : Nat) k p, j < i + 1 → ks[j]? = some k → ps[j]? = some p → partOk bx cnt ms ps k p = true := fun hp j k' p' hj e1 e2 => by
                    rcases Nat.lt_succ_iff_lt_or_eq.mp hj with hj | rfl
                    · exact hg j k' p' hj e1 e2
                    · rw [ek] at e1
                      rw [h2] at e2
                      cases e1
                      cases e2
                      exact hp
                  walk_at "d"
                  walk_at "e"
                  by_cases hb : k = "boxes"
                  · subst hb
                    rcases hkk with hkk | hkk
                    · exact absurd (hkk _ (List.mem_of_getElem? ek)) (by decide)
                    · subst hkk
                      have h3 : ps.length = 3 := hlen
                      match ps, h3, hg, h2, post, hds, next with
                      | [pa, pb, pc], _, hg, h2, post, hds, next =>
                        have hi : i = 2 := by
                          match i, ek with
                          | 0, ek => exact absurd (Option.some.inj ek) (by decide)
                          | 1, ek => exact absurd (Option.some.inj ek) (by decide)
                          | 2, _ => rfl
                        subst hi
                        cases h2
                        have hf := hg 1 "function" pb (by omega) rfl rfl
                        have hf : inB ms.length pb = true := hf
                        obtain ⟨f', rfl, f0, f1⟩ := inB_int hf
                        have hm : ms[f'.toNat]? = some ms[f'.toNat] := List.getElem?_eq_getElem (by omega)
                        generalize ms[f'.toNat] = mf at hm
                        have hmb := hms mf (List.mem_of_getElem? hm)
                        have hat : L2.atI (ms.map D.int) f' = some (.int mf) := by
                          have e2 : f' = (f'.toNat : Int) := by omega
                          conv => lhs; rw [e2]
                          exact atI_nat (by rw [List.getElem?_map, hm]; rfl)
                        have ep : ∀ z, partOk bx cnt ms [pa, .int f', z] "boxes" z = boxesOk bx ms [pa, .int f', z] z := fun z => if_pos rfl
                        have em : ∀ z, manyAt ms [pa, .int f', z] = some mf := fun z => hm
                        refine ite_t (by decide) ?_
                        walk_at "d"
                        refine isi_tup hdz ?_
                        walk_at "d"
                        cases z with
                        | tup zs =>
                          refine ite_f Bool.false_ne_true ?_
                          walk_at "d"
                          refine i_ix rfl hat ?_
                          walk_at "d"
                          have eb : boxesOk bx ms [pa, .int f', .tup zs] (.tup zs) = (decide ((zs.length : Int) = mf) && zs.all (inB bx)) := by
                            show (decide (some (zs.length : Int) = manyAt ms [pa, .int f', .tup zs]) && zs.all (inB bx)) = _
                            rw [em]
                            simp only [Option.some.injEq]
                          by_cases hz : (zs.length : Int) = mf
                          · refine ite_f (by simp [hz]) ?_
                            walk_at "d"
                            refine ⟨zs, bx, rfl, by omega, fun q hq => dat_ty (dats_mem (show dats zs = true from hdz) q hq), ?_⟩
                            walk_at "d"
                            cases ha : zs.all (inB bx) with
                            | true =>
                              refine ite_f Bool.false_ne_true ?_
                              walk_at "d"
                              exact ⟨rfl, ⟨_, _, rfl⟩, next (by rw [ep, eb, ha, decide_eq_true hz]; rfl)⟩
                            | false =>
                              refine ite_t rfl ?_
                              walk_at "d"
                              rw [parts_bad (k := "boxes") (p := .tup zs) (i := 2) rfl rfl rfl (by rw [ep, eb, ha, Bool.and_false])] at post
                              exact nope post
                          · refine ite_t (by simpa using hz) ?_
                            refine ite_t rfl ?_
                            walk_at "d"
                            rw [parts_bad (k := "boxes") (p := .tup zs) (i := 2) rfl rfl rfl (by rw [ep, eb, decide_eq_false hz, Bool.false_and])] at post
                            exact nope post
                        | _ =>
                          refine ite_t rfl ?_
                          refine ite_t rfl ?_
                          walk_at "d"
                          rw [parts_bad (k := "boxes") (i := 2) rfl rfl rfl (by rw [ep]; rfl)] at post
                          exact nope post
                  · have hin : k ∈ (["box", "number", "function", "count"] : List Str) := by
                      rcases hkk with hkk | hkk
                      · exact hkk k (List.mem_of_getElem? ek)
                      · subst hkk
                        have := List.mem_of_getElem? ek
                        simp only [List.mem_cons, List.not_mem_nil, or_false] at this ⊢
                        rcases this with h | h | h
                        · exact .inl h
                        · exact .inr (.inr (.inl h))
                        · exact absurd h hb
                    have hp : partOk bx cnt ms ps k z = inB (bnd bx ms.length cnt k) z := if_neg hb
                    refine ite_f (by simpa using hb) ?_
                    walk_at "d"
                    refine i_xdget rfl (bnd_look hin).1 ?_
                    walk_at "d"
                    refine ⟨z, _, rfl, dat_ty hdz, ?_⟩
                    walk_at "d"
                    cases hi : inB (bnd bx ms.length cnt k) z with
                    | true =>
                      refine ite_f Bool.false_ne_true ?_
                      walk_at "d"
                      exact ⟨rfl, ⟨_, _, rfl⟩, next (hp.trans hi)⟩
                    | false =>
                      refine ite_t rfl ?_
                      walk_at "d"
                      rw [parts_bad hlen.symm ek h2 (hp.trans hi)] at post
                      exact nope post
              · rintro env S' ⟨rfl, ⟨y5, y6, rfl⟩, hg⟩
                walk_at "d"
                rw [zipD_len, List.length_map, hlen, Nat.min_self] at hg
                rw [(partsOk_from hlen.symm).mpr fun i k p e1 e2 => hg i k p (List.getElem?_eq_some_iff.mp e1).1 e1 e2] at post
                exact exit_pure0 (fun _ => rfl) post
            · rw [decide_eq_false hlen, Bool.false_and] at post
              refine ite_t (by simp; omega) ?_
              walk_at "d"
              exact nope post
        | _ =>
          refine ite_t rfl ?_
          walk_at "d"
          exact nope post
    | _ =>
      refine ite_t rfl ?_
      refine ite_t rfl ?_
      walk_at "d"
      exact nope post
end
abbrev s_firstbad : Stmt := topS 24
abbrev N_firstbad : List Str := ["functions", "shapes", "boxes", "most", "bad", "manys", "many", "rows", "number", "at", "row", "bounds"]
theorem sc_firstbad : FnScope N_firstbad ["functions", "shapes", "boxes", "most"] (defScope s_firstbad) := ⟨rfl, rfl, rfl, by decide +kernel, rfl, by decide +kernel, by decide +kernel⟩
def rowsBad (sh : Shp) (bx : Int) (ms : List Int) (n : Int) : Nat → List D → Option Nat
  | _, [] => none
  | i, r :: rs => if rcan sh bx (n - i) ms r = true then rowsBad sh bx ms n (i + 1) rs else some i
theorem rowsBad_some {sh : Shp} {bx : Int} {ms : List Int} {n : Int} : ∀ (k : Nat) (rs : List D) (i : Nat) (r : D), rs[i]? = some r → (∀ (j : Nat) g, j < i → rs[j]? = some g → rcan sh bx (n - ((k + j : Nat) : Int)) ms g = true) → rcan sh bx (n - ((k + i : Nat) : Int)) ms r = false → rowsBad sh bx ms n k rs = some (k + i)
  | k, g :: rs, 0, r, h, _, hb => by
    cases h
    unfold rowsBad
    exact if_neg (by rw [show ((k + 0 : Nat) : Int) = k from rfl] at hb; rw [hb]; decide)
  | k, g :: rs, i + 1, r, h, hg, hb => by
    unfold rowsBad
    rw [if_pos (show rcan sh bx (n - (k : Int)) ms g = true from hg 0 g (by omega) rfl), rowsBad_some (k + 1) rs i r (by simpa using h) (fun j g' hj e => ?_) (by rw [show k + 1 + i = k + (i + 1) by omega]; exact hb), show k + 1 + i = k + (i + 1) by omega]
    rw [show k + 1 + j = k + (j + 1) by omega]
    exact hg (j + 1) g' (by omega) (by simpa using e)
theorem rowsBad_none {sh : Shp} {bx : Int} {ms : List Int} {n : Int} : ∀ (k : Nat) (rs : List D), (∀ (j : Nat) g, rs[j]? = some g → rcan sh bx (n - ((k + j : Nat) : Int)) ms g = true) → rowsBad sh bx ms n k rs = none
  | _, [], _ => rfl
  | k, g :: rs, hg => by
    unfold rowsBad
    rw [if_pos (show rcan sh bx (n - (k : Int)) ms g = true from hg 0 g rfl)]
    refine rowsBad_none (k + 1) rs fun j g' e => ?_
    rw [show k + 1 + j = k + (j + 1) by omega]
    exact hg (j + 1) g' (by simpa using e)
abbrev Gf := Int × List D
def Gf.e (g : Gf) : D := .tup [.int g.1, .tup g.2]
def fnsBad (sh : Shp) (bx : Int) (ms : List Int) : Nat → List Gf → Option (Nat × Nat)
  | _, [] => none
  | i, g :: gs => match rowsBad sh bx ms g.2.length 0 g.2 with
    | some at_ => some (i, at_)
    | none => fnsBad sh bx ms (i + 1) gs
theorem fnsBad_some {sh : Shp} {bx : Int} {ms : List Int} {a : Nat} : ∀ (k : Nat) (gs : List Gf) (i : Nat) (g : Gf), gs[i]? = some g → (∀ (j : Nat) g, j < i → gs[j]? = some g → rowsBad sh bx ms g.2.length 0 g.2 = none) → rowsBad sh bx ms g.2.length 0 g.2 = some a → fnsBad sh bx ms k gs = some (k + i, a)
  | k, g' :: gs, 0, g, h, _, hb => by
    cases h
    unfold fnsBad
    rw [hb]
    rfl
  | k, g' :: gs, i + 1, g, h, hg, hb => by
    unfold fnsBad
    rw [hg 0 g' (by omega) rfl]
    show fnsBad sh bx ms (k + 1) gs = _
    rw [fnsBad_some (k + 1) gs i g (by simpa using h) (fun j g hj e => hg (j + 1) g (by omega) (by simpa using e)) hb, show k + 1 + i = k + (i + 1) by omega]
theorem fnsBad_none {sh : Shp} {bx : Int} {ms : List Int} : ∀ (k : Nat) (gs : List Gf), (∀ (j : Nat) g, gs[j]? = some g → rowsBad sh bx ms g.2.length 0 g.2 = none) → fnsBad sh bx ms k gs = none
  | _, [], _ => rfl
  | k, g' :: gs, hg => by
    unfold fnsBad
    rw [hg 0 g' rfl]
    exact fnsBad_none (k + 1) gs fun j g e => hg (j + 1) g (by simpa using e)
def gfOf : D → Gf
  | .tup [.int m, .tup rows] => (m, rows)
  | _ => (0, [])
def gfsOf : D → List Gf
  | .tup fs => fs.map gfOf
  | _ => []
def fbad (sh : Shp) (bx most : Int) (d : D) : Option (Int × Int) := match fbadF most d with
  | some n => some ((n : Int), -1)
  | none => (fnsBad sh bx ((gfsOf d).map (·.1)) 0 (gfsOf d)).map fun p => ((p.1 : Int), (p.2 : Int))
def badE : Option (Int × Int) → D
  | none => .non
  | some p => .tup [.int p.1, .int p.2]
theorem fcan_gf {m : Int} {d : D} (h : fcan m d = true) : ∃ g : Gf, d = g.e ∧ gfOf d = g ∧ 0 ≤ g.1 ∧ g.1 ≤ 3 ∧ (g.2.length : Int) ≤ m := by
  unfold fcan at h
  split at h
  · rename_i a rows
    rw [Bool.and_eq_true] at h
    obtain ⟨v, rfl, h0, h1⟩ := inB_int h.1
    exact ⟨(v, rows), rfl, rfl, h0, by omega, of_decide_eq_true h.2⟩
  · cases h
theorem fbf_all {most : Int} : ∀ (k : Nat) (fs : List D), k ≤ 8 → fbf most k fs = none → k + fs.length ≤ 8 ∧ ∀ f ∈ fs, fcan most f = true
  | k, [], hk, _ => ⟨by simpa using hk, fun f h => absurd h List.not_mem_nil⟩
  | k, f :: fs, hk, h => by
    unfold fbf at h
    split at h
    · cases h
    · rename_i hn
      rw [not_or] at hn
      obtain ⟨h1, h2⟩ := fbf_all (k + 1) fs (by omega) h
      refine ⟨by simp only [List.length_cons]; omega, fun g hg => ?_⟩
      rcases List.mem_cons.mp hg with rfl | hg
      · simpa using hn.2
      · exact h2 g hg
theorem gfs_of {most : Int} {d : D} (h : fbadF most d = none) : ∃ gs : List Gf, d = .tup (gs.map Gf.e) ∧ gfsOf d = gs ∧ gs ≠ [] ∧ gs.length ≤ 8 ∧ ∀ g ∈ gs, 0 ≤ g.1 ∧ g.1 ≤ 3 ∧ (g.2.length : Int) ≤ most := by
  unfold fbadF at h
  split at h
  · rename_i f fs
    obtain ⟨h1, h2⟩ := fbf_all 0 (f :: fs) (by omega) h
    refine ⟨(f :: fs).map gfOf, ?_, rfl, by simp, by simpa using h1, fun g hg => ?_⟩
    · rw [List.map_map]
      congr 1
      refine (List.map_id (f :: fs)).symm.trans (List.map_congr_left fun x hx => ?_)
      obtain ⟨g, e1, e2, _⟩ := fcan_gf (h2 x hx)
      show x = Gf.e (gfOf x)
      rw [e2]
      exact e1
    · obtain ⟨x, hx, rfl⟩ := List.mem_map.mp hg
      obtain ⟨g, e1, e2, h3⟩ := fcan_gf (h2 x hx)
      rw [e2]
      exact h3
  · cases h
def spFb : DSp := fun ds S P => ∃ (d : D) (sh : Shp) (bx most : Int), ds = [d, .dct (shKs sh) (shDs sh), .int bx, .int most] ∧ shOk sh ∧ dat d = true ∧ P (badE (fbad sh bx most d)) S
section
variable {P : Program} {w : World} {K : PySem.W.Frag} {mg : Str → Option Value} {base : Heap}
theorem ok_firstbad (at_ : At K mg "first_bad" s_firstbad ["functions", "shapes", "boxes", "most"]) (mb : ∀ x, isB x = true → mg x = none) (gi : ∀ x n, isG x = some n → ∃ t, mg x = some (.int n t)) (G_firstbadfunction : Fn P w K mg base "first_bad_function" 4 ["functions", "most"] spFbf)
    (G_rowcanbe : Fn P w K mg base "row_can_be" 4 ["row", "shapes", "bounds", "manys"] spRcb) : Fn P w K mg base "first_bad" 5 ["functions", "shapes", "boxes", "most"] spFb := by
  refine fn_at at_ fun f fd F => fn_d F sc_firstbad (fun ds S P h => ?_) ?_
  · obtain ⟨d, sh, bx, most, rfl, _⟩ := h
    rfl
  · rintro X W0 cdv A outer s H E rfl hr
    have hu := hr.units
    refine ⟨_, (dss_cons (ds_set (i := 4) (de_fn G_firstbadfunction (hr.mono (by decide)) (by rfl) (da_cons (de_var (pv 0)) (da_cons (de_var (pv 3)) da_nil))) (fun h => ps_set sc_firstbad.nd rfl (by first | exact Or.inl rfl | exact Or.inr rfl) h))
      (dss_cons (ds_if (dt_cmp op_notN do_notN (de_var (pv 4)) de_non (nomark _)) (dss_one (ds_ret (de_tup (da_cons (de_var (pv 4)) (da_cons (de_neg de_int) da_nil))))) dss_nil)
      (dss_cons (ds_setLc (i := 5) (vs := [6, 7]) (by decide) (ps_setLc (own := [("many", 6), ("rows", 7)]) rfl sc_firstbad.nd rfl rfl (sw_true rfl rfl rfl (by decide +kernel)) (di_tup (de_var (pv 0))) (blkOk_by (N := N_firstbad) (sc := defScope s_firstbad) (by decide +kernel)) (fun _ _ _ _ _ => (dg_tup (n := 2) rfl (dgs_cons (dg_name (pg_name (i := 6) sc_firstbad.nd rfl (Or.inl rfl))) (dgs_cons (dg_name (pg_name (i := 7) sc_firstbad.nd rfl (Or.inl rfl))) dgs_nil)))) (fun _ _ _ _ _ => dts_nil) (fun _ _ _ _ _ => (de_var (pv 6)))))
      (dss_cons (ds_for PassesOwn.never rfl (di_enumT (by rfl) (mb "enumerate" rfl) (da_cons (de_var (pv 0)) da_nil)) (dg_tup (n := 2) rfl (dgs_cons (dg_name (pg_name (i := 8) sc_firstbad.nd rfl (by first | exact Or.inl rfl | exact Or.inr rfl))) (dgs_cons (dg_tup (n := 2) rfl (dgs_cons (dg_name (pg_name (i := 6) sc_firstbad.nd rfl (by first | exact Or.inl rfl | exact Or.inr rfl))) (dgs_cons (dg_name (pg_name (i := 7) sc_firstbad.nd rfl (by first | exact Or.inl rfl | exact Or.inr rfl))) dgs_nil))) dgs_nil))) (dss_one (ds_for PassesOwn.never rfl (di_enumT (by rfl) (mb "enumerate" rfl) (da_cons (de_var (pv 7)) da_nil)) (dg_tup (n := 2) rfl (dgs_cons (dg_name (pg_name (i := 9) sc_firstbad.nd rfl (by first | exact Or.inl rfl | exact Or.inr rfl))) (dgs_cons (dg_name (pg_name (i := 10) sc_firstbad.nd rfl (by first | exact Or.inl rfl | exact Or.inr rfl))) dgs_nil))) (dss_cons (ds_set (i := 11) (de_disp (dps_cons de_str (de_var (pv 2)) (dps_cons de_str (de_gint (by rfl) (gi "NUMBERS" 1000 rfl)) (dps_cons de_str (de_b dc_len (da_cons (de_var (pv 0)) da_nil) (fun h => pe_callB call_len_seq (by rfl) (mb "len" rfl) PySem.boot_len h)) (dps_cons de_str (de_sub (de_b dc_len (da_cons (de_var (pv 7)) da_nil) (fun h => pe_callB call_len_seq (by rfl) (mb "len" rfl) PySem.boot_len h)) (de_var (pv 9))) dps_nil)))) (by rfl) (by rfl) (fun z => by cases z) (by decide)) (fun h => ps_set sc_firstbad.nd rfl (by first | exact Or.inl rfl | exact Or.inr rfl) h))
      (dss_one (ds_if (dt_not (dt_val (de_fn G_rowcanbe (hr.mono (by decide)) (by rfl) (da_cons (de_var (pv 10)) (da_cons (de_var (pv 1)) (da_cons (de_var (pv 11)) (da_cons (de_var (pv 5)) da_nil))))))) (dss_one (ds_ret (de_tup (da_cons (de_var (pv 8)) (da_cons (de_var (pv 9)) da_nil))))) dss_nil))))))
      (dss_one (ds_ret de_non)))))), ?_⟩
    rintro ds S P ⟨d, sh, bx, most, rfl, hsh, hd, post⟩
    have exd : ∀ o, P (badE o) S → atExit S P (badE o) S := fun o q => exit_pure0 (fun n => by cases o <;> rfl) q
    walk_at "st"
    walk_at "d"
    refine ⟨d, most, rfl, hd, ?_⟩
    walk_at "d"
    walk_at "e"
    cases hb : fbadF most d with
    | some n =>
      have e : fbad sh bx most d = some ((n : Int), -1) := by unfold fbad; rw [hb]
      rw [e] at post
      refine ite_t rfl ?_
      walk_at "d"
      exact exd _ post
    | none =>
      obtain ⟨gs, rfl, egs, hne, h8, hgs⟩ := gfs_of hb
      have e : fbad sh bx most (.tup (gs.map Gf.e)) = (fnsBad sh bx (gs.map (·.1)) 0 gs).map fun p => ((p.1 : Int), (p.2 : Int)) := by unfold fbad; rw [hb]; show (fnsBad sh bx ((gfsOf _).map (·.1)) 0 (gfsOf _)).map _ = _; rw [egs]
      rw [e] at post
      have hdat : ∀ g ∈ gs, ∀ r ∈ g.2, dat r = true := fun g hg r hr => by
        have h1 : dats (gs.map Gf.e) = true := hd
        have h2 := dats_mem h1 _ (List.mem_map_of_mem (f := Gf.e) hg)
        have h3 : (true && (dats g.2 && true)) = true := h2
        simp only [Bool.true_and, Bool.and_true] at h3
        exact dats_mem h3 r hr
      refine ite_f Bool.false_ne_true ?_
      walk_at "d"
      refine ⟨fun i acc S' => S' = S ∧ acc = ((gs.take i).map (·.1)).map .int, ⟨rfl, rfl⟩, ?_, ?_, ?_⟩
      · rintro i acc S' hi ⟨rfl, rfl⟩
        exact ⟨trivial, sz_lt (by rw [List.length_map, List.length_map, List.length_take]; omega)⟩
      · rintro i x acc S' hx ⟨rfl, rfl⟩
        rw [List.getElem?_map] at hx
        cases ef : gs[i]? with
        | none => rw [ef] at hx; cases hx
        | some g =>
          rw [ef] at hx
          cases hx
          dsimp only [Gf.e]
          walk_at "d"
          refine ite_t rfl ?_
          walk_at "d"
          refine ⟨rfl, ?_⟩
          rw [List.take_add_one, ef]
          simp
      rintro acc S' ⟨rfl, rfl⟩
      rw [List.length_map, List.take_length]
      walk_at "d"
      walk_at "e"
      generalize hms : gs.map (·.1) = ms at post
      have hlm : ms.length = gs.length := by rw [← hms, List.length_map]
      refine ⟨fun i env S2 => S2 = S' ∧ (∃ y6 y7 y8 y9 y10 y11, env = [some (.tup (gs.map Gf.e)), some (.dct (shKs sh) (shDs sh)), some (.int bx), some (.int most), some .non, some (.lst (ms.map .int)), y6, y7, y8, y9, y10, y11]) ∧ ∀ (j : Nat) g, j < i → gs[j]? = some g → rowsBad sh bx ms g.2.length 0 g.2 = none, ⟨rfl, ⟨none, none, none, none, none, none, rfl⟩, fun j g hj => absurd hj (by omega)⟩, fun _ _ _ _ _ => trivial, ?_, ?_⟩
      · rintro i x env S2 hx ⟨rfl, ⟨y6, y7, y8, y9, y10, y11, rfl⟩, hg⟩
        obtain ⟨d, hd', rfl⟩ := enumD_get 0 _ i x hx
        rw [List.getElem?_map] at hd'
        cases ef : gs[i]? with
        | none => rw [ef] at hd'; cases hd'
        | some g =>
          rw [ef] at hd'
          cases hd'
          have hgm := List.mem_of_getElem? ef
          dsimp only [Gf.e]
          walk_at "d"
          walk_at "e"
          refine ⟨fun j env S3 => S3 = S2 ∧ (∃ y9 y10 y11, env = [some (.tup (gs.map Gf.e)), some (.dct (shKs sh) (shDs sh)), some (.int bx), some (.int most), some .non, some (.lst (ms.map .int)), some (.int g.1), some (.tup g.2), some (.int ((0 + i : Nat) : Int)), y9, y10, y11]) ∧ ∀ (k : Nat) r, k < j → g.2[k]? = some r → rcan sh bx ((g.2.length : Int) - ((0 + k : Nat) : Int)) ms r = true, ⟨rfl, ⟨_, _, _, rfl⟩, fun j r hj => absurd hj (by omega)⟩, fun _ _ _ _ _ => trivial, ?_, ?_⟩
          · rintro j x env S3 hx ⟨rfl, ⟨z9, z10, z11, rfl⟩, hrr⟩
            obtain ⟨r, er, rfl⟩ := enumD_get 0 _ j x hx
            walk_at "d"
            walk_at "e"
            refine i_xdisp (ks := bKs) rfl (by decide) (by decide) ?_
            walk_at "d"
            walk_at "e"
            refine ⟨r, sh, bx, (g.2.length : Int) - ((0 + j : Nat) : Int), ms, ?_, hsh, hdat g hgm r (List.mem_of_getElem? er), fun m hm => ?_, ?_⟩
            · rw [hlm, ← List.length_map (f := Gf.e)]
              rfl
            · rw [← hms] at hm
              obtain ⟨g', hg', rfl⟩ := List.mem_map.mp hm
              exact ⟨(hgs g' hg').1, (hgs g' hg').2.1⟩
            walk_at "d"
            cases hc : rcan sh bx ((g.2.length : Int) - ((0 + j : Nat) : Int)) ms r with
            | true =>
              refine ite_f Bool.false_ne_true ?_
              walk_at "d"
              refine ⟨rfl, ⟨_, _, _, rfl⟩, fun k r' hk e' => ?_⟩
              rcases Nat.lt_succ_iff_lt_or_eq.mp hk with hk | rfl
              · exact hrr k r' hk e'
              · rw [er] at e'
                cases e'
                exact hc
            | false =>
              refine ite_t rfl ?_
              walk_at "d"
              rw [fnsBad_some 0 gs i g ef hg (rowsBad_some 0 g.2 j r er hrr hc)] at post
              exact exd _ post
          · rintro env S3 ⟨rfl, ⟨z9, z10, z11, rfl⟩, hrr⟩
            refine ⟨rfl, ⟨_, _, _, _, _, _, rfl⟩, fun j g' hj e' => ?_⟩
            rcases Nat.lt_succ_iff_lt_or_eq.mp hj with hj | rfl
            · exact hg j g' hj e'
            · rw [ef] at e'
              cases e'
              rw [enumD_len] at hrr
              exact rowsBad_none 0 g.2 fun k r' e' => hrr k r' (List.getElem?_eq_some_iff.mp e').1 e'
      · rintro env S2 ⟨rfl, ⟨y6, y7, y8, y9, y10, y11, rfl⟩, hg⟩
        walk_at "d"
        rw [enumD_len, List.length_map] at hg
        rw [fnsBad_none 0 gs fun j g e' => hg j g (List.getElem?_eq_some_iff.mp e').1 e'] at post
        exact exd none post
end
abbrev s_checkprogram : Stmt := topS 25
abbrev N_checkprogram : List Str := ["program", "bad", "function", "row"]
theorem sc_checkprogram : FnScope N_checkprogram ["program"] (defScope s_checkprogram) := ⟨rfl, rfl, rfl, by decide +kernel, rfl, by decide +kernel, by decide +kernel⟩
theorem moOf_at {cs : List Int} {f : Int} {n : Nat} (h : moOf cs f = some n) (hc : ∀ c ∈ cs, 0 ≤ c) : 0 ≤ f ∧ f < cs.length ∧ L2.atI (cs.map D.int) f = some (.int n) := by
  unfold moOf at h
  split at h
  · rename_i h0
    cases e : cs[f.toNat]? with
    | none => rw [e] at h; cases h
    | some c =>
      rw [e] at h
      have hl := (List.getElem?_eq_some_iff.mp e).1
      have hc0 := hc c (List.mem_of_getElem? e)
      have hn : c.toNat = n := Option.some.inj h
      refine ⟨h0, by omega, ?_⟩
      have e2 : f = (f.toNat : Int) := by omega
      conv => lhs; rw [e2]
      refine atI_nat ?_
      rw [List.getElem?_map, e, ← hn]
      show some (D.int c) = some (D.int (c.toNat : Int))
      rw [Int.toNat_of_nonneg hc0]
  · cases h
theorem many_le {p : List Func} (hp : progOk p) : ∀ c ∈ p.map Func.many, 0 ≤ c ∧ c ≤ 3 := fun c hc => by
  obtain ⟨f, hf, rfl⟩ := List.mem_map.mp hc
  exact ⟨(hp.fs f hf).lo, (hp.fs f hf).hi⟩
theorem short_of {cs : List Int} {l : Int} {r : Row} (hc : ∀ c ∈ cs, 0 ≤ c ∧ c ≤ 3) (h : r.ok (moOf cs) l) : r.short := by
  cases r with
  | call b f bs =>
    obtain ⟨_, h2, _⟩ := h
    obtain ⟨f0, f1, f2⟩ := moOf_at h2 fun c hc' => (hc c hc').1
    show bs.length ≤ 3
    unfold moOf at h2
    rw [if_pos f0] at h2
    cases e : cs[f.toNat]? with
    | none => rw [e] at h2; cases h2
    | some c =>
      rw [e] at h2
      have := hc c (List.mem_of_getElem? e)
      have hn : c.toNat = bs.length := Option.some.inj h2
      omega
  | _ => trivial
def prSh : Shp := [("num", ["box", "number"]), ("plus", ["box", "box", "box"]), ("less", ["box", "box", "box"]), ("times", ["box", "box", "box"]), ("call", ["box", "function", "boxes"]), ("skip", ["box", "count"]), ("say", ["box"]), ("rest", []), ("tell", ["box"])]
theorem prSh_ok : shOk prSh := by
  intro p hp
  simp only [prSh, List.mem_cons, List.not_mem_nil, or_false] at hp
  rcases hp with rfl | rfl | rfl | rfl | rfl | rfl | rfl | rfl | rfl <;> first | exact .inr rfl | exact .inl (by decide)
theorem inB_of {b v : Int} (h0 : 0 ≤ v) (h1 : v < b) : inB b (.int v) = true := by
  show (decide (0 ≤ v) && decide (v < b)) = true
  rw [decide_eq_true h0, decide_eq_true h1]
  rfl
theorem inB_box {v : Int} (h : box v) : inB 8 (.int v) = true := inB_of h.1 h.2
theorem rcan_row {cs : List Int} {cnt : Int} {r : Row} (h : r.ok (moOf cs) (cnt - 1)) (hc : ∀ c ∈ cs, 0 ≤ c) : rcan prSh 8 cnt cs r.e = true := by
  cases r with
  | num b n =>
    obtain ⟨h1, h2, h3⟩ := h
    show (true && (inB 8 (.int b) && (inB 1000 (.int n) && true))) = true
    rw [inB_box h1, inB_of h2 h3]
    rfl
  | ar w' b c d =>
    obtain ⟨h1, h2, h3⟩ := h
    have e : rcan prSh 8 cnt cs (Row.e (.ar w' b c d)) = (true && (inB 8 (.int b) && (inB 8 (.int c) && (inB 8 (.int d) && true)))) := by cases w' <;> rfl
    rw [e, inB_box h1, inB_box h2, inB_box h3]
    rfl
  | call b f bs =>
    obtain ⟨h1, h2, h3⟩ := h
    obtain ⟨f0, f1, f2⟩ := moOf_at h2 hc
    have hm : cs[f.toNat]? = some (bs.length : Int) := by
      unfold moOf at h2
      rw [if_pos f0] at h2
      cases e : cs[f.toNat]? with
      | none => rw [e] at h2; cases h2
      | some c =>
        rw [e] at h2
        have := hc c (List.mem_of_getElem? e)
        have hn : c.toNat = bs.length := Option.some.inj h2
        rw [← hn, Int.toNat_of_nonneg this]
    show (true && (inB 8 (.int b) && (inB cs.length (.int f) && ((decide (some ((bs.map D.int).length : Int) = cs[f.toNat]?) && (bs.map D.int).all (inB 8)) && true)))) = true
    have all : (bs.map D.int).all (inB 8) = true := by
      rw [List.all_map, List.all_eq_true]
      exact fun n hn => inB_box (h3 n hn)
    rw [inB_box h1, inB_of f0 f1, all, hm, List.length_map, decide_eq_true rfl]
    rfl
  | skip b m =>
    obtain ⟨h1, h2, h3⟩ := h
    show (true && (inB 8 (.int b) && (inB cnt (.int m) && true))) = true
    rw [inB_box h1, inB_of h2 (by omega)]
    rfl
  | say b =>
    show (true && (inB 8 (.int b) && true)) = true
    rw [inB_box h]
    rfl
  | rest => rfl
  | tell b =>
    show (true && (inB 8 (.int b) && true)) = true
    rw [inB_box h]
    rfl
theorem dats_ints : ∀ ns : List Int, dats (ns.map .int) = true
  | [] => rfl
  | _ :: ns => dats_ints ns
theorem dat_row (r : Row) : dat r.e = true := by
  cases r with
  | call b f bs => show (true && (true && (true && (dats (bs.map .int) && true)))) = true; rw [dats_ints]; rfl
  | _ => rfl
theorem dats_of : ∀ {xs : List D}, (∀ x ∈ xs, dat x = true) → dats xs = true
  | [], _ => rfl
  | x :: xs, h => by
    show (dat x && dats xs) = true
    rw [h x List.mem_cons_self, dats_of fun y hy => h y (List.mem_cons_of_mem _ hy)]
    rfl
theorem dat_fn {rs : List D} {m : Int} (h : ∀ r ∈ rs, dat r = true) : dat (.tup [.int m, .tup rs]) = true := by
  show (true && (dats rs && true)) = true
  rw [dats_of h]
  rfl
theorem dat_prog (p : List Func) : dat (progE p) = true := dats_of fun x hx => by
  obtain ⟨f, _, rfl⟩ := List.mem_map.mp hx
  exact dat_fn fun r hr => by
    obtain ⟨q, _, rfl⟩ := List.mem_map.mp hr
    exact dat_row q
/-- functions that can be -/
theorem fbad_none {sh : Shp} {bx most : Int} {gs : List Gf} (lo : gs ≠ []) (hi : gs.length ≤ 8) (hf : ∀ g ∈ gs, 0 ≤ g.1 ∧ g.1 ≤ 3 ∧ (g.2.length : Int) ≤ most) (hr : ∀ g ∈ gs, ∀ (j : Nat) r, g.2[j]? = some r → rcan sh bx ((g.2.length : Int) - (j : Int)) (gs.map (·.1)) r = true) : fbad sh bx most (.tup (gs.map Gf.e)) = none := by
  have hfc : ∀ g ∈ gs, fcan most (Gf.e g) = true := fun g hg => by
    obtain ⟨h1, h2, h3⟩ := hf g hg
    show (inB 4 (.int g.1) && decide ((g.2.length : Int) ≤ most)) = true
    rw [inB_of h1 (by omega), decide_eq_true h3]
    rfl
  have e1 : fbadF most (.tup (gs.map Gf.e)) = none := by
    cases gs with
    | nil => exact absurd rfl lo
    | cons g gs =>
      show fbf most 0 ((g :: gs).map Gf.e) = none
      refine fbf_none 0 _ fun j x e => ?_
      have hj := (List.getElem?_eq_some_iff.mp e).1
      rw [List.length_map] at hj
      obtain ⟨g', hg', rfl⟩ := List.mem_map.mp (List.mem_of_getElem? e)
      exact ⟨by omega, hfc g' hg'⟩
  unfold fbad
  rw [e1]
  obtain ⟨gs', e2, e3, _⟩ := gfs_of e1
  have e4 : gfsOf (.tup (gs.map Gf.e)) = gs := by
    show (gs.map Gf.e).map gfOf = gs
    rw [List.map_map]
    exact (List.map_congr_left fun g _ => rfl).trans (List.map_id gs)
  show (fnsBad sh bx ((gfsOf _).map (·.1)) 0 (gfsOf _)).map _ = none
  rw [e4, fnsBad_none 0 gs fun j g e => rowsBad_none 0 g.2 fun k r e' => ?_]
  · rfl
  · rw [Nat.zero_add]
    exact hr g (List.mem_of_getElem? e) k r e'
theorem fbad_prog {p : List Func} (hp : progOk p) : fbad prSh 8 30 (progE p) = none := by
  have e : progE p = .tup ((p.map fun f : Func => ((f.many, f.rows.map Row.e) : Gf)).map Gf.e) := by
    rw [List.map_map]
    rfl
  have hl := hp.lo
  have ems : (p.map fun f : Func => ((f.many, f.rows.map Row.e) : Gf)).map (·.1) = p.map Func.many := by rw [List.map_map]; rfl
  rw [e, fbad_none (by intro z; rw [List.map_eq_nil_iff] at z; rw [z] at hl; simp at hl) (by rw [List.length_map]; exact hp.hi)]
  · intro g hg
    obtain ⟨f, hf, rfl⟩ := List.mem_map.mp hg
    have fo := hp.fs f hf
    exact ⟨fo.lo, fo.hi, by have := fo.len; simp only [List.length_map]; omega⟩
  · intro g hg j r hr
    obtain ⟨f, hf, rfl⟩ := List.mem_map.mp hg
    have hr : (f.rows.map Row.e)[j]? = some r := hr
    rw [List.getElem?_map] at hr
    cases er : f.rows[j]? with
    | none => rw [er] at hr; cases hr
    | some q =>
      rw [er] at hr
      cases hr
      rw [ems]
      refine rcan_row ?_ fun c hc => (many_le hp c hc).1
      have ro := (hp.fs f hf).rows j q er
      rw [show (((f.rows.map Row.e).length : Nat) : Int) - (j : Int) - 1 = (f.rows.length : Int) - 1 - (j : Int) by rw [List.length_map]; omega]
      exact ro
def spCheck : DSp := fun ds S P => ∃ (p : List Func), ds = [progE p] ∧ progOk p ∧ P .non S
section
variable {P : Program} {w : World} {K : PySem.W.Frag} {mg : Str → Option Value} {base : Heap}
theorem ok_checkprogram (at_ : At K mg "check_program" s_checkprogram ["program"]) (mb : ∀ x, isB x = true → mg x = none) (gi : ∀ x n, isG x = some n → ∃ t, mg x = some (.int n t)) (pr : PrTab P w K mg) (G_firstbad : Fn P w K mg base "first_bad" 5 ["functions", "shapes", "boxes", "most"] spFb) :
    Fn P w K mg base "check_program" 6 ["program"] spCheck := by
  obtain ⟨aPR, tab_PROGRAM_ROWS⟩ := pr
  refine fn_at at_ fun f fd F => fn_d F sc_checkprogram (fun ds S P h => ?_) ?_
  · obtain ⟨p, rfl, _⟩ := h
    rfl
  · rintro X W0 cdv A outer s H E rfl hr
    have hu := hr.units
    refine ⟨_, (dss_cons (ds_set (i := 1) (de_fn G_firstbad (hr.mono (by decide)) (by rfl) (da_cons (de_var (pv 0)) (da_cons (de_kcopy tab_PROGRAM_ROWS.2.1 (by rfl) tab_PROGRAM_ROWS.1 (by rfl) (mb "dict" rfl)) (da_cons (de_gint (by rfl) (gi "PROGRAM_BOXES" 8 rfl)) (da_cons (de_gint (by rfl) (gi "MOST_PROGRAM_ROWS" 30 rfl)) da_nil))))) (fun h => ps_set sc_checkprogram.nd rfl (by first | exact Or.inl rfl | exact Or.inr rfl) h))
      (dss_one (ds_if (dt_cmp op_notN do_notN (de_var (pv 1)) de_non (nomark _)) (dss_cons (ds_asg (de_var (pv 1)) (dg_tup (n := 2) rfl (dgs_cons (dg_name (pg_name (i := 2) sc_checkprogram.nd rfl (by first | exact Or.inl rfl | exact Or.inr rfl))) (dgs_cons (dg_name (pg_name (i := 3) sc_checkprogram.nd rfl (by first | exact Or.inl rfl | exact Or.inr rfl))) dgs_nil))) (fun h1 h2 => ps_asg h1 h2))
      (dss_one ds_never)) dss_nil))), ?_⟩
    rintro ds S P ⟨p, rfl, hp, post⟩
    walk_at "st"
    walk_at "d"
    refine ⟨progE p, prSh, 8, 30, rfl, prSh_ok, dat_prog p, ?_⟩
    rw [fbad_prog hp]
    walk_at "d"
    walk_at "e"
    refine ite_f Bool.false_ne_true ?_
    walk_at "d"
    exact exit_pure0 (fun _ => rfl) post
end
abbrev s_placeof : Stmt := topS 31
abbrev N_placeof : List Str := ["box", "many"]
theorem sc_placeof : FnScope N_placeof ["box", "many"] (defScope s_placeof) := ⟨rfl, rfl, rfl, by decide +kernel, rfl, by decide +kernel, by decide +kernel⟩
abbrev s_maderow : Stmt := topS 32
abbrev N_maderow : List Str := ["row", "many", "word", "places", "box", "outs", "at", "place"]
theorem sc_maderow : FnScope N_maderow ["row", "many"] (defScope s_maderow) := ⟨rfl, rfl, rfl, by decide +kernel, rfl, by decide +kernel, by decide +kernel⟩
def lie (m b : Int) : Int := if b < m then b else b + 4
def outs (m : Int) : Nat → List Int → List D
  | _, [] => []
  | k, b :: bs => .tup [.str "copy", .int (12 + (k : Int)), .int (lie m b)] :: outs m (k + 1) bs
def crow (m : Int) : Row → List D
  | .num b n => [.tup [.str "num", .int (lie m b), .int n]]
  | .ar w b c d => [.tup [.str w.s, .int (lie m b), .int (lie m c), .int (lie m d)]]
  | .call b f bs => outs m 0 bs ++ [.tup [.str "call", .int f], .tup [.str "copy", .int (lie m b), .int 12]]
  | .skip b n => [.tup [.str "skip", .int (lie m b), .int n]]
  | .say b => [.tup [.str "say", .int (lie m b)]]
  | .rest => [.tup [.str "rest"]]
  | .tell b => [.tup [.str "copy", .int 0, .int (lie m b)], .tup [.str "back"]]
theorem outs_len (m : Int) : ∀ (k : Nat) (bs : List Int), (outs m k bs).length = bs.length
  | _, [] => rfl
  | k, _ :: bs => by show (outs m (k + 1) bs).length + 1 = _; rw [outs_len m (k + 1) bs]; rfl
theorem outs_snoc (m : Int) : ∀ (k : Nat) (bs : List Int) (i : Nat) (b : Int), bs[i]? = some b → outs m k (bs.take (i + 1)) = outs m k (bs.take i) ++ [.tup [.str "copy", .int (12 + ((k + i : Nat) : Int)), .int (lie m b)]]
  | _, [], i, _, h => by simp at h
  | k, x :: bs, 0, b, h => by
    simp at h
    subst h
    rfl
  | k, x :: bs, i + 1, b, h => by
    have ih := outs_snoc m (k + 1) bs i b (by simpa using h)
    simp only [List.take_succ_cons, outs]
    rw [ih, show k + 1 + i = k + (i + 1) by omega]
    rfl
theorem outs_under (m : Int) (n : Nat) : ∀ (k : Nat) (bs : List Int), unders n (outs m k bs) = true
  | _, [] => rfl
  | k, _ :: bs => outs_under m n (k + 1) bs
theorem unders_app {n : Nat} : ∀ {xs ys : List D}, unders n xs = true → unders n ys = true → unders n (xs ++ ys) = true
  | [], _, _, h => h
  | x :: xs, ys, h1, h2 => by
    have h := Bool.and_eq_true_iff.mp h1
    exact Bool.and_eq_true_iff.mpr ⟨h.1, unders_app h.2 h2⟩
theorem crow_under (m : Int) (n : Nat) (r : Row) : unders n (crow m r) = true := by
  cases r with
  | call b f bs => exact unders_app (outs_under m n 0 bs) rfl
  | _ => rfl
theorem crow_len {m : Int} {r : Row} (h : r.short) : (crow m r).length ≤ 5 := by
  cases r with
  | call b f bs =>
    have h : bs.length ≤ 3 := h
    show (outs m 0 bs ++ _).length ≤ 5
    rw [List.length_append, outs_len]
    simp
    omega
  | _ => simp [crow]
def spLie : DSp := fun ds S P => ∃ b m, ds = [.int b, .int m] ∧ P (.int (lie m b)) S
def spMadeRow : DSp := fun ds S P => ∃ (r : Row) (m : Int), ds = [r.e, .int m] ∧ r.short ∧ P (.lst (crow m r)) S
section
variable {P : Program} {w : World} {K : PySem.W.Frag} {mg : Str → Option Value} {base : Heap}
theorem ok_placeof (at_ : At K mg "place_of" s_placeof ["box", "many"]) (gi : ∀ x n, isG x = some n → ∃ t, mg x = some (.int n t)) : Fn P w K mg base "place_of" 1 ["box", "many"] spLie := by
  refine fn_at at_ fun f fd F => fn_d F sc_placeof (fun ds S P h => ?_) ?_
  · obtain ⟨b, m, rfl, _⟩ := h
    rfl
  · rintro X W0 cdv A outer s H E rfl hr
    refine ⟨_, (dss_one (ds_ret (de_if (dt_cmp op_lt do_lt (de_var (pv 0)) (de_var (pv 1)) (nomark _)) (de_var (pv 0)) (de_add (de_var (pv 0)) (de_gint (by rfl) (gi "FIRST_OWN" 4 rfl)))))), ?_⟩
    rintro ds S P ⟨b, m, rfl, post⟩
    walk_at "st"
    walk_at "d"
    unfold lie at post
    refine ite2 (fun e => ?_) (fun e => ?_)
    · rw [if_pos (of_decide_eq_true e)] at post
      walk_at "d"
      exact exit_pure0 (fun _ => rfl) post
    · rw [if_neg (fun z => e (decide_eq_true z))] at post
      walk_at "d"
      exact exit_pure0 (fun _ => rfl) post
theorem ok_maderow (at_ : At K mg "made_row" s_maderow ["row", "many"]) (mb : ∀ x, isB x = true → mg x = none) (gi : ∀ x n, isG x = some n → ∃ t, mg x = some (.int n t)) (G_programboxes : FnN P w K mg base "program_boxes" 2 ["row"] spProgramBoxes)
    (G_placeof : Fn P w K mg base "place_of" 1 ["box", "many"] spLie) : Fn P w K mg base "made_row" 3 ["row", "many"] spMadeRow := by
  refine fn_at at_ fun f fd F => fn_d F sc_maderow (fun ds S P h => ?_) ?_
  · obtain ⟨r, m, rfl, _⟩ := h
    rfl
  · rintro X W0 cdv A outer s H E rfl hr
    have hu := hr.units
    refine ⟨_, (dss_cons (ds_set (i := 2) (de_ix (de_var (pv 0)) de_int (fun _ _ => rfl)) (fun h => ps_set sc_maderow.nd rfl (by first | exact Or.inl rfl | exact Or.inr rfl) h))
      (dss_cons (ds_setLc (i := 3) (vs := [4]) (by decide) (ps_setLc (own := [("box", 4)]) rfl sc_maderow.nd rfl rfl (sw_true rfl rfl rfl (by decide +kernel)) (di_list (de_pure (dn_fn G_programboxes (hr.mono (by decide)) (by rfl) (da_cons (de_var (pv 0)) da_nil)))) (blkOk_by (N := N_maderow) (sc := defScope s_maderow) (by decide +kernel)) (fun _ _ _ _ _ => (dg_name (pg_name (i := 4) sc_maderow.nd rfl (Or.inl rfl)))) (fun _ _ _ _ _ => dts_nil) (fun _ _ _ _ _ => (de_fn G_placeof (hr.mono (by decide)) (by rfl) (da_cons (de_var (pv 4)) (da_cons (de_var (pv 1)) da_nil))))))
      (dss_cons (ds_if (dt_cmp (op_eqA hu) do_eq (de_var (pv 2)) de_str (nomark _)) (dss_cons (ds_setLc (i := 5) (vs := [6, 7]) (by decide) (ps_setLc (own := [("at", 6), ("place", 7)]) rfl sc_maderow.nd rfl rfl (sw_true rfl rfl rfl (by decide +kernel)) (di_enum (by rfl) (mb "enumerate" rfl) (da_cons (de_pure (dn_slice (de_var (pv 3)) (do_some de_int) do_none)) da_nil)) (blkOk_by (N := N_maderow) (sc := defScope s_maderow) (by decide +kernel)) (fun _ _ _ _ _ => (dg_tup (n := 2) rfl (dgs_cons (dg_name (pg_name (i := 6) sc_maderow.nd rfl (Or.inl rfl))) (dgs_cons (dg_name (pg_name (i := 7) sc_maderow.nd rfl (Or.inl rfl))) dgs_nil)))) (fun _ _ _ _ _ => dts_nil) (fun _ _ _ _ _ => (de_tup (da_cons de_str (da_cons (de_add (de_gint (by rfl) (gi "FIRST_OUT" 12 rfl)) (de_var (pv 6))) (da_cons (de_var (pv 7)) da_nil)))))))
      (dss_one (ds_ret (de_pure (dn_lst (da_star (de_var (pv 5)) (da_cons (de_tup (da_cons de_str (da_cons (de_ix (de_var (pv 0)) de_int (fun _ _ => rfl)) da_nil))) (da_cons (de_tup (da_cons de_str (da_cons (de_ix (de_var (pv 3)) de_int (fun _ _ => rfl)) (da_cons (de_gint (by rfl) (gi "FIRST_OUT" 12 rfl)) da_nil)))) da_nil)))))))) dss_nil)
      (dss_cons (ds_if (dt_cmp (op_eqA hu) do_eq (de_var (pv 2)) de_str (nomark _)) (dss_one (ds_ret (de_pure (dn_lst (da_cons (de_tup (da_cons de_str (da_cons de_int (da_cons (de_ix (de_var (pv 3)) de_int (fun _ _ => rfl)) da_nil)))) (da_cons (de_tup (da_cons de_str da_nil)) da_nil)))))) dss_nil)
      (dss_cons (ds_if (dt_cmp op_in_seq do_in (de_var (pv 2)) (de_tup (da_cons de_str (da_cons de_str da_nil))) (by rfl)) (dss_one (ds_ret (de_pure (dn_lst (da_cons (de_tup (da_cons (de_var (pv 2)) (da_cons (de_ix (de_var (pv 3)) de_int (fun _ _ => rfl)) (da_cons (de_ix (de_var (pv 0)) de_int (fun _ _ => rfl)) da_nil)))) da_nil))))) dss_nil)
      (dss_one (ds_ret (de_pure (dn_lst (da_cons (de_tup (da_cons (de_var (pv 2)) (da_star (de_var (pv 3)) da_nil))) da_nil)))))))))), ?_⟩
    rintro ds S P ⟨r, m, rfl, hsh, post⟩
    walk_at "st"
    have post : P (.lst (crow m r)) S := post
    obtain ⟨wd, ps, er, hw⟩ := row_words r
    have hun := crow_under m
    rw [er]
    walk_at "d"
    walk_at "e"
    refine ⟨r, by rw [er], hsh, ?_⟩
    walk_at "d"
    have hlen : r.boxes.length ≤ 4 := by
      cases r with
      | call b f' bs => have hsh : bs.length ≤ 3 := hsh; show (b :: bs).length ≤ 4; simp; omega
      | _ => simp [Row.boxes]
    refine ⟨fun i acc S' => S' = S ∧ acc = ((r.boxes.take i).map (lie m)).map .int, ⟨rfl, rfl⟩, ?_, ?_, ?_⟩
    · rintro i acc S' hi ⟨rfl, rfl⟩
      exact ⟨trivial, sz_lt (by rw [List.length_map, List.length_map, List.length_take]; omega)⟩
    · rintro i x acc S' hx ⟨rfl, rfl⟩
      rw [List.getElem?_map] at hx
      cases eb : r.boxes[i]? with
      | none => rw [eb] at hx; cases hx
      | some b =>
        rw [eb] at hx
        cases hx
        walk_at "d"
        refine ite_t rfl ?_
        walk_at "d"
        refine ⟨b, m, rfl, rfl, ?_⟩
        rw [List.take_add_one, eb]
        simp
    rintro acc S' ⟨rfl, rfl⟩
    rw [List.length_map, List.take_length]
    walk_at "d"
    walk_at "e"
    have fin : atExit S' P (.lst (crow m r)) S' := exit_pure0 (fun n => crow_under m n r) post
    cases r with
    | call b f' bs =>
      cases er
      have hsh : bs.length ≤ 3 := hsh
      refine ite_t (by decide) ?_
      walk_at "d"
      rw [show DL.cutD (((Row.call b f' bs).boxes.map (lie m)).map D.int) (some 1) none = (bs.map (lie m)).map D.int from cutD_from ((((b :: bs).map (lie m)).map D.int)) 1 (by simp)]
      refine ⟨fun i acc S2 => S2 = S' ∧ acc = outs m 0 (bs.take i), ⟨rfl, rfl⟩, ?_, ?_, ?_⟩
      · rintro i acc S2 hi ⟨rfl, rfl⟩
        exact ⟨trivial, sz_lt (by rw [outs_len, List.length_take]; omega)⟩
      · rintro i x acc S2 hx ⟨rfl, rfl⟩
        obtain ⟨d, hd', rfl⟩ := enumD_get 0 _ i x hx
        rw [List.getElem?_map, List.getElem?_map] at hd'
        cases eb : bs[i]? with
        | none => rw [eb] at hd'; cases hd'
        | some c =>
          rw [eb] at hd'
          cases hd'
          walk_at "d"
          refine ite_t rfl ?_
          walk_at "d"
          exact ⟨rfl, (outs_snoc m 0 bs i c eb).symm⟩
      rintro acc S2 ⟨rfl, rfl⟩
      rw [enumD_len, List.length_map, List.length_map, List.take_length]
      walk_at "d"
      walk_at "e"
      refine ⟨sz_le (by rw [List.length_append, outs_len]; simp; omega), ?_⟩
      exact fin
    | tell b =>
      cases er
      refine ite_f (by decide) ?_
      walk_at "d"
      refine ite_t (by decide) ?_
      walk_at "d"
      exact fin
    | num b n =>
      cases er
      refine ite_f (by decide) ?_
      walk_at "d"
      refine ite_f (by decide) ?_
      walk_at "d"
      refine i_in rfl rfl rfl ?_
      walk_at "d"
      refine ite_t (by decide) ?_
      walk_at "d"
      exact fin
    | skip b n =>
      cases er
      refine ite_f (by decide) ?_
      walk_at "d"
      refine ite_f (by decide) ?_
      walk_at "d"
      refine i_in rfl rfl rfl ?_
      walk_at "d"
      refine ite_t (by decide) ?_
      walk_at "d"
      exact fin
    | ar w' b c d =>
      cases er
      refine ite_f (by cases w' <;> decide) ?_
      walk_at "d"
      refine ite_f (by cases w' <;> decide) ?_
      walk_at "d"
      refine i_in rfl rfl rfl ?_
      walk_at "d"
      refine ite_f (by cases w' <;> decide) ?_
      walk_at "d"
      exact fin
    | say b =>
      cases er
      refine ite_f (by decide) ?_
      walk_at "d"
      refine ite_f (by decide) ?_
      walk_at "d"
      refine i_in rfl rfl rfl ?_
      walk_at "d"
      refine ite_f (by decide) ?_
      walk_at "d"
      exact fin
    | rest =>
      cases er
      refine ite_f (by decide) ?_
      walk_at "d"
      refine ite_f (by decide) ?_
      walk_at "d"
      refine i_in rfl rfl rfl ?_
      walk_at "d"
      refine ite_f (by decide) ?_
      walk_at "d"
      exact fin
end
abbrev s_madefunction : Stmt := topS 34
abbrev N_madefunction : List Str := ["function", "many", "rows", "pieces", "row", "sizes", "piece", "code_rows", "at", "word", "place", "count"]
theorem sc_madefunction : FnScope N_madefunction ["function"] (defScope s_madefunction) := ⟨rfl, rfl, rfl, by decide +kernel, rfl, by decide +kernel, by decide +kernel⟩
abbrev s_made : Stmt := topS 35
abbrev N_made : List Str := ["program", "function"]
theorem sc_made : FnScope N_made ["program"] (defScope s_made) := ⟨rfl, rfl, rfl, by decide +kernel, rfl, by decide +kernel, by decide +kernel⟩
def sizes (m : Int) (rs : List Row) : List Int := rs.map fun r => ((crow m r).length : Int)
def piece (m : Int) (ns : List Int) (j : Nat) : Row → List D
  | .skip b n => [.tup [.str "skip", .int (lie m b), .int (DL.cutD ns (some ((j : Int) + 1)) (some ((j : Int) + 1 + n))).sum]]
  | r => crow m r
def bodyTo (m : Int) (ns : List Int) : Nat → List Row → List D
  | _, [] => []
  | j, r :: rs => piece m ns j r ++ bodyTo m ns (j + 1) rs
theorem bodyTo_snoc (m : Int) (ns : List Int) : ∀ (k : Nat) (rs : List Row) (i : Nat) (r : Row), rs[i]? = some r → bodyTo m ns k (rs.take (i + 1)) = bodyTo m ns k (rs.take i) ++ piece m ns (k + i) r
  | _, [], i, _, h => by simp at h
  | k, x :: rs, 0, r, h => by
    simp at h
    subst h
    simp [bodyTo]
  | k, x :: rs, i + 1, r, h => by
    have ih := bodyTo_snoc m ns (k + 1) rs i r (by simpa using h)
    simp only [List.take_succ_cons, bodyTo]
    rw [ih, show k + 1 + i = k + (i + 1) by omega, List.append_assoc]
theorem skip_or (m : Int) (ns : List Int) (j : Nat) (r : Row) : (∃ b n, r = .skip b n) ∨ ∃ wd ps, r.e = .tup (.str wd :: ps) ∧ wd ≠ "skip" ∧ piece m ns j r = crow m r := by
  cases r with
  | skip b n => exact .inl ⟨b, n, rfl⟩
  | ar w' b c d => exact .inr ⟨w'.s, _, rfl, by cases w' <;> decide, rfl⟩
  | _ => exact .inr ⟨_, _, rfl, by decide, rfl⟩
theorem piece_len {m : Int} {ns : List Int} {j : Nat} {r : Row} (h : r.short) : (piece m ns j r).length ≤ 5 := by
  rcases skip_or m ns j r with ⟨b, k, rfl⟩ | ⟨_, _, _, _, e⟩
  · simp [piece]
  · rw [e]
    exact crow_len h
theorem bodyTo_len (m : Int) (ns : List Int) : ∀ (k : Nat) (rs : List Row), (∀ r ∈ rs, r.short) → (bodyTo m ns k rs).length ≤ 5 * rs.length
  | _, [], _ => by simp [bodyTo]
  | k, r :: rs, h => by
    have ih := bodyTo_len m ns (k + 1) rs fun x hx => h x (List.mem_cons_of_mem _ hx)
    have h1 := piece_len (m := m) (ns := ns) (j := k) (h r List.mem_cons_self)
    simp only [bodyTo, List.length_append, List.length_cons]
    omega
theorem piece_under (m : Int) (ns : List Int) (j n : Nat) (r : Row) : unders n (piece m ns j r) = true := by
  rcases skip_or m ns j r with ⟨b, k, rfl⟩ | ⟨_, _, _, _, e⟩
  · rfl
  · rw [e]
    exact crow_under m n r
theorem bodyTo_under (m : Int) (ns : List Int) (n : Nat) : ∀ (k : Nat) (rs : List Row), unders n (bodyTo m ns k rs) = true
  | _, [] => rfl
  | k, r :: rs => unders_app (piece_under m ns k n r) (bodyTo_under m ns n (k + 1) rs)
theorem cutD_map {α β : Type} (f : α → β) (xs : List α) (l u : Option Int) : DL.cutD (xs.map f) l u = (DL.cutD xs l u).map f := by
  unfold DL.cutD
  rw [List.length_map, List.map_take, List.map_drop]
/-- the boxes that are no arguments and stand in the rows, in their order -/
def own (m : Int) (rs : List Row) : List Int := ((List.range 8).map fun i : Nat => (i : Int)).filter fun b => decide (m ≤ b) && rs.any fun r => r.boxes.contains b
def firstRows (m : Int) (rs : List Row) : List D := (own m rs).map fun b => .tup [.str "num", .int (lie m b), .int 0]
theorem own_len (m : Int) (rs : List Row) : (own m rs).length ≤ 8 := Nat.le_trans (List.length_filter_le _ _) (by simp)
theorem firstRows_under (m : Int) (n : Nat) (rs : List Row) : unders n (firstRows m rs) = true := unders_map n (fun _ => rfl) _
def lastRows : List D := [.tup [.str "num", .int 0, .int 0], .tup [.str "back"]]
def codeFn (f : Func) : D := .tup [.int f.many, .tup (firstRows f.many f.rows ++ bodyTo f.many (sizes f.many f.rows) 0 f.rows ++ lastRows)]
theorem codeFn_under (n : Nat) (f : Func) : (codeFn f).under n = true := by
  show (true && (unders n (firstRows f.many f.rows ++ bodyTo f.many (sizes f.many f.rows) 0 f.rows ++ lastRows) && true)) = true
  rw [unders_app (unders_app (firstRows_under _ n _) (bodyTo_under _ _ n 0 _)) (show unders n lastRows = true from rfl)]
  rfl
def rowIn (r : Row) : Prop := r.short ∧ ∀ b ∈ r.boxes, box b
theorem boxes_of {mo : Int → Option Nat} {l : Int} {r : Row} (h : r.ok mo l) : ∀ b ∈ r.boxes, box b := by
  intro z hz
  cases r with
  | num b n => cases List.mem_singleton.mp hz; exact h.1
  | ar w' b c d =>
    have hz : z ∈ [b, c, d] := hz
    simp only [List.mem_cons, List.not_mem_nil, or_false] at hz
    rcases hz with rfl | rfl | rfl
    · exact h.1
    · exact h.2.1
    · exact h.2.2
  | call b f bs =>
    rcases List.mem_cons.mp hz with rfl | hz
    · exact h.1
    · exact h.2.2 z hz
  | skip b m => cases List.mem_singleton.mp hz; exact h.1
  | say b => cases List.mem_singleton.mp hz; exact h
  | rest => cases hz
  | tell b => cases List.mem_singleton.mp hz; exact h
theorem rowIn_of {p : List Func} (hp : progOk p) {f : Func} (hf : f ∈ p) : ∀ r ∈ f.rows, rowIn r := fun r hr => by
  obtain ⟨j, hj⟩ := List.getElem?_of_mem hr
  have ro := (hp.fs f hf).rows j r hj
  exact ⟨short_of (many_le hp) ro, boxes_of ro⟩
def spFirstRows : DSpN := fun ds S P => ∃ (rs : List Row) (m : Int), ds = [.tup (rs.map Row.e), .int m] ∧ (∀ r ∈ rs, rowIn r) ∧ rs.length ≤ 30 ∧ P (firstRows m rs) S
def spMadeFn : DSp := fun ds S P => ∃ f : Func, ds = [f.e] ∧ (∀ r ∈ f.rows, rowIn r) ∧ f.rows.length ≤ 30 ∧ P (codeFn f) S
def codeE (p : List Func) : D := .tup (p.map codeFn)
def spMade : DSp := fun ds S P => ∃ p : List Func, ds = [progE p] ∧ progOk p ∧ P (codeE p) S
section
variable {P : Program} {w : World} {K : PySem.W.Frag} {mg : Str → Option Value} {base : Heap}
def LrTab (K : PySem.W.Frag) (mg : Str → Option Value) : Prop := ∃ u v, mg "LAST_ROWS" = some u ∧ RelV v u ∧ ∀ W, Rep K W v (.tup lastRows)
theorem ok_madefunction (at_ : At K mg "made_function" s_madefunction ["function"]) (mb : ∀ x, isB x = true → mg x = none) (lr : LrTab K mg) (G_maderow : Fn P w K mg base "made_row" 3 ["row", "many"] spMadeRow)
    (G_firstrows : FnN P w K mg base "first_rows" 3 ["rows", "many"] spFirstRows) : Fn P w K mg base "made_function" 4 ["function"] spMadeFn := by
  obtain ⟨uLR, vLR, mg_LAST_ROWS⟩ := lr
  refine fn_at at_ fun f fd F => fn_d F sc_madefunction (fun ds S P h => ?_) ?_
  · obtain ⟨f', rfl, _⟩ := h
    rfl
  · rintro X W0 cdv A outer s H E rfl hr
    have hu := hr.units
    refine ⟨_, (dss_cons (ds_asg (de_var (pv 0)) (dg_tup (n := 2) rfl (dgs_cons (dg_name (pg_name (i := 1) sc_madefunction.nd rfl (by first | exact Or.inl rfl | exact Or.inr rfl))) (dgs_cons (dg_name (pg_name (i := 2) sc_madefunction.nd rfl (by first | exact Or.inl rfl | exact Or.inr rfl))) dgs_nil))) (fun h1 h2 => ps_asg h1 h2))
      (dss_cons (ds_setLc (i := 3) (vs := [4]) (by decide) (ps_setLc (own := [("row", 4)]) rfl sc_madefunction.nd rfl rfl (sw_true rfl rfl rfl (by decide +kernel)) (di_tup (de_var (pv 2))) (blkOk_by (N := N_madefunction) (sc := defScope s_madefunction) (by decide +kernel)) (fun _ _ _ _ _ => (dg_name (pg_name (i := 4) sc_madefunction.nd rfl (Or.inl rfl)))) (fun _ _ _ _ _ => dts_nil) (fun _ _ _ _ _ => (de_fn G_maderow (hr.mono (by decide)) (by rfl) (da_cons (de_var (pv 4)) (da_cons (de_var (pv 1)) da_nil))))))
      (dss_cons (ds_setLc (i := 5) (vs := [6]) (by decide) (ps_setLc (own := [("piece", 6)]) rfl sc_madefunction.nd rfl rfl (sw_true rfl rfl rfl (by decide +kernel)) (di_list (de_var (pv 3))) (blkOk_by (N := N_madefunction) (sc := defScope s_madefunction) (by decide +kernel)) (fun _ _ _ _ _ => (dg_name (pg_name (i := 6) sc_madefunction.nd rfl (Or.inl rfl)))) (fun _ _ _ _ _ => dts_nil) (fun _ _ _ _ _ => (de_b dc_len (da_cons (de_var (pv 6)) da_nil) (fun h => pe_callB call_len_seq (by rfl) (mb "len" rfl) PySem.boot_len h)))))
      (dss_cons (ds_set (i := 7) (de_new (dn_fn G_firstrows (hr.mono (by decide)) (by rfl) (da_cons (de_var (pv 2)) (da_cons (de_var (pv 1)) da_nil)))) (fun h => ps_set sc_madefunction.nd rfl (by first | exact Or.inl rfl | exact Or.inr rfl) h))
      (dss_cons (ds_for PassesOwn.never rfl (di_enum (by rfl) (mb "enumerate" rfl) (da_cons (de_var (pv 3)) da_nil)) (dg_tup (n := 2) rfl (dgs_cons (dg_name (pg_name (i := 8) sc_madefunction.nd rfl (by first | exact Or.inl rfl | exact Or.inr rfl))) (dgs_cons (dg_name (pg_name (i := 6) sc_madefunction.nd rfl (by first | exact Or.inl rfl | exact Or.inr rfl))) dgs_nil))) (dss_one (ds_if (dt_cmp (op_eqA hu) do_eq (de_ix (de_ix (de_var (pv 2)) (de_var (pv 8)) (fun _ _ => rfl)) de_int (fun _ _ => rfl)) de_str (nomark _)) (dss_cons (ds_asg (de_ix (de_var (pv 6)) de_int (fun _ _ => rfl)) (dg_tup (n := 3) rfl (dgs_cons (dg_name (pg_name (i := 9) sc_madefunction.nd rfl (by first | exact Or.inl rfl | exact Or.inr rfl))) (dgs_cons (dg_name (pg_name (i := 10) sc_madefunction.nd rfl (by first | exact Or.inl rfl | exact Or.inr rfl))) (dgs_cons (dg_name (pg_name (i := 11) sc_madefunction.nd rfl (by first | exact Or.inl rfl | exact Or.inr rfl))) dgs_nil)))) (fun h1 h2 => ps_asg h1 h2))
      (dss_one (ds_expr (de_mt dm_append (de_var (pv 7)) (da_cons (de_tup (da_cons (de_var (pv 9)) (da_cons (de_var (pv 10)) (da_cons (de_b dc_sum (da_cons (de_pure (dn_slice (de_var (pv 5)) (do_some (de_add (de_var (pv 8)) de_int)) (do_some (de_add (de_add (de_var (pv 8)) de_int) (de_var (pv 11)))))) da_nil) (fun h => pe_callB (cr_sum rfl) (by rfl) (mb "sum" rfl) (by decide +kernel) h)) da_nil)))) da_nil) (fun h1 h2 => pe_bm PySem.F.plainAttrs_list PySem.F.slot_list_append PySem.F.type_list_append mt_append h1 h2))))) (dss_one (ds_expr (de_mt dm_extend (de_var (pv 7)) (da_cons (de_var (pv 6)) da_nil) (fun h1 h2 => pe_bm PySem.F.plainAttrs_list PySem.F.slot_list_extend PySem.F.type_list_extend mt_extend h1 h2)))))))
      (dss_one (ds_ret (de_tup (da_cons (de_var (pv 1)) (da_cons (de_tup (da_star (de_var (pv 7)) (da_star (de_glob (by rfl) mg_LAST_ROWS.1 mg_LAST_ROWS.2.1 mg_LAST_ROWS.2.2) da_nil))) da_nil)))))))))), ?_⟩
    rintro ds S P ⟨⟨m, rs⟩, rfl, hin, hl, post⟩
    have hin : ∀ r ∈ rs, rowIn r := hin
    have hl : rs.length ≤ 30 := hl
    walk_at "st"
    dsimp only [Func.e]
    walk_at "d"
    walk_at "e"
    refine ⟨fun i acc S' => S' = S ∧ acc = (rs.take i).map fun r => D.lst (crow m r), ⟨rfl, rfl⟩, ?_, ?_, ?_⟩
    · rintro i acc S' hi ⟨rfl, rfl⟩
      exact ⟨trivial, sz_lt (by rw [List.length_map, List.length_take]; omega)⟩
    · rintro i x acc S' hx ⟨rfl, rfl⟩
      rw [List.getElem?_map] at hx
      cases er : rs[i]? with
      | none => rw [er] at hx; cases hx
      | some r =>
        rw [er] at hx
        cases hx
        walk_at "d"
        refine ite_t rfl ?_
        walk_at "d"
        refine ⟨r, m, rfl, (hin r (List.mem_of_getElem? er)).1, rfl, ?_⟩
        rw [List.take_add_one, er]
        simp
    rintro acc S' ⟨rfl, rfl⟩
    rw [List.length_map, List.take_length]
    walk_at "d"
    walk_at "e"
    refine ⟨fun i acc S2 => S2 = S' ∧ acc = ((sizes m rs).take i).map .int, ⟨rfl, rfl⟩, ?_, ?_, ?_⟩
    · rintro i acc S2 hi ⟨rfl, rfl⟩
      exact ⟨trivial, sz_lt (by rw [List.length_map, List.length_take, sizes, List.length_map]; omega)⟩
    · rintro i x acc S2 hx ⟨rfl, rfl⟩
      rw [List.getElem?_map] at hx
      cases er : rs[i]? with
      | none => rw [er] at hx; cases hx
      | some r =>
        rw [er] at hx
        cases hx
        walk_at "d"
        refine ite_t rfl ?_
        walk_at "d"
        refine ⟨rfl, ?_⟩
        have es : (sizes m rs)[i]? = some ((crow m r).length : Int) := by unfold sizes; rw [List.getElem?_map, er]; rfl
        rw [List.take_add_one, es]
        simp
    rintro acc S2 ⟨rfl, rfl⟩
    rw [List.length_map, show rs.length = (sizes m rs).length by rw [sizes, List.length_map], List.take_length]
    walk_at "d"
    walk_at "e"
    refine ⟨rs, m, rfl, hin, hl, ?_⟩
    walk_at "d"
    walk_at "e"
    generalize hns : sizes m rs = ns
    refine ⟨fun i env S3 => S3 = S2 ++ [.lst (firstRows m rs ++ bodyTo m ns 0 (rs.take i))] ∧ ∃ y6 y8 y9 y10 y11, env = [some (.tup [.int m, .tup (rs.map Row.e)]), some (.int m), some (.tup (rs.map Row.e)), some (.lst (rs.map fun r => D.lst (crow m r))), none, some (.lst (ns.map .int)), y6, some (.ref S2.length), y8, y9, y10, y11], ⟨by simp [bodyTo], none, none, none, none, none, rfl⟩, fun _ _ _ _ _ => trivial, ?_, ?_⟩
    · rintro i x env S3 hx ⟨rfl, y6, y8, y9, y10, y11, rfl⟩
      obtain ⟨d, hd', rfl⟩ := enumD_get 0 _ i x hx
      rw [List.getElem?_map] at hd'
      cases er : rs[i]? with
      | none => rw [er] at hd'; cases hd'
      | some r =>
        rw [er] at hd'
        cases hd'
        have hi := (List.getElem?_eq_some_iff.mp er).1
        have hlen := bodyTo_len m ns 0 (rs.take i) fun x hx => (hin x (List.mem_of_mem_take hx)).1
        have hown := own_len m rs
        have hsh := (hin r (List.mem_of_getElem? er)).1
        have hsz : (firstRows m rs ++ bodyTo m ns 0 (rs.take i)).length ≤ 200 := by rw [List.length_append, firstRows, List.length_map]; rw [List.length_take] at hlen; omega
        have hS : (S2 ++ [O.lst (firstRows m rs ++ bodyTo m ns 0 (rs.take i))])[S2.length]? = some (.lst (firstRows m rs ++ bodyTo m ns 0 (rs.take i))) := by rw [List.getElem?_append_right (Nat.le_refl _), Nat.sub_self]; rfl
        have hix : L2.atI (rs.map Row.e) (((0 + i : Nat) : Int)) = some r.e := by rw [Nat.zero_add]; exact atI_nat (by rw [List.getElem?_map, er]; rfl)
        have sn := bodyTo_snoc m ns 0 rs i r er
        walk_at "d"
        walk_at "e"
        refine i_ix rfl hix ?_
        rcases skip_or m ns (0 + i) r with ⟨b, n, rfl⟩ | ⟨wd, ps, ew, hw, hp⟩
        · dsimp only [Row.e]
          walk_at "d"
          refine ite_t (by decide) ?_
          walk_at "d"
          dsimp only [crow]
          walk_at "d"
          walk_at "e"
          walk_at "d"
          refine i_mtx hS ?_
          walk_at "d"
          rw [cutD_map]
          refine i_sum rfl ?_
          walk_at "d"
          refine i_append hS (sz_lt (by omega)) ?_
          refine ⟨?_, _, _, _, _, _, rfl⟩
          rw [List.set_append_right _ _ (Nat.le_refl _), Nat.sub_self, sn, ← List.append_assoc]
          rfl
        · rw [ew]
          walk_at "d"
          refine ite_f (by simpa using hw) ?_
          walk_at "d"
          refine i_mtx hS ?_
          walk_at "d"
          have := crow_len (m := m) hsh
          refine i_ext hS rfl (sz_le (by omega)) ?_
          refine ⟨?_, _, _, _, _, _, rfl⟩
          rw [List.set_append_right _ _ (Nat.le_refl _), Nat.sub_self, sn, hp, ← List.append_assoc]
          rfl
    · rintro env S3 ⟨rfl, y6, y8, y9, y10, y11, rfl⟩
      rw [enumD_len, List.length_map, List.take_length]
      have hlen := bodyTo_len m ns 0 rs fun x hx => (hin x hx).1
      have hown := own_len m rs
      have hS : (S2 ++ [O.lst (firstRows m rs ++ bodyTo m ns 0 rs)])[S2.length]? = some (.lst (firstRows m rs ++ bodyTo m ns 0 rs)) := by rw [List.getElem?_append_right (Nat.le_refl _), Nat.sub_self]; rfl
      have hL : seqOf (S2 ++ [O.lst (firstRows m rs ++ bodyTo m ns 0 rs)]) (.ref S2.length) = some (firstRows m rs ++ bodyTo m ns 0 rs) := by simp only [seqOf, lstOf, hS]
      walk_at "d"
      refine i_xstar hL ?_
      walk_at "d"
      refine ⟨sz_le (by simp only [List.length_append, firstRows, List.length_map, lastRows, List.length_cons, List.length_nil]; omega), ?_⟩
      walk_at "d"
      subst hns
      refine exit_pure (T' := [.lst (firstRows m rs ++ bodyTo m (sizes m rs) 0 rs)]) rfl (fun n => ?_) ?_
      · have := codeFn_under n ⟨m, rs⟩
        simpa [codeFn] using this
      · have : P (codeFn ⟨m, rs⟩) S2 := post
        simpa [codeFn] using this
theorem ok_made (at_ : At K mg "made" s_made ["program"]) (mb : ∀ x, isB x = true → mg x = none) (G_checkprogram : Fn P w K mg base "check_program" 6 ["program"] spCheck) (G_madefunction : Fn P w K mg base "made_function" 4 ["function"] spMadeFn) :
    Fn P w K mg base "made" 7 ["program"] spMade := by
  refine fn_at at_ fun f fd F => fn_d F sc_made (fun ds S P h => ?_) ?_
  · obtain ⟨p, rfl, _⟩ := h
    rfl
  · rintro X W0 cdv A outer s H E rfl hr
    have hu := hr.units
    refine ⟨_, (dss_cons (ds_expr (de_fn G_checkprogram (hr.mono (by decide)) (by rfl) (da_cons (de_var (pv 0)) da_nil)))
      (dss_one (ds_ret (de_b dc_tuple (da_cons (de_pure (dn_lc (own := [("function", 1)]) (by decide) rfl sc_made.nd (di_tup (de_var (pv 0))) (blkOk_by (N := N_made) (sc := defScope s_made) (by decide +kernel)) (fun _ _ _ _ _ => (dg_name (pg_name (i := 1) sc_made.nd rfl (Or.inl rfl)))) (fun _ _ _ _ _ => dts_nil) (fun _ _ _ _ _ => (de_fn G_madefunction (hr.mono (by decide)) (by rfl) (da_cons (de_var (pv 1)) da_nil))))) da_nil) (fun h => pe_callTy call_tuple_of (by rfl) (mb "tuple" rfl) (by decide +kernel) h))))), ?_⟩
    rintro ds S P ⟨p, rfl, hp, post⟩
    walk_at "st"
    walk_at "d"
    refine ⟨p, rfl, hp, ?_⟩
    walk_at "d"
    dsimp only [progE]
    walk_at "d"
    refine ⟨fun i acc S' => S' = S ∧ acc = (p.take i).map codeFn, ⟨rfl, rfl⟩, ?_, ?_, ?_⟩
    · rintro i acc S' hi ⟨rfl, rfl⟩
      have := hp.hi
      exact ⟨trivial, sz_lt (by rw [List.length_map, List.length_take]; omega)⟩
    · rintro i x acc S' hx ⟨rfl, rfl⟩
      rw [List.getElem?_map] at hx
      cases ef : p[i]? with
      | none => rw [ef] at hx; cases hx
      | some f' =>
        rw [ef] at hx
        cases hx
        have fo := hp.fs f' (List.mem_of_getElem? ef)
        walk_at "d"
        refine ite_t rfl ?_
        walk_at "d"
        refine ⟨f', rfl, rowIn_of hp (List.mem_of_getElem? ef), fo.len, rfl, ?_⟩
        rw [List.take_add_one, ef]
        simp
    rintro acc S' ⟨rfl, rfl⟩
    rw [List.length_map, List.take_length]
    walk_at "d"
    exact exit_pure0 (fun n => unders_map n (codeFn_under n) p) post
end
abbrev s_firstrows : Stmt := topS 33
abbrev N_firstrows : List Str := ["rows", "many", "fresh", "row", "box"]
theorem sc_firstrows : FnScope N_firstrows ["rows", "many"] (defScope s_firstrows) := ⟨rfl, rfl, rfl, by decide +kernel, rfl, by decide +kernel, by decide +kernel⟩
theorem mem_ins1 {acc : List Int} {z k : Int} : k ∈ ins1 acc z ↔ k ∈ acc ∨ k = z := by
  unfold ins1
  by_cases h : z ∈ acc
  · rw [if_pos h]
    constructor
    · exact .inl
    · rintro (q | rfl)
      · exact q
      · exact h
  · rw [if_neg h, List.mem_append, List.mem_singleton]
theorem nodup_ins1 {acc : List Int} {z : Int} (nd : acc.Nodup) : (ins1 acc z).Nodup := by
  unfold ins1
  by_cases h : z ∈ acc
  · rw [if_pos h]
    exact nd
  · rw [if_neg h]
    exact List.nodup_append.mpr ⟨nd, by simp, fun a ha b hb => by
      rw [List.mem_singleton] at hb
      subst hb
      exact fun e => h (e ▸ ha)⟩
theorem rising_eq : ∀ {l l' : List Int}, l.Pairwise (· < ·) → l'.Pairwise (· < ·) → (∀ k, k ∈ l ↔ k ∈ l') → l = l'
  | [], [], _, _, _ => rfl
  | [], y :: l', _, _, h => absurd ((h y).mpr List.mem_cons_self) List.not_mem_nil
  | x :: l, [], _, _, h => absurd ((h x).mp List.mem_cons_self) List.not_mem_nil
  | x :: l, y :: l', h1, h2, h => by
    obtain ⟨a1, b1⟩ := List.pairwise_cons.mp h1
    obtain ⟨a2, b2⟩ := List.pairwise_cons.mp h2
    have e : x = y := by
      rcases List.mem_cons.mp ((h x).mp List.mem_cons_self) with q | q
      · exact q
      · rcases List.mem_cons.mp ((h y).mpr List.mem_cons_self) with z | z
        · exact z.symm
        · have := a2 x q
          have := a1 y z
          omega
    subst e
    rw [rising_eq b1 b2 fun k => ?_]
    constructor
    · intro q
      rcases List.mem_cons.mp ((h k).mp (List.mem_cons_of_mem _ q)) with z | z
      · have := a1 k q
        omega
      · exact z
    · intro q
      rcases List.mem_cons.mp ((h k).mpr (List.mem_cons_of_mem _ q)) with z | z
      · have := a2 k q
        omega
      · exact z
theorem rising_own (m : Int) (rs : List Row) : (own m rs).Pairwise (· < ·) := by
  unfold own
  refine List.Pairwise.filter _ ?_
  decide
theorem mem_own {m : Int} {rs : List Row} (hin : ∀ r ∈ rs, rowIn r) (k : Int) : k ∈ own m rs ↔ ∃ r ∈ rs, k ∈ r.boxes ∧ m ≤ k := by
  unfold own
  rw [List.mem_filter]
  constructor
  · rintro ⟨_, h⟩
    rw [Bool.and_eq_true, List.any_eq_true] at h
    obtain ⟨h1, r, hr, h2⟩ := h
    exact ⟨r, hr, by simpa using h2, of_decide_eq_true h1⟩
  · rintro ⟨r, hr, h1, h2⟩
    have hb := (hin r hr).2 k h1
    refine ⟨?_, by rw [Bool.and_eq_true, List.any_eq_true]; exact ⟨decide_eq_true h2, r, hr, by simpa using h1⟩⟩
    obtain ⟨z1, z2⟩ := hb
    rw [List.mem_map]
    exact ⟨k.toNat, by rw [List.mem_range]; omega, by omega⟩
theorem few {acc : List Int} (nd : acc.Nodup) (h : ∀ k ∈ acc, box k) : acc.length < 60 := by
  have := len_le (L := (List.range 8).map fun i : Nat => (i : Int)) nd fun k hk => by
    obtain ⟨z1, z2⟩ := h k hk
    rw [List.mem_map]
    exact ⟨k.toNat, by rw [List.mem_range]; omega, by omega⟩
  simp at this
  omega
section
variable {P : Program} {w : World} {K : PySem.W.Frag} {mg : Str → Option Value} {base : Heap}
theorem ok_firstrows (at_ : At K mg "first_rows" s_firstrows ["rows", "many"]) (mb : ∀ x, isB x = true → mg x = none) (G_programboxes : FnN P w K mg base "program_boxes" 2 ["row"] spProgramBoxes) (G_placeof : Fn P w K mg base "place_of" 1 ["box", "many"] spLie) :
    FnN P w K mg base "first_rows" 3 ["rows", "many"] spFirstRows := by
  refine fnN_at at_ fun f fd F => fn_dN F sc_firstrows (fun ds S P h => ?_) ?_
  · obtain ⟨rs, m, rfl, _⟩ := h
    rfl
  · rintro X W0 cdv A outer s H E rfl hr
    have hu := hr.units
    refine ⟨_, (dss_cons (ds_set (i := 2) (de_pure (dn_ssc (own := [("row", 3), ("box", 4)]) (vs1 := [4]) (by decide) (by decide) (by decide) rfl sc_firstrows.nd (di_tup (de_var (pv 0))) (blkOk_by (N := N_firstrows) (sc := defScope s_firstrows) (by decide +kernel)) (fun _ _ _ _ _ => (dg_name (pg_name (i := 3) sc_firstrows.nd rfl (Or.inl rfl)))) (fun _ _ _ _ _ => dts_nil) (fun _ _ _ _ _ => (di_list (de_pure (dn_fn G_programboxes (hr.mono (by decide)) (by rfl) (da_cons (de_var (pv 3)) da_nil))))) (fun _ _ _ _ _ => (dg_name (pg_name (i := 4) sc_firstrows.nd rfl (Or.inl rfl)))) (fun _ _ _ _ _ => (dts_one (dt_cmp op_ge do_ge (de_var (pv 4)) (de_var (pv 1)) (nomark _)))) (fun _ _ _ _ _ => (de_var (pv 4))) (by rfl) (mb "sorted" rfl))) (fun h => ps_set sc_firstrows.nd rfl (by first | exact Or.inl rfl | exact Or.inr rfl) h))
      (dss_one (ds_ret (de_new (dn_lc (own := [("box", 4)]) (by decide) rfl sc_firstrows.nd (di_list (de_var (pv 2))) (blkOk_by (N := N_firstrows) (sc := defScope s_firstrows) (by decide +kernel)) (fun _ _ _ _ _ => (dg_name (pg_name (i := 4) sc_firstrows.nd rfl (Or.inl rfl)))) (fun _ _ _ _ _ => dts_nil) (fun _ _ _ _ _ => (de_tup (da_cons de_str (da_cons (de_fn G_placeof (hr.mono (by decide)) (by rfl) (da_cons (de_var (pv 4)) (da_cons (de_var (pv 1)) da_nil))) (da_cons de_int da_nil)))))))))), ?_⟩
    rintro ds S P ⟨rs, m, rfl, hin, hl, post⟩
    walk_at "st"
    walk_at "d"
    refine i_ssc ?_
    walk_at "d"
    have hget : ∀ (acc : List Int), (S ++ [setOf w acc])[S.length]? = some (setOf w acc) := fun acc => by rw [List.getElem?_append_right (Nat.le_refl _), Nat.sub_self]; rfl
    have hset : ∀ (acc acc' : List Int), (S ++ [setOf w acc]).set S.length (setOf w acc') = S ++ [setOf w acc'] := fun acc acc' => by rw [List.set_append_right _ _ (Nat.le_refl _), Nat.sub_self]; rfl
    refine ⟨fun i S' => ∃ acc, S' = S ++ [setOf w acc] ∧ acc.Nodup ∧ ∀ k, k ∈ acc ↔ ∃ r ∈ rs.take i, k ∈ r.boxes ∧ m ≤ k, ⟨[], rfl, List.nodup_nil, by simp⟩, fun _ _ _ _ => trivial, ?_, ?_⟩
    · rintro i x S' hx ⟨acc, rfl, nd, hm⟩
      rw [List.getElem?_map] at hx
      cases er : rs[i]? with
      | none => rw [er] at hx; cases hx
      | some r =>
        rw [er] at hx
        cases hx
        have hri := hin r (List.mem_of_getElem? er)
        walk_at "d"
        refine ite_t rfl ?_
        refine i_deep ?_
        walk_at "d"
        refine ⟨r, rfl, hri.1, ?_⟩
        walk_at "d"
        have sub : ∀ {k : Int}, (∃ r ∈ rs.take i, k ∈ r.boxes ∧ m ≤ k) → box k := fun ⟨r, hr, h1, _⟩ => (hin r (List.mem_of_mem_take hr)).2 _ h1
        refine ⟨fun j S' => ∃ acc, S' = S ++ [setOf w acc] ∧ acc.Nodup ∧ ∀ k, k ∈ acc ↔ (∃ r ∈ rs.take i, k ∈ r.boxes ∧ m ≤ k) ∨ (k ∈ r.boxes.take j ∧ m ≤ k), ⟨acc, rfl, nd, fun k => by rw [hm k]; simp⟩, fun _ _ _ _ => trivial, ?_, ?_⟩
        · rintro j y S' hy ⟨acc, rfl, nd, hm⟩
          rw [List.getElem?_map] at hy
          cases eb : r.boxes[j]? with
          | none => rw [eb] at hy; cases hy
          | some b =>
            rw [eb] at hy
            cases hy
            have tk : r.boxes.take (j + 1) = r.boxes.take j ++ [b] := by rw [List.take_add_one, eb]; rfl
            walk_at "d"
            walk_at "e"
            by_cases hmb : m ≤ b
            · refine ite_t (decide_eq_true hmb) ?_
              refine i_put ?_
              walk_at "d"
              refine ⟨acc, hget acc, few nd fun k hk => ?_, ins1 acc b, hset _ _, nodup_ins1 nd, fun k => ?_⟩
              · rcases (hm k).mp hk with q | ⟨q, _⟩
                · exact sub q
                · exact hri.2 k (List.mem_of_mem_take q)
              · rw [mem_ins1, hm k, tk, List.mem_append, List.mem_singleton]
                constructor
                · rintro ((q | q) | rfl)
                  · exact .inl q
                  · exact .inr ⟨.inl q.1, q.2⟩
                  · exact .inr ⟨.inr rfl, hmb⟩
                · rintro (q | ⟨q | q, q2⟩)
                  · exact .inl (.inl q)
                  · exact .inl (.inr ⟨q, q2⟩)
                  · exact .inr q
            · refine ite_f (by simpa using hmb) ?_
              refine ⟨acc, rfl, nd, fun k => ?_⟩
              rw [hm k, tk, List.mem_append, List.mem_singleton]
              constructor
              · rintro (q | q)
                · exact .inl q
                · exact .inr ⟨.inl q.1, q.2⟩
              · rintro (q | ⟨q | rfl, q2⟩)
                · exact .inl q
                · exact .inr ⟨q, q2⟩
                · exact absurd q2 hmb
        · rintro S' ⟨acc, rfl, nd, hm⟩
          refine ⟨acc, rfl, nd, fun k => ?_⟩
          rw [hm k, List.length_map, List.take_length, List.take_add_one, er]
          constructor
          · rintro (⟨r', h1, h2⟩ | q)
            · exact ⟨r', List.mem_append_left _ h1, h2⟩
            · exact ⟨r, by simp, q⟩
          · rintro ⟨r', h1, h2⟩
            rcases List.mem_append.mp h1 with h1 | h1
            · exact .inl ⟨r', h1, h2⟩
            · simp at h1
              subst h1
              exact .inr h2
    · rintro S' ⟨acc, rfl, nd, hm⟩
      rw [List.length_map, List.take_length] at hm
      refine ⟨acc, hget acc, few nd fun k hk => ?_, fun ns hs hns => ?_⟩
      · obtain ⟨r, hr, h1, _⟩ := (hm k).mp hk
        exact (hin r hr).2 k h1
      · have e : ns = own m rs := rising_eq hs (rising_own m rs) fun k => by rw [hns k, hm k, mem_own hin k]
        subst e
        have hown := own_len m rs
        walk_at "d"
        walk_at "e"
        refine ⟨fun j ac S2 => S2 = S ++ [setOf w acc] ∧ ac = ((own m rs).take j).map fun b => D.tup [.str "num", .int (lie m b), .int 0], ⟨rfl, rfl⟩, ?_, ?_, ?_⟩
        · rintro j ac S2 hj ⟨rfl, rfl⟩
          exact ⟨trivial, sz_lt (by rw [List.length_map, List.length_take]; omega)⟩
        · rintro j x ac S2 hx ⟨rfl, rfl⟩
          rw [List.getElem?_map] at hx
          cases eb : (own m rs)[j]? with
          | none => rw [eb] at hx; cases hx
          | some b =>
            rw [eb] at hx
            cases hx
            walk_at "d"
            refine ite_t rfl ?_
            walk_at "d"
            refine ⟨b, m, rfl, ?_⟩
            walk_at "d"
            refine ⟨rfl, ?_⟩
            rw [List.take_add_one, eb]
            simp
        rintro ac S2 ⟨rfl, rfl⟩
        rw [List.length_map, List.take_length]
        walk_at "d"
        refine ⟨S, [setOf w acc, .lst (firstRows m rs)], firstRows m rs, S.length + 1, by simp [firstRows], rfl, fun o ho => .inl ho, by simp, by omega, ?_, firstRows_under m _ rs, post⟩
        rw [List.append_assoc, List.getElem?_append_right (by omega)]
        simp [firstRows]
end
abbrev s_Lalike : Stmt := topS 50
abbrev N_Lalike : List Str := ["_law_found", "_law_due", "_law_k"]
theorem sc_Lalike : FnScope N_Lalike ["_law_found", "_law_due"] (defScope s_Lalike) := ⟨rfl, rfl, rfl, by decide +kernel, rfl, by decide +kernel, by decide +kernel⟩
theorem k2_tup : kit2 "tuple" "tuple" "list" = some true := by unfold kit2; rw [kit_tuple_tuple]
theorem k2_int : kit2 "int" "tuple" "list" = some false := by unfold kit2; rw [kit_int_tuple]; exact kit_int_list
theorem k2_str : kit2 "str" "tuple" "list" = some false := by unfold kit2; rw [kit_str_tuple]; exact kit_str_list
/-- tuples of tuples .. of whole numbers and texts -/
def Pl : Nat → D → Prop
  | 0, _ => False
  | _ + 1, .int _ => True
  | _ + 1, .str x => PyData.strOk x = true
  | n + 1, .tup ds => ds.length ≤ 1000 ∧ ∀ d ∈ ds, Pl n d
  | _ + 1, _ => False
def spAlike (n : Nat) : DSp := fun ds S P => ∃ d, ds = [d, d] ∧ Pl n d ∧ P (.bl true) S
section
variable {P : Program} {w : World} {K : PySem.W.Frag} {mg : Str → Option Value} {base : Heap}
theorem ok_Lalike {k n : Nat} (at_ : At K mg "_law_alike" s_Lalike ["_law_found", "_law_due"]) (mb : ∀ x, isB x = true → mg x = none) (G_Lalike : Fn P w K mg base "_law_alike" k ["_law_found", "_law_due"] (spAlike n)) :
    Fn P w K mg base "_law_alike" (k + 1) ["_law_found", "_law_due"] (spAlike (n + 1)) := by
  refine fn_at at_ fun f fd F => fn_d F sc_Lalike (fun ds S P h => ?_) ?_
  · obtain ⟨d, rfl, _⟩ := h
    rfl
  · rintro X W0 cdv A outer s H E rfl hr
    have hu := hr.units
    refine ⟨_, (dss_cons (ds_if (dt_val (de_isi2 (n1 := "tuple") (n2 := "list") (de_var (pv 1)) (by rfl) (mb "isinstance" rfl) (by decide +kernel) (by rfl) (mb "tuple" rfl) (by decide +kernel) (by rfl) (mb "list" rfl) (by decide +kernel))) (dss_cons (ds_if (dt_w (dw_or (dt_not (dt_val (de_isi2 (n1 := "tuple") (n2 := "list") (de_var (pv 0)) (by rfl) (mb "isinstance" rfl) (by decide +kernel) (by rfl) (mb "tuple" rfl) (by decide +kernel) (by rfl) (mb "list" rfl) (by decide +kernel)))) (dw_or1 (dt_cmp (op_neA hu) do_ne (de_b dc_isi (da_cons (de_var (pv 0)) (da_cons (de_bltn (n := "list") (by rfl) (mb "list" rfl) (by decide +kernel)) da_nil)) (fun h => pe_callB call_isi (by rfl) (mb "isinstance" rfl) (by decide +kernel) h)) (de_b dc_isi (da_cons (de_var (pv 1)) (da_cons (de_bltn (n := "list") (by rfl) (mb "list" rfl) (by decide +kernel)) da_nil)) (fun h => pe_callB call_isi (by rfl) (mb "isinstance" rfl) (by decide +kernel) h)) (nomark _))))) (dss_one (ds_ret de_bl)) dss_nil)
      (dss_cons (ds_if (dt_cmp (op_neA hu) do_ne (de_b dc_len (da_cons (de_var (pv 0)) da_nil) (fun h => pe_callB call_len_seq (by rfl) (mb "len" rfl) PySem.boot_len h)) (de_b dc_len (da_cons (de_var (pv 1)) da_nil) (fun h => pe_callB call_len_seq (by rfl) (mb "len" rfl) PySem.boot_len h)) (nomark _)) (dss_one (ds_ret de_bl)) dss_nil)
      (dss_one (ds_ret (de_cmp (op_eqA hu) do_eq (de_pure (dn_lc (own := [("_law_k", 2)]) (by decide) rfl sc_Lalike.nd (di_range1 (by rfl) (mb "range" rfl) (da_cons (de_b dc_len (da_cons (de_var (pv 1)) da_nil) (fun h => pe_callB call_len_seq (by rfl) (mb "len" rfl) PySem.boot_len h)) da_nil)) (blkOk_by (N := N_Lalike) (sc := defScope s_Lalike) (by decide +kernel)) (fun _ _ _ _ _ => (dg_name (pg_name (i := 2) sc_Lalike.nd rfl (Or.inl rfl)))) (fun _ _ _ _ _ => (dts_one (dt_not (dt_val (de_fn G_Lalike (hr.mono (Nat.le_refl _)) (by rfl) (da_cons (de_ix (de_var (pv 0)) (de_var (pv 2)) (fun _ _ => rfl)) (da_cons (de_ix (de_var (pv 1)) (de_var (pv 2)) (fun _ _ => rfl)) da_nil))))))) (fun _ _ _ _ _ => (de_var (pv 2))))) (de_pure (dn_lst da_nil)) (nomark _)))))) dss_nil)
      (dss_cons (ds_if (dt_cmp op_isN do_isN (de_var (pv 1)) de_non (nomark _)) (dss_one (ds_ret (de_cmp op_isN do_isN (de_var (pv 0)) de_non (nomark _)))) dss_nil)
      (dss_cons (ds_if (dt_val (de_b dc_isi (da_cons (de_var (pv 1)) (da_cons (de_bltn (n := "str") (by rfl) (mb "str" rfl) (by decide +kernel)) da_nil)) (fun h => pe_callB call_isi (by rfl) (mb "isinstance" rfl) (by decide +kernel) h))) (dss_one (ds_ret (de_and (de_b dc_isi (da_cons (de_var (pv 0)) (da_cons (de_bltn (n := "str") (by rfl) (mb "str" rfl) (by decide +kernel)) da_nil)) (fun h => pe_callB call_isi (by rfl) (mb "isinstance" rfl) (by decide +kernel) h)) (de_one (de_cmp (op_eqA hu) do_eq (de_var (pv 0)) (de_var (pv 1)) (nomark _)))))) dss_nil)
      (dss_cons (ds_if (dt_w (dw_or (dt_val (de_b dc_isi (da_cons (de_var (pv 1)) (da_cons (de_bltn (n := "bool") (by rfl) (mb "bool" rfl) (by decide +kernel)) da_nil)) (fun h => pe_callB call_isi (by rfl) (mb "isinstance" rfl) (by decide +kernel) h))) (dw_or1 (dt_val (de_b dc_isi (da_cons (de_var (pv 0)) (da_cons (de_bltn (n := "bool") (by rfl) (mb "bool" rfl) (by decide +kernel)) da_nil)) (fun h => pe_callB call_isi (by rfl) (mb "isinstance" rfl) (by decide +kernel) h)))))) (dss_one (ds_ret (de_and (de_b dc_isi (da_cons (de_var (pv 1)) (da_cons (de_bltn (n := "bool") (by rfl) (mb "bool" rfl) (by decide +kernel)) da_nil)) (fun h => pe_callB call_isi (by rfl) (mb "isinstance" rfl) (by decide +kernel) h)) (de_and (de_b dc_isi (da_cons (de_var (pv 0)) (da_cons (de_bltn (n := "bool") (by rfl) (mb "bool" rfl) (by decide +kernel)) da_nil)) (fun h => pe_callB call_isi (by rfl) (mb "isinstance" rfl) (by decide +kernel) h)) (de_one (de_cmp (op_eqA hu) do_eq (de_var (pv 0)) (de_var (pv 1)) (nomark _))))))) dss_nil)
      (dss_one (ds_ret (de_and (de_b dc_isi (da_cons (de_var (pv 0)) (da_cons (de_bltn (n := "int") (by rfl) (mb "int" rfl) (by decide +kernel)) da_nil)) (fun h => pe_callB call_isi (by rfl) (mb "isinstance" rfl) (by decide +kernel) h)) (de_one (de_cmp (op_eqA hu) do_eq (de_var (pv 0)) (de_var (pv 1)) (nomark _)))))))))), ?_⟩
    rintro ds S P ⟨d, rfl, hd, post⟩
    have fin : atExit S P (.bl true) S := exit_pure0 (fun _ => rfl) post
    walk_at "st"
    cases d with
    | tup ds =>
      obtain ⟨hl, hds⟩ := hd
      refine i_seq (i_ifS (i_B (i_isi2 ?_)))
      walk_at "d"
      refine ⟨_, _, rfl, k2_tup, ?_⟩
      walk_at "d"
      refine ite_t rfl ?_
      refine i_seq (i_seq (i_ifS (i_or (i_not (i_B (i_isi2 ?_))))))
      walk_at "d"
      refine ⟨_, _, rfl, k2_tup, ?_⟩
      walk_at "d"
      refine ite_f (by decide) ?_
      walk_at "d"
      refine ite_f (by decide) ?_
      walk_at "d"
      refine ite_f (by simp) ?_
      walk_at "d"
      refine i_rg1 (by omega) (by omega) ?_
      refine ⟨fun _ acc S2 => S2 = S ∧ acc = [], ⟨rfl, rfl⟩, ?_, ?_, ?_⟩
      · rintro i acc S2 hi ⟨rfl, rfl⟩
        exact ⟨trivial, sz_lt (by simp)⟩
      · rintro i x acc S2 hx ⟨rfl, rfl⟩
        obtain ⟨hi, rfl⟩ := rangeD_get hx
        have hi : i < ds.length := by simpa using hi
        have hix : L2.atI ds (0 + (i : Int)) = some ds[i] := by rw [Int.zero_add]; exact atI_nat (List.getElem?_eq_getElem hi)
        walk_at "d"
        refine i_ix rfl hix ?_
        walk_at "d"
        refine i_ix rfl hix ?_
        walk_at "d"
        refine ⟨ds[i], rfl, hds _ (List.getElem_mem hi), ?_⟩
        walk_at "d"
        refine ite_f (by decide) ?_
        exact ⟨rfl, rfl⟩
      · rintro acc S2 ⟨rfl, rfl⟩
        walk_at "d"
        refine i_eqNil (ns := []) rfl ?_
        exact fin
    | int i =>
      refine i_seq (i_ifS (i_B (i_isi2 ?_)))
      walk_at "d"
      refine ⟨_, _, rfl, k2_int, ?_⟩
      walk_at "d"
      refine ite_f (by decide) ?_
      walk_at "d"
      refine ite_f (fun z => nomatch (show false = true from z)) ?_
      walk_at "d"
      refine ite_f (by decide) ?_
      walk_at "d"
      refine ite_f (by decide) ?_
      walk_at "d"
      refine ite_f (by decide) ?_
      walk_at "d"
      refine ite_t (by decide) ?_
      walk_at "d"
      rw [show (id (decide (i = i)) : Bool) = true from decide_eq_true rfl]
      exact fin
    | str x =>
      refine i_seq (i_ifS (i_B (i_isi2 ?_)))
      walk_at "d"
      refine ⟨_, _, rfl, k2_str, ?_⟩
      walk_at "d"
      refine ite_f (by decide) ?_
      walk_at "d"
      refine ite_f (fun z => nomatch (show false = true from z)) ?_
      walk_at "d"
      refine ite_t (by decide) ?_
      walk_at "d"
      refine ite_t (by decide) ?_
      walk_at "d"
      rw [show (id (decide (x = x)) : Bool) = true from decide_eq_true rfl]
      exact fin
    | _ => exact hd.elim
/-- nothing is promised at depth 0 -/
theorem ok_Lalike0 (at_ : At K mg "_law_alike" s_Lalike ["_law_found", "_law_due"]) : Fn P w K mg base "_law_alike" 0 ["_law_found", "_law_due"] (spAlike 0) := by
  have no : ∀ {vs : List V} {H : Hp} {Q : VK} {E : XK}, ¬ liftSp K (spAlike 0) vs H Q E := fun ⟨_, _, _, _, _, _, ⟨_, _, hd, _⟩, _⟩ => hd
  exact fn_at at_ fun f fd F => ⟨fun vs H Q E h => (no h).elim, fun _ _ _ _ _ _ _ _ _ _ _ _ _ h => (no h).elim⟩
theorem row_pl {m : Int} {n : Nat} {r : Row} (h : r.short) : ∀ d ∈ crow m r, Pl (n + 2) d := by
  have out : ∀ (k : Nat) (bs : List Int), ∀ d ∈ outs m k bs, Pl (n + 2) d := fun k bs => by
    induction bs generalizing k with
    | nil => intro d hd; cases hd
    | cons b bs ih =>
      intro d hd
      rcases List.mem_cons.mp hd with rfl | hd
      · exact ⟨by simp, fun d hd => by simp only [List.mem_cons, List.not_mem_nil, or_false] at hd; rcases hd with rfl | rfl | rfl <;> first | trivial | (show PyData.strOk _ = true; decide +kernel)⟩
      · exact ih (k + 1) d hd
  have one : ∀ ds : List D, ds.length ≤ 1000 → (∀ d ∈ ds, Pl (n + 1) d) → Pl (n + 2) (.tup ds) := fun ds a b => ⟨a, b⟩
  intro d hd
  cases r with
  | call b f bs =>
    rcases List.mem_append.mp hd with hd | hd
    · exact out 0 bs d hd
    · simp only [List.mem_cons, List.not_mem_nil, or_false] at hd
      rcases hd with rfl | rfl
      · exact one _ (by simp) fun d hd => by simp only [List.mem_cons, List.not_mem_nil, or_false] at hd; rcases hd with rfl | rfl <;> first | trivial | (show PyData.strOk _ = true; decide +kernel)
      · exact one _ (by simp) fun d hd => by simp only [List.mem_cons, List.not_mem_nil, or_false] at hd; rcases hd with rfl | rfl | rfl <;> first | trivial | (show PyData.strOk _ = true; decide +kernel)
  | num b k => cases List.mem_singleton.mp hd; exact one _ (by simp) fun d hd => by simp only [List.mem_cons, List.not_mem_nil, or_false] at hd; rcases hd with rfl | rfl | rfl <;> first | trivial | (show PyData.strOk _ = true; decide +kernel)
  | skip b k => cases List.mem_singleton.mp hd; exact one _ (by simp) fun d hd => by simp only [List.mem_cons, List.not_mem_nil, or_false] at hd; rcases hd with rfl | rfl | rfl <;> first | trivial | (show PyData.strOk _ = true; decide +kernel)
  | ar w' b c d' => cases List.mem_singleton.mp hd; exact one _ (by simp) fun d hd => by simp only [List.mem_cons, List.not_mem_nil, or_false] at hd; rcases hd with rfl | rfl | rfl | rfl <;> first | trivial | (show PyData.strOk _ = true; cases w' <;> decide +kernel)
  | say b => cases List.mem_singleton.mp hd; exact one _ (by simp) fun d hd => by simp only [List.mem_cons, List.not_mem_nil, or_false] at hd; rcases hd with rfl | rfl <;> first | trivial | (show PyData.strOk _ = true; decide +kernel)
  | rest => cases List.mem_singleton.mp hd; exact one _ (by simp) fun d hd => by simp only [List.mem_cons, List.not_mem_nil, or_false] at hd; rcases hd with rfl; (show PyData.strOk _ = true); decide +kernel
  | tell b =>
    have hd : d ∈ [D.tup [.str "copy", .int 0, .int (lie m b)], D.tup [.str "back"]] := hd
    simp only [List.mem_cons, List.not_mem_nil, or_false] at hd
    rcases hd with rfl | rfl
    · exact one _ (by simp) fun d hd => by simp only [List.mem_cons, List.not_mem_nil, or_false] at hd; rcases hd with rfl | rfl | rfl <;> first | trivial | (show PyData.strOk _ = true; decide +kernel)
    · exact one _ (by simp) fun d hd => by simp only [List.mem_cons, List.not_mem_nil, or_false] at hd; rcases hd with rfl; (show PyData.strOk _ = true); decide +kernel
theorem body_pl {m : Int} {ns : List Int} {n : Nat} : ∀ (k : Nat) (rs : List Row), (∀ r ∈ rs, r.short) → ∀ d ∈ bodyTo m ns k rs, Pl (n + 2) d
  | _, [], _, d, hd => nomatch hd
  | k, r :: rs, h, d, hd => by
    rcases List.mem_append.mp hd with hd | hd
    · rcases skip_or m ns k r with ⟨b, j, rfl⟩ | ⟨_, _, _, _, e⟩
      · cases List.mem_singleton.mp hd
        exact ⟨by simp, fun d hd => by simp only [List.mem_cons, List.not_mem_nil, or_false] at hd; rcases hd with rfl | rfl | rfl <;> first | trivial | (show PyData.strOk _ = true; decide +kernel)⟩
      · rw [e] at hd
        exact row_pl (h r List.mem_cons_self) d hd
    · exact body_pl (k + 1) rs (fun x hx => h x (List.mem_cons_of_mem _ hx)) d hd
theorem code_pl {p : List Func} (hp : progOk p) : Pl 5 (codeE p) := by
  refine ⟨by rw [List.length_map]; have := hp.hi; omega, fun d hd => ?_⟩
  obtain ⟨f, hf, rfl⟩ := List.mem_map.mp hd
  have hin := rowIn_of hp hf
  have hl := (hp.fs f hf).len
  have hlen := bodyTo_len f.many (sizes f.many f.rows) 0 f.rows fun r hr => (hin r hr).1
  have hown := own_len f.many f.rows
  refine ⟨by simp, fun d hd => ?_⟩
  simp only [List.mem_cons, List.not_mem_nil, or_false] at hd
  rcases hd with rfl | rfl
  · trivial
  refine ⟨by simp only [List.length_append, firstRows, List.length_map, lastRows, List.length_cons, List.length_nil]; omega, fun d hd => ?_⟩
  rcases List.mem_append.mp hd with hd | hd
  · rcases List.mem_append.mp hd with hd | hd
    · obtain ⟨b, _, rfl⟩ := List.mem_map.mp hd
      exact ⟨by simp, fun d hd => by simp only [List.mem_cons, List.not_mem_nil, or_false] at hd; rcases hd with rfl | rfl | rfl <;> first | trivial | (show PyData.strOk _ = true; decide +kernel)⟩
    · exact body_pl (n := 0) 0 f.rows (fun r hr => (hin r hr).1) d hd
  · have hd : d ∈ [D.tup [.str "num", .int 0, .int 0], D.tup [.str "back"]] := hd
    simp only [List.mem_cons, List.not_mem_nil, or_false] at hd
    rcases hd with rfl | rfl
    · exact ⟨by simp, fun d hd => by simp only [List.mem_cons, List.not_mem_nil, or_false] at hd; rcases hd with rfl | rfl | rfl <;> first | trivial | (show PyData.strOk _ = true; decide +kernel)⟩
    · exact ⟨by simp, fun d hd => by simp only [List.mem_cons, List.not_mem_nil, or_false] at hd; rcases hd with rfl; (show PyData.strOk _ = true); decide +kernel⟩
theorem pl_py (S : Sto) : ∀ (n : Nat) (d : D), Pl n d → ∃ q, pyOf S n d = some q ∧ q.canLay0 = true ∧ q.depth ≤ n
  | 0, _, h => h.elim
  | n + 1, .int i, _ => ⟨.int i, rfl, by simp only [PyData.canLay0], by simp only [PyData.depth]; exact Nat.zero_le _⟩
  | n + 1, .str x, h => ⟨.str x, rfl, by simp only [PyData.canLay0]; exact h, by simp only [PyData.depth]; exact Nat.zero_le _⟩
  | n + 1, .tup ds, ⟨_, h⟩ => by
    have all : ∀ ds : List D, (∀ d ∈ ds, Pl n d) → ∃ qs, allOf (pyOf S n) ds = some qs ∧ PyData.canLayAll0 qs = true ∧ PyData.depthAll qs ≤ n := fun ds => by
      induction ds with
      | nil => exact fun _ => ⟨[], rfl, by simp only [PyData.canLayAll0], by simp only [PyData.depthAll]; exact Nat.zero_le _⟩
      | cons d ds ih =>
        intro h
        obtain ⟨q, e1, c1, d1⟩ := pl_py S n d (h d List.mem_cons_self)
        obtain ⟨qs, e2, c2, d2⟩ := ih fun x hx => h x (List.mem_cons_of_mem _ hx)
        refine ⟨q :: qs, by simp only [allOf, e1, e2], ?_, ?_⟩
        · rw [PyData.canLayAll0, c1, c2]
          rfl
        · rw [PyData.depthAll]
          exact Nat.max_le.mpr ⟨d1, d2⟩
    obtain ⟨qs, e, c, dp⟩ := all ds h
    exact ⟨.tuple qs, by simp only [pyOf, e]; rfl, by rw [PyData.canLay0]; exact c, by rw [PyData.depth]; exact Nat.succ_le_succ dp⟩
  | _ + 1, .non, h => h.elim
  | _ + 1, .bl _, h => h.elim
  | _ + 1, .lst _, h => h.elim
  | _ + 1, .ref _, h => h.elim
  | _ + 1, .dct _ _, h => h.elim
  | _ + 1, .ty _, h => h.elim
  | _ + 1, .scr _, h => h.elim
theorem i_same {g : Bool → Bool} {S : Sto} {P : DP} {n : Nat} {xs : List D} (h : Pl n (.tup xs)) (hn : n ≤ 64) (p : P (.bl (g true)) S) : dEqG g (.tup xs) (.tup xs) S P := by
  obtain ⟨q, e, c, dp⟩ := pl_py S n _ h
  exact i_eqSame e c (Nat.le_trans dp hn) p
end
abbrev s_Lmix : Stmt := topS 44
abbrev N_Lmix : List Str := ["_law_script", "_law_seed", "_law_mixed", "_law_cell"]
theorem sc_Lmix : FnScope N_Lmix ["_law_script", "_law_seed"] (defScope s_Lmix) := ⟨rfl, rfl, rfl, by decide +kernel, rfl, by decide +kernel, by decide +kernel⟩
def spMix : DSp := fun ds S P => ∃ (ns : List Int) (k : Int), ds = [.scr ns, .int k] ∧ S = [] ∧ ∀ m, P (.ref 1) (hd ⟨ns, m, 0⟩)
def spLaw : DSp := fun ds S P => ∃ (ns : List Int), ds = [.scr ns] ∧ S = [] ∧ P (.bl true) []
section
variable {P : Program} {w : World} {K : PySem.W.Frag} {mg : Str → Option Value} {base : Heap}
theorem ok_Lmix (at_ : At K mg "_law_mix" s_Lmix ["_law_script", "_law_seed"]) (mb : ∀ x, isB x = true → mg x = none) : Fn P w K mg base "_law_mix" 1 ["_law_script", "_law_seed"] spMix := by
  refine fn_at at_ fun f fd F => fn_dK F sc_Lmix (fun ds S P h => ?_) ?_
  · obtain ⟨ns, k, rfl, _⟩ := h
    rfl
  · rintro X W0 cdv A outer s H E rfl hr
    have hu := hr.units
    refine ⟨_, (dss_cons (ds_set (i := 2) (de_var (pv 1)) (fun h => ps_set sc_Lmix.nd rfl (by first | exact Or.inl rfl | exact Or.inr rfl) h))
      (dss_cons (ds_for PassesOwn.never rfl (di_list (de_var (pv 0))) (dg_name (pg_name (i := 3) sc_Lmix.nd rfl (by first | exact Or.inl rfl | exact Or.inr rfl))) (dss_one (ds_set (i := 2) (de_mod (de_add (de_add (de_mul (de_var (pv 2)) de_int) (de_mod (de_var (pv 3)) de_int)) de_int) de_int) (fun h => ps_set sc_Lmix.nd rfl (by first | exact Or.inl rfl | exact Or.inr rfl) h))))
      (dss_one (ds_ret (de_new (dn_lst (da_cons (de_var (pv 2)) (da_cons (de_new (dn_b dc_list (da_cons (de_var (pv 0)) da_nil) (fun h => pe_callTy call_list_of (by rfl) (mb "list" rfl) (by decide +kernel) h))) (da_cons de_int da_nil))))))))), ?_⟩
    rintro ds S P ⟨ns, k, rfl, rfl, post⟩
    walk_at "st"
    walk_at "d"
    walk_at "e"
    refine ⟨fun i env S' => S' = [] ∧ ∃ m y3, env = [some (.scr ns), some (.int k), some (.int m), y3], ⟨rfl, k, none, rfl⟩, fun _ _ _ _ _ => trivial, ?_, ?_⟩
    · rintro i x env S' hx ⟨rfl, m, y3, rfl⟩
      rw [List.getElem?_map] at hx
      cases ec : ns[i]? with
      | none => rw [ec] at hx; cases hx
      | some c =>
        rw [ec] at hx
        cases hx
        walk_at "d"
        walk_at "e"
        walk_at "d"
        exact ⟨rfl, _, _, rfl⟩
    · rintro env S' ⟨rfl, m, y3, rfl⟩
      walk_at "d"
      exact post m
end
abbrev s_checkcode : Stmt := topS 26
abbrev N_checkcode : List Str := ["code", "bad", "function", "row"]
theorem sc_checkcode : FnScope N_checkcode ["code"] (defScope s_checkcode) := ⟨rfl, rfl, rfl, by decide +kernel, rfl, by decide +kernel, by decide +kernel⟩
abbrev s_codeboxes : Stmt := topS 20
abbrev N_codeboxes : List Str := ["row"]
theorem sc_codeboxes : FnScope N_codeboxes ["row"] (defScope s_codeboxes) := ⟨rfl, rfl, rfl, by decide +kernel, rfl, by decide +kernel, by decide +kernel⟩
/-! ### rows of codes -/
inductive CRow where
  | num (x n : Int) | copy (x y : Int) | ar (w : Ar) (x y z : Int) | call (f : Int) | skip (x n : Int) | say (x : Int) | rest | back
def CRow.e : CRow → D
  | .num x n => .tup [.str "num", .int x, .int n]
  | .copy x y => .tup [.str "copy", .int x, .int y]
  | .ar w x y z => .tup [.str w.s, .int x, .int y, .int z]
  | .call f => .tup [.str "call", .int f]
  | .skip x n => .tup [.str "skip", .int x, .int n]
  | .say x => .tup [.str "say", .int x]
  | .rest => .tup [.str "rest"]
  | .back => .tup [.str "back"]
def CRow.boxes : CRow → List Int
  | .num x _ => [x]
  | .copy x y => [x, y]
  | .ar _ x y z => [x, y, z]
  | .skip x _ => [x]
  | .say x => [x]
  | _ => []
def cb (x : Int) : Prop := 0 ≤ x ∧ x < 16
def CRow.ok (nf cnt : Int) : CRow → Prop
  | .num x n => cb x ∧ 0 ≤ n ∧ n < 1000
  | .copy x y => cb x ∧ cb y
  | .ar _ x y z => cb x ∧ cb y ∧ cb z
  | .call f => 0 ≤ f ∧ f < nf
  | .skip x n => cb x ∧ 0 ≤ n ∧ n < cnt
  | .say x => cb x
  | _ => True
def cdSh : Shp := [("num", ["box", "number"]), ("copy", ["box", "box"]), ("plus", ["box", "box", "box"]), ("less", ["box", "box", "box"]), ("times", ["box", "box", "box"]), ("call", ["function"]), ("skip", ["box", "count"]), ("say", ["box"]), ("rest", []), ("back", [])]
theorem cdSh_ok : shOk cdSh := by
  intro p hp
  simp only [cdSh, List.mem_cons, List.not_mem_nil, or_false] at hp
  rcases hp with rfl | rfl | rfl | rfl | rfl | rfl | rfl | rfl | rfl | rfl <;> exact .inl (by decide)
theorem rcan_code {cs : List Int} {cnt : Int} {r : CRow} (h : r.ok cs.length cnt) : rcan cdSh 16 cnt cs r.e = true := by
  cases r with
  | num x n =>
    obtain ⟨h1, h2, h3⟩ := h
    show (true && (inB 16 (.int x) && (inB 1000 (.int n) && true))) = true
    rw [inB_of h1.1 h1.2, inB_of h2 h3]
    rfl
  | copy x y =>
    obtain ⟨h1, h2⟩ := h
    show (true && (inB 16 (.int x) && (inB 16 (.int y) && true))) = true
    rw [inB_of h1.1 h1.2, inB_of h2.1 h2.2]
    rfl
  | ar w' x y z =>
    obtain ⟨h1, h2, h3⟩ := h
    have e : rcan cdSh 16 cnt cs (CRow.e (.ar w' x y z)) = (true && (inB 16 (.int x) && (inB 16 (.int y) && (inB 16 (.int z) && true)))) := by cases w' <;> rfl
    rw [e, inB_of h1.1 h1.2, inB_of h2.1 h2.2, inB_of h3.1 h3.2]
    rfl
  | call f =>
    show (true && (inB cs.length (.int f) && true)) = true
    rw [inB_of h.1 h.2]
    rfl
  | skip x n =>
    obtain ⟨h1, h2, h3⟩ := h
    show (true && (inB 16 (.int x) && (inB cnt (.int n) && true))) = true
    rw [inB_of h1.1 h1.2, inB_of h2 h3]
    rfl
  | say x =>
    show (true && (inB 16 (.int x) && true)) = true
    rw [inB_of h.1 h.2]
    rfl
  | rest => rfl
  | back => rfl
theorem dat_crow (r : CRow) : dat r.e = true := by cases r <;> rfl
theorem under_crow (n : Nat) (r : CRow) : r.e.under n = true := by cases r <;> rfl
/-! ### made codes -/
def outsC (m : Int) : Nat → List Int → List CRow
  | _, [] => []
  | k, b :: bs => .copy (12 + (k : Int)) (lie m b) :: outsC m (k + 1) bs
def pieceC (m : Int) (ns : List Int) (j : Nat) : Row → List CRow
  | .num b n => [.num (lie m b) n]
  | .ar w b c d => [.ar w (lie m b) (lie m c) (lie m d)]
  | .call b f bs => outsC m 0 bs ++ [.call f, .copy (lie m b) 12]
  | .skip b n => [.skip (lie m b) (DL.cutD ns (some ((j : Int) + 1)) (some ((j : Int) + 1 + n))).sum]
  | .say b => [.say (lie m b)]
  | .rest => [.rest]
  | .tell b => [.copy 0 (lie m b), .back]
def bodyC (m : Int) (ns : List Int) : Nat → List Row → List CRow
  | _, [] => []
  | j, r :: rs => pieceC m ns j r ++ bodyC m ns (j + 1) rs
def firstC (m : Int) (rs : List Row) : List CRow := (own m rs).map fun b => .num (lie m b) 0
def lastC : List CRow := [.num 0 0, .back]
def fnC (f : Func) : List CRow := firstC f.many f.rows ++ (bodyC f.many (sizes f.many f.rows) 0 f.rows ++ lastC)
theorem outsC_e (m : Int) : ∀ (k : Nat) (bs : List Int), (outsC m k bs).map CRow.e = outs m k bs
  | _, [] => rfl
  | k, b :: bs => by simp only [outsC, outs, List.map_cons, outsC_e m (k + 1) bs]; rfl
theorem pieceC_e (m : Int) (ns : List Int) (j : Nat) (r : Row) : (pieceC m ns j r).map CRow.e = piece m ns j r := by
  cases r with
  | call b f bs => show (outsC m 0 bs ++ _).map CRow.e = outs m 0 bs ++ _; rw [List.map_append, outsC_e]; rfl
  | _ => rfl
theorem bodyC_e (m : Int) (ns : List Int) : ∀ (k : Nat) (rs : List Row), (bodyC m ns k rs).map CRow.e = bodyTo m ns k rs
  | _, [] => rfl
  | k, r :: rs => by simp only [bodyC, bodyTo, List.map_append, pieceC_e, bodyC_e m ns (k + 1) rs]
theorem codeFn_e (f : Func) : codeFn f = .tup [.int f.many, .tup ((fnC f).map CRow.e)] := by
  unfold codeFn fnC
  rw [List.map_append, List.map_append, bodyC_e, List.append_assoc]
  unfold firstRows firstC
  rw [List.map_map]
  rfl
theorem pieceC_len (m : Int) (ns : List Int) (j : Nat) (r : Row) : (pieceC m ns j r).length = (crow m r).length := by
  cases r with
  | call b f bs => show (outsC m 0 bs ++ _).length = (outs m 0 bs ++ _).length; rw [← outsC_e, List.length_append, List.length_append, List.length_map]; rfl
  | _ => rfl
theorem crow_pos (m : Int) (r : Row) : 1 ≤ (crow m r).length := by
  cases r with
  | call b f bs => show 1 ≤ (outs m 0 bs ++ _).length; rw [List.length_append]; simp
  | _ => simp [crow]
theorem bodyC_len (m : Int) (ns : List Int) : ∀ (k : Nat) (rs : List Row), ((bodyC m ns k rs).length : Int) = (sizes m rs).sum
  | _, [] => rfl
  | k, r :: rs => by
    have ih := bodyC_len m ns (k + 1) rs
    simp only [bodyC, List.length_append, pieceC_len]
    show _ = (((crow m r).length : Int) :: sizes m rs).sum
    rw [List.sum_cons, ← ih]
    omega
theorem sizes_pos (m : Int) (rs : List Row) : ∀ s ∈ sizes m rs, 1 ≤ s := fun s hs => by
  obtain ⟨r, _, rfl⟩ := List.mem_map.mp hs
  have := crow_pos m r
  omega
theorem sum_nonneg : ∀ {l : List Int}, (∀ s ∈ l, 1 ≤ s) → 0 ≤ l.sum
  | [], _ => by simp
  | x :: l, h => by
    have := h x List.mem_cons_self
    have := sum_nonneg fun s hs => h s (List.mem_cons_of_mem _ hs)
    rw [List.sum_cons]
    omega
theorem sum_take_le : ∀ {l : List Int} (n : Nat), (∀ s ∈ l, 1 ≤ s) → 0 ≤ (l.take n).sum ∧ (l.take n).sum ≤ l.sum
  | [], n, _ => by simp
  | x :: l, 0, h => ⟨by simp, by simpa using sum_nonneg h⟩
  | x :: l, n + 1, h => by
    have h1 := h x List.mem_cons_self
    have ⟨h2, h3⟩ := sum_take_le (l := l) n fun s hs => h s (List.mem_cons_of_mem _ hs)
    simp only [List.take_succ_cons, List.sum_cons]
    omega
theorem cutD_part (ns : List Int) (k : Nat) (n : Int) (hn : 0 ≤ n) (hk : k ≤ ns.length) : DL.cutD ns (some (k : Int)) (some ((k : Int) + n)) = (ns.drop k).take n.toNat := by
  obtain ⟨n, rfl⟩ : ∃ z : Nat, n = z := ⟨n.toNat, by omega⟩
  unfold DL.cutD
  rw [HT.sIx_nat, show (k : Int) + (n : Int) = ((k + n : Nat) : Int) by omega, HT.sIx_nat, Nat.min_eq_left hk, Int.toNat_natCast]
  by_cases h : k + n ≤ ns.length
  · rw [Nat.min_eq_left h, show k + n - k = n by omega]
  · rw [Nat.min_eq_right (by omega), List.take_of_length_le (i := n) (by rw [List.length_drop]; omega), List.take_of_length_le (by rw [List.length_drop]; omega)]
/-- the count of a skip -/
theorem skip_count {m : Int} {ns : List Int} {k : Nat} {rs : List Row} {r : Row} {n : Int} (hns : ns.drop k = sizes m (r :: rs)) (h0 : 0 ≤ n) : (DL.cutD ns (some ((k : Int) + 1)) (some ((k : Int) + 1 + n))).sum = ((sizes m rs).take n.toNat).sum := by
  have hd : ns.drop (k + 1) = sizes m rs := by
    rw [← List.drop_drop, hns]
    rfl
  have hl : k + 1 ≤ ns.length := by
    have := congrArg List.length hns
    rw [List.length_drop] at this
    simp [sizes] at this
    omega
  rw [show (k : Int) + 1 = ((k + 1 : Nat) : Int) by omega, cutD_part ns (k + 1) n h0 hl, hd]
def goodC (nf : Int) (L : List CRow) : Prop := ∀ (j : Nat) r, L[j]? = some r → r.ok nf ((L.length : Int) - (j : Int))
theorem good_cons {nf : Int} {r : CRow} {L : List CRow} (h : r.ok nf ((L.length : Int) + 1)) (g : goodC nf L) : goodC nf (r :: L) := by
  intro j q hq
  cases j with
  | zero => cases hq; simpa using h
  | succ j =>
    have := g j q (by simpa using hq)
    rw [show (((r :: L).length : Nat) : Int) - ((j + 1 : Nat) : Int) = (L.length : Int) - (j : Int) by simp; omega]
    exact this
theorem good_app {nf : Int} {L : List CRow} : ∀ {A : List CRow}, (∀ r ∈ A, ∀ cnt, 1 ≤ cnt → r.ok nf cnt) → goodC nf L → goodC nf (A ++ L)
  | [], _, g => g
  | a :: A, h, g => good_cons (h a List.mem_cons_self _ (by omega)) (good_app (fun r hr => h r (List.mem_cons_of_mem _ hr)) g)
theorem lie_in {m b : Int} (hm : 0 ≤ m ∧ m ≤ 3) (hb : box b) : 0 ≤ lie m b ∧ lie m b < 12 := by
  obtain ⟨h1, h2⟩ := hb
  unfold lie
  split <;> omega
theorem lie_cb {m b : Int} (hm : 0 ≤ m ∧ m ≤ 3) (hb : box b) : cb (lie m b) := by
  have := lie_in hm hb
  exact ⟨this.1, by omega⟩
theorem outsC_ok {m nf : Int} (hm : 0 ≤ m ∧ m ≤ 3) : ∀ (k : Nat) (bs : List Int), k + bs.length ≤ 3 → (∀ x ∈ bs, box x) → ∀ r ∈ outsC m k bs, ∀ cnt, r.ok nf cnt
  | _, [], _, _, r, hr, _ => absurd hr List.not_mem_nil
  | k, b :: bs, hl, hb, r, hr, cnt => by
    simp only [List.length_cons] at hl
    rcases List.mem_cons.mp hr with rfl | hr
    · exact ⟨⟨by omega, by omega⟩, lie_cb hm (hb b List.mem_cons_self)⟩
    · exact outsC_ok hm (k + 1) bs (by omega) (fun x hx => hb x (List.mem_cons_of_mem _ hx)) r hr cnt
theorem bodyC_good {m : Int} {cs ns : List Int} (hm : 0 ≤ m ∧ m ≤ 3) (hc : ∀ c ∈ cs, 0 ≤ c ∧ c ≤ 3) : ∀ (k : Nat) (rs : List Row), ns.drop k = sizes m rs → rowsOk (moOf cs) rs → goodC cs.length (bodyC m ns k rs ++ lastC)
  | _, [], _, _ => good_cons ⟨⟨by decide, by decide⟩, by decide, by decide⟩ (good_cons trivial fun j r h => by simp at h)
  | k, r :: rs, hns, hok => by
    have hd : ns.drop (k + 1) = sizes m rs := by
      rw [← List.drop_drop, hns]
      rfl
    have ih := bodyC_good hm hc (k + 1) rs hd fun i q hq => by
      have := hok (i + 1) q (by simpa using hq)
      rw [show (((r :: rs).length : Nat) : Int) - 1 - ((i + 1 : Nat) : Int) = (rs.length : Int) - 1 - (i : Int) by simp; omega] at this
      exact this
    have hr := hok 0 r rfl
    rw [show (((r :: rs).length : Nat) : Int) - 1 - ((0 : Nat) : Int) = (rs.length : Int) by simp] at hr
    have hsh := short_of hc hr
    show goodC _ ((pieceC m ns k r ++ bodyC m ns (k + 1) rs) ++ lastC)
    rw [List.append_assoc]
    cases r with
    | num b n =>
      obtain ⟨h1, h2, h3⟩ := hr
      exact good_cons ⟨lie_cb hm h1, h2, h3⟩ ih
    | ar w' b c d =>
      obtain ⟨h1, h2, h3⟩ := hr
      exact good_cons ⟨lie_cb hm h1, lie_cb hm h2, lie_cb hm h3⟩ ih
    | call b f bs =>
      obtain ⟨h1, h2, h3⟩ := hr
      obtain ⟨f0, f1, _⟩ := moOf_at h2 fun c hc' => (hc c hc').1
      have hl : bs.length ≤ 3 := hsh
      show goodC _ ((outsC m 0 bs ++ [CRow.call f, .copy (lie m b) 12]) ++ _)
      rw [List.append_assoc]
      exact good_app (fun q hq cnt _ => outsC_ok hm 0 bs (by omega) h3 q hq cnt) (good_cons ⟨f0, f1⟩ (good_cons ⟨lie_cb hm h1, by decide, by decide⟩ ih))
    | skip b n =>
      obtain ⟨h1, h2, h3⟩ := hr
      have e := skip_count hns h2
      have hs := sum_take_le (l := sizes m rs) n.toNat (sizes_pos m rs)
      refine good_cons ⟨lie_cb hm h1, by rw [e]; exact hs.1, ?_⟩ ih
      show _ < (((bodyC m ns (k + 1) rs ++ lastC).length : Nat) : Int) + 1
      rw [e, List.length_append, show (((bodyC m ns (k + 1) rs).length + lastC.length : Nat) : Int) = (sizes m rs).sum + 2 by rw [← bodyC_len m ns (k + 1) rs]; rfl]
      omega
    | say b => exact good_cons (lie_cb hm hr) ih
    | rest => exact good_cons trivial ih
    | tell b => exact good_cons ⟨⟨by decide, by decide⟩, lie_cb hm hr⟩ (good_cons trivial ih)
theorem fnC_len {f : Func} (hl : f.rows.length ≤ 30) (hs : ∀ r ∈ f.rows, r.short) : (fnC f).length ≤ 160 := by
  have h1 := own_len f.many f.rows
  have h2 := bodyTo_len f.many (sizes f.many f.rows) 0 f.rows hs
  rw [← bodyC_e, List.length_map] at h2
  unfold fnC firstC
  rw [List.length_append, List.length_append, List.length_map]
  show _ + (_ + 2) ≤ 160
  omega
theorem fbad_made {p : List Func} (hp : progOk p) : fbad cdSh 16 200 (codeE p) = none := by
  have e : codeE p = .tup ((p.map fun f : Func => ((f.many, (fnC f).map CRow.e) : Gf)).map Gf.e) := by
    unfold codeE
    rw [List.map_map]
    congr 1
    exact List.map_congr_left fun f _ => codeFn_e f
  have hl := hp.lo
  have hc := many_le hp
  have ems : (p.map fun f : Func => ((f.many, (fnC f).map CRow.e) : Gf)).map (·.1) = p.map Func.many := by rw [List.map_map]; rfl
  rw [e, fbad_none (by intro z; rw [List.map_eq_nil_iff] at z; rw [z] at hl; simp at hl) (by rw [List.length_map]; exact hp.hi)]
  · intro g hg
    obtain ⟨f, hf, rfl⟩ := List.mem_map.mp hg
    have fo := hp.fs f hf
    have := fnC_len fo.len fun r hr => (rowIn_of hp hf r hr).1
    exact ⟨fo.lo, fo.hi, by simp only [List.length_map]; omega⟩
  · intro g hg j r hr
    obtain ⟨f, hf, rfl⟩ := List.mem_map.mp hg
    have fo := hp.fs f hf
    have hr : ((fnC f).map CRow.e)[j]? = some r := hr
    rw [List.getElem?_map] at hr
    cases er : (fnC f)[j]? with
    | none => rw [er] at hr; cases hr
    | some q =>
      rw [er] at hr
      cases hr
      rw [ems]
      refine rcan_code ?_
      have hm : 0 ≤ f.many ∧ f.many ≤ 3 := ⟨fo.lo, fo.hi⟩
      have g := good_app (A := firstC f.many f.rows) (fun q hq cnt _ => ?_) (bodyC_good (cs := p.map Func.many) (ns := sizes f.many f.rows) hm hc 0 f.rows rfl fo.rows)
      · have := g j q er
        show q.ok ((p.map Func.many).length : Int) (((((fnC f).map CRow.e).length : Nat) : Int) - (j : Int))
        rw [List.length_map (f := CRow.e)]
        exact this
      · obtain ⟨b, hb, rfl⟩ := List.mem_map.mp hq
        have hb2 := (mem_own (rowIn_of hp hf) b).mp hb
        obtain ⟨r', hr', h1, _⟩ := hb2
        exact ⟨lie_cb hm ((rowIn_of hp hf r' hr').2 b h1), by decide, by decide⟩
theorem dat_code (p : List Func) : dat (codeE p) = true := dats_of fun x hx => by
  obtain ⟨f, _, rfl⟩ := List.mem_map.mp hx
  rw [codeFn_e]
  exact dat_fn fun r hr => by
    obtain ⟨q, _, rfl⟩ := List.mem_map.mp hr
    exact dat_crow q
def CdTab (P : Program) (w : World) (K : PySem.W.Frag) (mg : Str → Option Value) : Prop := ∃ a, mg "CODE_ROWS" = some (.ref a) ∧ KTab P w K a (shKs cdSh) (shDs cdSh) ∧ KGet w K a (shKs cdSh) (shDs cdSh)
def spCheckC : DSp := fun ds S P => ∃ (p : List Func), ds = [codeE p] ∧ progOk p ∧ P .non S
def spCodeBoxes : DSpN := fun ds S P => ∃ r : CRow, ds = [r.e] ∧ P (r.boxes.map .int) S
section
variable {P : Program} {w : World} {K : PySem.W.Frag} {mg : Str → Option Value} {base : Heap}
theorem ok_checkcode (at_ : At K mg "check_code" s_checkcode ["code"]) (mb : ∀ x, isB x = true → mg x = none) (gi : ∀ x n, isG x = some n → ∃ t, mg x = some (.int n t)) (cd : CdTab P w K mg) (G_firstbad : Fn P w K mg base "first_bad" 5 ["functions", "shapes", "boxes", "most"] spFb) :
    Fn P w K mg base "check_code" 6 ["code"] spCheckC := by
  obtain ⟨aPR, tab_CODE_ROWS⟩ := cd
  refine fn_at at_ fun f fd F => fn_d F sc_checkcode (fun ds S P h => ?_) ?_
  · obtain ⟨p, rfl, _⟩ := h
    rfl
  · rintro X W0 cdv A outer s H E rfl hr
    have hu := hr.units
    refine ⟨_, (dss_cons (ds_set (i := 1) (de_fn G_firstbad (hr.mono (by decide)) (by rfl) (da_cons (de_var (pv 0)) (da_cons (de_kcopy tab_CODE_ROWS.2.1 (by rfl) tab_CODE_ROWS.1 (by rfl) (mb "dict" rfl)) (da_cons (de_gint (by rfl) (gi "CODE_BOXES" 16 rfl)) (da_cons (de_gint (by rfl) (gi "MOST_CODE_ROWS" 200 rfl)) da_nil))))) (fun h => ps_set sc_checkcode.nd rfl (by first | exact Or.inl rfl | exact Or.inr rfl) h))
      (dss_one (ds_if (dt_cmp op_notN do_notN (de_var (pv 1)) de_non (nomark _)) (dss_cons (ds_asg (de_var (pv 1)) (dg_tup (n := 2) rfl (dgs_cons (dg_name (pg_name (i := 2) sc_checkcode.nd rfl (by first | exact Or.inl rfl | exact Or.inr rfl))) (dgs_cons (dg_name (pg_name (i := 3) sc_checkcode.nd rfl (by first | exact Or.inl rfl | exact Or.inr rfl))) dgs_nil))) (fun h1 h2 => ps_asg h1 h2))
      (dss_one ds_never)) dss_nil))), ?_⟩
    rintro ds S P ⟨p, rfl, hp, post⟩
    walk_at "st"
    walk_at "d"
    refine ⟨codeE p, cdSh, 16, 200, rfl, cdSh_ok, dat_code p, ?_⟩
    rw [fbad_made hp]
    walk_at "d"
    walk_at "e"
    refine ite_f Bool.false_ne_true ?_
    walk_at "d"
    exact exit_pure0 (fun _ => rfl) post
theorem ok_codeboxes (at_ : At K mg "code_boxes" s_codeboxes ["row"]) (mb : ∀ x, isB x = true → mg x = none) (cd : CdTab P w K mg) (G_boxesby : FnN P w K mg base "boxes_by" 1 ["row", "kinds"] spBoxesBy) : FnN P w K mg base "code_boxes" 2 ["row"] spCodeBoxes := by
  obtain ⟨aPR, tab_CODE_ROWS⟩ := cd
  refine fnN_at at_ fun f fd F => fn_dN F sc_codeboxes (fun ds S P h => ?_) ?_
  · obtain ⟨r, rfl, _⟩ := h
    rfl
  · rintro X W0 cdv A outer s H E rfl hr
    have hu := hr.units
    refine ⟨_, (dss_one (ds_ret (de_new (dn_fn G_boxesby (hr.mono (by decide)) (by rfl) (da_cons (de_var (pv 0)) (da_cons (de_kix tab_CODE_ROWS.2.2 (by rfl) tab_CODE_ROWS.1 (de_ix (de_var (pv 0)) de_int (fun _ _ => rfl)) (fun _ _ => rfl)) da_nil)))))), ?_⟩
    rintro ds S P ⟨r, rfl, post⟩
    have key : ∃ wd ps ks, r.e = .tup (.str wd :: ps) ∧ dlook (shKs cdSh) (shDs cdSh) (.inr wd) = some (.tup (ks.map .str)) ∧ ps.length ≤ 100 ∧ (∀ n, unders n ps = true) ∧ boxesBy ks ps = r.boxes.map .int := by
      cases r with
      | num x n => exact ⟨_, _, ["box", "number"], rfl, rfl, by simp, fun _ => rfl, rfl⟩
      | copy x y => exact ⟨_, _, ["box", "box"], rfl, rfl, by simp, fun _ => rfl, rfl⟩
      | ar w' x y z => exact ⟨_, _, ["box", "box", "box"], rfl, by cases w' <;> rfl, by simp, fun _ => rfl, rfl⟩
      | call f => exact ⟨_, _, ["function"], rfl, rfl, by simp, fun _ => rfl, rfl⟩
      | skip x n => exact ⟨_, _, ["box", "count"], rfl, rfl, by simp, fun _ => rfl, rfl⟩
      | say x => exact ⟨_, _, ["box"], rfl, rfl, by simp, fun _ => rfl, rfl⟩
      | rest => exact ⟨_, _, [], rfl, rfl, by simp, fun _ => rfl, rfl⟩
      | back => exact ⟨_, _, [], rfl, rfl, by simp, fun _ => rfl, rfl⟩
    obtain ⟨wd, ps, ks, er, hk, hl, hun, hb⟩ := key
    rw [er]
    walk_at "st"
    walk_at "d"
    refine i_xkix hk ?_
    walk_at "d"
    refine ⟨_, ps, ks, rfl, hl, hun, ?_⟩
    rw [hb]
    walk_at "d"
    exact exitN_one (fun n => unders_ints n _) post
end
abbrev s_piecesize : Stmt := topS 36
abbrev N_piecesize : List Str := ["rows", "at", "end"]
theorem sc_piecesize : FnScope N_piecesize ["rows", "at"] (defScope s_piecesize) := ⟨rfl, rfl, rfl, by decide +kernel, rfl, by decide +kernel, by decide +kernel⟩
abbrev s_cut : Stmt := topS 37
abbrev N_cut : List Str := ["rows", "pieces", "at", "size"]
theorem sc_cut : FnScope N_cut ["rows"] (defScope s_cut) := ⟨rfl, rfl, rfl, by decide +kernel, rfl, by decide +kernel, by decide +kernel⟩
abbrev s_boxat : Stmt := topS 38
abbrev N_boxat : List Str := ["place", "many"]
theorem sc_boxat : FnScope N_boxat ["place", "many"] (defScope s_boxat) := ⟨rfl, rfl, rfl, by decide +kernel, rfl, by decide +kernel, by decide +kernel⟩
abbrev s_rowspassed : Stmt := topS 40
abbrev N_rowspassed : List Str := ["pieces", "count", "passed"]
theorem sc_rowspassed : FnScope N_rowspassed ["pieces", "count"] (defScope s_rowspassed) := ⟨rfl, rfl, rfl, by decide +kernel, rfl, by decide +kernel, by decide +kernel⟩
def CRow.word : CRow → Str
  | .num _ _ => "num"
  | .copy _ _ => "copy"
  | .ar w _ _ _ => w.s
  | .call _ => "call"
  | .skip _ _ => "skip"
  | .say _ => "say"
  | .rest => "rest"
  | .back => "back"
theorem crow_we (r : CRow) : ∃ ps, r.e = .tup (.str r.word :: ps) := by cases r <;> exact ⟨_, rfl⟩
def isCopy : CRow → Bool
  | .copy _ _ => true
  | _ => false
def isCall : CRow → Bool
  | .call _ => true
  | _ => false
theorem copy_word (r : CRow) : decide (r.word = "copy") = isCopy r := by
  cases r with
  | ar w' x y z => cases w' <;> rfl
  | _ => rfl
theorem call_word (r : CRow) : decide (r.word = "call") = isCall r := by
  cases r with
  | ar w' x y z => cases w' <;> rfl
  | _ => rfl
def cps : List CRow → Nat
  | [] => 0
  | r :: rs => if isCopy r = true then cps rs + 1 else 0
theorem cps_le : ∀ M : List CRow, cps M ≤ M.length
  | [] => Nat.le_refl _
  | r :: rs => by
    have := cps_le rs
    unfold cps
    split
    · simp only [List.length_cons]; omega
    · exact Nat.zero_le _
theorem cps_lt : ∀ {M : List CRow} {j : Nat} {r : CRow}, j < cps M → M[j]? = some r → isCopy r = true
  | [], _, _, h, _ => by simp [cps] at h
  | q :: M, j, r, h, e => by
    unfold cps at h
    split at h
    · rename_i hq
      cases j with
      | zero => cases e; exact hq
      | succ j => exact cps_lt (M := M) (j := j) (by omega) (by simpa using e)
    · omega
theorem cps_at : ∀ {M : List CRow} {r : CRow}, M[cps M]? = some r → isCopy r = false
  | [], _, e => by simp [cps] at e
  | q :: M, r, e => by
    unfold cps at e
    split at e
    · exact cps_at (M := M) (by simpa using e)
    · rename_i hq
      cases e
      simpa using hq
def psize (M : List CRow) : Nat := cps M + (match M[cps M]? with | some r => if isCall r = true then 2 else 1 | none => 1)
def pcE (q : List CRow) : D := .tup (q.map CRow.e)
def Prp (q : List CRow) : Prop := q ≠ [] ∧ ∀ rest, psize (q ++ rest) = q.length
def unlie (m x : Int) : Int := if x < m then x else x - 4
theorem unlie_lie {m b : Int} (hm : 0 ≤ m ∧ m ≤ 3) (hb : box b) : unlie m (lie m b) = b := by
  obtain ⟨h1, h2⟩ := hb
  unfold unlie lie
  by_cases h : b < m
  · rw [if_pos h, if_pos h]
  · rw [if_neg h, if_neg (by omega)]
    omega
def spPsize : DSp := fun ds S P => ∃ (L : List CRow) (a : Nat), ds = [.tup (L.map CRow.e), .int a] ∧ a ≤ L.length ∧ L.length ≤ 1000 ∧ P (.int (psize (L.drop a))) S
def spCut : DSpN := fun ds S P => ∃ qs : List (List CRow), ds = [.tup (qs.flatten.map CRow.e)] ∧ (∀ q ∈ qs, Prp q) ∧ qs.flatten.length ≤ 1000 ∧ P (qs.map pcE) S
def spBoxAt : DSp := fun ds S P => ∃ x m, ds = [.int x, .int m] ∧ P (.int (unlie m x)) S
def lens (qs : List (List CRow)) : Int := (qs.map fun q => (q.length : Int)).sum
def spPassed : DSp := fun ds S P => ∃ (qs : List (List CRow)) (n : Nat), ds = [.lst (qs.map pcE), .int (lens (qs.take n))] ∧ n ≤ qs.length ∧ (∀ q ∈ qs, q ≠ []) ∧ P (.int n) S
theorem pcE_under (n : Nat) (q : List CRow) : (pcE q).under n = true := by
  show unders n (q.map CRow.e) = true
  induction q with
  | nil => rfl
  | cons r q ih => show (r.e.under n && unders n (q.map CRow.e)) = true; rw [under_crow, ih]; rfl
theorem flat_len_ge : ∀ {qs : List (List CRow)}, (∀ q ∈ qs, q ≠ []) → qs.length ≤ qs.flatten.length
  | [], _ => Nat.le_refl _
  | q :: qs, h => by
    have := flat_len_ge fun q hq => h q (List.mem_cons_of_mem _ hq)
    have hq := List.length_pos_iff.mpr (h q List.mem_cons_self)
    simp only [List.flatten_cons, List.length_append, List.length_cons]
    omega
theorem flat_split : ∀ (qs : List (List CRow)) (i : Nat) (q : List CRow), qs[i]? = some q → qs.flatten = (qs.take i).flatten ++ (q ++ (qs.drop (i + 1)).flatten)
  | q' :: qs, 0, q, h => by cases h; simp
  | q' :: qs, i + 1, q, h => by
    have := flat_split qs i q (by simpa using h)
    simp only [List.flatten_cons, List.take_succ_cons, List.drop_succ_cons, List.append_assoc]
    rw [this]
section
variable {P : Program} {w : World} {K : PySem.W.Frag} {mg : Str → Option Value} {base : Heap}
theorem ok_piecesize (at_ : At K mg "piece_size" s_piecesize ["rows", "at"]) (mb : ∀ x, isB x = true → mg x = none) : Fn P w K mg base "piece_size" 1 ["rows", "at"] spPsize := by
  refine fn_at at_ fun f fd F => fn_d F sc_piecesize (fun ds S P h => ?_) ?_
  · obtain ⟨L, a, rfl, _⟩ := h
    rfl
  · rintro X W0 cdv A outer s H E rfl hr
    have hu := hr.units
    refine ⟨_, (dss_cons (ds_set (i := 2) (de_var (pv 1)) (fun h => ps_set sc_piecesize.nd rfl (by first | exact Or.inl rfl | exact Or.inr rfl) h))
      (dss_cons (ds_while PassesOwn.never (dt_w (dw_and (dt_cmp op_lt do_lt (de_var (pv 2)) (de_b dc_len (da_cons (de_var (pv 0)) da_nil) (fun h => pe_callB call_len_seq (by rfl) (mb "len" rfl) PySem.boot_len h)) (nomark _)) (dw_and1 (dt_cmp (op_eqA hu) do_eq (de_ix (de_ix (de_var (pv 0)) (de_var (pv 2)) (fun _ _ => rfl)) de_int (fun _ _ => rfl)) de_str (nomark _))))) (dss_one (ds_aug (i := 2) de_int (fun h => ps_aug sc_piecesize.nd rfl (by first | exact Or.inl rfl | exact Or.inr rfl) h ip_add))))
      (dss_cons (ds_if (dt_w (dw_and (dt_cmp op_lt do_lt (de_var (pv 2)) (de_b dc_len (da_cons (de_var (pv 0)) da_nil) (fun h => pe_callB call_len_seq (by rfl) (mb "len" rfl) PySem.boot_len h)) (nomark _)) (dw_and1 (dt_cmp (op_eqA hu) do_eq (de_ix (de_ix (de_var (pv 0)) (de_var (pv 2)) (fun _ _ => rfl)) de_int (fun _ _ => rfl)) de_str (nomark _))))) (dss_one (ds_ret (de_sub (de_add (de_var (pv 2)) de_int) (de_var (pv 1))))) dss_nil)
      (dss_one (ds_ret (de_sub (de_add (de_var (pv 2)) de_int) (de_var (pv 1)))))))), ?_⟩
    rintro ds S P ⟨L, a, rfl, ha, hl, post⟩
    walk_at "st"
    walk_at "d"
    walk_at "e"
    generalize hM : L.drop a = M at post
    have hMl : M.length = L.length - a := by rw [← hM, List.length_drop]
    have hget : ∀ j : Nat, L[a + j]? = M[j]? := fun j => by rw [← hM, List.getElem?_drop]
    have hle := cps_le M
    refine ⟨fun m env S' => S' = S ∧ ∃ j : Nat, env = [some (.tup (L.map CRow.e)), some (.int a), some (.int ((a + j : Nat) : Int))] ∧ j ≤ cps M ∧ m = cps M - j, ⟨cps M, rfl, 0, rfl, Nat.zero_le _, rfl⟩, ?_⟩
    rintro m env S' ⟨rfl, j, rfl, hj, rfl⟩
    walk_at "d"
    rw [List.length_map]
    have row : ∀ r, M[j]? = some r → L2.atI (L.map CRow.e) ((a + j : Nat) : Int) = some r.e := fun r h => atI_nat (by rw [List.getElem?_map, hget, h]; rfl)
    have stop : (∀ r, M[j]? = some r → isCopy r = false) → j = cps M := fun h => by
      by_cases hlt : j < cps M
      · have e : M[j]? = some M[j] := List.getElem?_eq_getElem (by omega)
        have := cps_lt hlt e
        rw [h _ e] at this
        cases this
      · omega
    by_cases hin : a + j < L.length
    · have e : M[j]? = some M[j] := List.getElem?_eq_getElem (by omega)
      generalize M[j] = r at e
      obtain ⟨ps, er⟩ := crow_we r
      have cw := copy_word r
      have lw := call_word r
      have rx := row r e
      rw [er] at rx
      refine ite_t (decide_eq_true (by omega)) ?_
      walk_at "d"
      refine i_ix rfl rx ?_
      walk_at "d"
      show if (id (decide (r.word = "copy"))) = true then _ else _
      rw [cw]
      cases hc : isCopy r with
      | true =>
        refine ite_t rfl ?_
        have hlt : j < cps M := by
          rcases Nat.lt_or_ge j (cps M) with h | h
          · exact h
          · have : j = cps M := by omega
            rw [this] at e
            rw [cps_at e] at hc
            cases hc
        refine ⟨_, rfl, ?_⟩
        walk_at "d"
        walk_at "e"
        refine ⟨cps M - (j + 1), by omega, rfl, j + 1, rfl, hlt, rfl⟩
      | false =>
        have ej : j = cps M := stop fun r' e' => by rw [e] at e'; cases e'; exact hc
        have ep : psize M = j + (if isCall r = true then 2 else 1) := by
          unfold psize
          rw [← ej, e]
        refine ite_f Bool.false_ne_true ?_
        walk_at "d"
        rw [List.length_map]
        refine ite_t (decide_eq_true (by omega)) ?_
        walk_at "d"
        refine i_ix rfl rx ?_
        walk_at "d"
        show if (id (decide (r.word = "call"))) = true then _ else _
        rw [lw]
        rw [ep] at post
        cases hcl : isCall r with
        | true =>
          rw [hcl, if_pos rfl] at post
          refine ite_t rfl ?_
          walk_at "d"
          rw [show ((a + j : Nat) : Int) + 2 - (a : Int) = ((j + 2 : Nat) : Int) by omega]
          exact exit_pure0 (fun _ => rfl) post
        | false =>
          rw [hcl, if_neg Bool.false_ne_true] at post
          refine ite_f Bool.false_ne_true ?_
          walk_at "d"
          rw [show ((a + j : Nat) : Int) + 1 - (a : Int) = ((j + 1 : Nat) : Int) by omega]
          exact exit_pure0 (fun _ => rfl) post
    · have e : M[j]? = none := List.getElem?_eq_none (by omega)
      have ej : j = cps M := stop fun r' e' => by rw [e] at e'; cases e'
      have ep : psize M = j + 1 := by
        unfold psize
        rw [← ej, e]
      rw [ep] at post
      refine ite_f (by rw [decide_eq_true_eq]; omega) ?_
      refine ite_f Bool.false_ne_true ?_
      walk_at "d"
      rw [List.length_map]
      refine ite_f (by rw [decide_eq_true_eq]; omega) ?_
      refine ite_f Bool.false_ne_true ?_
      walk_at "d"
      rw [show ((a + j : Nat) : Int) + 1 - (a : Int) = ((j + 1 : Nat) : Int) by omega]
      exact exit_pure0 (fun _ => rfl) post
theorem ok_boxat (at_ : At K mg "box_at" s_boxat ["place", "many"]) (gi : ∀ x n, isG x = some n → ∃ t, mg x = some (.int n t)) : Fn P w K mg base "box_at" 1 ["place", "many"] spBoxAt := by
  refine fn_at at_ fun f fd F => fn_d F sc_boxat (fun ds S P h => ?_) ?_
  · obtain ⟨x, m, rfl, _⟩ := h
    rfl
  · rintro X W0 cdv A outer s H E rfl hr
    have hu := hr.units
    refine ⟨_, (dss_one (ds_ret (de_if (dt_cmp op_lt do_lt (de_var (pv 0)) (de_var (pv 1)) (nomark _)) (de_var (pv 0)) (de_sub (de_var (pv 0)) (de_gint (by rfl) (gi "FIRST_OWN" 4 rfl)))))), ?_⟩
    rintro ds S P ⟨x, m, rfl, post⟩
    walk_at "st"
    walk_at "d"
    unfold unlie at post
    by_cases h : x < m
    · rw [if_pos h] at post
      refine ite_t (decide_eq_true h) ?_
      walk_at "d"
      exact exit_pure0 (fun _ => rfl) post
    · rw [if_neg h] at post
      refine ite_f (by simpa using h) ?_
      walk_at "d"
      exact exit_pure0 (fun _ => rfl) post
theorem ok_cut (at_ : At K mg "cut" s_cut ["rows"]) (mb : ∀ x, isB x = true → mg x = none) (G_piecesize : Fn P w K mg base "piece_size" 1 ["rows", "at"] spPsize) : FnN P w K mg base "cut" 2 ["rows"] spCut := by
  refine fnN_at at_ fun f fd F => fn_dN F sc_cut (fun ds S P h => ?_) ?_
  · obtain ⟨qs, rfl, _⟩ := h
    rfl
  · rintro X W0 cdv A outer s H E rfl hr
    have hu := hr.units
    refine ⟨_, (dss_cons (ds_set (i := 1) (de_new (dn_lst da_nil)) (fun h => ps_set sc_cut.nd rfl (by first | exact Or.inl rfl | exact Or.inr rfl) h))
      (dss_cons (ds_set (i := 2) de_int (fun h => ps_set sc_cut.nd rfl (by first | exact Or.inl rfl | exact Or.inr rfl) h))
      (dss_cons (ds_while PassesOwn.never (dt_cmp op_lt do_lt (de_var (pv 2)) (de_b dc_len (da_cons (de_var (pv 0)) da_nil) (fun h => pe_callB call_len_seq (by rfl) (mb "len" rfl) PySem.boot_len h)) (nomark _)) (dss_cons (ds_set (i := 3) (de_fn G_piecesize (hr.mono (by decide)) (by rfl) (da_cons (de_var (pv 0)) (da_cons (de_var (pv 2)) da_nil))) (fun h => ps_set sc_cut.nd rfl (by first | exact Or.inl rfl | exact Or.inr rfl) h))
      (dss_cons (ds_expr (de_mt dm_append (de_var (pv 1)) (da_cons (de_sliceT (de_var (pv 0)) (do_some (de_var (pv 2))) (do_some (de_add (de_var (pv 2)) (de_var (pv 3))))) da_nil) (fun h1 h2 => pe_bm PySem.F.plainAttrs_list PySem.F.slot_list_append PySem.F.type_list_append mt_append h1 h2)))
      (dss_one (ds_aug (i := 2) (de_var (pv 3)) (fun h => ps_aug sc_cut.nd rfl (by first | exact Or.inl rfl | exact Or.inr rfl) h ip_add))))))
      (dss_one (ds_ret (de_var (pv 1))))))), ?_⟩
    rintro ds S P ⟨qs, rfl, hq, hl, post⟩
    have hql := flat_len_ge fun q h => (hq q h).1
    walk_at "st"
    walk_at "d"
    walk_at "e"
    have hS : ∀ i : Nat, (S ++ [O.lst ((qs.take i).map pcE)])[S.length]? = some (.lst ((qs.take i).map pcE)) := fun i => by rw [List.getElem?_append_right (Nat.le_refl _), Nat.sub_self]; rfl
    refine ⟨fun m env S' => ∃ i : Nat, i ≤ qs.length ∧ m = qs.length - i ∧ S' = S ++ [.lst ((qs.take i).map pcE)] ∧ ∃ y3, env = [some (.tup (qs.flatten.map CRow.e)), some (.ref S.length), some (.int (((qs.take i).flatten.length : Nat) : Int)), y3], ⟨qs.length, 0, Nat.zero_le _, rfl, rfl, none, rfl⟩, ?_⟩
    rintro m env S' ⟨i, hi, rfl, rfl, y3, rfl⟩
    walk_at "d"
    rw [List.length_map]
    rcases Nat.lt_or_ge i qs.length with hlt | hge
    · have e : qs[i]? = some qs[i] := List.getElem?_eq_getElem hlt
      generalize qs[i] = q at e
      have hqi := hq q (List.mem_of_getElem? e)
      have sp := flat_split qs i q e
      have hlen : (qs.take i).flatten.length + q.length ≤ qs.flatten.length := by rw [sp]; simp only [List.length_append]; omega
      have hpos := List.length_pos_iff.mpr hqi.1
      have hdrop : qs.flatten.drop (qs.take i).flatten.length = q ++ (qs.drop (i + 1)).flatten := by rw [sp, List.drop_left]
      refine ite_t (decide_eq_true (by omega)) ?_
      walk_at "d"
      refine ⟨qs.flatten, (qs.take i).flatten.length, rfl, by omega, hl, ?_⟩
      rw [hdrop, hqi.2]
      walk_at "d"
      walk_at "e"
      refine i_mtx (hS i) ?_
      walk_at "d"
      refine i_append (hS i) (sz_lt (by rw [List.length_map, List.length_take]; omega)) ?_
      refine ⟨_, rfl, ?_⟩
      walk_at "d"
      walk_at "e"
      refine ⟨qs.length - (i + 1), by omega, i + 1, hlt, rfl, ?_, some (.int (q.length : Int)), ?_⟩
      · rw [List.set_append_right _ _ (Nat.le_refl _), Nat.sub_self, List.take_add_one, e, List.map_append]
        have ec : DL.cutD (qs.flatten.map CRow.e) (some (((qs.take i).flatten.length : Nat) : Int)) (some ((((qs.take i).flatten.length : Nat) : Int) + (q.length : Int))) = q.map CRow.e := by
          rw [cutD_map, show DL.cutD qs.flatten (some (((qs.take i).flatten.length : Nat) : Int)) (some ((((qs.take i).flatten.length : Nat) : Int) + (q.length : Int))) = q from ?_]
          unfold DL.cutD
          rw [HT.sIx_nat, ← Int.natCast_add, HT.sIx_nat, Nat.min_eq_left hlen, Nat.min_eq_left (show (qs.take i).flatten.length ≤ qs.flatten.length by omega), hdrop, Nat.add_sub_cancel_left, List.take_left]
        rw [ec]
        rfl
      · rw [List.take_add_one, e]
        simp
    · have ei : i = qs.length := by omega
      subst ei
      rw [List.take_length] at *
      refine ite_f (by simp) ?_
      walk_at "d"
      exact exitN_one (fun n => unders_map n (pcE_under n) qs) post
theorem ok_rowspassed (at_ : At K mg "rows_passed" s_rowspassed ["pieces", "count"]) (mb : ∀ x, isB x = true → mg x = none) : Fn P w K mg base "rows_passed" 1 ["pieces", "count"] spPassed := by
  refine fn_at at_ fun f fd F => fn_d F sc_rowspassed (fun ds S P h => ?_) ?_
  · obtain ⟨qs, n, rfl, _⟩ := h
    rfl
  · rintro X W0 cdv A outer s H E rfl hr
    have hu := hr.units
    refine ⟨_, (dss_cons (ds_set (i := 2) de_int (fun h => ps_set sc_rowspassed.nd rfl (by first | exact Or.inl rfl | exact Or.inr rfl) h))
      (dss_cons (ds_while PassesOwn.never (dt_w (dw_and (dt_cmp op_gt do_gt (de_var (pv 1)) de_int (nomark _)) (dw_and1 (dt_cmp op_lt do_lt (de_var (pv 2)) (de_b dc_len (da_cons (de_var (pv 0)) da_nil) (fun h => pe_callB call_len_seq (by rfl) (mb "len" rfl) PySem.boot_len h)) (nomark _))))) (dss_cons (ds_aug (i := 1) (de_b dc_len (da_cons (de_ix (de_var (pv 0)) (de_var (pv 2)) (fun _ _ => rfl)) da_nil) (fun h => pe_callB call_len_seq (by rfl) (mb "len" rfl) PySem.boot_len h)) (fun h => ps_aug sc_rowspassed.nd rfl (by first | exact Or.inl rfl | exact Or.inr rfl) h ip_sub))
      (dss_one (ds_aug (i := 2) de_int (fun h => ps_aug sc_rowspassed.nd rfl (by first | exact Or.inl rfl | exact Or.inr rfl) h ip_add)))))
      (dss_one (ds_ret (de_var (pv 2)))))), ?_⟩
    rintro ds S P ⟨qs, n, rfl, hn, hq, post⟩
    walk_at "st"
    walk_at "d"
    walk_at "e"
    have pos : ∀ l : List (List CRow), (∀ q ∈ l, q ≠ []) → 0 ≤ lens l := fun l h => sum_nonneg fun s hs => by
      obtain ⟨q, hq, rfl⟩ := List.mem_map.mp hs
      have := List.length_pos_iff.mpr (h q hq)
      omega
    refine ⟨fun m env S' => S' = S ∧ ∃ i : Nat, i ≤ n ∧ m = n - i ∧ env = [some (.lst (qs.map pcE)), some (.int (lens ((qs.take n).drop i))), some (.int (i : Int))], ⟨n, rfl, 0, Nat.zero_le _, rfl, rfl⟩, ?_⟩
    rintro m env S' ⟨rfl, i, hi, rfl, rfl⟩
    walk_at "d"
    rcases Nat.lt_or_ge i n with hlt | hge
    · have e : qs[i]? = some qs[i] := List.getElem?_eq_getElem (by omega)
      generalize qs[i] = q at e
      have hqi := List.length_pos_iff.mpr (hq q (List.mem_of_getElem? e))
      have ed : (qs.take n).drop i = q :: (qs.take n).drop (i + 1) := by
        have e2 : (qs.take n)[i]? = some q := by rw [List.getElem?_take_of_lt hlt]; exact e
        obtain ⟨h1, h2⟩ := List.getElem?_eq_some_iff.mp e2
        rw [List.drop_eq_getElem_cons h1, h2]
      have hrest := pos ((qs.take n).drop (i + 1)) fun q h => hq q (List.mem_of_mem_take (List.mem_of_mem_drop h))
      have el : lens ((qs.take n).drop i) = (q.length : Int) + lens ((qs.take n).drop (i + 1)) := by rw [ed]; rfl
      refine ite_t (decide_eq_true (by omega)) ?_
      walk_at "d"
      rw [List.length_map]
      refine ite_t (decide_eq_true (by omega)) ?_
      refine ⟨_, rfl, ?_⟩
      walk_at "d"
      refine i_ix rfl (atI_nat (by rw [List.getElem?_map, e]; rfl)) ?_
      dsimp only [pcE]
      walk_at "d"
      refine ⟨_, rfl, ?_⟩
      walk_at "d"
      walk_at "e"
      refine ⟨n - (i + 1), by omega, rfl, i + 1, hlt, rfl, ?_⟩
      rw [el, List.length_map, show (q.length : Int) + lens ((qs.take n).drop (i + 1)) - (q.length : Int) = lens ((qs.take n).drop (i + 1)) by omega]
      rfl
    · have ei : i = n := by omega
      subst ei
      have e0 : (qs.take i).drop i = [] := List.drop_eq_nil_of_le (by rw [List.length_take]; omega)
      refine ite_f (by rw [e0]; decide) ?_
      refine ite_f Bool.false_ne_true ?_
      walk_at "d"
      exact exit_pure0 (fun _ => rfl) post
end
abbrev s_unmadepiece : Stmt := topS 39
abbrev N_unmadepiece : List Str := ["piece", "many", "words", "row", "boxes", "out", "call", "result", "first", "place"]
theorem sc_unmadepiece : FnScope N_unmadepiece ["piece", "many"] (defScope s_unmadepiece) := ⟨rfl, rfl, rfl, by decide +kernel, rfl, by decide +kernel, by decide +kernel⟩
def upr (m : Int) (ns : List Int) (j : Nat) : Row → Row
  | .skip b n => .skip b (DL.cutD ns (some ((j : Int) + 1)) (some ((j : Int) + 1 + n))).sum
  | r => r
def spUpiece : DSp := fun ds S P => ∃ (r : Row) (m : Int) (ns : List Int) (j : Nat), ds = [.tup ((pieceC m ns j r).map CRow.e), .int m] ∧ rowIn r ∧ (0 ≤ m ∧ m ≤ 3) ∧ P (upr m ns j r).e S
theorem ar_ok (w' : Ar) : PyData.strOk w'.s = true := by cases w' <;> decide +kernel
theorem word_ok (r : CRow) : PyData.strOk r.word = true := by
  cases r with
  | ar w' x y z => exact ar_ok w'
  | num x n => exact (by decide +kernel : PyData.strOk "num" = true)
  | copy x y => exact (by decide +kernel : PyData.strOk "copy" = true)
  | call f => exact (by decide +kernel : PyData.strOk "call" = true)
  | skip x n => exact (by decide +kernel : PyData.strOk "skip" = true)
  | say x => exact (by decide +kernel : PyData.strOk "say" = true)
  | rest => exact (by decide +kernel : PyData.strOk "rest" = true)
  | back => exact (by decide +kernel : PyData.strOk "back" = true)
theorem words_ok (q : List CRow) : ∀ x ∈ q.map CRow.word, PyData.strOk x = true := fun x hx => by
  obtain ⟨r, _, rfl⟩ := List.mem_map.mp hx
  exact word_ok r
theorem cut_sub {α : Type} {l : List α} {lo hi : Option Int} {x : α} (h : x ∈ DL.cutD l lo hi) : x ∈ l := List.mem_of_mem_drop (List.mem_of_mem_take h)
theorem cut_last {α : Type} (A : List α) (x y : α) : DL.cutD (A ++ [x, y]) (some (-2)) none = [x, y] := by
  have e : HT.sIx (A ++ [x, y]).length 0 (some (-2)) = A.length := by
    show (if (-2 : Int) < 0 then ((-2 : Int) + ((A ++ [x, y]).length : Int)).toNat else min (-2 : Int).toNat (A ++ [x, y]).length) = _
    rw [if_pos (by decide), List.length_append]
    simp
    omega
  unfold DL.cutD
  rw [e, List.drop_left]
  show List.take ((A ++ [x, y]).length - A.length) [x, y] = _
  rw [List.length_append, Nat.add_sub_cancel_left]
  rfl
theorem cut_front {α : Type} (A : List α) (x y : α) : DL.cutD (A ++ [x, y]) none (some (-2)) = A := by
  have e : HT.sIx (A ++ [x, y]).length (A ++ [x, y]).length (some (-2)) = A.length := by
    show (if (-2 : Int) < 0 then ((-2 : Int) + ((A ++ [x, y]).length : Int)).toNat else min (-2 : Int).toNat (A ++ [x, y]).length) = _
    rw [if_pos (by decide), List.length_append]
    simp
    omega
  unfold DL.cutD
  rw [e]
  show List.take (A.length - 0) (List.drop 0 (A ++ [x, y])) = A
  rw [Nat.sub_zero, List.drop_zero, List.take_left]
theorem outsC_get (m : Int) : ∀ (k : Nat) (bs : List Int) (i : Nat) (r : CRow), (outsC m k bs)[i]? = some r → ∃ b, bs[i]? = some b ∧ r = .copy (12 + ((k + i : Nat) : Int)) (lie m b)
  | k, b :: bs, 0, r, h => by cases h; exact ⟨b, rfl, rfl⟩
  | k, b :: bs, i + 1, r, h => by
    obtain ⟨b', h1, h2⟩ := outsC_get m (k + 1) bs i r (by simpa [outsC] using h)
    exact ⟨b', by simpa using h1, by rw [h2, show k + 1 + i = k + (i + 1) by omega]⟩
theorem up_cases (m : Int) (ns : List Int) (j : Nat) (r : Row) : (∃ b f bs, r = .call b f bs) ∨ (∃ b, r = .tell b) ∨ ∃ c, pieceC m ns j r = [c] ∧ c.word ≠ "call" ∧ c.word ≠ "copy" ∧ ((inV (V.str c.word) [V.str "num", V.str "skip"] = true ∧ ∃ b n, b ∈ r.boxes ∧ c.e = .tup [.str c.word, .int (lie m b), .int n] ∧ (upr m ns j r).e = .tup [.str c.word, .int b, .int n]) ∨ (inV (V.str c.word) [V.str "num", V.str "skip"] = false ∧ c.boxes = r.boxes.map (lie m) ∧ (upr m ns j r).e = .tup (.str c.word :: r.boxes.map .int))) := by
  cases r with
  | call b f bs => exact .inl ⟨b, f, bs, rfl⟩
  | tell b => exact .inr (.inl ⟨b, rfl⟩)
  | num b n => exact .inr (.inr ⟨_, rfl, (by decide : ("num" : Str) ≠ "call"), (by decide : ("num" : Str) ≠ "copy"), .inl ⟨rfl, b, n, List.mem_singleton.mpr rfl, rfl, rfl⟩⟩)
  | skip b n => exact .inr (.inr ⟨_, rfl, (by decide : ("skip" : Str) ≠ "call"), (by decide : ("skip" : Str) ≠ "copy"), .inl ⟨rfl, b, _, List.mem_singleton.mpr rfl, rfl, rfl⟩⟩)
  | ar w' b c d => exact .inr (.inr ⟨_, rfl, (by cases w' <;> decide : w'.s ≠ "call"), (by cases w' <;> decide : w'.s ≠ "copy"), .inr ⟨by cases w' <;> rfl, rfl, rfl⟩⟩)
  | say b => exact .inr (.inr ⟨_, rfl, (by decide : ("say" : Str) ≠ "call"), (by decide : ("say" : Str) ≠ "copy"), .inr ⟨rfl, rfl, rfl⟩⟩)
  | rest => exact .inr (.inr ⟨_, rfl, (by decide : ("rest" : Str) ≠ "call"), (by decide : ("rest" : Str) ≠ "copy"), .inr ⟨rfl, rfl, rfl⟩⟩)
section
variable {P : Program} {w : World} {K : PySem.W.Frag} {mg : Str → Option Value} {base : Heap}
theorem ok_unmadepiece (at_ : At K mg "unmade_piece" s_unmadepiece ["piece", "many"]) (mb : ∀ x, isB x = true → mg x = none) (G_boxat : Fn P w K mg base "box_at" 1 ["place", "many"] spBoxAt) (G_codeboxes : FnN P w K mg base "code_boxes" 2 ["row"] spCodeBoxes) :
    Fn P w K mg base "unmade_piece" 3 ["piece", "many"] spUpiece := by
  refine fn_at at_ fun f fd F => fn_d F sc_unmadepiece (fun ds S P h => ?_) ?_
  · obtain ⟨r, m, ns, j, rfl, _⟩ := h
    rfl
  · rintro X W0 cdv A outer s H E rfl hr
    have hu := hr.units
    refine ⟨_, (dss_cons (ds_setLc (i := 2) (vs := [3]) (by decide) (ps_setLc (own := [("row", 3)]) rfl sc_unmadepiece.nd rfl rfl (sw_true rfl rfl rfl (by decide +kernel)) (di_tup (de_var (pv 0))) (blkOk_by (N := N_unmadepiece) (sc := defScope s_unmadepiece) (by decide +kernel)) (fun _ _ _ _ _ => (dg_name (pg_name (i := 3) sc_unmadepiece.nd rfl (Or.inl rfl)))) (fun _ _ _ _ _ => dts_nil) (fun _ _ _ _ _ => (de_ix (de_var (pv 3)) de_int (fun _ _ => rfl)))))
      (dss_cons (ds_if (dt_cmp (op_eqA hu) do_eq (de_pure (dn_slice (de_var (pv 2)) (do_some (de_neg de_int)) do_none)) (de_pure (dn_lst (da_cons de_str (da_cons de_str da_nil)))) (nomark _)) (dss_cons (ds_setLc (i := 4) (vs := [5]) (by decide) (ps_setLc (own := [("out", 5)]) rfl sc_unmadepiece.nd rfl rfl (sw_true rfl rfl rfl (by decide +kernel)) (di_tup (de_sliceT (de_var (pv 0)) do_none (do_some (de_neg de_int)))) (blkOk_by (N := N_unmadepiece) (sc := defScope s_unmadepiece) (by decide +kernel)) (fun _ _ _ _ _ => (dg_name (pg_name (i := 5) sc_unmadepiece.nd rfl (Or.inl rfl)))) (fun _ _ _ _ _ => dts_nil) (fun _ _ _ _ _ => (de_fn G_boxat (hr.mono (by decide)) (by rfl) (da_cons (de_ix (de_var (pv 5)) de_int (fun _ _ => rfl)) (da_cons (de_var (pv 1)) da_nil))))))
      (dss_cons (ds_asg (de_sliceT (de_var (pv 0)) (do_some (de_neg de_int)) do_none) (dg_tup (n := 2) rfl (dgs_cons (dg_name (pg_name (i := 6) sc_unmadepiece.nd rfl (by first | exact Or.inl rfl | exact Or.inr rfl))) (dgs_cons (dg_name (pg_name (i := 7) sc_unmadepiece.nd rfl (by first | exact Or.inl rfl | exact Or.inr rfl))) dgs_nil))) (fun h1 h2 => ps_asg h1 h2))
      (dss_one (ds_ret (de_tup (da_cons de_str (da_cons (de_fn G_boxat (hr.mono (by decide)) (by rfl) (da_cons (de_ix (de_var (pv 7)) de_int (fun _ _ => rfl)) (da_cons (de_var (pv 1)) da_nil))) (da_cons (de_ix (de_var (pv 6)) de_int (fun _ _ => rfl)) (da_cons (de_b dc_tuple (da_cons (de_var (pv 4)) da_nil) (fun h => pe_callTy call_tuple_of (by rfl) (mb "tuple" rfl) (by decide +kernel) h)) da_nil))))))))) dss_nil)
      (dss_cons (ds_set (i := 8) (de_ix (de_var (pv 0)) de_int (fun _ _ => rfl)) (fun h => ps_set sc_unmadepiece.nd rfl (by first | exact Or.inl rfl | exact Or.inr rfl) h))
      (dss_cons (ds_if (dt_cmp (op_eqA hu) do_eq (de_var (pv 2)) (de_pure (dn_lst (da_cons de_str (da_cons de_str da_nil)))) (nomark _)) (dss_one (ds_ret (de_tup (da_cons de_str (da_cons (de_fn G_boxat (hr.mono (by decide)) (by rfl) (da_cons (de_ix (de_var (pv 8)) de_int (fun _ _ => rfl)) (da_cons (de_var (pv 1)) da_nil))) da_nil))))) dss_nil)
      (dss_cons (ds_if (dt_cmp op_in_seq do_in (de_ix (de_var (pv 2)) de_int (fun _ _ => rfl)) (de_tup (da_cons de_str (da_cons de_str da_nil))) (by rfl)) (dss_one (ds_ret (de_tup (da_cons (de_ix (de_var (pv 2)) de_int (fun _ _ => rfl)) (da_cons (de_fn G_boxat (hr.mono (by decide)) (by rfl) (da_cons (de_ix (de_var (pv 8)) de_int (fun _ _ => rfl)) (da_cons (de_var (pv 1)) da_nil))) (da_cons (de_ix (de_var (pv 8)) de_int (fun _ _ => rfl)) da_nil)))))) dss_nil)
      (dss_cons (ds_setLc (i := 4) (vs := [9]) (by decide) (ps_setLc (own := [("place", 9)]) rfl sc_unmadepiece.nd rfl rfl (sw_true rfl rfl rfl (by decide +kernel)) (di_list (de_pure (dn_fn G_codeboxes (hr.mono (by decide)) (by rfl) (da_cons (de_var (pv 8)) da_nil)))) (blkOk_by (N := N_unmadepiece) (sc := defScope s_unmadepiece) (by decide +kernel)) (fun _ _ _ _ _ => (dg_name (pg_name (i := 9) sc_unmadepiece.nd rfl (Or.inl rfl)))) (fun _ _ _ _ _ => dts_nil) (fun _ _ _ _ _ => (de_fn G_boxat (hr.mono (by decide)) (by rfl) (da_cons (de_var (pv 9)) (da_cons (de_var (pv 1)) da_nil))))))
      (dss_one (ds_ret (de_tup (da_cons (de_ix (de_var (pv 2)) de_int (fun _ _ => rfl)) (da_star (de_var (pv 4)) da_nil))))))))))), ?_⟩
    rintro ds S P ⟨r, m, ns, j, rfl, hri, hm, post⟩
    have hlen : (pieceC m ns j r).length ≤ 5 := by rw [pieceC_len]; exact crow_len hri.1
    have fin : P (upr m ns j r).e S → atExit S P (upr m ns j r).e S := fun q => exit_pure0 (fun n => row_under n _) q
    generalize hq : pieceC m ns j r = q at hlen
    walk_at "st"
    walk_at "d"
    refine ⟨fun i acc S' => S' = S ∧ acc = ((q.take i).map CRow.word).map .str, ⟨rfl, rfl⟩, ?_, ?_, ?_⟩
    · rintro i acc S' hi ⟨rfl, rfl⟩
      exact ⟨trivial, sz_lt (by rw [List.length_map, List.length_map, List.length_take]; omega)⟩
    · rintro i x acc S' hx ⟨rfl, rfl⟩
      rw [List.getElem?_map] at hx
      cases er : q[i]? with
      | none => rw [er] at hx; cases hx
      | some c =>
        rw [er] at hx
        cases hx
        obtain ⟨ps, ec⟩ := crow_we c
        rw [ec]
        walk_at "d"
        refine ite_t rfl ?_
        walk_at "d"
        refine ⟨rfl, ?_⟩
        rw [List.take_add_one, er]
        simp
    rintro acc S' ⟨rfl, rfl⟩
    rw [List.length_map, List.take_length]
    walk_at "d"
    walk_at "e"
    refine i_eqStrs (l := DL.cutD (q.map CRow.word) (some (-2)) none) (l' := ["call", "copy"]) (cutD_map _ _ _ _) (fun x hx => words_ok q x (cut_sub hx)) (words_ok [.call 0, .copy 0 0]) ?_
    walk_at "d"
    rcases up_cases m ns j r with ⟨b, f', bs, rfl⟩ | ⟨b, rfl⟩ | ⟨c, hc1, hc2, hc3, hc⟩
    · have hq : outsC m 0 bs ++ [CRow.call f', .copy (lie m b) 12] = q := hq
      subst hq
      have hbx : ∀ x ∈ b :: bs, box x := hri.2
      have hb3 : bs.length ≤ 3 := hri.1
      have hol : (outsC m 0 bs).length = bs.length := by rw [← List.length_map (f := CRow.e), outsC_e, outs_len]
      refine ite_t (by
        show id (decide (DL.cutD ((outsC m 0 bs ++ [CRow.call f', .copy (lie m b) 12]).map CRow.word) (some (-2)) none = (["call", "copy"] : List Str))) = true
        rw [List.map_append]
        exact decide_eq_true (cut_last _ _ _)) ?_
      walk_at "d"
      have ef : DL.cutD ((outsC m 0 bs ++ [CRow.call f', .copy (lie m b) 12]).map CRow.e) none (some (-2)) = (outsC m 0 bs).map CRow.e := by rw [List.map_append]; exact cut_front _ _ _
      rw [ef]
      refine ⟨fun i acc S2 => S2 = S' ∧ acc = (bs.take i).map .int, ⟨rfl, rfl⟩, ?_, ?_, ?_⟩
      · rintro i acc S2 hi ⟨rfl, rfl⟩
        exact ⟨trivial, sz_lt (by rw [List.length_map, List.length_take]; omega)⟩
      · rintro i x acc S2 hx ⟨rfl, rfl⟩
        rw [List.getElem?_map] at hx
        cases er : (outsC m 0 bs)[i]? with
        | none => rw [er] at hx; cases hx
        | some o =>
          rw [er] at hx
          cases hx
          obtain ⟨b', hb', rfl⟩ := outsC_get m 0 bs i o er
          dsimp only [CRow.e]
          walk_at "d"
          refine ite_t rfl ?_
          walk_at "d"
          refine ⟨_, m, rfl, ?_⟩
          rw [unlie_lie hm (hbx b' (List.mem_cons_of_mem _ (List.mem_of_getElem? hb')))]
          refine ⟨rfl, ?_⟩
          rw [List.take_add_one, hb']
          simp
      rintro acc S2 ⟨rfl, rfl⟩
      rw [List.length_map, hol, List.take_length]
      walk_at "d"
      walk_at "e"
      have el : DL.cutD ((outsC m 0 bs ++ [CRow.call f', .copy (lie m b) 12]).map CRow.e) (some (-2)) none = [CRow.e (.call f'), CRow.e (.copy (lie m b) 12)] := by rw [List.map_append]; exact cut_last _ _ _
      rw [el]
      dsimp only [CRow.e]
      walk_at "d"
      walk_at "e"
      refine ⟨_, m, rfl, ?_⟩
      rw [unlie_lie hm (hbx b List.mem_cons_self)]
      walk_at "d"
      exact fin post
    · have hq : [CRow.copy 0 (lie m b), .back] = q := hq
      subst hq
      refine ite_f (by
        show ¬ id (decide (DL.cutD (["copy", "back"] : List Str) (some (-2)) none = (["call", "copy"] : List Str))) = true
        decide) ?_
      walk_at "d"
      walk_at "e"
      refine i_eqStrs (l := ["copy", "back"]) (l' := ["copy", "back"]) rfl (words_ok [.copy 0 0, .back]) (words_ok [.copy 0 0, .back]) ?_
      walk_at "d"
      refine ite_t (by decide) ?_
      dsimp only [CRow.e]
      walk_at "d"
      refine ⟨_, m, rfl, ?_⟩
      rw [unlie_lie hm (hri.2 b (List.mem_singleton.mpr rfl))]
      walk_at "d"
      exact fin post
    · rw [hc1] at hq
      subst hq
      refine ite_f (by
        show ¬ id (decide (DL.cutD [c.word] (some (-2)) none = (["call", "copy"] : List Str))) = true
        simp [DL.cutD, HT.sIx]) ?_
      walk_at "d"
      walk_at "e"
      refine i_eqStrs (l := [c.word]) (l' := ["copy", "back"]) rfl (fun x hx => by rw [List.mem_singleton.mp hx]; exact word_ok c) (words_ok [.copy 0 0, .back]) ?_
      walk_at "d"
      refine ite_f (by simp) ?_
      walk_at "d"
      refine i_in rfl rfl rfl ?_
      walk_at "d"
      rcases hc with ⟨hi, b, n, hb, ec, eu⟩ | ⟨hi, hbx, eu⟩
      · refine ite_t (by simpa using hi) ?_
        rw [ec]
        walk_at "d"
        refine ⟨_, m, rfl, ?_⟩
        rw [unlie_lie hm (hri.2 b hb)]
        walk_at "d"
        have := fin post
        rw [eu] at this
        exact this
      · refine ite_f (by simpa using hi) ?_
        walk_at "d"
        refine ⟨c, rfl, ?_⟩
        rw [hbx]
        walk_at "d"
        have h4 : r.boxes.length ≤ 4 := by
          have := hri.1
          cases r <;> first | exact this | (simp [Row.boxes]; done) | (simp [Row.boxes, Row.short] at *; omega)
        refine ⟨fun i acc S2 => S2 = S' ∧ acc = (r.boxes.take i).map .int, ⟨rfl, rfl⟩, ?_, ?_, ?_⟩
        · rintro i acc S2 hi ⟨rfl, rfl⟩
          exact ⟨trivial, sz_lt (by rw [List.length_map, List.length_take]; omega)⟩
        · rintro i x acc S2 hx ⟨rfl, rfl⟩
          rw [List.getElem?_map, List.getElem?_map] at hx
          cases er : r.boxes[i]? with
          | none => rw [er] at hx; cases hx
          | some b' =>
            rw [er] at hx
            cases hx
            walk_at "d"
            refine ite_t rfl ?_
            walk_at "d"
            refine ⟨_, m, rfl, ?_⟩
            rw [unlie_lie hm (hri.2 b' (List.mem_of_getElem? er))]
            refine ⟨rfl, ?_⟩
            rw [List.take_add_one, er]
            simp
        rintro acc S2 ⟨rfl, rfl⟩
        rw [List.length_map, List.length_map, List.take_length]
        walk_at "d"
        refine ⟨sz_le (by simp; omega), ?_⟩
        have := fin post
        rw [eu] at this
        simp only [List.append_nil]
        exact this
end
abbrev s_unmadefunction : Stmt := topS 41
abbrev N_unmadefunction : List Str := ["function", "many", "code_rows", "fresh", "row", "box", "pieces", "rows", "at", "piece", "word", "count"]
theorem sc_unmadefunction : FnScope N_unmadefunction ["function"] (defScope s_unmadefunction) := ⟨rfl, rfl, rfl, by decide +kernel, rfl, by decide +kernel, by decide +kernel⟩
abbrev s_unmade : Stmt := topS 42
abbrev N_unmade : List Str := ["code", "program", "function", "again"]
theorem sc_unmade : FnScope N_unmade ["code"] (defScope s_unmade) := ⟨rfl, rfl, rfl, by decide +kernel, rfl, by decide +kernel, by decide +kernel⟩
def psC (m : Int) (ns : List Int) : Nat → List Row → List (List CRow)
  | _, [] => []
  | j, r :: rs => pieceC m ns j r :: psC m ns (j + 1) rs
theorem psC_flat (m : Int) (ns : List Int) : ∀ (k : Nat) (rs : List Row), (psC m ns k rs).flatten = bodyC m ns k rs
  | _, [] => rfl
  | k, r :: rs => by simp only [psC, bodyC, List.flatten_cons, psC_flat m ns (k + 1) rs]
theorem psC_get (m : Int) (ns : List Int) : ∀ (k : Nat) (rs : List Row) (i : Nat), (psC m ns k rs)[i]? = (rs[i]?).map (pieceC m ns (k + i))
  | _, [], i => by simp [psC]
  | k, r :: rs, 0 => rfl
  | k, r :: rs, i + 1 => by
    have := psC_get m ns (k + 1) rs i
    rw [show k + 1 + i = k + (i + 1) by omega] at this
    simpa [psC] using this
theorem psC_len (m : Int) (ns : List Int) : ∀ (k : Nat) (rs : List Row), (psC m ns k rs).length = rs.length
  | _, [] => rfl
  | k, _ :: rs => congrArg (· + 1) (psC_len m ns (k + 1) rs)
theorem psC_sizes (m : Int) (ns : List Int) : ∀ (k : Nat) (rs : List Row), (psC m ns k rs).map (fun q => (q.length : Int)) = sizes m rs
  | _, [] => rfl
  | k, r :: rs => by
    show ((pieceC m ns k r).length : Int) :: (psC m ns (k + 1) rs).map _ = _
    rw [psC_sizes m ns (k + 1) rs, pieceC_len]
    rfl
theorem one_prp {c : CRow} (h1 : isCopy c = false) (h2 : isCall c = false) : Prp [c] := ⟨by simp, fun rest => by
  have e : cps ([c] ++ rest) = 0 := by
    show (if isCopy c = true then _ else 0) = 0
    rw [h1]
    rfl
  unfold psize
  rw [e]
  show 0 + (if isCall c = true then 2 else 1) = 1
  rw [h2]
  rfl⟩
theorem outs_cps (m : Int) (rest : List CRow) (h : cps rest = 0) : ∀ (k : Nat) (bs : List Int), cps (outsC m k bs ++ rest) = bs.length
  | _, [] => h
  | k, b :: bs => by
    show (if isCopy (.copy _ _) = true then cps (outsC m (k + 1) bs ++ rest) + 1 else 0) = _
    rw [outs_cps m rest h (k + 1) bs]
    rfl
theorem outsC_len (m : Int) : ∀ (k : Nat) (bs : List Int), (outsC m k bs).length = bs.length
  | _, [] => rfl
  | k, _ :: bs => congrArg (· + 1) (outsC_len m (k + 1) bs)
theorem prp_piece (m : Int) (ns : List Int) (j : Nat) (r : Row) : Prp (pieceC m ns j r) := by
  cases r with
  | call b f bs =>
    refine ⟨by simp [pieceC], fun rest => ?_⟩
    have e : pieceC m ns j (.call b f bs) ++ rest = outsC m 0 bs ++ (.call f :: .copy (lie m b) 12 :: rest) := by simp [pieceC]
    have ec : cps (outsC m 0 bs ++ (.call f :: .copy (lie m b) 12 :: rest)) = bs.length := outs_cps m _ rfl 0 bs
    have el : (pieceC m ns j (.call b f bs)).length = bs.length + 2 := by simp [pieceC, outsC_len]
    rw [e, el]
    unfold psize
    rw [ec, List.getElem?_append_right (by rw [outsC_len]; exact Nat.le_refl _), outsC_len, Nat.sub_self]
    rfl
  | tell b => exact ⟨by simp [pieceC], fun rest => rfl⟩
  | ar w' b c d => exact one_prp rfl rfl
  | num b n => exact one_prp rfl rfl
  | skip b n => exact one_prp rfl rfl
  | say b => exact one_prp rfl rfl
  | rest => exact one_prp rfl rfl
theorem outsC_boxes (m : Int) : ∀ (k : Nat) (bs : List Int), ∀ c ∈ outsC m k bs, ∀ x ∈ c.boxes, (∃ b ∈ bs, x = lie m b) ∨ 12 ≤ x
  | _, [], c, hc, _, _ => absurd hc List.not_mem_nil
  | k, b :: bs, c, hc, x, hx => by
    rcases List.mem_cons.mp hc with rfl | hc
    · have hx : x ∈ [12 + (k : Int), lie m b] := hx
      simp only [List.mem_cons, List.not_mem_nil, or_false] at hx
      rcases hx with rfl | rfl
      · exact .inr (by omega)
      · exact .inl ⟨b, List.mem_cons_self, rfl⟩
    · rcases outsC_boxes m (k + 1) bs c hc x hx with ⟨b', h1, h2⟩ | h
      · exact .inl ⟨b', List.mem_cons_of_mem _ h1, h2⟩
      · exact .inr h
theorem piece_boxes {m : Int} {ns : List Int} {j : Nat} {r : Row} {c : CRow} {x : Int} (hc : c ∈ pieceC m ns j r) (hx : x ∈ c.boxes) : (∃ b ∈ r.boxes, x = lie m b) ∨ x = 0 ∨ 12 ≤ x := by
  cases r with
  | call b f bs =>
    have hc : c ∈ outsC m 0 bs ++ [.call f, .copy (lie m b) 12] := hc
    rcases List.mem_append.mp hc with hc | hc
    · rcases outsC_boxes m 0 bs c hc x hx with ⟨b', h1, h2⟩ | h
      · exact .inl ⟨b', List.mem_cons_of_mem _ h1, h2⟩
      · exact .inr (.inr h)
    · simp only [List.mem_cons, List.not_mem_nil, or_false] at hc
      rcases hc with rfl | rfl
      · cases hx
      · have hx : x ∈ [lie m b, 12] := hx
        simp only [List.mem_cons, List.not_mem_nil, or_false] at hx
        rcases hx with rfl | rfl
        · exact .inl ⟨b, List.mem_cons_self, rfl⟩
        · exact .inr (.inr (by decide))
  | tell b =>
    have hc : c ∈ [CRow.copy 0 (lie m b), .back] := hc
    simp only [List.mem_cons, List.not_mem_nil, or_false] at hc
    rcases hc with rfl | rfl
    · have hx : x ∈ [0, lie m b] := hx
      simp only [List.mem_cons, List.not_mem_nil, or_false] at hx
      rcases hx with rfl | rfl
      · exact .inr (.inl rfl)
      · exact .inl ⟨b, List.mem_cons_self, rfl⟩
    · cases hx
  | ar w' b c' d =>
    cases List.mem_singleton.mp hc
    have hx : x ∈ [lie m b, lie m c', lie m d] := hx
    simp only [List.mem_cons, List.not_mem_nil, or_false] at hx
    rcases hx with rfl | rfl | rfl
    · exact .inl ⟨b, by simp [Row.boxes], rfl⟩
    · exact .inl ⟨c', by simp [Row.boxes], rfl⟩
    · exact .inl ⟨d, by simp [Row.boxes], rfl⟩
  | num b n =>
    cases List.mem_singleton.mp hc
    cases List.mem_singleton.mp hx
    exact .inl ⟨b, List.mem_singleton.mpr rfl, rfl⟩
  | skip b n =>
    cases List.mem_singleton.mp hc
    cases List.mem_singleton.mp hx
    exact .inl ⟨b, List.mem_singleton.mpr rfl, rfl⟩
  | say b =>
    cases List.mem_singleton.mp hc
    cases List.mem_singleton.mp hx
    exact .inl ⟨b, List.mem_singleton.mpr rfl, rfl⟩
  | rest =>
    cases List.mem_singleton.mp hc
    cases hx
theorem mem_body {m : Int} {ns : List Int} {c : CRow} : ∀ {k : Nat} {rs : List Row}, c ∈ bodyC m ns k rs → ∃ j r, r ∈ rs ∧ c ∈ pieceC m ns j r
  | _, [], h => absurd h List.not_mem_nil
  | k, r :: rs, h => by
    rcases List.mem_append.mp (show c ∈ pieceC m ns k r ++ bodyC m ns (k + 1) rs from h) with h | h
    · exact ⟨k, r, List.mem_cons_self, h⟩
    · obtain ⟨j, r', h1, h2⟩ := mem_body h
      exact ⟨j, r', List.mem_cons_of_mem _ h1, h2⟩
theorem fresh_mem {f : Func} (hm : 0 ≤ f.many ∧ f.many ≤ 3) (hin : ∀ r ∈ f.rows, rowIn r) (x : Int) : (∃ c ∈ fnC f, x ∈ c.boxes ∧ 4 ≤ x ∧ x < 12) ↔ x ∈ (own f.many f.rows).map fun b => b + 4 := by
  constructor
  · rintro ⟨c, hc, hx, h4, h12⟩
    rw [List.mem_map]
    have out : ∀ r ∈ f.rows, ∀ b ∈ r.boxes, x = lie f.many b → ∃ a, a ∈ own f.many f.rows ∧ a + 4 = x := fun r hr b hb e => by
      have hbx := (hin r hr).2 b hb
      unfold lie at e
      by_cases h : b < f.many
      · rw [if_pos h] at e
        omega
      · rw [if_neg h] at e
        exact ⟨b, (mem_own hin b).mpr ⟨r, hr, hb, by omega⟩, e.symm⟩
    rcases List.mem_append.mp hc with hc | hc
    · obtain ⟨b, hb, rfl⟩ := List.mem_map.mp hc
      cases List.mem_singleton.mp hx
      obtain ⟨r, hr, h1, _⟩ := (mem_own hin b).mp hb
      exact out r hr b h1 rfl
    · rcases List.mem_append.mp hc with hc | hc
      · obtain ⟨j, r, hr, hp⟩ := mem_body hc
        rcases piece_boxes hp hx with ⟨b, hb, e⟩ | h | h
        · exact out r hr b hb e
        · omega
        · omega
      · have hc : c ∈ [CRow.num 0 0, .back] := hc
        simp only [List.mem_cons, List.not_mem_nil, or_false] at hc
        rcases hc with rfl | rfl
        · cases List.mem_singleton.mp hx
          omega
        · cases hx
  · intro h
    obtain ⟨b, hb, rfl⟩ := List.mem_map.mp h
    obtain ⟨r, hr, h1, h2⟩ := (mem_own hin b).mp hb
    have hbx := (hin r hr).2 b h1
    have e : lie f.many b = b + 4 := if_neg (by omega)
    exact ⟨.num (lie f.many b) 0, List.mem_append_left _ (List.mem_map.mpr ⟨b, hb, rfl⟩), by rw [e]; exact List.mem_singleton.mpr rfl, by have := hbx.1; omega, by have := hbx.2; omega⟩
theorem cut_mid {α : Type} (A B : List α) (x y : α) : DL.cutD (A ++ (B ++ [x, y])) (some (A.length : Int)) (some (-2)) = B := by
  have e : HT.sIx (A ++ (B ++ [x, y])).length (A ++ (B ++ [x, y])).length (some (-2)) = A.length + B.length := by
    show (if (-2 : Int) < 0 then ((-2 : Int) + ((A ++ (B ++ [x, y])).length : Int)).toNat else min (-2 : Int).toNat (A ++ (B ++ [x, y])).length) = _
    rw [if_pos (by decide)]
    simp only [List.length_append, List.length_cons, List.length_nil]
    omega
  unfold DL.cutD
  rw [HT.sIx_nat, e, Nat.min_eq_left (by simp), List.drop_left, Nat.add_sub_cancel_left, List.take_left]
theorem few16 {acc : List Int} (nd : acc.Nodup) (h : ∀ k ∈ acc, 4 ≤ k ∧ k < 12) : acc.length < 60 := by
  have := len_le (L := (List.range 16).map fun i : Nat => (i : Int)) nd fun k hk => by
    obtain ⟨z1, z2⟩ := h k hk
    rw [List.mem_map]
    exact ⟨k.toNat, by rw [List.mem_range]; omega, by omega⟩
  simp at this
  omega
theorem fn_under (n : Nat) (f : Func) : f.e.under n = true := by
  show (true && (unders n (f.rows.map Row.e) && true)) = true
  rw [unders_map n (row_under n)]
  rfl
def skipsOk (rs : List Row) : Prop := ∀ (i : Nat) b n, rs[i]? = some (.skip b n) → 0 ≤ n ∧ n ≤ (rs.length : Int) - 1 - (i : Int)
def spUfn : DSp := fun ds S P => ∃ f : Func, ds = [codeFn f] ∧ (0 ≤ f.many ∧ f.many ≤ 3) ∧ (∀ r ∈ f.rows, rowIn r) ∧ f.rows.length ≤ 30 ∧ skipsOk f.rows ∧ P f.e S
def spUnmade : DSp := fun ds S P => ∃ p : List Func, ds = [codeE p] ∧ progOk p ∧ P (progE p) S
theorem upr_skip {m : Int} {ns : List Int} {j : Nat} {r : Row} : (∃ b n, r = .skip b n) ∨ (upr m ns j r = r ∧ ∃ wd ps, r.e = .tup (.str wd :: ps) ∧ wd ≠ "skip") := by
  cases r with
  | skip b n => exact .inl ⟨b, n, rfl⟩
  | ar w' b c d => exact .inr ⟨rfl, w'.s, _, rfl, by cases w' <;> decide⟩
  | _ => exact .inr ⟨rfl, _, _, rfl, by decide⟩
section
variable {P : Program} {w : World} {K : PySem.W.Frag} {mg : Str → Option Value} {base : Heap}
theorem ok_unmadefunction (at_ : At K mg "unmade_function" s_unmadefunction ["function"]) (mb : ∀ x, isB x = true → mg x = none) (gi : ∀ x n, isG x = some n → ∃ t, mg x = some (.int n t)) (lr : LrTab K mg) (G_codeboxes : FnN P w K mg base "code_boxes" 2 ["row"] spCodeBoxes)
    (G_cut : FnN P w K mg base "cut" 2 ["rows"] spCut) (G_unmadepiece : Fn P w K mg base "unmade_piece" 3 ["piece", "many"] spUpiece) (G_rowspassed : Fn P w K mg base "rows_passed" 1 ["pieces", "count"] spPassed) :
    Fn P w K mg base "unmade_function" 4 ["function"] spUfn := by
  obtain ⟨uLR, vLR, mg_LAST_ROWS⟩ := lr
  refine fn_at at_ fun f fd F => fn_d F sc_unmadefunction (fun ds S P h => ?_) ?_
  · obtain ⟨f, rfl, _⟩ := h
    rfl
  · rintro X W0 cdv A outer s H E rfl hr
    have hu := hr.units
    refine ⟨_, (dss_cons (ds_asg (de_var (pv 0)) (dg_tup (n := 2) rfl (dgs_cons (dg_name (pg_name (i := 1) sc_unmadefunction.nd rfl (by first | exact Or.inl rfl | exact Or.inr rfl))) (dgs_cons (dg_name (pg_name (i := 2) sc_unmadefunction.nd rfl (by first | exact Or.inl rfl | exact Or.inr rfl))) dgs_nil))) (fun h1 h2 => ps_asg h1 h2))
      (dss_cons (ds_set (i := 3) (de_pure (dn_ssc (own := [("row", 4), ("box", 5)]) (vs1 := [5]) (by decide) (by decide) (by decide) rfl sc_unmadefunction.nd (di_tup (de_var (pv 2))) (blkOk_by (N := N_unmadefunction) (sc := defScope s_unmadefunction) (by decide +kernel)) (fun _ _ _ _ _ => (dg_name (pg_name (i := 4) sc_unmadefunction.nd rfl (Or.inl rfl)))) (fun _ _ _ _ _ => dts_nil) (fun _ _ _ _ _ => (di_list (de_pure (dn_fn G_codeboxes (hr.mono (by decide)) (by rfl) (da_cons (de_var (pv 4)) da_nil))))) (fun _ _ _ _ _ => (dg_name (pg_name (i := 5) sc_unmadefunction.nd rfl (Or.inl rfl)))) (fun _ _ _ _ _ => (dts_one (dt_chain op_le op_lt do_le do_lt (de_gint (by rfl) (gi "FIRST_OWN" 4 rfl)) (de_var (pv 5)) (de_gint (by rfl) (gi "FIRST_OUT" 12 rfl))))) (fun _ _ _ _ _ => (de_var (pv 5))) (by rfl) (mb "sorted" rfl))) (fun h => ps_set sc_unmadefunction.nd rfl (by first | exact Or.inl rfl | exact Or.inr rfl) h))
      (dss_cons (ds_set (i := 6) (de_pure (dn_fn G_cut (hr.mono (by decide)) (by rfl) (da_cons (de_sliceT (de_var (pv 2)) (do_some (de_b dc_len (da_cons (de_var (pv 3)) da_nil) (fun h => pe_callB call_len_seq (by rfl) (mb "len" rfl) PySem.boot_len h))) (do_some (de_neg (de_b dc_len (da_cons (de_glob (by rfl) mg_LAST_ROWS.1 mg_LAST_ROWS.2.1 mg_LAST_ROWS.2.2) da_nil) (fun h => pe_callB call_len_seq (by rfl) (mb "len" rfl) PySem.boot_len h))))) da_nil))) (fun h => ps_set sc_unmadefunction.nd rfl (by first | exact Or.inl rfl | exact Or.inr rfl) h))
      (dss_cons (ds_set (i := 7) (de_new (dn_lst da_nil)) (fun h => ps_set sc_unmadefunction.nd rfl (by first | exact Or.inl rfl | exact Or.inr rfl) h))
      (dss_cons (ds_for PassesOwn.never rfl (di_enum (by rfl) (mb "enumerate" rfl) (da_cons (de_var (pv 6)) da_nil)) (dg_tup (n := 2) rfl (dgs_cons (dg_name (pg_name (i := 8) sc_unmadefunction.nd rfl (by first | exact Or.inl rfl | exact Or.inr rfl))) (dgs_cons (dg_name (pg_name (i := 9) sc_unmadefunction.nd rfl (by first | exact Or.inl rfl | exact Or.inr rfl))) dgs_nil))) (dss_cons (ds_set (i := 4) (de_fn G_unmadepiece (hr.mono (by decide)) (by rfl) (da_cons (de_var (pv 9)) (da_cons (de_var (pv 1)) da_nil))) (fun h => ps_set sc_unmadefunction.nd rfl (by first | exact Or.inl rfl | exact Or.inr rfl) h))
      (dss_cut (ds_if (dt_cmp (op_eqA hu) do_eq (de_ix (de_var (pv 4)) de_int (fun _ _ => rfl)) de_str (nomark _)) (dss_cons (ds_asg (de_var (pv 4)) (dg_tup (n := 3) rfl (dgs_cons (dg_name (pg_name (i := 10) sc_unmadefunction.nd rfl (by first | exact Or.inl rfl | exact Or.inr rfl))) (dgs_cons (dg_name (pg_name (i := 5) sc_unmadefunction.nd rfl (by first | exact Or.inl rfl | exact Or.inr rfl))) (dgs_cons (dg_name (pg_name (i := 11) sc_unmadefunction.nd rfl (by first | exact Or.inl rfl | exact Or.inr rfl))) dgs_nil)))) (fun h1 h2 => ps_asg h1 h2))
      (dss_one (ds_set (i := 4) (de_tup (da_cons (de_var (pv 10)) (da_cons (de_var (pv 5)) (da_cons (de_fn G_rowspassed (hr.mono (by decide)) (by rfl) (da_cons (de_pure (dn_slice (de_var (pv 6)) (do_some (de_add (de_var (pv 8)) de_int)) do_none)) (da_cons (de_var (pv 11)) da_nil))) da_nil)))) (fun h => ps_set sc_unmadefunction.nd rfl (by first | exact Or.inl rfl | exact Or.inr rfl) h)))) dss_nil)
      (dss_one (ds_expr (de_mt dm_append (de_var (pv 7)) (da_cons (de_var (pv 4)) da_nil) (fun h1 h2 => pe_bm PySem.F.plainAttrs_list PySem.F.slot_list_append PySem.F.type_list_append mt_append h1 h2)))))))
      (dss_one (ds_ret (de_tup (da_cons (de_var (pv 1)) (da_cons (de_b dc_tuple (da_cons (de_var (pv 7)) da_nil) (fun h => pe_callTy call_tuple_of (by rfl) (mb "tuple" rfl) (by decide +kernel) h)) da_nil)))))))))), ?_⟩
    rintro ds S P ⟨f, rfl, hm, hin, hl, hsk, post⟩
    have hflen := fnC_len hl fun r hr => (hin r hr).1
    have hfe : fnC f = firstC f.many f.rows ++ (bodyC f.many (sizes f.many f.rows) 0 f.rows ++ [.num 0 0, .back]) := rfl
    rw [codeFn_e]
    generalize hL : fnC f = L at hflen hfe
    walk_at "st"
    walk_at "d"
    walk_at "e"
    refine i_ssc ?_
    walk_at "d"
    have hget : ∀ (acc : List Int), (S ++ [setOf w acc])[S.length]? = some (setOf w acc) := fun acc => by rw [List.getElem?_append_right (Nat.le_refl _), Nat.sub_self]; rfl
    have hset : ∀ (acc acc' : List Int), (S ++ [setOf w acc]).set S.length (setOf w acc') = S ++ [setOf w acc'] := fun acc acc' => by rw [List.set_append_right _ _ (Nat.le_refl _), Nat.sub_self]; rfl
    refine ⟨fun i S' => ∃ acc, S' = S ++ [setOf w acc] ∧ acc.Nodup ∧ ∀ k, k ∈ acc ↔ ∃ c ∈ L.take i, k ∈ c.boxes ∧ 4 ≤ k ∧ k < 12, ⟨[], rfl, List.nodup_nil, by simp⟩, fun _ _ _ _ => trivial, ?_, ?_⟩
    · rintro i x S' hx ⟨acc, rfl, nd, hmm⟩
      rw [List.getElem?_map] at hx
      cases er : L[i]? with
      | none => rw [er] at hx; cases hx
      | some c =>
        rw [er] at hx
        cases hx
        walk_at "d"
        refine ite_t rfl ?_
        refine i_deep ?_
        walk_at "d"
        refine ⟨c, rfl, ?_⟩
        walk_at "d"
        refine ⟨fun j S' => ∃ acc, S' = S ++ [setOf w acc] ∧ acc.Nodup ∧ ∀ k, k ∈ acc ↔ (∃ c ∈ L.take i, k ∈ c.boxes ∧ 4 ≤ k ∧ k < 12) ∨ (k ∈ c.boxes.take j ∧ 4 ≤ k ∧ k < 12), ⟨acc, rfl, nd, fun k => by rw [hmm k]; simp⟩, fun _ _ _ _ => trivial, ?_, ?_⟩
        · rintro j y S' hy ⟨acc, rfl, nd, hmm⟩
          rw [List.getElem?_map] at hy
          cases eb : c.boxes[j]? with
          | none => rw [eb] at hy; cases hy
          | some b =>
            rw [eb] at hy
            cases hy
            have tk : c.boxes.take (j + 1) = c.boxes.take j ++ [b] := by rw [List.take_add_one, eb]; rfl
            have no : ¬ (4 ≤ b ∧ b < 12) → ∃ acc', S ++ [setOf w acc] = S ++ [setOf w acc'] ∧ acc'.Nodup ∧ ∀ k, k ∈ acc' ↔ (∃ c ∈ L.take i, k ∈ c.boxes ∧ 4 ≤ k ∧ k < 12) ∨ (k ∈ c.boxes.take (j + 1) ∧ 4 ≤ k ∧ k < 12) := fun hno => by
              refine ⟨acc, rfl, nd, fun k => ?_⟩
              rw [hmm k, tk, List.mem_append, List.mem_singleton]
              constructor
              · rintro (q | q)
                · exact .inl q
                · exact .inr ⟨.inl q.1, q.2⟩
              · rintro (q | ⟨q | rfl, q2⟩)
                · exact .inl q
                · exact .inr ⟨q, q2⟩
                · exact absurd q2 hno
            walk_at "d"
            walk_at "e"
            by_cases h4 : 4 ≤ b
            · refine ite_t (decide_eq_true h4) ?_
              walk_at "d"
              by_cases h12 : b < 12
              · refine ite_t (decide_eq_true h12) ?_
                refine i_put ?_
                walk_at "d"
                refine ⟨acc, hget acc, few16 nd fun k hk => ?_, ins1 acc b, hset _ _, nodup_ins1 nd, fun k => ?_⟩
                · rcases (hmm k).mp hk with ⟨_, _, _, q⟩ | ⟨_, q⟩
                  · exact q
                  · exact q
                · rw [mem_ins1, hmm k, tk, List.mem_append, List.mem_singleton]
                  constructor
                  · rintro ((q | q) | rfl)
                    · exact .inl q
                    · exact .inr ⟨.inl q.1, q.2⟩
                    · exact .inr ⟨.inr rfl, h4, h12⟩
                  · rintro (q | ⟨q | q, q2⟩)
                    · exact .inl (.inl q)
                    · exact .inl (.inr ⟨q, q2⟩)
                    · exact .inr q
              · refine ite_f (by simpa using h12) ?_
                exact no fun z => h12 z.2
            · refine ite_f (by simpa using h4) ?_
              walk_at "d"
              refine ite_f Bool.false_ne_true ?_
              exact no fun z => h4 z.1
        · rintro S' ⟨acc, rfl, nd, hmm⟩
          refine ⟨acc, rfl, nd, fun k => ?_⟩
          rw [hmm k, List.length_map, List.take_length, List.take_add_one, er]
          constructor
          · rintro (⟨r', h1, h2⟩ | q)
            · exact ⟨r', List.mem_append_left _ h1, h2⟩
            · exact ⟨c, by simp, q⟩
          · rintro ⟨r', h1, h2⟩
            rcases List.mem_append.mp h1 with h1 | h1
            · exact .inl ⟨r', h1, h2⟩
            · simp at h1
              subst h1
              exact .inr h2
    · rintro S' ⟨acc, rfl, nd, hmm⟩
      rw [List.length_map, List.take_length] at hmm
      refine ⟨acc, hget acc, few16 nd fun k hk => ?_, fun nn hs hns => ?_⟩
      · obtain ⟨c, hc, _, q⟩ := (hmm k).mp hk
        exact q
      have e : nn = (own f.many f.rows).map fun b => b + 4 := rising_eq hs (List.pairwise_map.mpr ((rising_own f.many f.rows).imp fun h => by omega)) fun k => by rw [hns k, hmm k, ← hL, fresh_mem hm hin k]
      subst e
      walk_at "d"
      walk_at "e"
      have ecut : DL.cutD (L.map CRow.e) (some ((((own f.many f.rows).map fun b => b + 4).map D.int).length : Int)) (some (-(lastRows.length : Int))) = (bodyC f.many (sizes f.many f.rows) 0 f.rows).map CRow.e := by
        rw [cutD_map, hfe, show ((((own f.many f.rows).map fun b => b + 4).map D.int).length : Int) = ((firstC f.many f.rows).length : Int) by simp [firstC], show -(lastRows.length : Int) = -2 from rfl, cut_mid]
      rw [ecut]
      generalize hns : sizes f.many f.rows = ns
      rw [hns] at hfe
      have hbl : (bodyC f.many ns 0 f.rows).length ≤ 160 := by
        rw [hfe] at hflen
        simp only [List.length_append] at hflen
        omega
      refine ⟨psC f.many ns 0 f.rows, by rw [psC_flat], fun q hq => ?_, by rw [psC_flat]; omega, ?_⟩
      · obtain ⟨i, hi⟩ := List.getElem?_of_mem hq
        rw [psC_get] at hi
        cases er : f.rows[i]? with
        | none => rw [er] at hi; cases hi
        | some r => rw [er] at hi; cases hi; exact prp_piece _ _ _ _
      walk_at "d"
      walk_at "e"
      have hS : ∀ i : Nat, ((S ++ [setOf w acc]) ++ [O.lst ((f.rows.take i).map Row.e)])[(S ++ [setOf w acc]).length]? = some (.lst ((f.rows.take i).map Row.e)) := fun i => by rw [List.getElem?_append_right (Nat.le_refl _), Nat.sub_self]; rfl
      refine ⟨fun i env S2 => S2 = (S ++ [setOf w acc]) ++ [.lst ((f.rows.take i).map Row.e)] ∧ ∃ y4 y5 y8 y9 y10 y11, env = [some (.tup [.int f.many, .tup (L.map CRow.e)]), some (.int f.many), some (.tup (L.map CRow.e)), some (.lst (((own f.many f.rows).map fun b => b + 4).map .int)), y4, y5, some (.lst ((psC f.many ns 0 f.rows).map pcE)), some (.ref (S ++ [setOf w acc]).length), y8, y9, y10, y11], ⟨rfl, none, none, none, none, none, none, rfl⟩, fun _ _ _ _ _ => trivial, ?_, ?_⟩
      · rintro i x env S2 hx ⟨rfl, y4, y5, y8, y9, y10, y11, rfl⟩
        obtain ⟨d, hd', rfl⟩ := enumD_get 0 _ i x hx
        rw [List.getElem?_map, psC_get] at hd'
        cases er : f.rows[i]? with
        | none => rw [er] at hd'; cases hd'
        | some r =>
          rw [er] at hd'
          cases hd'
          have hi := (List.getElem?_eq_some_iff.mp er).1
          have hri := hin r (List.mem_of_getElem? er)
          have last : (S ++ [setOf w acc] ++ [O.lst ((f.rows.take i).map Row.e)]).set (S ++ [setOf w acc]).length (.lst ((f.rows.take i).map Row.e ++ [r.e])) = S ++ [setOf w acc] ++ [O.lst ((f.rows.take (i + 1)).map Row.e)] := by
            rw [List.set_append_right _ _ (Nat.le_refl _), Nat.sub_self, List.take_add_one, er, List.map_append]
            rfl
          walk_at "d"
          walk_at "e"
          refine ⟨r, f.many, ns, 0 + i, rfl, hri, hm, ?_⟩
          walk_at "d"
          walk_at "e"
          refine ⟨fun env S2 => S2 = (S ++ [setOf w acc]) ++ [.lst ((f.rows.take i).map Row.e)] ∧ ∃ y5 y10 y11, env = [some (.tup [.int f.many, .tup (L.map CRow.e)]), some (.int f.many), some (.tup (L.map CRow.e)), some (.lst (((own f.many f.rows).map fun b => b + 4).map .int)), some r.e, y5, some (.lst ((psC f.many ns 0 f.rows).map pcE)), some (.ref (S ++ [setOf w acc]).length), some (.int ((0 + i : Nat) : Int)), some (pcE (pieceC f.many ns (0 + i) r)), y10, y11], ?_, ?_⟩
          · rcases upr_skip (m := f.many) (ns := ns) (j := 0 + i) (r := r) with ⟨b, n, rfl⟩ | ⟨eu, wd, ps, ew, hw⟩
            · obtain ⟨h0, h1⟩ := hsk i b n er
              dsimp only [upr, Row.e]
              walk_at "d"
              refine ite_t (by decide) ?_
              walk_at "d"
              walk_at "e"
              rw [show ((0 + i : Nat) : Int) + 1 = ((i + 1 : Nat) : Int) by omega, cutD_map, cutD_from _ (i + 1) (by rw [psC_len]; omega)]
              have hd0 : ns.drop i = sizes f.many (.skip b n :: f.rows.drop (i + 1)) := by
                rw [← hns]
                unfold sizes
                rw [← List.map_drop, List.drop_eq_getElem_cons hi, (List.getElem?_eq_some_iff.mp er).2]
              have ec := skip_count hd0 h0
              refine ⟨(psC f.many ns 0 f.rows).drop (i + 1), n.toNat, ?_, by rw [List.length_drop, psC_len]; omega, fun q hq => ?_, ?_⟩
              · rw [show ((i + 1 : Nat) : Int) + n = (i : Int) + 1 + n by omega, show ((i + 1 : Nat) : Int) = (i : Int) + 1 by omega, ec]
                have es : ((psC f.many ns 0 f.rows).drop (i + 1)).map (fun q => (q.length : Int)) = sizes f.many (f.rows.drop (i + 1)) := by
                  rw [List.map_drop, psC_sizes]
                  unfold sizes
                  rw [List.map_drop]
                unfold lens
                rw [List.map_take, es]
              · obtain ⟨j, hj⟩ := List.getElem?_of_mem (List.mem_of_mem_drop hq)
                rw [psC_get] at hj
                cases er' : f.rows[j]? with
                | none => rw [er'] at hj; cases hj
                | some r' => rw [er'] at hj; cases hj; exact (prp_piece _ _ _ _).1
              walk_at "d"
              walk_at "e"
              rw [Int.toNat_of_nonneg h0]
              exact ⟨rfl, _, _, _, rfl⟩
            · rw [eu, ew]
              walk_at "d"
              refine ite_f (by simpa using hw) ?_
              exact ⟨rfl, _, _, _, rfl⟩
          · rintro env S2 ⟨rfl, z5, z10, z11, rfl⟩
            walk_at "d"
            refine i_mtx (hS i) ?_
            walk_at "d"
            refine i_append (hS i) (sz_lt (by rw [List.length_map, List.length_take]; omega)) ?_
            rw [last]
            exact ⟨rfl, _, _, _, _, _, _, rfl⟩
      · rintro env S2 ⟨rfl, y4, y5, y8, y9, y10, y11, rfl⟩
        have hLq : seqOf ((S ++ [setOf w acc]) ++ [O.lst (f.rows.map Row.e)]) (.ref (S ++ [setOf w acc]).length) = some (f.rows.map Row.e) := by
          have := hS f.rows.length
          rw [List.take_length] at this
          simp only [seqOf, lstOf, this]
        rw [enumD_len, List.length_map, psC_len, List.take_length]
        walk_at "d"
        refine i_tuple hLq ?_
        walk_at "d"
        refine exit_pure (T' := [setOf w acc, .lst (f.rows.map Row.e)]) (by simp) (fun n => ?_) post
        show (true && (unders n (f.rows.map Row.e) && true)) = true
        rw [unders_map n (row_under n)]
        rfl
theorem ok_unmade (at_ : At K mg "unmade" s_unmade ["code"]) (mb : ∀ x, isB x = true → mg x = none) (G_checkcode : Fn P w K mg base "check_code" 6 ["code"] spCheckC) (G_unmadefunction : Fn P w K mg base "unmade_function" 4 ["function"] spUfn) (G_made : Fn P w K mg base "made" 7 ["program"] spMade) :
    Fn P w K mg base "unmade" 8 ["code"] spUnmade := by
  refine fn_at at_ fun f fd F => fn_d F sc_unmade (fun ds S P h => ?_) ?_
  · obtain ⟨p, rfl, _⟩ := h
    rfl
  · rintro X W0 cdv A outer s H E rfl hr
    have hu := hr.units
    refine ⟨_, (dss_cons (ds_expr (de_fn G_checkcode (hr.mono (by decide)) (by rfl) (da_cons (de_var (pv 0)) da_nil)))
      (dss_cons (ds_set (i := 1) (de_b dc_tuple (da_cons (de_pure (dn_lc (own := [("function", 2)]) (by decide) rfl sc_unmade.nd (di_tup (de_var (pv 0))) (blkOk_by (N := N_unmade) (sc := defScope s_unmade) (by decide +kernel)) (fun _ _ _ _ _ => (dg_name (pg_name (i := 2) sc_unmade.nd rfl (Or.inl rfl)))) (fun _ _ _ _ _ => dts_nil) (fun _ _ _ _ _ => (de_fn G_unmadefunction (hr.mono (by decide)) (by rfl) (da_cons (de_var (pv 2)) da_nil))))) da_nil) (fun h => pe_callTy call_tuple_of (by rfl) (mb "tuple" rfl) (by decide +kernel) h)) (fun h => ps_set sc_unmade.nd rfl (by first | exact Or.inl rfl | exact Or.inr rfl) h))
      (dss_cons (ds_tryNo (dss_one (ds_set (i := 3) (de_fn G_made (hr.mono (by decide)) (by rfl) (da_cons (de_var (pv 1)) da_nil)) (fun h => ps_set sc_unmade.nd rfl (by first | exact Or.inl rfl | exact Or.inr rfl) h))))
      (dss_cons (ds_if (dt_cmp (op_neA hu) do_ne (de_var (pv 3)) (de_var (pv 0)) (nomark _)) (dss_one ds_never) dss_nil)
      (dss_one (ds_ret (de_var (pv 1)))))))), ?_⟩
    rintro ds S P ⟨p, rfl, hp, post⟩
    walk_at "st"
    walk_at "d"
    refine ⟨p, rfl, hp, ?_⟩
    walk_at "d"
    dsimp only [codeE]
    walk_at "d"
    refine ⟨fun i acc S' => S' = S ∧ acc = (p.take i).map Func.e, ⟨rfl, rfl⟩, ?_, ?_, ?_⟩
    · rintro i acc S' hi ⟨rfl, rfl⟩
      have := hp.hi
      exact ⟨trivial, sz_lt (by rw [List.length_map, List.length_take]; omega)⟩
    · rintro i x acc S' hx ⟨rfl, rfl⟩
      rw [List.getElem?_map] at hx
      cases ef : p[i]? with
      | none => rw [ef] at hx; cases hx
      | some f' =>
        rw [ef] at hx
        cases hx
        have hf := List.mem_of_getElem? ef
        have fo := hp.fs f' hf
        walk_at "d"
        refine ite_t rfl ?_
        walk_at "d"
        refine ⟨f', rfl, ⟨fo.lo, fo.hi⟩, rowIn_of hp hf, fo.len, fun i b n e => (fo.rows i _ e).2, rfl, ?_⟩
        rw [List.take_add_one, ef]
        simp
    rintro acc S' ⟨rfl, rfl⟩
    rw [List.length_map, List.take_length]
    walk_at "d"
    walk_at "e"
    refine ⟨p, rfl, hp, ?_⟩
    walk_at "d"
    walk_at "e"
    refine i_same (n := 5) (code_pl hp) (by decide) ?_
    walk_at "d"
    refine ite_f (by decide) ?_
    walk_at "d"
    exact exit_pure0 (fun n => unders_map n (fn_under n) p) post
end
abbrev s_law : Stmt := topS 51
abbrev N_law : List Str := ["_law_script", "_law_h", "_law_turn", "_law_program_here", "_law_code", "_law_function", "_law_again", "_law_found"]
theorem sc_law : FnScope N_law ["_law_script"] (defScope s_law) := ⟨rfl, rfl, rfl, by decide +kernel, rfl, by decide +kernel, by decide +kernel⟩
theorem row_plE {n : Nat} {r : Row} (h : r.short) : Pl (n + 3) r.e := by
  have mk : ∀ ds : List D, ds.length ≤ 1000 → (∀ d ∈ ds, Pl (n + 2) d) → Pl (n + 3) (.tup ds) := fun ds a b => ⟨a, b⟩
  cases r with
  | call b f bs =>
    have hb : bs.length ≤ 3 := h
    refine mk _ (by simp) fun d hd => ?_
    simp only [List.mem_cons, List.not_mem_nil, or_false] at hd
    rcases hd with rfl | rfl | rfl | rfl
    · show PyData.strOk _ = true; decide +kernel
    · trivial
    · trivial
    · refine ⟨by rw [List.length_map]; omega, fun d hd => ?_⟩
      obtain ⟨i, _, rfl⟩ := List.mem_map.mp hd
      trivial
  | ar w' b c d =>
    refine mk _ (by simp) fun d hd => ?_
    simp only [List.mem_cons, List.not_mem_nil, or_false] at hd
    rcases hd with rfl | rfl | rfl | rfl
    · exact ar_ok w'
    · trivial
    · trivial
    · trivial
  | rest =>
    refine mk _ (by simp) fun d hd => ?_
    simp only [List.mem_cons, List.not_mem_nil, or_false] at hd
    subst hd
    show PyData.strOk _ = true
    decide +kernel
  | say b =>
    refine mk _ (by simp) fun d hd => ?_
    simp only [List.mem_cons, List.not_mem_nil, or_false] at hd
    rcases hd with rfl | rfl <;> first | trivial | (show PyData.strOk _ = true; decide +kernel)
  | tell b =>
    refine mk _ (by simp) fun d hd => ?_
    simp only [List.mem_cons, List.not_mem_nil, or_false] at hd
    rcases hd with rfl | rfl <;> first | trivial | (show PyData.strOk _ = true; decide +kernel)
  | num b k =>
    refine mk _ (by simp) fun d hd => ?_
    simp only [List.mem_cons, List.not_mem_nil, or_false] at hd
    rcases hd with rfl | rfl | rfl <;> first | trivial | (show PyData.strOk _ = true; decide +kernel)
  | skip b k =>
    refine mk _ (by simp) fun d hd => ?_
    simp only [List.mem_cons, List.not_mem_nil, or_false] at hd
    rcases hd with rfl | rfl | rfl <;> first | trivial | (show PyData.strOk _ = true; decide +kernel)
theorem prog_pl {p : List Func} (hp : progOk p) : Pl 6 (progE p) := by
  refine ⟨by rw [List.length_map]; have := hp.hi; omega, fun d hd => ?_⟩
  obtain ⟨f, hf, rfl⟩ := List.mem_map.mp hd
  refine ⟨by simp, fun d hd => ?_⟩
  simp only [List.mem_cons, List.not_mem_nil, or_false] at hd
  rcases hd with rfl | rfl
  · trivial
  · refine ⟨by rw [List.length_map]; have := (hp.fs f hf).len; omega, fun d hd => ?_⟩
    obtain ⟨r, hr, rfl⟩ := List.mem_map.mp hd
    exact row_plE (n := 0) (rowIn_of hp hf r hr).1
section
variable {P : Program} {w : World} {K : PySem.W.Frag} {mg : Str → Option Value} {base : Heap}
theorem ok_law {f : Addr} {fd : FuncData} (F : Fun K "law" "law" s_law f fd) (mb : ∀ x, isB x = true → mg x = none) (G_Lmix : Fn P w K mg base "_law_mix" 1 ["_law_script", "_law_seed"] spMix) (G_Lprogram : Fn P w K mg base "_law_program" 4 ["_law_h"] spProgram)
    (G_made : Fn P w K mg base "made" 7 ["program"] spMade) (G_unmade : Fn P w K mg base "unmade" 8 ["code"] spUnmade) (G_Lalike : Fn P w K mg base "_law_alike" 6 ["_law_found", "_law_due"] (spAlike 6)) :
    FnOk P w K mg base CX0 9 f fd ["_law_script"] (liftSp K spLaw) := by
  refine fn_d F sc_law (fun ds S P h => ?_) ?_
  · obtain ⟨ns, rfl, _⟩ := h
    rfl
  · rintro X W0 cdv A outer s H E rfl hr
    have hu := hr.units
    refine ⟨_, (dss_cons (ds_set (i := 1) (de_fn G_Lmix (hr.mono (by decide)) (by rfl) (da_cons (de_var (pv 0)) (da_cons de_int da_nil))) (fun h => ps_set sc_law.nd rfl (by first | exact Or.inl rfl | exact Or.inr rfl) h))
      (dss_cons (ds_for PassesOwn.never rfl (di_range1 (by rfl) (mb "range" rfl) (da_cons de_int da_nil)) (dg_name (pg_name (i := 2) sc_law.nd rfl (by first | exact Or.inl rfl | exact Or.inr rfl))) (dss_cons (ds_set (i := 3) (de_fn G_Lprogram (hr.mono (by decide)) (by rfl) (da_cons (de_var (pv 1)) da_nil)) (fun h => ps_set sc_law.nd rfl (by first | exact Or.inl rfl | exact Or.inr rfl) h))
      (dss_cons (ds_set (i := 4) (de_fn G_made (hr.mono (by decide)) (by rfl) (da_cons (de_var (pv 3)) da_nil)) (fun h => ps_set sc_law.nd rfl (by first | exact Or.inl rfl | exact Or.inr rfl) h))
      (dss_cons (ds_if (dt_cmp (op_neA hu) do_ne (de_pure (dn_lc (own := [("_law_function", 5)]) (by decide) rfl sc_law.nd (di_tup (de_var (pv 4))) (blkOk_by (N := N_law) (sc := defScope s_law) (by decide +kernel)) (fun _ _ _ _ _ => (dg_name (pg_name (i := 5) sc_law.nd rfl (Or.inl rfl)))) (fun _ _ _ _ _ => (dts_one (dt_cmp op_gt do_gt (de_b dc_len (da_cons (de_ix (de_var (pv 5)) de_int (fun _ _ => rfl)) da_nil) (fun h => pe_callB call_len_seq (by rfl) (mb "len" rfl) PySem.boot_len h)) de_int (nomark _)))) (fun _ _ _ _ _ => (de_var (pv 5))))) (de_pure (dn_lst da_nil)) (nomark _)) (dss_one (ds_ret de_bl)) dss_nil)
      (dss_one (ds_for PassesOwn.never rfl (di_range1 (by rfl) (mb "range" rfl) (da_cons de_int da_nil)) (dg_name (pg_name (i := 6) sc_law.nd rfl (by first | exact Or.inl rfl | exact Or.inr rfl))) (dss_cons (ds_set (i := 7) (de_fn G_unmade (hr.mono (by decide)) (by rfl) (da_cons (de_var (pv 4)) da_nil)) (fun h => ps_set sc_law.nd rfl (by first | exact Or.inl rfl | exact Or.inr rfl) h))
      (dss_one (ds_if (dt_w (dw_or (dt_not (dt_val (de_fn G_Lalike (hr.mono (by decide)) (by rfl) (da_cons (de_var (pv 7)) (da_cons (de_var (pv 3)) da_nil))))) (dw_or1 (dt_cmp (op_neA hu) do_ne (de_fn G_made (hr.mono (by decide)) (by rfl) (da_cons (de_var (pv 7)) da_nil)) (de_var (pv 4)) (nomark _))))) (dss_one (ds_ret de_bl)) dss_nil)))))))))
      (dss_one (ds_ret de_bl)))), ?_⟩
    rintro ds S P ⟨ns, rfl, rfl, post⟩
    walk_at "st"
    walk_at "d"
    refine ⟨ns, 17, rfl, rfl, fun m => ?_⟩
    walk_at "d"
    walk_at "e"
    refine i_rg1 (by decide) (by decide) ?_
    refine ⟨fun i env S' => ∃ t y2 y3 y4 y5 y6 y7, S' = hd t ∧ env = [some (.scr ns), some (.ref 1), y2, y3, y4, y5, y6, y7], ⟨_, none, none, none, none, none, none, rfl, rfl⟩, fun _ _ _ _ _ => trivial, ?_, ?_⟩
    · rintro i x env S' hx ⟨t, y2, y3, y4, y5, y6, y7, rfl, rfl⟩
      obtain ⟨hi, rfl⟩ := rangeD_get hx
      walk_at "d"
      walk_at "e"
      refine ⟨t, [], rfl, (List.append_nil _).symm, fun p t' hp => ?_⟩
      walk_at "d"
      walk_at "e"
      refine ⟨p, rfl, hp, ?_⟩
      walk_at "d"
      walk_at "e"
      dsimp only [codeE]
      walk_at "d"
      refine ⟨fun i acc S2 => S2 = hd t' ++ [] ∧ acc = [], ⟨rfl, rfl⟩, ?_, ?_, ?_⟩
      · rintro i acc S2 hi ⟨rfl, rfl⟩
        exact ⟨trivial, sz_lt (by simp)⟩
      · rintro i x acc S2 hx ⟨rfl, rfl⟩
        rw [List.getElem?_map] at hx
        cases ef : p[i]? with
        | none => rw [ef] at hx; cases hx
        | some f' =>
          rw [ef] at hx
          cases hx
          have hf := List.mem_of_getElem? ef
          have hl := fnC_len (hp.fs f' hf).len fun r hr => (rowIn_of hp hf r hr).1
          rw [codeFn_e]
          walk_at "d"
          refine ite_f (by
            rw [decide_eq_true_eq]
            rw [List.length_map]
            omega) ?_
          exact ⟨rfl, rfl⟩
      rintro acc S2 ⟨rfl, rfl⟩
      walk_at "d"
      refine i_eqNil (ns := []) rfl ?_
      walk_at "d"
      refine ite_f (by decide) ?_
      walk_at "d"
      refine i_rg1 (by decide) (by decide) ?_
      refine ⟨fun j env S2 => ∃ y2 y5 y6 y7, S2 = hd t' ++ [] ∧ env = [some (.scr ns), some (.ref 1), y2, some (progE p), some (.tup (p.map codeFn)), y5, y6, y7], ⟨_, _, _, _, rfl, rfl⟩, fun _ _ _ _ _ => trivial, ?_, ?_⟩
      · rintro j x env S2 hx ⟨z2, z5, z6, z7, rfl, rfl⟩
        walk_at "d"
        walk_at "e"
        refine ⟨p, rfl, hp, ?_⟩
        walk_at "d"
        walk_at "e"
        refine ⟨progE p, rfl, prog_pl hp, ?_⟩
        walk_at "d"
        refine ite_f (by decide) ?_
        walk_at "d"
        refine ⟨p, rfl, hp, ?_⟩
        walk_at "d"
        refine i_same (code_pl hp) (by decide) ?_
        walk_at "d"
        refine ite_f (by decide) ?_
        exact ⟨_, _, _, _, rfl, rfl⟩
      · rintro env S2 ⟨z2, z5, z6, z7, rfl, rfl⟩
        exact ⟨t', _, _, _, _, _, _, List.append_nil _, rfl⟩
    · rintro env S' ⟨t, y2, y3, y4, y5, y6, y7, rfl, rfl⟩
      walk_at "d"
      exact exit_pure (S := []) (T' := hd t) rfl (fun _ => rfl) post
end
theorem law_all {P : Program} {w : World} {K : PySem.W.Frag} {mg : Str → Option Value} {base : Heap} (mb : ∀ x, isB x = true → mg x = none) (gi : ∀ x n, isG x = some n → ∃ t, mg x = some (.int n t)) (pr : PrTab P w K mg) (cd : CdTab P w K mg) (lr : LrTab K mg)
    (at_whole : At K mg "whole" s_whole ["value"])
    (at_below : At K mg "below" s_below ["value", "bound"])
    (at_allbelow : At K mg "all_below" s_allbelow ["values", "bound"])
    (at_boxesby : At K mg "boxes_by" s_boxesby ["row", "kinds"])
    (at_programboxes : At K mg "program_boxes" s_programboxes ["row"])
    (at_codeboxes : At K mg "code_boxes" s_codeboxes ["row"])
    (at_functioncanbe : At K mg "function_can_be" s_functioncanbe ["function", "most"])
    (at_firstbadfunction : At K mg "first_bad_function" s_firstbadfunction ["functions", "most"])
    (at_rowcanbe : At K mg "row_can_be" s_rowcanbe ["row", "shapes", "bounds", "manys"])
    (at_firstbad : At K mg "first_bad" s_firstbad ["functions", "shapes", "boxes", "most"])
    (at_checkprogram : At K mg "check_program" s_checkprogram ["program"])
    (at_checkcode : At K mg "check_code" s_checkcode ["code"])
    (at_placeof : At K mg "place_of" s_placeof ["box", "many"])
    (at_maderow : At K mg "made_row" s_maderow ["row", "many"])
    (at_firstrows : At K mg "first_rows" s_firstrows ["rows", "many"])
    (at_madefunction : At K mg "made_function" s_madefunction ["function"])
    (at_made : At K mg "made" s_made ["program"])
    (at_piecesize : At K mg "piece_size" s_piecesize ["rows", "at"])
    (at_cut : At K mg "cut" s_cut ["rows"])
    (at_boxat : At K mg "box_at" s_boxat ["place", "many"])
    (at_unmadepiece : At K mg "unmade_piece" s_unmadepiece ["piece", "many"])
    (at_rowspassed : At K mg "rows_passed" s_rowspassed ["pieces", "count"])
    (at_unmadefunction : At K mg "unmade_function" s_unmadefunction ["function"])
    (at_unmade : At K mg "unmade" s_unmade ["code"])
    (at_Lmix : At K mg "_law_mix" s_Lmix ["_law_script", "_law_seed"])
    (at_Lnext : At K mg "_law_next" s_Lnext ["_law_h", "_law_many"])
    (at_Lplainrow : At K mg "_law_plain_row" s_Lplainrow ["_law_h"])
    (at_Lcounter : At K mg "_law_counter" s_Lcounter ["_law_h", "_law_me", "_law_often"])
    (at_Ldrawn : At K mg "_law_drawn" s_Ldrawn ["_law_h", "_law_me", "_law_counts"])
    (at_Lprogram : At K mg "_law_program" s_Lprogram ["_law_h"])
    (at_Lalike : At K mg "_law_alike" s_Lalike ["_law_found", "_law_due"])
    {f : Addr} {fd : FuncData} (F : Fun K "law" "law" s_law f fd) : FnOk P w K mg base CX0 9 f fd ["_law_script"] (liftSp K spLaw) := by
  have g1 := ok_Lnext (P := P) (w := w) (base := base) at_Lnext mb
  have g2 := ok_Lplainrow at_Lplainrow mb g1
  have g3 := ok_Lcounter at_Lcounter mb g1
  have g4 := ok_Ldrawn at_Ldrawn mb g1 g2
  have g5 := ok_Lprogram at_Lprogram mb g1 g4 g3
  have g6 := ok_whole (P := P) (w := w) (base := base) at_whole mb
  have g7 := ok_below at_below mb g6
  have g8 := ok_allbelow at_allbelow mb g7
  have g9 := ok_boxesby (P := P) (w := w) (base := base) at_boxesby mb
  have g10 := ok_programboxes at_programboxes mb pr g9
  have g11 := ok_functioncanbe at_functioncanbe mb gi g7
  have g12 := ok_firstbadfunction at_firstbadfunction mb gi g11
  have g13 := ok_rowcanbe at_rowcanbe mb g7 g8
  have g14 := ok_firstbad at_firstbad mb gi g12 g13
  have g15 := ok_checkprogram at_checkprogram mb gi pr g14
  have g16 := ok_placeof (P := P) (w := w) (base := base) at_placeof gi
  have g18 := ok_maderow at_maderow mb gi g10 g16
  have g20 := ok_firstrows at_firstrows mb g10 g16
  have g21 := ok_madefunction at_madefunction mb lr g18 g20
  have g22 := ok_made at_made mb g15 g21
  have a0 := ok_Lalike0 (P := P) (w := w) (base := base) at_Lalike
  have a6 := ok_Lalike at_Lalike mb (ok_Lalike at_Lalike mb (ok_Lalike at_Lalike mb (ok_Lalike at_Lalike mb (ok_Lalike at_Lalike mb (ok_Lalike at_Lalike mb a0)))))
  have g25 := ok_Lmix (P := P) (w := w) (base := base) at_Lmix mb
  have c1 := ok_checkcode at_checkcode mb gi cd g14
  have c2 := ok_codeboxes at_codeboxes mb cd g9
  have c3 := ok_piecesize (P := P) (w := w) (base := base) at_piecesize mb
  have c4 := ok_cut at_cut mb c3
  have c5 := ok_boxat (P := P) (w := w) (base := base) at_boxat gi
  have c6 := ok_rowspassed (P := P) (w := w) (base := base) at_rowspassed mb
  have c7 := ok_unmadepiece at_unmadepiece mb c5 c2
  have c8 := ok_unmadefunction at_unmadefunction mb gi lr c2 c4 c7 c6
  have c9 := ok_unmade at_unmade mb c1 c8 g22
  exact ok_law F mb g25 g5 g22 c9 a6
end K6
open PySem PySem.W PyProof.Rows L2 DL K6
local macro_rules | `(tactic| walk_at "kr") => `(tactic| first
  | exact KRs.nil
  | exact KEs.nil
  | exact KR.int _ _
  | exact KR.str _ _
  | (refine' KRs.cons ?ka ?kb; (case ka => walk_at "kr"); (case kb => walk_at "kr"))
  | (refine' KR.tup ?ka ?kb ?kc; (case ka => k_is); (case kb => decide); (case kc => walk_at "kr"))
  | (refine' KEs.cons ?ka ?kb ?kc; (case ka => exact rfl); (case kb => walk_at "kr"); (case kc => walk_at "kr")))
set_option maxHeartbeats 0 in
theorem PySem.Challenge.cw_slideboxes_k06_whole_made_and_back_holds : PySem.Challenge.rw_slideboxes_k06_whole_made_and_back.Holds := by
  w_on; o_law; k_head; (case hw => w_witness2)
  k_fill
  refine L2.walk_ofK (l := PySem.Challenge.rw_slideboxes_k06_whole_made_and_back) (n := 63) (k := 9) (x := "_law_script") (CX := L2.CX0) (sp := fun K => liftSp K K6.spLaw) rfl (by decide) rfl ⟨rfl, by decide, by decide⟩ (fun w h Y => PySem.W.kIn_of Y) ?F (fun K H a ns hl _ hS => sp_law hS ⟨ns, rfl, rfl, rfl⟩) (fun _ _ _ _ h => h)
  case F =>
    intro w mg fa h KX G hmg
    refine' with_at KX G "whole" (topS 15) ["value"] ?aa1 ?ll1 ?cc1 ?kk1 (fun _ _ _ _ _ _ us hl => match us, hl with | [_], _ => rfl) ?qq1
    (case aa1 => k_is); (case ll1 => k_is); (case cc1 => k_is); (case kk1 => k_is)
    intro at_whole
    refine' with_at KX G "below" (topS 16) ["value", "bound"] ?aa2 ?ll2 ?cc2 ?kk2 (fun _ _ _ _ _ _ us hl => match us, hl with | [_, _], _ => rfl) ?qq2
    (case aa2 => k_is); (case ll2 => k_is); (case cc2 => k_is); (case kk2 => k_is)
    intro at_below
    refine' with_at KX G "all_below" (topS 17) ["values", "bound"] ?aa3 ?ll3 ?cc3 ?kk3 (fun _ _ _ _ _ _ us hl => match us, hl with | [_, _], _ => rfl) ?qq3
    (case aa3 => k_is); (case ll3 => k_is); (case cc3 => k_is); (case kk3 => k_is)
    intro at_allbelow
    refine' with_at KX G "boxes_by" (topS 18) ["row", "kinds"] ?aa4 ?ll4 ?cc4 ?kk4 (fun _ _ _ _ _ _ us hl => match us, hl with | [_, _], _ => rfl) ?qq4
    (case aa4 => k_is); (case ll4 => k_is); (case cc4 => k_is); (case kk4 => k_is)
    intro at_boxesby
    refine' with_at KX G "program_boxes" (topS 19) ["row"] ?aa5 ?ll5 ?cc5 ?kk5 (fun _ _ _ _ _ _ us hl => match us, hl with | [_], _ => rfl) ?qq5
    (case aa5 => k_is); (case ll5 => k_is); (case cc5 => k_is); (case kk5 => k_is)
    intro at_programboxes
    refine' with_at KX G "code_boxes" (topS 20) ["row"] ?aa6 ?ll6 ?cc6 ?kk6 (fun _ _ _ _ _ _ us hl => match us, hl with | [_], _ => rfl) ?qq6
    (case aa6 => k_is); (case ll6 => k_is); (case cc6 => k_is); (case kk6 => k_is)
    intro at_codeboxes
    refine' with_at KX G "function_can_be" (topS 21) ["function", "most"] ?aa7 ?ll7 ?cc7 ?kk7 (fun _ _ _ _ _ _ us hl => match us, hl with | [_, _], _ => rfl) ?qq7
    (case aa7 => k_is); (case ll7 => k_is); (case cc7 => k_is); (case kk7 => k_is)
    intro at_functioncanbe
    refine' with_at KX G "first_bad_function" (topS 22) ["functions", "most"] ?aa8 ?ll8 ?cc8 ?kk8 (fun _ _ _ _ _ _ us hl => match us, hl with | [_, _], _ => rfl) ?qq8
    (case aa8 => k_is); (case ll8 => k_is); (case cc8 => k_is); (case kk8 => k_is)
    intro at_firstbadfunction
    refine' with_at KX G "row_can_be" (topS 23) ["row", "shapes", "bounds", "manys"] ?aa9 ?ll9 ?cc9 ?kk9 (fun _ _ _ _ _ _ us hl => match us, hl with | [_, _, _, _], _ => rfl) ?qq9
    (case aa9 => k_is); (case ll9 => k_is); (case cc9 => k_is); (case kk9 => k_is)
    intro at_rowcanbe
    refine' with_at KX G "first_bad" (topS 24) ["functions", "shapes", "boxes", "most"] ?aa10 ?ll10 ?cc10 ?kk10 (fun _ _ _ _ _ _ us hl => match us, hl with | [_, _, _, _], _ => rfl) ?qq10
    (case aa10 => k_is); (case ll10 => k_is); (case cc10 => k_is); (case kk10 => k_is)
    intro at_firstbad
    refine' with_at KX G "check_program" (topS 25) ["program"] ?aa11 ?ll11 ?cc11 ?kk11 (fun _ _ _ _ _ _ us hl => match us, hl with | [_], _ => rfl) ?qq11
    (case aa11 => k_is); (case ll11 => k_is); (case cc11 => k_is); (case kk11 => k_is)
    intro at_checkprogram
    refine' with_at KX G "check_code" (topS 26) ["code"] ?aa12 ?ll12 ?cc12 ?kk12 (fun _ _ _ _ _ _ us hl => match us, hl with | [_], _ => rfl) ?qq12
    (case aa12 => k_is); (case ll12 => k_is); (case cc12 => k_is); (case kk12 => k_is)
    intro at_checkcode
    refine' with_at KX G "place_of" (topS 31) ["box", "many"] ?aa13 ?ll13 ?cc13 ?kk13 (fun _ _ _ _ _ _ us hl => match us, hl with | [_, _], _ => rfl) ?qq13
    (case aa13 => k_is); (case ll13 => k_is); (case cc13 => k_is); (case kk13 => k_is)
    intro at_placeof
    refine' with_at KX G "made_row" (topS 32) ["row", "many"] ?aa14 ?ll14 ?cc14 ?kk14 (fun _ _ _ _ _ _ us hl => match us, hl with | [_, _], _ => rfl) ?qq14
    (case aa14 => k_is); (case ll14 => k_is); (case cc14 => k_is); (case kk14 => k_is)
    intro at_maderow
    refine' with_at KX G "first_rows" (topS 33) ["rows", "many"] ?aa15 ?ll15 ?cc15 ?kk15 (fun _ _ _ _ _ _ us hl => match us, hl with | [_, _], _ => rfl) ?qq15
    (case aa15 => k_is); (case ll15 => k_is); (case cc15 => k_is); (case kk15 => k_is)
    intro at_firstrows
    refine' with_at KX G "made_function" (topS 34) ["function"] ?aa16 ?ll16 ?cc16 ?kk16 (fun _ _ _ _ _ _ us hl => match us, hl with | [_], _ => rfl) ?qq16
    (case aa16 => k_is); (case ll16 => k_is); (case cc16 => k_is); (case kk16 => k_is)
    intro at_madefunction
    refine' with_at KX G "made" (topS 35) ["program"] ?aa17 ?ll17 ?cc17 ?kk17 (fun _ _ _ _ _ _ us hl => match us, hl with | [_], _ => rfl) ?qq17
    (case aa17 => k_is); (case ll17 => k_is); (case cc17 => k_is); (case kk17 => k_is)
    intro at_made
    refine' with_at KX G "piece_size" (topS 36) ["rows", "at"] ?aa18 ?ll18 ?cc18 ?kk18 (fun _ _ _ _ _ _ us hl => match us, hl with | [_, _], _ => rfl) ?qq18
    (case aa18 => k_is); (case ll18 => k_is); (case cc18 => k_is); (case kk18 => k_is)
    intro at_piecesize
    refine' with_at KX G "cut" (topS 37) ["rows"] ?aa19 ?ll19 ?cc19 ?kk19 (fun _ _ _ _ _ _ us hl => match us, hl with | [_], _ => rfl) ?qq19
    (case aa19 => k_is); (case ll19 => k_is); (case cc19 => k_is); (case kk19 => k_is)
    intro at_cut
    refine' with_at KX G "box_at" (topS 38) ["place", "many"] ?aa20 ?ll20 ?cc20 ?kk20 (fun _ _ _ _ _ _ us hl => match us, hl with | [_, _], _ => rfl) ?qq20
    (case aa20 => k_is); (case ll20 => k_is); (case cc20 => k_is); (case kk20 => k_is)
    intro at_boxat
    refine' with_at KX G "unmade_piece" (topS 39) ["piece", "many"] ?aa21 ?ll21 ?cc21 ?kk21 (fun _ _ _ _ _ _ us hl => match us, hl with | [_, _], _ => rfl) ?qq21
    (case aa21 => k_is); (case ll21 => k_is); (case cc21 => k_is); (case kk21 => k_is)
    intro at_unmadepiece
    refine' with_at KX G "rows_passed" (topS 40) ["pieces", "count"] ?aa22 ?ll22 ?cc22 ?kk22 (fun _ _ _ _ _ _ us hl => match us, hl with | [_, _], _ => rfl) ?qq22
    (case aa22 => k_is); (case ll22 => k_is); (case cc22 => k_is); (case kk22 => k_is)
    intro at_rowspassed
    refine' with_at KX G "unmade_function" (topS 41) ["function"] ?aa23 ?ll23 ?cc23 ?kk23 (fun _ _ _ _ _ _ us hl => match us, hl with | [_], _ => rfl) ?qq23
    (case aa23 => k_is); (case ll23 => k_is); (case cc23 => k_is); (case kk23 => k_is)
    intro at_unmadefunction
    refine' with_at KX G "unmade" (topS 42) ["code"] ?aa24 ?ll24 ?cc24 ?kk24 (fun _ _ _ _ _ _ us hl => match us, hl with | [_], _ => rfl) ?qq24
    (case aa24 => k_is); (case ll24 => k_is); (case cc24 => k_is); (case kk24 => k_is)
    intro at_unmade
    refine' with_at KX G "_law_mix" (topS 44) ["_law_script", "_law_seed"] ?aa25 ?ll25 ?cc25 ?kk25 (fun _ _ _ _ _ _ us hl => match us, hl with | [_, _], _ => rfl) ?qq25
    (case aa25 => k_is); (case ll25 => k_is); (case cc25 => k_is); (case kk25 => k_is)
    intro at_Lmix
    refine' with_at KX G "_law_next" (topS 45) ["_law_h", "_law_many"] ?aa26 ?ll26 ?cc26 ?kk26 (fun _ _ _ _ _ _ us hl => match us, hl with | [_, _], _ => rfl) ?qq26
    (case aa26 => k_is); (case ll26 => k_is); (case cc26 => k_is); (case kk26 => k_is)
    intro at_Lnext
    refine' with_at KX G "_law_plain_row" (topS 46) ["_law_h"] ?aa27 ?ll27 ?cc27 ?kk27 (fun _ _ _ _ _ _ us hl => match us, hl with | [_], _ => rfl) ?qq27
    (case aa27 => k_is); (case ll27 => k_is); (case cc27 => k_is); (case kk27 => k_is)
    intro at_Lplainrow
    refine' with_at KX G "_law_counter" (topS 47) ["_law_h", "_law_me", "_law_often"] ?aa28 ?ll28 ?cc28 ?kk28 (fun _ _ _ _ _ _ us hl => match us, hl with | [_, _, _], _ => rfl) ?qq28
    (case aa28 => k_is); (case ll28 => k_is); (case cc28 => k_is); (case kk28 => k_is)
    intro at_Lcounter
    refine' with_at KX G "_law_drawn" (topS 48) ["_law_h", "_law_me", "_law_counts"] ?aa29 ?ll29 ?cc29 ?kk29 (fun _ _ _ _ _ _ us hl => match us, hl with | [_, _, _], _ => rfl) ?qq29
    (case aa29 => k_is); (case ll29 => k_is); (case cc29 => k_is); (case kk29 => k_is)
    intro at_Ldrawn
    refine' with_at KX G "_law_program" (topS 49) ["_law_h"] ?aa30 ?ll30 ?cc30 ?kk30 (fun _ _ _ _ _ _ us hl => match us, hl with | [_], _ => rfl) ?qq30
    (case aa30 => k_is); (case ll30 => k_is); (case cc30 => k_is); (case kk30 => k_is)
    intro at_Lprogram
    refine' with_at KX G "_law_alike" (topS 50) ["_law_found", "_law_due"] ?aa31 ?ll31 ?cc31 ?kk31 (fun _ _ _ _ _ _ us hl => match us, hl with | [_, _], _ => rfl) ?qq31
    (case aa31 => k_is); (case ll31 => k_is); (case cc31 => k_is); (case kk31 => k_is)
    intro at_Lalike
    refine' with_at KX G "law" (topS 51) ["_law_script"] ?aa32 ?ll32 ?cc32 ?kk32 (fun _ _ _ _ _ _ us hl => match us, hl with | [_], _ => rfl) ?qq32
    (case aa32 => k_is); (case ll32 => k_is); (case cc32 => k_is); (case kk32 => k_is)
    intro at_law
    refine' with_none KX G "len" ?aa33 ?qq33
    (case aa33 => k_is)
    intro z_len
    refine' with_none KX G "max" ?aa34 ?qq34
    (case aa34 => k_is)
    intro z_max
    refine' with_none KX G "min" ?aa35 ?qq35
    (case aa35 => k_is)
    intro z_min
    refine' with_none KX G "sum" ?aa36 ?qq36
    (case aa36 => k_is)
    intro z_sum
    refine' with_none KX G "all" ?aa37 ?qq37
    (case aa37 => k_is)
    intro z_all
    refine' with_none KX G "tuple" ?aa38 ?qq38
    (case aa38 => k_is)
    intro z_tuple
    refine' with_none KX G "list" ?aa39 ?qq39
    (case aa39 => k_is)
    intro z_list
    refine' with_none KX G "isinstance" ?aa40 ?qq40
    (case aa40 => k_is)
    intro z_isinstance
    refine' with_none KX G "range" ?aa41 ?qq41
    (case aa41 => k_is)
    intro z_range
    refine' with_none KX G "enumerate" ?aa42 ?qq42
    (case aa42 => k_is)
    intro z_enumerate
    refine' with_none KX G "zip" ?aa43 ?qq43
    (case aa43 => k_is)
    intro z_zip
    refine' with_none KX G "sorted" ?aa44 ?qq44
    (case aa44 => k_is)
    intro z_sorted
    refine' with_none KX G "set" ?aa45 ?qq45
    (case aa45 => k_is)
    intro z_set
    refine' with_none KX G "int" ?aa46 ?qq46
    (case aa46 => k_is)
    intro z_int
    refine' with_none KX G "str" ?aa47 ?qq47
    (case aa47 => k_is)
    intro z_str
    refine' with_none KX G "bool" ?aa48 ?qq48
    (case aa48 => k_is)
    intro z_bool
    refine' with_none KX G "dict" ?aa49 ?qq49
    (case aa49 => k_is)
    intro z_dict
    refine' with_int KX G "MOST_FUNCTIONS" 8 ?aa50 ?qq50
    (case aa50 => k_is)
    intro i_MOST_FUNCTIONS
    refine' with_int KX G "MOST_ARGUMENTS" 3 ?aa51 ?qq51
    (case aa51 => k_is)
    intro i_MOST_ARGUMENTS
    refine' with_int KX G "MOST_PROGRAM_ROWS" 30 ?aa52 ?qq52
    (case aa52 => k_is)
    intro i_MOST_PROGRAM_ROWS
    refine' with_int KX G "PROGRAM_BOXES" 8 ?aa53 ?qq53
    (case aa53 => k_is)
    intro i_PROGRAM_BOXES
    refine' with_int KX G "NUMBERS" 1000 ?aa54 ?qq54
    (case aa54 => k_is)
    intro i_NUMBERS
    refine' with_int KX G "FIRST_OWN" 4 ?aa55 ?qq55
    (case aa55 => k_is)
    intro i_FIRST_OWN
    refine' with_int KX G "FIRST_OUT" 12 ?aa56 ?qq56
    (case aa56 => k_is)
    intro i_FIRST_OUT
    refine' with_int KX G "MOST_CODE_ROWS" 200 ?aa57 ?qq57
    (case aa57 => k_is)
    intro i_MOST_CODE_ROWS
    refine' with_int KX G "CODE_BOXES" 16 ?aa58 ?qq58
    (case aa58 => k_is)
    intro i_CODE_BOXES
    refine' with_val KX G "LAST_ROWS" (.tup lastRows) ?aa59 ?rr59 ?qq59
    (case aa59 => k_is)
    (case rr59 => walk_at "kr")
    intro v_LAST_ROWS
    refine' with_dict (P := PySem.Challenge.rw_slideboxes_k06_whole_made_and_back.prog) (w := w) KX G "PROGRAM_ROWS" ["num", "plus", "less", "times", "call", "skip", "say", "rest", "tell"] (prDs) ?aa60 ?ll60 ?ee60 ?tt60 ?oo60 (by decide) (by decide) ?qq60
    (case aa60 => k_is); (case ll60 => k_is)
    (case ee60 => walk_at "kr")
    (case tt60 => exact ⟨⟨_, _, rfl, rfl⟩, ⟨_, _, rfl, rfl⟩, ⟨_, _, rfl, rfl⟩, ⟨_, _, rfl, rfl⟩, ⟨_, _, rfl, rfl⟩, ⟨_, _, rfl, rfl⟩, ⟨_, _, rfl, rfl⟩, ⟨_, _, rfl, rfl⟩, ⟨_, _, rfl, rfl⟩, trivial⟩); (case oo60 => decide)
    intro d_PROGRAM_ROWS
    refine' with_dict (P := PySem.Challenge.rw_slideboxes_k06_whole_made_and_back.prog) (w := w) KX G "CODE_ROWS" ["num", "copy", "plus", "less", "times", "call", "skip", "say", "rest", "back"] (shDs cdSh) ?aa61 ?ll61 ?ee61 ?tt61 ?oo61 (by decide) (by decide) ?qq61
    (case aa61 => k_is); (case ll61 => k_is)
    (case ee61 => walk_at "kr")
    (case tt61 => exact ⟨⟨_, _, rfl, rfl⟩, ⟨_, _, rfl, rfl⟩, ⟨_, _, rfl, rfl⟩, ⟨_, _, rfl, rfl⟩, ⟨_, _, rfl, rfl⟩, ⟨_, _, rfl, rfl⟩, ⟨_, _, rfl, rfl⟩, ⟨_, _, rfl, rfl⟩, ⟨_, _, rfl, rfl⟩, ⟨_, _, rfl, rfl⟩, trivial⟩); (case oo61 => decide)
    intro d_CODE_ROWS
    have mb := nones (mg := mg) (l := ["len", "max", "min", "sum", "all", "tuple", "list", "isinstance", "range", "enumerate", "zip", "sorted", "set", "int", "str", "bool", "dict"]) (by simp only [List.forall_mem_cons]; exact ⟨z_len, z_max, z_min, z_sum, z_all, z_tuple, z_list, z_isinstance, z_range, z_enumerate, z_zip, z_sorted, z_set, z_int, z_str, z_bool, z_dict, fun _ h => absurd h List.not_mem_nil⟩)
    have gi := ints_of_top (mg := mg) (l := [("MOST_FUNCTIONS", 8), ("MOST_ARGUMENTS", 3), ("MOST_PROGRAM_ROWS", 30), ("PROGRAM_BOXES", 8), ("NUMBERS", 1000), ("FIRST_OWN", 4), ("FIRST_OUT", 12), ("MOST_CODE_ROWS", 200), ("CODE_BOXES", 16)]) (by simp only [List.forall_mem_cons]; exact ⟨i_MOST_FUNCTIONS, i_MOST_ARGUMENTS, i_MOST_PROGRAM_ROWS, i_PROGRAM_BOXES, i_NUMBERS, i_FIRST_OWN, i_FIRST_OUT, i_MOST_CODE_ROWS, i_CODE_BOXES, fun _ h => absurd h List.not_mem_nil⟩)
    exact law_at at_law hmg (fun base f fd F => law_all mb gi d_PROGRAM_ROWS d_CODE_ROWS v_LAST_ROWS at_whole at_below at_allbelow at_boxesby at_programboxes at_codeboxes at_functioncanbe at_firstbadfunction at_rowcanbe at_firstbad at_checkprogram at_checkcode at_placeof at_maderow at_firstrows at_madefunction at_made at_piecesize at_cut at_boxat at_unmadepiece at_rowspassed at_unmadefunction at_unmade at_Lmix at_Lnext at_Lplainrow at_Lcounter at_Ldrawn at_Lprogram at_Lalike F) (fun _ _ _ _ _ _ _ => rfl)

