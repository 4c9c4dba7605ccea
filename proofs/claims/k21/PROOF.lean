import PyProof.Rows.All
import Wide.All
import OpenK.AllK
import Wide.FinOn
import HandS.ForMost
import HandS.Star
import HandS.Zip
import HandS.IsInst
import HandS.Flow
import HandS.SetBool
import HandS.SortInts
import HandS.Deep
import HandS.Conv
import HandS.TupLe
import HandS.Exc
import HandS.ExcOwn
import HandS.WordsExc
import HandS.Evl
import HandS.TupAny
import HandS.Lambda
import HandS.Walk
import KE.GoesEnum
import KE.GoesMore
import HandS.Comp
import HandS.Strs
import HandS.SetFor
import HandS.Small
import HandS.Style
import HandS.ExcField
import HandS.ExcIs
import HandS.RaiseMore
import HandS.CallSlots
import KE.KExcIs
import HandS.ExcInit
import HandS.FStr
import KE.KExcSuper
import HandS.EndTab
import PyProof.Rows.MatchSeqLen
import KE.DatumOrd
import PyProof.SumAny
import PyProof.Rows.RowBridgeK
import HandS.DictComp
import KE.KUnpack
import PyProof.CollectIter
import HandS.Text
import HandS.StrMore
import HandS.TupMul
import PyProof.AutoSeq1
import HandS.NoneIn
import PySem.Challenge.RW_slideboxes_k21_texts_refused
set_option Elab.async false
set_option linter.all false
set_option maxRecDepth 100000
set_option maxHeartbeats 4000000
namespace DL
open PySem PySem.Spec PyProof.Rows L2

/-! ### data -/
inductive D where
  | non | bl (b : Bool) | int (i : Int) | str (x : Str) | tup (xs : List D) | lst (xs : List D) | ref (i : Nat) | dct (ks : List Key) (xs : List D) | ty (n : String) | scr (ns : List Int) | adr (a : Addr)
inductive O where
  | dead | lst (xs : List D) | ins (C : Addr) (fs : List (Str × D)) | dct (ks : List Key) (xs : List D) | any (ho : Addr → HO) | tab (p : Addr) (q : Str)
abbrev Sto := List O
abbrev Ev := List (Option D)

structure Wd where
  m : List Addr
  B : Hp
structure Wd.le (W W' : Wd) : Prop where
  pre : ∀ (i : Nat) a, W.m[i]? = some a → W'.m[i]? = some a
  same : Same W.B W'.B
theorem Wd.le.refl (W : Wd) : W.le W := ⟨fun _ _ h => h, Same.refl _⟩
theorem Wd.le.trans {W W1 W2 : Wd} (a : W.le W1) (b : W1.le W2) : W.le W2 := ⟨fun i x h => b.pre i x (a.pre i x h), a.same.trans b.same⟩

theorem same_rd {H H' : Hp} {a : Addr} {u : HO} (e : Same H H') (h : Rd H a u) : Rd H' a u := Evl.ex_rd e h
theorem same_sql {K : PySem.W.Frag} {H H' : Hp} {a : Addr} {xs : List V} (e : Same H H') (h : SqL K H a xs) : SqL K H' a xs := Evl.ex_l e h
theorem same_sqt {K : PySem.W.Frag} {H H' : Hp} {a : Addr} {xs : List V} (e : Same H H') (h : SqT K H a xs) : SqT K H' a xs := Evl.ex_t e h

mutual
inductive Rep (K : PySem.W.Frag) (W : Wd) : V → D → Prop where
  | non : Rep K W .non .non
  | bl (b : Bool) : Rep K W (.bl b) (.bl b)
  | int (i : Int) : Rep K W (.int i) (.int i)
  | str (x : Str) : Rep K W (.str x) (.str x)
  | ty (n : String) : Rep K W (.ty n) (.ty n)
  | tup {a : Addr} {vs : List V} {ds : List D} : SqT K W.B a vs → Reps K W vs ds → Rep K W (.ref a) (.tup ds)
  | lst {a : Addr} {vs : List V} {ds : List D} : W.B a = some (.lst vs) → Reps K W vs ds → Rep K W (.ref a) (.lst ds)
  | scr {a : Addr} {ns : List Int} : SqL K W.B a (ns.map V.int) → Rep K W (.ref a) (.scr ns)
  | dct {a : Addr} {ks : List Key} {vs : List V} {ds : List D} : Rd W.B a (.dK (ks.zip vs)) → ks.length = vs.length → Reps K W vs ds → Rep K W (.ref a) (.dct ks ds)
  | ref {i : Nat} {a : Addr} : W.m[i]? = some a → Rep K W (.ref a) (.ref i)
  | adr (a : Addr) : Rep K W (.ref a) (.adr a)
inductive Reps (K : PySem.W.Frag) (W : Wd) : List V → List D → Prop where
  | nil : Reps K W [] []
  | cons {v : V} {d : D} {vs : List V} {ds : List D} : Rep K W v d → Reps K W vs ds → Reps K W (v :: vs) (d :: ds)
end

section
variable {K : PySem.W.Frag} {W W' : Wd}
mutual
theorem Rep.mono (l : W.le W') : ∀ {v : V} {d : D}, Rep K W v d → Rep K W' v d
  | _, _, .non => .non
  | _, _, .bl b => .bl b
  | _, _, .int i => .int i
  | _, _, .str x => .str x
  | _, _, .ty x => .ty x
  | _, _, .tup h r => .tup (same_sqt l.same h) (Reps.mono l r)
  | _, _, .lst h r => .lst (l.same _ _ h) (Reps.mono l r)
  | _, _, .scr h => .scr (same_sql l.same h)
  | _, _, .dct h e r => .dct (same_rd l.same h) e (Reps.mono l r)
  | _, _, .ref h => .ref (l.pre _ _ h)
  | _, _, .adr a => .adr a
theorem Reps.mono (l : W.le W') : ∀ {vs : List V} {ds : List D}, Reps K W vs ds → Reps K W' vs ds
  | _, _, .nil => .nil
  | _, _, .cons h r => .cons (Rep.mono l h) (Reps.mono l r)
end
theorem Reps.length : ∀ {vs : List V} {ds : List D}, Reps K W vs ds → vs.length = ds.length
  | _, _, .nil => rfl
  | _, _, .cons _ r => congrArg (· + 1) (Reps.length r)
theorem Reps.app : ∀ {vs ws : List V} {ds es : List D}, Reps K W vs ds → Reps K W ws es → Reps K W (vs ++ ws) (ds ++ es)
  | _, _, _, _, .nil, s => s
  | _, _, _, _, .cons h r, s => .cons h (Reps.app r s)
theorem Reps.get : ∀ {vs : List V} {ds : List D} {i : Nat} {d : D}, Reps K W vs ds → ds[i]? = some d → ∃ v, vs[i]? = some v ∧ Rep K W v d
  | _, _, _, _, .nil, e => by simp at e
  | _, _, 0, _, .cons h r, e => ⟨_, rfl, by simp at e; rw [← e]; exact h⟩
  | _, _, i + 1, _, .cons _ r, e => by
    obtain ⟨v, h1, h2⟩ := Reps.get (i := i) r (by simpa using e)
    exact ⟨v, by simpa using h1, h2⟩
theorem Reps.getV : ∀ {vs : List V} {ds : List D} {i : Nat} {v : V}, Reps K W vs ds → vs[i]? = some v → ∃ d, ds[i]? = some d ∧ Rep K W v d
  | _, _, _, _, .nil, e => by simp at e
  | _, _, 0, _, .cons h r, e => ⟨_, rfl, by simp at e; rw [← e]; exact h⟩
  | _, _, i + 1, _, .cons _ r, e => by
    obtain ⟨v, h1, h2⟩ := Reps.getV (i := i) r (by simpa using e)
    exact ⟨v, by simpa using h1, h2⟩
theorem Reps.set {v : V} {d : D} (h : Rep K W v d) : ∀ {vs : List V} {ds : List D} (i : Nat), Reps K W vs ds → Reps K W (vs.set i v) (ds.set i d)
  | _, _, _, .nil => .nil
  | _, _, 0, .cons _ r => .cons h r
  | _, _, i + 1, .cons q r => .cons q (Reps.set h i r)
theorem Reps.take : ∀ {vs : List V} {ds : List D} (n : Nat), Reps K W vs ds → Reps K W (vs.take n) (ds.take n)
  | _, _, 0, _ => .nil
  | _, _, _ + 1, .nil => .nil
  | _, _, n + 1, .cons h r => .cons h (Reps.take n r)
theorem Reps.drop : ∀ {vs : List V} {ds : List D} (n : Nat), Reps K W vs ds → Reps K W (vs.drop n) (ds.drop n)
  | _, _, 0, r => r
  | _, _, _ + 1, .nil => .nil
  | _, _, n + 1, .cons _ r => Reps.drop n r
theorem Reps.dropLast : ∀ {vs : List V} {ds : List D}, Reps K W vs ds → Reps K W vs.dropLast ds.dropLast
  | _, _, .nil => .nil
  | _, _, .cons h .nil => .nil
  | _, _, .cons h (.cons h2 r) => .cons h (Reps.dropLast (.cons h2 r))
end

theorem one_place : ∀ (N : List Addr), N.Nodup → ∀ (i j : Nat) (x : Addr), N[i]? = some x → N[j]? = some x → i = j
  | [], _, _, _, _, h, _ => by simp at h
  | _ :: _, _, 0, 0, _, _, _ => rfl
  | y :: N, nd, 0, j + 1, x, h, k => by
    simp at h k
    exact absurd (List.mem_of_getElem? k) (h ▸ (List.nodup_cons.mp nd).1)
  | y :: N, nd, i + 1, 0, x, h, k => by
    simp at h k
    exact absurd (List.mem_of_getElem? h) (k ▸ (List.nodup_cons.mp nd).1)
  | y :: N, nd, i + 1, j + 1, x, h, k => congrArg (· + 1) (one_place N (List.nodup_cons.mp nd).2 i j x (by simpa using h) (by simpa using k))

/-! ### the store -/
/-- a table of code objects of the name q, at a; B: what is known and stays -/
def TabR (B H : Hp) (a : Addr) (q : Str) : Prop := ∃ ps : Array Value, H a = some (.tbl ps) ∧ TriplesOk ps.toList ∧ ∀ (pos : Pos) (cv : Value), codeAmong pos ps.toList = some cv → ∃ c, cv = .ref c ∧ B c = some (LamX.CodeO c q)
def OR (K : PySem.W.Frag) (W : Wd) (H : Hp) (a : Addr) : O → Prop
  | .dead => True
  | .lst ds => W.B a = none ∧ ∃ vs, H a = some (.lst vs) ∧ Reps K W vs ds
  | .ins C fs => W.B a = none ∧ ∃ dx vs, H a = some (.ins C dx ((fs.map (·.1)).zip vs)) ∧ Reps K W vs (fs.map (·.2))
  | .dct ks ds => W.B a = none ∧ ∃ vs, H a = some (.dK (ks.zip vs)) ∧ ks.length = vs.length ∧ Reps K W vs ds
  | .any ho => W.B a = none ∧ H a = some (ho a)
  | .tab p q => W.B a = none ∧ a = p ∧ TabR W.B H a q
structure Sim (K : PySem.W.Frag) (W : Wd) (S : Sto) (H : Hp) : Prop where
  same : Same W.B H
  len : W.m.length = S.length
  nd : W.m.Nodup
  dom : ∀ a ∈ W.m, H a ≠ none
  obj : ∀ (i : Nat) a o, W.m[i]? = some a → S[i]? = some o → OR K W H a o
  ntb : ∀ b ps, W.B b ≠ some (.tbl ps)
/-- what is known of names -/
structure EnvR (K : PySem.W.Frag) (W : Wd) (env : Ev) (σ : L2.St) : Prop where
  len : σ.length = env.length
  get : ∀ (i : Nat) d, env[i]? = some (some d) → ∃ v, σ[i]? = some (some v) ∧ Rep K W v d

section
variable {K : PySem.W.Frag} {W W' : Wd} {S : Sto} {H : Hp} {env : Ev} {σ : L2.St}
theorem EnvR.mono (l : W.le W') (e : EnvR K W env σ) : EnvR K W' env σ := ⟨e.len, fun i d h => let ⟨v, a, b⟩ := e.get i d h; ⟨v, a, b.mono l⟩⟩
theorem EnvR.set {i : Nat} {v : V} {d : D} (e : EnvR K W env σ) (r : Rep K W v d) : EnvR K W (env.set i (some d)) (σ.set i (some v)) := by
  refine ⟨by simp [e.len], fun j d' h => ?_⟩
  by_cases hj : j = i
  · subst hj
    by_cases hl : j < env.length
    · rw [List.getElem?_set_self hl] at h
      cases h
      exact ⟨v, List.getElem?_set_self (by rw [e.len]; exact hl), r⟩
    · rw [List.getElem?_eq_none (by rw [List.length_set]; omega)] at h
      cases h
  · rw [List.getElem?_set_ne (Ne.symm hj)] at h
    obtain ⟨w, h1, h2⟩ := e.get j d' h
    exact ⟨w, by rw [List.getElem?_set_ne (Ne.symm hj)]; exact h1, h2⟩
theorem EnvR.unset {i : Nat} {o : Option V} (e : EnvR K W env σ) : EnvR K W (env.set i none) (σ.set i o) := by
  refine ⟨by simp [e.len], fun j d' h => ?_⟩
  by_cases hj : j = i
  · subst hj
    by_cases hl : j < env.length
    · rw [List.getElem?_set_self hl] at h
      cases h
    · rw [List.getElem?_eq_none (by rw [List.length_set]; omega)] at h
      cases h
  · rw [List.getElem?_set_ne (Ne.symm hj)] at h
    obtain ⟨w, h1, h2⟩ := e.get j d' h
    exact ⟨w, by rw [List.getElem?_set_ne (Ne.symm hj)]; exact h1, h2⟩
/-- a store object's address is none of the pure heap's, and in the heap -/
theorem OR.mono {a : Addr} {o : O} (l : W.le W') (hB : W'.B a = none ∨ W.B a ≠ none) (h : OR K W H a o) {H' : Hp} (hH : H' a = H a) : OR K W' H' a o := by
  cases o with
  | dead => trivial
  | lst ds =>
    obtain ⟨b, vs, e, r⟩ := h
    rcases hB with hB | hB
    · exact ⟨hB, vs, by rw [hH]; exact e, r.mono l⟩
    · exact absurd b hB
  | ins C fs =>
    obtain ⟨b, dx, vs, e, r⟩ := h
    rcases hB with hB | hB
    · exact ⟨hB, dx, vs, by rw [hH]; exact e, r.mono l⟩
    · exact absurd b hB
  | dct ks ds =>
    obtain ⟨b, vs, e, q, r⟩ := h
    rcases hB with hB | hB
    · exact ⟨hB, vs, by rw [hH]; exact e, q, r.mono l⟩
    · exact absurd b hB
  | any ho =>
    obtain ⟨b, e⟩ := h
    rcases hB with hB | hB
    · exact ⟨hB, by rw [hH]; exact e⟩
    · exact absurd b hB
  | tab p q =>
    obtain ⟨b, ea, ps, e, t, r⟩ := h
    rcases hB with hB | hB
    · exact ⟨hB, ea, ps, by rw [hH]; exact e, t, fun p c z => let ⟨c', e1, e2⟩ := r p c z; ⟨c', e1, l.same _ _ e2⟩⟩
    · exact absurd b hB
/-- a new pure object -/
def Wd.put (W : Wd) (p : Addr) (o : HO) : Wd := ⟨W.m, upd W.B p o⟩
def Wd.new (W : Wd) (p : Addr) : Wd := ⟨W.m ++ [p], W.B⟩
theorem Wd.put_ntb {W : Wd} {p : Addr} {o : HO} (h : ∀ b ps, W.B b ≠ some (.tbl ps)) (hn : ∀ ps, o ≠ .tbl ps) : ∀ b ps, (W.put p o).B b ≠ some (.tbl ps) := fun b ps z => by
  have z : upd W.B p o b = some (.tbl ps) := z
  by_cases e : b = p
  · rw [e, upd_same] at z
    exact hn ps (Option.some.inj z)
  · rw [upd_ne e] at z
    exact h b ps z
theorem Sim.free {p : Addr} (s : Sim K W S H) (hp : H p = none) : W.B p = none := s.same.free hp
theorem Wd.le_put {p : Addr} {o : HO} (h : W.B p = none) : W.le (W.put p o) := ⟨fun _ _ h => h, Evl.Ex.new h⟩
theorem Wd.le_new {p : Addr} : W.le (W.new p) := ⟨fun i a h => by
  show (W.m ++ [p])[i]? = some a
  rw [List.getElem?_append_left (List.getElem?_eq_some_iff.mp h).1]
  exact h, Same.refl _⟩
theorem Sim.put {p : Addr} {o : HO} (s : Sim K W S H) (hp : H p = none) (hn : ∀ ps, o ≠ .tbl ps := by intro _ z; cases z) : Sim K (W.put p o) S (upd H p o) := by
  have hB := s.free hp
  refine ⟨fun b u e => ?_, s.len, s.nd, fun a ha => ?_, fun i a ob h1 h2 => ?_, Wd.put_ntb s.ntb hn⟩
  · by_cases hb : b = p
    · subst hb
      have e : upd W.B b o b = some u := e
      rw [upd_same] at e ⊢
      exact e
    · have e : upd W.B p o b = some u := e
      rw [upd_ne hb] at e ⊢
      exact s.same b u e
  · have hne : a ≠ p := fun z => s.dom a ha (by rw [z]; exact hp)
    rw [upd_ne hne]
    exact s.dom a ha
  · have hne : a ≠ p := fun z => s.dom a (List.mem_of_getElem? h1) (by rw [z]; exact hp)
    refine (s.obj i a ob h1 h2).mono (Wd.le_put hB) ?_ (upd_ne hne)
    by_cases hb : W.B a = none
    · exact .inl (by show upd W.B p o a = none; rw [upd_ne hne]; exact hb)
    · exact .inr hb
/-- a new store object -/
theorem Sim.newO {p : Addr} {o : O} {ho : HO} (s : Sim K W S H) (hp : H p = none) (h : OR K (W.new p) (upd H p ho) p o) : Sim K (W.new p) (S ++ [o]) (upd H p ho) := by
  have hB := s.free hp
  have hnp : p ∉ W.m := fun z => s.dom p z hp
  refine ⟨fun b u e => ?_, by show (W.m ++ [p]).length = _; simp [s.len], ?_, fun a ha => ?_, fun i a ob h1 h2 => ?_, s.ntb⟩
  · rw [upd_ne (ne_of_none (show W.B b = some u from e) hB)]
    exact s.same b u e
  · show (W.m ++ [p]).Nodup
    exact List.nodup_append.mpr ⟨s.nd, List.nodup_cons.mpr ⟨List.not_mem_nil, List.nodup_nil⟩, fun a ha b hb => by
      rw [List.mem_singleton] at hb
      subst hb
      exact fun z => hnp (z ▸ ha)⟩
  · rcases List.mem_append.mp (show a ∈ W.m ++ [p] from ha) with ha | ha
    · have hne : a ≠ p := fun z => hnp (z ▸ ha)
      rw [upd_ne hne]
      exact s.dom a ha
    · rw [List.mem_singleton.mp ha, upd_same]
      exact fun z => nomatch z
  · have h1 : (W.m ++ [p])[i]? = some a := h1
    by_cases hi : i < W.m.length
    · rw [List.getElem?_append_left hi] at h1
      rw [List.getElem?_append_left (by rw [← s.len]; exact hi)] at h2
      have hne : a ≠ p := fun z => hnp (z ▸ List.mem_of_getElem? h1)
      refine (s.obj i a ob h1 h2).mono Wd.le_new ?_ (upd_ne hne)
      by_cases hb : W.B a = none
      · exact .inl hb
      · exact .inr hb
    · have hi2 : i = W.m.length := by
        have := (List.getElem?_eq_some_iff.mp h1).1
        rw [List.length_append, List.length_singleton] at this
        omega
      subst hi2
      rw [List.getElem?_append_right (Nat.le_refl _), Nat.sub_self] at h1
      rw [s.len, List.getElem?_append_right (Nat.le_refl _), Nat.sub_self] at h2
      cases h1
      cases h2
      exact h
theorem Sim.newL {p : Addr} {vs : List V} {ds : List D} (s : Sim K W S H) (hp : H p = none) (r : Reps K W vs ds) : Sim K (W.new p) (S ++ [.lst ds]) (upd H p (.lst vs)) :=
  s.newO hp ⟨s.free hp, vs, upd_same, r.mono Wd.le_new⟩
/-- a store object changes -/
theorem Sim.setO {i : Nat} {a : Addr} {o o' : O} {ho : HO} (s : Sim K W S H) (hi : W.m[i]? = some a) (ho1 : S[i]? = some o) (hb : W.B a = none) (h : OR K W (upd H a ho) a o') : Sim K W (S.set i o') (upd H a ho) := by
  refine ⟨fun b u e => ?_, by rw [List.length_set]; exact s.len, s.nd, fun b hbm => ?_, fun j b ob h1 h2 => ?_, s.ntb⟩
  · rw [upd_ne (ne_of_none e hb)]
    exact s.same b u e
  · by_cases z : b = a
    · rw [z, upd_same]
      exact fun z => nomatch z
    · rw [upd_ne z]
      exact s.dom b hbm
  · by_cases hj : j = i
    · subst hj
      rw [hi] at h1
      cases h1
      rw [List.getElem?_set_self (by rw [← s.len]; exact (List.getElem?_eq_some_iff.mp hi).1)] at h2
      cases h2
      exact h
    · rw [List.getElem?_set_ne (Ne.symm hj)] at h2
      have hne : b ≠ a := fun z => by
        subst z
        exact hj (one_place _ s.nd _ _ _ h1 hi)
      refine (s.obj j b ob h1 h2).mono (Wd.le.refl W) ?_ (upd_ne hne)
      by_cases hb : W.B b = none
      · exact .inl hb
      · exact .inr hb
theorem Sim.at {i : Nat} {o : O} (s : Sim K W S H) (h : S[i]? = some o) : ∃ a, W.m[i]? = some a ∧ OR K W H a o := by
  have hi := (List.getElem?_eq_some_iff.mp h).1
  rw [← s.len] at hi
  exact ⟨_, List.getElem?_eq_getElem hi, s.obj i _ o (List.getElem?_eq_getElem hi) h⟩
end

/-! ### steps: what may have changed between two worlds -/
/-- nothing is known at p, but a table of code objects perhaps -/
def Fre (H : Hp) (p : Addr) : Prop := ∀ o, H p = some o → ∃ ps, o = .tbl ps
theorem Fre.of {H : Hp} {p : Addr} (h : H p = none) : Fre H p := fun o e => by rw [h] at e; cases e
theorem Fre.not {H : Hp} {p : Addr} {o : HO} (h : Fre H p) (e : H p = some o) (n : ∀ ps, o ≠ .tbl ps) : False := let ⟨ps, z⟩ := h o e; n ps z
theorem Fre.two {H : Hp} {p : Addr} : Fre H p ∨ ∃ o, H p = some o ∧ ∀ ps, o ≠ .tbl ps := by
  cases e : H p with
  | none => exact .inl (.of e)
  | some o =>
    cases o with
    | tbl ps => exact .inl fun o z => by rw [e] at z; cases z; exact ⟨ps, rfl⟩
    | _ => exact .inr ⟨_, rfl, fun ps z => by cases z⟩
structure Stp (W : Wd) (H : Hp) (W' : Wd) (H' : Hp) : Prop where
  le : W.le W'
  keep : ∀ p o, H p = some o → p ∉ W.m → (∀ ps, o ≠ .tbl ps) → H' p = some o
  dom : ∀ p, Fre H' p → Fre H p
  newm : ∀ p, p ∈ W'.m → p ∈ W.m ∨ Fre H p
  newB : ∀ p o, W'.B p = some o → W.B p = some o ∨ Fre H p ∨ p ∈ W.m ∨ ∃ φ, H p = some (.ext φ)
theorem Stp.refl {W : Wd} {H : Hp} : Stp W H W H := ⟨.refl W, fun _ _ h _ _ => h, fun _ h => h, fun _ h => .inl h, fun _ _ h => .inl h⟩
theorem Stp.free {W W' : Wd} {H H' : Hp} {p : Addr} (s : Stp W H W' H') (h : Fre H' p) : Fre H p := s.dom p h
theorem Stp.trans {W W1 W2 : Wd} {H H1 H2 : Hp} (a : Stp W H W1 H1) (b : Stp W1 H1 W2 H2) : Stp W H W2 H2 where
  le := a.le.trans b.le
  keep := fun p o h n t => b.keep p o (a.keep p o h n t) (fun z => (a.newm p z).elim n fun q => q.not h t) t
  dom := fun p h => a.dom p (b.dom p h)
  newm := fun p h => (b.newm p h).elim (a.newm p) fun q => .inr (a.free q)
  newB := fun p o h => by
    rcases b.newB p o h with q | q | q | ⟨φ, q⟩
    · exact a.newB p o q
    · exact .inr (.inl (a.free q))
    · rcases a.newm p q with q | q
      · exact .inr (.inr (.inl q))
      · exact .inr (.inl q)
    · rcases Fre.two (H := H) (p := p) with z | ⟨u, e, n⟩
      · exact .inr (.inl z)
      · by_cases hm : p ∈ W.m
        · exact .inr (.inr (.inl hm))
        · rw [a.keep p u e hm n] at q
          cases q
          exact .inr (.inr (.inr ⟨φ, e⟩))
section
variable {K : PySem.W.Frag} {W : Wd} {S : Sto} {H : Hp}
theorem upd_dom {p : Addr} {o : HO} (q : Addr) (h : H q ≠ none) : upd H p o q ≠ none := by
  by_cases z : q = p
  · rw [z, upd_same]
    exact fun z => nomatch z
  · rw [upd_ne z]
    exact h
theorem upd_keep {p : Addr} {o u : HO} {q : Addr} (hp : H p = none) (h : H q = some u) : upd H p o q = some u := by
  rw [upd_ne (ne_of_none h hp)]
  exact h
theorem fre_upd {p : Addr} {o : HO} (hp : H p = none) (q : Addr) (h : Fre (upd H p o) q) : Fre H q := fun u e => h u (upd_keep hp e)
theorem fre_set {p : Addr} {o : HO} (hn : ∀ ps, o ≠ .tbl ps) (q : Addr) (h : Fre (upd H p o) q) : Fre H q := fun u e => by
  by_cases z : q = p
  · subst z
    exact (h.not upd_same hn).elim
  · exact h u (by rw [upd_ne z]; exact e)
/-- new, known to nobody | new and pure | new in the store | a store object changed -/
theorem Stp.lay {p : Addr} {o : HO} (hp : H p = none) : Stp W H W (upd H p o) := ⟨.refl W, fun _ _ h _ _ => upd_keep hp h, fre_upd hp, fun _ h => .inl h, fun _ _ h => .inl h⟩
theorem Stp.put {p : Addr} {o : HO} (s : Sim K W S H) (hp : H p = none) : Stp W H (W.put p o) (upd H p o) := ⟨Wd.le_put (s.free hp), fun _ _ h _ _ => upd_keep hp h, fre_upd hp, fun _ h => .inl h, fun q u h => by
  by_cases z : q = p
  · exact .inr (.inl (by rw [z]; exact .of hp))
  · have h : upd W.B p o q = some u := h
    rw [upd_ne z] at h
    exact .inl h⟩
theorem Stp.newO {p : Addr} {ho : HO} (hp : H p = none) : Stp W H (W.new p) (upd H p ho) := ⟨Wd.le_new, fun _ _ h _ _ => upd_keep hp h, fre_upd hp, fun q h => (List.mem_append.mp (show q ∈ W.m ++ [p] from h)).elim .inl fun z => .inr (by rw [List.mem_singleton.mp z]; exact .of hp), fun _ _ h => .inl h⟩
theorem Stp.setO {i : Nat} {a : Addr} {ho : HO} (hi : W.m[i]? = some a) (hn : ∀ ps, ho ≠ .tbl ps := by intro _ z; cases z) : Stp W H W (upd H a ho) := ⟨.refl W, fun q o h n _ => by
  have hm : a ∈ W.m := List.mem_of_getElem? hi
  have hne : q ≠ a := fun z => n (by rw [z]; exact hm)
  rw [upd_ne hne]
  exact h, fre_set hn, fun _ h => .inl h, fun _ _ h => .inl h⟩
/-- .. and what was laid by nobody's hand becomes pure, or the store's -/
theorem Stp.adopt {W' : Wd} {H' : Hp} {p : Addr} {o : HO} (s : Stp W H W' H') (hp : Fre H p) (hB : W'.B p = none) : Stp W H (W'.put p o) H' := ⟨s.le.trans (Wd.le_put hB), s.keep, s.dom, s.newm, fun q u h => by
  by_cases z : q = p
  · exact .inr (.inl (by rw [z]; exact hp))
  · have h : upd W'.B p o q = some u := h
    rw [upd_ne z] at h
    exact s.newB q u h⟩
theorem Stp.adoptO {W' : Wd} {H' : Hp} {p : Addr} (s : Stp W H W' H') (hp : Fre H p) : Stp W H (W'.new p) H' := ⟨s.le.trans Wd.le_new, s.keep, s.dom, fun q h => (List.mem_append.mp (show q ∈ W'.m ++ [p] from h)).elim (s.newm q) fun z => .inr (by rw [List.mem_singleton.mp z]; exact hp), s.newB⟩
end

/-- where a def was entered: what was known then -/
structure Bs where
  W : Wd
  H : Hp
  R : Addr → List (Str × D) → Sto → Prop := fun _ _ _ => False
def Bs.to (b : Bs) (W : Wd) (H : Hp) : Prop := Stp b.W b.H W H
theorem Bs.to.trans {b : Bs} {W W' : Wd} {H H' : Hp} (h : b.to W H) (l : Stp W H W' H') : b.to W' H' := Stp.trans h l
theorem Bs.to.stp {b : Bs} {W : Wd} {H : Hp} (h : b.to W H) : Stp b.W b.H W H := h

/-! ### readings, lifted -/
abbrev DP := D → Sto → Prop
abbrev DTE := Ev → Sto → DP → Prop
abbrev DTT := Ev → Sto → (Bool → Sto → Prop) → Prop
abbrev DTA := Ev → Sto → (List D → Sto → Prop) → Prop
structure DEnds where
  nx : Ev → Sto → Prop
  rt : DP
  bk : Ev → Sto → Prop := fun _ _ => False
  ct : Ev → Sto → Prop := fun _ _ => False
abbrev DTS := DEnds → Ev → Sto → Prop
abbrev DTG := D → Ev → Sto → (Ev → Sto → Prop) → Prop
abbrev DTGs := List D → Ev → Sto → (Ev → Sto → Prop) → Prop

def Post (K : PySem.W.Frag) (W : Wd) (H : Hp) (P : DP) (Q : VK) : Prop := ∀ d S' W' H' v, P d S' → Sim K W' S' H' → Stp W H W' H' → Rep K W' v d → Q v H'
def PostT (K : PySem.W.Frag) (W : Wd) (H : Hp) (P : Bool → Sto → Prop) (Q : Bool → Hp → Prop) : Prop := ∀ b S' W' H', P b S' → Sim K W' S' H' → Stp W H W' H' → Q b H'
def PostA (K : PySem.W.Frag) (W : Wd) (H : Hp) (P : List D → Sto → Prop) (Q : List V → Hp → Prop) : Prop := ∀ ds S' W' H' vs, P ds S' → Sim K W' S' H' → Stp W H W' H' → Reps K W' vs ds → Q vs H'
def PostN (K : PySem.W.Frag) (W : Wd) (H : Hp) (P : Ev → Sto → Prop) (Q : L2.St → Hp → Prop) : Prop := ∀ env S' W' H' σ, P env S' → Sim K W' S' H' → Stp W H W' H' → EnvR K W' env σ → Q σ H'
structure PostS (K : PySem.W.Frag) (W : Wd) (H : Hp) (E : DEnds) (D : Ends) : Prop where
  nx : PostN K W H E.nx D.nx
  rt : Post K W H E.rt D.rt
  bk : PostN K W H E.bk D.bk
  ct : PostN K W H E.ct D.ct
section
variable {K : PySem.W.Frag} {W W' : Wd} {H H' : Hp}
theorem Post.mono {P : DP} {Q : VK} (h : Post K W H P Q) (l : Stp W H W' H') : Post K W' H' P Q := fun d S' W2 H2 v p s l2 r => h d S' W2 H2 v p s (l.trans l2) r
theorem PostT.mono {P : Bool → Sto → Prop} {Q : Bool → Hp → Prop} (h : PostT K W H P Q) (l : Stp W H W' H') : PostT K W' H' P Q := fun d S' W2 H2 p s l2 => h d S' W2 H2 p s (l.trans l2)
theorem PostA.mono {P : List D → Sto → Prop} {Q : List V → Hp → Prop} (h : PostA K W H P Q) (l : Stp W H W' H') : PostA K W' H' P Q := fun d S' W2 H2 v p s l2 r => h d S' W2 H2 v p s (l.trans l2) r
theorem PostN.mono {P : Ev → Sto → Prop} {Q : L2.St → Hp → Prop} (h : PostN K W H P Q) (l : Stp W H W' H') : PostN K W' H' P Q := fun d S' W2 H2 v p s l2 r => h d S' W2 H2 v p s (l.trans l2) r
theorem PostS.mono {E : DEnds} {D : Ends} (h : PostS K W H E D) (l : Stp W H W' H') : PostS K W' H' E D := ⟨h.nx.mono l, h.rt.mono l, h.bk.mono l, h.ct.mono l⟩
end

def liftE (K : PySem.W.Frag) (W0 : Bs) (T : DTE) : TE := fun σ H Q => ∃ W env S P, W0.to W H ∧ Sim K W S H ∧ EnvR K W env σ ∧ T env S P ∧ Post K W H P Q
def liftT (K : PySem.W.Frag) (W0 : Bs) (T : DTT) : TT := fun σ H Q => ∃ W env S P, W0.to W H ∧ Sim K W S H ∧ EnvR K W env σ ∧ T env S P ∧ PostT K W H P Q
def liftA (K : PySem.W.Frag) (W0 : Bs) (T : DTA) : TA := fun σ H Q => ∃ W env S P, W0.to W H ∧ Sim K W S H ∧ EnvR K W env σ ∧ T env S P ∧ PostA K W H P Q
def liftS (K : PySem.W.Frag) (W0 : Bs) (T : DTS) : TS := fun D σ H => ∃ W env S E, W0.to W H ∧ Sim K W S H ∧ EnvR K W env σ ∧ T E env S ∧ PostS K W H E D
abbrev DE (X : Cx) (W0 : Bs) (e : Expr) (T : DTE) : Prop := PE X e (liftE X.K W0 T)
abbrev DT (X : Cx) (W0 : Bs) (e : Expr) (T : DTT) : Prop := PT X e (liftT X.K W0 T)
abbrev DW (X : Cx) (W0 : Bs) (e : Expr) (T : DTT) : Prop := PW X e (liftT X.K W0 T)
abbrev DA (X : Cx) (W0 : Bs) (es : List Expr) (T : DTA) : Prop := PA X es (liftA X.K W0 T)
abbrev DS (X : Cx) (W0 : Bs) (st : Stmt) (T : DTS) : Prop := PS X st (liftS X.K W0 T)
abbrev DSs (X : Cx) (W0 : Bs) (st : List Stmt) (T : DTS) : Prop := PSs X st (liftS X.K W0 T)
section
variable {X : Cx}
theorem _root_.L2.PE.imp {e : Expr} {t t' : TE} (h : PE X e t) (i : ∀ σ H Q, t' σ H Q → t σ H Q) : PE X e t' := ⟨fun pins s σ H Q I q => h.run pins s σ H Q I (i σ H Q q)⟩
theorem _root_.L2.PT.imp {e : Expr} {t t' : TT} (h : PT X e t) (i : ∀ σ H Q, t' σ H Q → t σ H Q) : PT X e t' := ⟨fun pins s σ H Q I q => h.run pins s σ H Q I (i σ H Q q)⟩
theorem _root_.L2.PW.imp {e : Expr} {t t' : TT} (h : PW X e t) (i : ∀ σ H Q, t' σ H Q → t σ H Q) : PW X e t' := ⟨fun w pins s σ H Q I q => h.run w pins s σ H Q I (i σ H Q q)⟩
theorem _root_.L2.PA.imp {es : List Expr} {t t' : TA} (h : PA X es t) (i : ∀ σ H Q, t' σ H Q → t σ H Q) : PA X es t' := ⟨fun p pins s σ H Q I q => h.run p pins s σ H Q I (i σ H Q q)⟩
theorem _root_.L2.PS.imp {st : Stmt} {t t' : TS} (h : PS X st t) (i : ∀ D σ H, t' D σ H → t D σ H) : PS X st t' := ⟨fun pins s σ H D I q => h.run pins s σ H D I (i D σ H q)⟩
theorem _root_.L2.PSs.imp {st : List Stmt} {t t' : TS} (h : PSs X st t) (i : ∀ D σ H, t' D σ H → t D σ H) : PSs X st t' := ⟨fun pins s σ H D I q => h.run pins s σ H D I (i D σ H q)⟩
theorem _root_.L2.PG.imp {e : Expr} {t t' : TG} (h : PG X e t) (i : ∀ v σ H Q, t' v σ H Q → t v σ H Q) : PG X e t' := ⟨fun pins s σ H v u Q I r q => h.run pins s σ H v u Q I r (i v σ H Q q)⟩
theorem _root_.L2.PGs.imp {es : List Expr} {t t' : TGs} (h : PGs X es t) (i : ∀ v σ H Q, t' v σ H Q → t v σ H Q) : PGs X es t' := ⟨fun pins s σ H v u Q I r q => h.run pins s σ H v u Q I r (i v σ H Q q)⟩
end
end DL

namespace DL
open PySem PySem.Spec PyProof.Rows L2

/-! ### fresh lists -/
section
variable {K : PySem.W.Frag} {W : Wd} {S : Sto} {H : Hp}
/-- what stands in the heap, known to nobody, becomes pure -/
theorem Sim.adopt {p : Addr} {o : HO} (s : Sim K W S H) (hB : W.B p = none) (hm : p ∉ W.m) (hH : H p = some o) (hn : ∀ ps, o ≠ .tbl ps := by intro _ z; cases z) : Sim K (W.put p o) S H := by
  refine ⟨fun b u e => ?_, s.len, s.nd, s.dom, fun i a ob h1 h2 => ?_, Wd.put_ntb s.ntb hn⟩
  · by_cases hb : b = p
    · subst hb
      have e : upd W.B b o b = some u := e
      rw [upd_same] at e
      rw [hH]
      exact e
    · have e : upd W.B p o b = some u := e
      rw [upd_ne hb] at e
      exact s.same b u e
  · have hne : a ≠ p := fun z => hm (z ▸ List.mem_of_getElem? h1)
    refine (s.obj i a ob h1 h2).mono (Wd.le_put hB) ?_ rfl
    by_cases hb : W.B a = none
    · exact .inl (by show upd W.B p o a = none; rw [upd_ne hne]; exact hb)
    · exact .inr hb
theorem Sim.adoptO {p : Addr} {o : O} (s : Sim K W S H) (hB : W.B p = none) (hm : p ∉ W.m) (hH : H p ≠ none) (h : OR K (W.new p) H p o) : Sim K (W.new p) (S ++ [o]) H := by
  refine ⟨s.same, by show (W.m ++ [p]).length = _; simp [s.len], ?_, fun a ha => ?_, fun i a ob h1 h2 => ?_, s.ntb⟩
  · show (W.m ++ [p]).Nodup
    exact List.nodup_append.mpr ⟨s.nd, List.nodup_cons.mpr ⟨List.not_mem_nil, List.nodup_nil⟩, fun a ha b hb => by
      rw [List.mem_singleton] at hb
      subst hb
      exact fun z => hm (z ▸ ha)⟩
  · rcases List.mem_append.mp (show a ∈ W.m ++ [p] from ha) with ha | ha
    · exact s.dom a ha
    · rw [List.mem_singleton.mp ha]
      exact hH
  · have h1 : (W.m ++ [p])[i]? = some a := h1
    by_cases hi : i < W.m.length
    · rw [List.getElem?_append_left hi] at h1
      rw [List.getElem?_append_left (by rw [← s.len]; exact hi)] at h2
      refine (s.obj i a ob h1 h2).mono Wd.le_new ?_ rfl
      by_cases hb : W.B a = none
      · exact .inl hb
      · exact .inr hb
    · have hi2 : i = W.m.length := by
        have := (List.getElem?_eq_some_iff.mp h1).1
        rw [List.length_append, List.length_singleton] at this
        omega
      subst hi2
      rw [List.getElem?_append_right (Nat.le_refl _), Nat.sub_self] at h1
      rw [s.len, List.getElem?_append_right (Nat.le_refl _), Nat.sub_self] at h2
      cases h1
      cases h2
      exact h
end
abbrev DTN := Ev → Sto → (List D → Sto → Prop) → Prop
def PostL (K : PySem.W.Frag) (W : Wd) (H : Hp) (P : List D → Sto → Prop) (Q : VK) : Prop := ∀ ds S' W' H' p vs, P ds S' → Sim K W' S' H' → Stp W H W' H' → Fre H p → W'.B p = none → p ∉ W'.m → H' p = some (.lst vs) → Reps K W' vs ds → Q (.ref p) H'
theorem PostL.mono {K : PySem.W.Frag} {W W' : Wd} {H H' : Hp} {P : List D → Sto → Prop} {Q : VK} (h : PostL K W H P Q) (l : Stp W H W' H') : PostL K W' H' P Q := fun ds S' W2 H2 p vs q s l2 hp => h ds S' W2 H2 p vs q s (l.trans l2) (l.free hp)
/-- a list just laid -/
theorem Sim.lay {K : PySem.W.Frag} {W : Wd} {S : Sto} {H : Hp} {p : Addr} {o : HO} (s : Sim K W S H) (hp : H p = none) : Sim K W S (upd H p o) := by
  have hm : p ∉ W.m := fun z => s.dom p z hp
  refine ⟨fun b u e => upd_keep hp (s.same b u e), s.len, s.nd, fun a ha => upd_dom a (s.dom a ha), fun i a ob h1 h2 => ?_, s.ntb⟩
  refine (s.obj i a ob h1 h2).mono (Wd.le.refl _) ?_ (upd_ne fun z => hm (z ▸ List.mem_of_getElem? h1))
  by_cases hb : W.B a = none
  · exact .inl hb
  · exact .inr hb
theorem PostL.laid {K : PySem.W.Frag} {W : Wd} {S : Sto} {H : Hp} {P : List D → Sto → Prop} {Q : VK} {ds : List D} {vs : List V} (h : PostL K W H P Q) (q : P ds S) (s : Sim K W S H) (r : Reps K W vs ds) : ∀ p, H p = none → Q (.ref p) (upd H p (.lst vs)) := fun p hp =>
  h ds S W _ p vs q (s.lay hp) (.lay hp) (.of hp) (s.free hp) (fun z => s.dom p z hp) upd_same r
def liftN (K : PySem.W.Frag) (W0 : Bs) (T : DTN) : TE := fun σ H Q => ∃ W env S P, W0.to W H ∧ Sim K W S H ∧ EnvR K W env σ ∧ T env S P ∧ PostL K W H P Q
abbrev DN (X : Cx) (W0 : Bs) (e : Expr) (T : DTN) : Prop := PE X e (liftN X.K W0 T)
/-- a fresh list as a pure one; as a store object -/
def dPure (T : DTN) : DTE := fun env S P => T env S fun ds S' => P (.lst ds) S'
def dNew (T : DTN) : DTE := fun env S P => T env S fun ds S' => P (.ref S'.length) (S' ++ [.lst ds])
section
variable {X : Cx} {W0 : Bs} {e : Expr}
theorem de_pure {T : DTN} (h : DN X W0 e T) : DE X W0 e (dPure T) := PE.imp h fun σ H Q ⟨W, env, S, P, hW, sim, er, ht, post⟩ =>
  ⟨W, env, S, _, hW, sim, er, ht, fun ds S' W' H' p vs q s l hp hB hm hH r => post _ _ (W'.put p (.lst vs)) H' _ q (s.adopt hB hm hH) (l.adopt hp hB) (.lst upd_same (r.mono (Wd.le_put hB)))⟩
theorem de_new {T : DTN} (h : DN X W0 e T) : DE X W0 e (dNew T) := PE.imp h fun σ H Q ⟨W, env, S, P, hW, sim, er, ht, post⟩ =>
  ⟨W, env, S, _, hW, sim, er, ht, fun ds S' W' H' p vs q s l hp hB hm hH r => post _ _ (W'.new p) H' _ q (s.adoptO hB hm (by rw [hH]; exact fun z => nomatch z) ⟨hB, vs, hH, r.mono Wd.le_new⟩) (l.adoptO hp)
    (.ref (by show (W'.m ++ [p])[S'.length]? = some p; rw [← s.len, List.getElem?_append_right (Nat.le_refl _), Nat.sub_self]; rfl))⟩
end

/-! ### sequences as they are read -/
def lstOf (S : Sto) : D → Option (List D)
  | .lst xs => some xs
  | .ref i => match S[i]? with
    | some (.lst xs) => some xs
    | _ => none
  | _ => none
/-- the items of a list or tuple -/
def seqOf (S : Sto) : D → Option (List D)
  | .tup xs => some xs
  | d => lstOf S d
section
variable {K : PySem.W.Frag} {W : Wd} {S : Sto} {H : Hp}
theorem Rep.lst_of {v : V} {d : D} {ds : List D} (s : Sim K W S H) (r : Rep K W v d) (h : lstOf S d = some ds) : ∃ a vs, v = .ref a ∧ H a = some (.lst vs) ∧ Reps K W vs ds := by
  cases r with
  | lst h1 h2 => cases h; exact ⟨_, _, rfl, s.same _ _ h1, h2⟩
  | @ref i a hi =>
    dsimp only [lstOf] at h
    cases hs : S[i]? with
    | none => rw [hs] at h; cases h
    | some o =>
      rw [hs] at h
      cases o with
      | lst xs =>
        cases h
        obtain ⟨_, vs, e, q⟩ := s.obj i a _ hi hs
        exact ⟨a, vs, rfl, e, q⟩
      | dead => cases h
      | ins C fs => cases h
      | dct ks xs => cases h
      | any ho => cases h
      | tab p q => cases h
  | _ => cases h
theorem Rep.seq_of {v : V} {d : D} {ds : List D} (s : Sim K W S H) (r : Rep K W v d) (h : seqOf S d = some ds) : ∃ a vs, v = .ref a ∧ (SqL K H a vs ∨ SqT K H a vs) ∧ Reps K W vs ds := by
  have go : lstOf S d = some ds → ∃ a vs, v = .ref a ∧ (SqL K H a vs ∨ SqT K H a vs) ∧ Reps K W vs ds := fun h =>
    let ⟨a, vs, e, q, r⟩ := r.lst_of s h
    ⟨a, vs, e, .inl (SqL.of q), r⟩
  cases r with
  | tup h1 h2 => cases h; exact ⟨_, _, rfl, .inr (same_sqt s.same h1), h2⟩
  | _ => exact go h
end

/-! ### names, constants -/
section
variable {X : Cx} {W0 : Bs}
def dVar (i : Nat) : DTE := fun env S P => ∃ d, env[i]? = some (some d) ∧ P d S
def dC (d : D) : DTE := fun _ S P => P d S
theorem de_var {i : Nat} {e : Expr} (h : PE X e (tVar i)) : DE X W0 e (dVar i) :=
  h.imp fun σ H Q ⟨W, env, S, P, hW, sim, er, ⟨d, he, hp⟩, post⟩ => let ⟨v, h1, h2⟩ := er.get i d he; ⟨v, h1, post d S W H v hp sim .refl h2⟩
theorem de_const {e : Expr} {v : V} {d : D} (h : PE X e (tC v)) (r : ∀ W, Rep X.K W v d) : DE X W0 e (dC d) := h.imp fun σ H Q ⟨W, env, S, P, hW, sim, er, hp, post⟩ => post d S W H v hp sim .refl (r W)
theorem de_int {i j pos} : DE X W0 (.Constant (.int i) j pos) (dC (.int i)) := de_const pe_int fun _ => .int i
theorem de_bl {i j pos} : DE X W0 (.Constant (.bool i) j pos) (dC (.bl i)) := de_const pe_bl fun _ => .bl i
theorem de_non {j pos} : DE X W0 (.Constant .none j pos) (dC .non) := de_const pe_non fun _ => .non
theorem de_str {i j pos} : DE X W0 (.Constant (.str i) j pos) (dC (.str i)) := de_const pe_str fun _ => .str i
theorem de_glob {x : Str} {v : V} {u : Value} {d : D} {pos : Pos} (hg : Gl X x) (hm : X.mg x = some u) (r : RelV v u) (q : ∀ W, Rep X.K W v d) (hd : (x == ("__debug__" : Str)) = false := by decide) : DE X W0 (.Name x pos) (dC d) := de_const (pe_glob hg hm r hd) q
theorem de_bltn {x : Str} {n : String} {pos : Pos} (hg : Gl X x) (hm : X.mg x = none) (hv : bootBuiltins x = some (.type n)) (hn : x ≠ "__name__" := by decide) (hd : (x == ("__debug__" : Str)) = false := by decide) : DE X W0 (.Name x pos) (dC (.ty n)) :=
  de_const (pe_bltn hg hm hv (v := .ty n) rfl hn hd) fun _ => .ty n

/-! ### two operands -/
abbrev D2 := D → D → Sto → DP → Prop
def DOp (K : PySem.W.Frag) (r : R2) (R : D2) : Prop := ∀ W S H x y d1 d2 P Q, Sim K W S H → Rep K W x d1 → Rep K W y d2 → R d1 d2 S P → Post K W H P Q → r x y H Q
def dOp (R : D2) (Ta Tb : DTE) : DTE := fun env S P => Ta env S fun d1 S1 => Tb env S1 fun d2 S2 => R d1 d2 S2 P
theorem lift_op {r : R2} {R : D2} {Ta Tb : DTE} (hr : DOp X.K r R) {σ : L2.St} {H : Hp} {Q : VK} (h : liftE X.K W0 (dOp R Ta Tb) σ H Q) : tOp r (liftE X.K W0 Ta) (liftE X.K W0 Tb) σ H Q := by
  obtain ⟨W, env, S, P, hW, sim, er, ht, post⟩ := h
  exact ⟨W, env, S, _, hW, sim, er, ht, fun d1 S1 W1 H1 v1 p1 sim1 le1 rep1 => ⟨W1, env, S1, _, hW.trans le1, sim1, er.mono le1.le, p1, fun d2 S2 W2 H2 v2 p2 sim2 le2 rep2 =>
    hr W2 S2 H2 v1 v2 d1 d2 P Q sim2 (rep1.mono le2.le) rep2 p2 (post.mono (le1.trans le2))⟩⟩
variable {a b c : Expr} {Ta Tb Tc : DTE} {pos : Pos}
theorem de_op {op : Operator} {r : R2} {R : D2} (ho : OpR X (binaryOp op) r) (hr : DOp X.K r R) (ha : DE X W0 a Ta) (hb : DE X W0 b Tb) : DE X W0 (.BinOp a op b pos) (dOp R Ta Tb) := (pe_op ho ha hb).imp fun _ _ _ h => lift_op hr h
theorem de_cmp {op : CmpOp} {r : R2} {R : D2} (ho : OpR X (compareOp op) r) (hr : DOp X.K r R) (ha : DE X W0 a Ta) (hb : DE X W0 b Tb) (hm : behindInMarks op b = false) : DE X W0 (.Compare a [op] [b] pos) (dOp R Ta Tb) := (pe_cmpR ho ha hb hm).imp fun _ _ _ h => lift_op hr h
/-- a value that is a bool, as a test -/
def dBx (B : Bool → Prop) (d : D) : Prop := ∃ k, d = .bl k ∧ B k
def dB (T : DTE) : DTT := fun env S P => T env S fun d S' => dBx (fun k => P k S') d
theorem Rep.bool {K : PySem.W.Frag} {W : Wd} {v : V} {k : Bool} (r : Rep K W v (.bl k)) : v = .bl k := by cases r; rfl
theorem Rep.intV {K : PySem.W.Frag} {W : Wd} {v : V} {k : Int} (r : Rep K W v (.int k)) : v = .int k := by cases r; rfl
theorem Rep.strV {K : PySem.W.Frag} {W : Wd} {v : V} {k : Str} (r : Rep K W v (.str k)) : v = .str k := by cases r; rfl
theorem Rep.nonV {K : PySem.W.Frag} {W : Wd} {v : V} (r : Rep K W v .non) : v = .non := by cases r; rfl
theorem lift_B {T : DTE} {σ : L2.St} {H : Hp} {Q : Bool → Hp → Prop} (h : liftT X.K W0 (dB T) σ H Q) : liftE X.K W0 T σ H fun x H' => ∃ k, x = .bl k ∧ Q k H' := by
  obtain ⟨W, env, S, P, hW, sim, er, ht, post⟩ := h
  exact ⟨W, env, S, _, hW, sim, er, ht, fun d S' W' H' v ⟨k, e, p⟩ s l r => ⟨k, by subst e; exact r.bool, post k S' W' H' p s l⟩⟩
theorem dt_cmp {op : CmpOp} {r : R2} {R : D2} (ho : OpR X (compareOp op) r) (hr : DOp X.K r R) (ha : DE X W0 a Ta) (hb : DE X W0 b Tb) (hm : behindInMarks op b = false) : DT X W0 (.Compare a [op] [b] pos) (dB (dOp R Ta Tb)) :=
  (pt_cmpR ho ha hb hm).imp fun _ _ _ h => lift_op hr (lift_B h)
theorem dt_val {e : Expr} {T : DTE} (h : DE X W0 e T) (he : ∀ whole, isTrue e X.env whole = (do let v ← whole; standAt e.pos; holding [v] (truthy v)) := by intro _; rfl) : DT X W0 e (dB T) := (pt_val h he).imp fun _ _ _ q => lift_B q

/-! ### numbers -/
def dI (C : Int → Int → Prop) (g : Int → Int → D) : D2 := fun x y S P => ∃ i j, x = .int i ∧ y = .int j ∧ C i j ∧ P (g i j) S
theorem dop_I {K : PySem.W.Frag} {C : Int → Int → Prop} {g : Int → Int → V} {g' : Int → Int → D} (hg : ∀ W i j, Rep K W (g i j) (g' i j)) : DOp K (rI C g) (dI C g') := by
  intro W S H x y d1 d2 P Q s r1 r2 h post
  obtain ⟨i, j, rfl, rfl, hc, p⟩ := h
  exact ⟨i, j, r1.intV, r2.intV, hc, post _ _ W H _ p s .refl (hg W i j)⟩
def dI0 (g : Int → Int → D) : D2 := fun x y S P => ∃ i j, x = .int i ∧ y = .int j ∧ P (g i j) S
theorem dop_I0 {K : PySem.W.Frag} {g : Int → Int → V} {g' : Int → Int → D} (hg : ∀ W i j, Rep K W (g i j) (g' i j)) : DOp K (rI0 g) (dI0 g') := by
  intro W S H x y d1 d2 P Q s r1 r2 h post
  obtain ⟨i, j, rfl, rfl, p⟩ := h
  exact ⟨i, j, r1.intV, r2.intV, post _ _ W H _ p s .refl (hg W i j)⟩
theorem de_sub (ha : DE X W0 a Ta) (hb : DE X W0 b Tb) : DE X W0 (.BinOp a .Sub b pos) (dOp (dI0 fun i j => .int (i - j)) Ta Tb) := de_op op_sub (dop_I0 fun _ _ _ => .int _) ha hb
theorem de_mod (ha : DE X W0 a Ta) (hb : DE X W0 b Tb) : DE X W0 (.BinOp a .Mod b pos) (dOp (dI (fun _ j => 0 < j) fun i j => .int (i % j)) Ta Tb) := de_op op_mod (dop_I fun _ _ _ => .int _) ha hb
theorem de_fdiv (ha : DE X W0 a Ta) (hb : DE X W0 b Tb) : DE X W0 (.BinOp a .FloorDiv b pos) (dOp (dI CDiv fun i j => .int (i / j)) Ta Tb) := de_op op_fdiv (dop_I fun _ _ _ => .int _) ha hb
theorem de_pow (ha : DE X W0 a Ta) (hb : DE X W0 b Tb) : DE X W0 (.BinOp a .Pow b pos) (dOp (dI CPow fun i j => .int (i ^ j.toNat)) Ta Tb) := de_op op_pow (dop_I fun _ _ _ => .int _) ha hb
abbrev rLt : D2 := dI0 fun i j => .bl (decide (i < j))
abbrev rLe : D2 := dI0 fun i j => .bl (decide (i ≤ j))
abbrev rGt : D2 := dI0 fun i j => .bl (decide (j < i))
abbrev rGe : D2 := dI0 fun i j => .bl (decide (j ≤ i))
theorem do_lt {K : PySem.W.Frag} : DOp K (rI0 fun i j => .bl (decide (i < j))) rLt := dop_I0 fun _ _ _ => .bl _
theorem do_le {K : PySem.W.Frag} : DOp K (rI0 fun i j => .bl (decide (i ≤ j))) rLe := dop_I0 fun _ _ _ => .bl _
theorem do_gt {K : PySem.W.Frag} : DOp K (rI0 fun i j => .bl (decide (j < i))) rGt := dop_I0 fun _ _ _ => .bl _
theorem do_ge {K : PySem.W.Frag} : DOp K (rI0 fun i j => .bl (decide (j ≤ i))) rGe := dop_I0 fun _ _ _ => .bl _

/-! ### + and * of anything -/
def dCat : D → D → Sto → (List D → Sto → Prop) → Prop := fun x y S P => ∃ xs ys, lstOf S x = some xs ∧ lstOf S y = some ys ∧ xs.length + ys.length ≤ sizeLine ∧ P (xs ++ ys) S
def dAdd : D2 := fun x y S P => match x, y with
  | .int i, .int j => P (.int (i + j)) S
  | .tup xs, .tup ys => xs.length + ys.length ≤ sizeLine ∧ P (.tup (xs ++ ys)) S
  | _, _ => dCat x y S fun zs S' => P (.lst zs) S'
end
end DL

namespace DL
open PySem PySem.Spec PyProof.Rows L2
section
variable {X : Cx} {W0 : Bs} {a b c e : Expr} {es : List Expr} {Ta Tb Tc T : DTE} {TA TB : DTT} {TR : DTA} {pos p : Pos}

theorem Rep.tupV {K : PySem.W.Frag} {W : Wd} {v : V} {ds : List D} (r : Rep K W v (.tup ds)) : ∃ a vs, v = .ref a ∧ SqT K W.B a vs ∧ Reps K W vs ds := by cases r with | tup h1 h2 => exact ⟨_, _, rfl, h1, h2⟩
theorem Reps.nil_iff {K : PySem.W.Frag} {W : Wd} {vs : List V} {ds : List D} (r : Reps K W vs ds) : vs = [] ↔ ds = [] := by
  cases r with
  | nil => simp
  | cons _ _ => simp

/-! ### + -/
def rAddA (K : PySem.W.Frag) : R2 := fun x y H Q => (∃ i j, x = .int i ∧ y = .int j ∧ Q (.int (i + j)) H) ∨ (rCatA K x y H Q ∨ rCat x y H Q)
theorem op_addA : OpR X (binaryOp .Add) (rAddA X.K) := OpR.or op_add (OpR.or op_catA op_cat)
theorem do_cat {K : PySem.W.Frag} {W : Wd} {S : Sto} {H : Hp} {x y : V} {d1 d2 : D} {P : List D → Sto → Prop} {Q : VK} (s : Sim K W S H) (r1 : Rep K W x d1) (r2 : Rep K W y d2) (h : dCat d1 d2 S P) (post : PostL K W H P Q) : rCat x y H Q := by
  obtain ⟨xs, ys, e1, e2, hl, q⟩ := h
  obtain ⟨p1, v1, rfl, a1, b1⟩ := r1.lst_of s e1
  obtain ⟨p2, v2, rfl, a2, b2⟩ := r2.lst_of s e2
  exact ⟨p1, p2, v1, v2, rfl, rfl, a1, a2, by rw [b1.length, b2.length]; exact hl, post.laid q s (b1.app b2)⟩
theorem PostL.ofPure {K : PySem.W.Frag} {W : Wd} {H : Hp} {P : DP} {Q : VK} (post : Post K W H P Q) : PostL K W H (fun ds S => P (.lst ds) S) Q := fun ds S' W' H' p vs q s l hp hB hm hH r =>
  post _ _ (W'.put p (.lst vs)) H' _ q (s.adopt hB hm hH) (l.adopt hp hB) (.lst upd_same (r.mono (Wd.le_put hB)))
theorem Post.newT {K : PySem.W.Frag} {W : Wd} {S : Sto} {H : Hp} {P : DP} {Q : VK} {vs : List V} {ds : List D} (post : Post K W H P Q) (s : Sim K W S H) (r : Reps K W vs ds) (q : P (.tup ds) S) : ∀ p, H p = none → Q (.ref p) (upd H p (.tup vs)) := fun p hp =>
  post _ _ (W.put p (.tup vs)) _ _ q (s.put hp) (.put s hp) (.tup (.inl (.inl upd_same)) (r.mono (Wd.le_put (s.free hp))))
theorem do_add {K : PySem.W.Frag} : DOp K (rAddA K) dAdd := by
  intro W S H x y d1 d2 P Q s r1 r2 h post
  unfold dAdd at h
  split at h
  · rename_i i j
    exact .inl ⟨i, j, r1.intV, r2.intV, post _ _ W H _ h s .refl (.int _)⟩
  · rename_i xs ys
    obtain ⟨hl, q⟩ := h
    obtain ⟨p1, v1, rfl, a1, b1⟩ := r1.tupV
    obtain ⟨p2, v2, rfl, a2, b2⟩ := r2.tupV
    refine .inr (.inl ⟨p1, p2, v1, v2, rfl, rfl, same_sqt s.same a1, same_sqt s.same a2, by rw [b1.length, b2.length]; exact hl, fun z => ?_, fun _ z => ?_, fun _ _ => post.newT s (b1.app b2) q⟩)
    · have e : xs = [] := b1.nil_iff.mp z
      subst e
      exact post _ _ W H _ q s .refl (.tup a2 b2)
    · have e : ys = [] := b2.nil_iff.mp z
      subst e
      rw [List.append_nil] at q
      exact post _ _ W H _ q s .refl (.tup a1 b1)
  · exact .inr (.inr (do_cat s r1 r2 h (PostL.ofPure post)))
theorem de_add (ha : DE X W0 a Ta) (hb : DE X W0 b Tb) : DE X W0 (.BinOp a .Add b pos) (dOp dAdd Ta Tb) := de_op op_addA do_add ha hb
abbrev D2N := D → D → Sto → (List D → Sto → Prop) → Prop
def dOpN (R : D2N) (Ta Tb : DTE) : DTN := fun env S P => Ta env S fun d1 S1 => Tb env S1 fun d2 S2 => R d1 d2 S2 P
def DOpN (K : PySem.W.Frag) (r : R2) (R : D2N) : Prop := ∀ W S H x y d1 d2 P Q, Sim K W S H → Rep K W x d1 → Rep K W y d2 → R d1 d2 S P → PostL K W H P Q → r x y H Q
theorem lift_opN {r : R2} {R : D2N} {Ta Tb : DTE} (hr : DOpN X.K r R) {σ : L2.St} {H : Hp} {Q : VK} (h : liftN X.K W0 (dOpN R Ta Tb) σ H Q) : tOp r (liftE X.K W0 Ta) (liftE X.K W0 Tb) σ H Q := by
  obtain ⟨W, env, S, P, hW, sim, er, ht, post⟩ := h
  exact ⟨W, env, S, _, hW, sim, er, ht, fun d1 S1 W1 H1 v1 p1 sim1 le1 rep1 => ⟨W1, env, S1, _, hW.trans le1, sim1, er.mono le1.le, p1, fun d2 S2 W2 H2 v2 p2 sim2 le2 rep2 =>
    hr W2 S2 H2 v1 v2 d1 d2 P Q sim2 (rep1.mono le2.le) rep2 p2 (post.mono (le1.trans le2))⟩⟩
theorem dn_add (ha : DE X W0 a Ta) (hb : DE X W0 b Tb) : DN X W0 (.BinOp a .Add b pos) (dOpN dCat Ta Tb) := (pe_op op_cat ha hb).imp fun _ _ _ h => lift_opN (fun W S H x y d1 d2 P Q s r1 r2 h post => do_cat s r1 r2 h post) h

/-! ### * -/
def dRep : D2N := fun x y S P => ∃ xs k, lstOf S x = some xs ∧ y = .int k ∧ -(2 ^ 63) ≤ k ∧ k < 2 ^ 63 ∧ xs.length * k.toNat ≤ sizeLine ∧ P (List.replicate k.toNat xs).flatten S
theorem Reps.rep {K : PySem.W.Frag} {W : Wd} {vs : List V} {ds : List D} (r : Reps K W vs ds) : ∀ n : Nat, Reps K W (List.replicate n vs).flatten (List.replicate n ds).flatten
  | 0 => .nil
  | n + 1 => by
    rw [List.replicate_succ, List.replicate_succ, List.flatten_cons, List.flatten_cons]
    exact r.app (Reps.rep r n)
theorem dn_rep (ha : DE X W0 a Ta) (hb : DE X W0 b Tb) : DN X W0 (.BinOp a .Mult b pos) (dOpN dRep Ta Tb) := (pe_op op_rep ha hb).imp fun _ _ _ h => lift_opN (fun W S H x y d1 d2 P Q s r1 r2 h post => by
  obtain ⟨xs, k, e1, rfl, h1, h2, hz, q⟩ := h
  obtain ⟨p1, v1, rfl, a1, b1⟩ := r1.lst_of s e1
  exact ⟨p1, k, v1, rfl, r2.intV, a1, h1, h2, by rw [b1.length]; exact hz, post.laid q s (b1.rep k.toNat)⟩) h
end
end DL

namespace DL
open PySem PySem.Spec PyProof.Rows L2
section
variable {X : Cx} {W0 : Bs} {a b c e : Expr} {es : List Expr} {Ta Tb Tc T : DTE} {TA TB : DTT} {TR : DTA} {pos p : Pos}

/-! ### equality of data -/
def allOf (f : D → Option PyData) : List D → Option (List PyData)
  | [] => some []
  | x :: xs => match f x, allOf f xs with
    | some p, some ps => some (p :: ps)
    | _, _ => none
def pyOf (S : Sto) : Nat → D → Option PyData
  | 0, _ => none
  | _ + 1, .non => some .none
  | _ + 1, .bl b => some (.bool b)
  | _ + 1, .int i => some (.int i)
  | _ + 1, .str x => some (.str x)
  | n + 1, .tup xs => (allOf (pyOf S n) xs).map .tuple
  | n + 1, .lst xs => (allOf (pyOf S n) xs).map .list
  | n + 1, .ref i => match S[i]? with
    | some (.lst xs) => (allOf (pyOf S n) xs).map .list
    | _ => none
  | _ + 1, _ => none
theorem Reps.dp {K : PySem.W.Frag} {W : Wd} {H : Hp} {f : D → Option PyData} (hf : ∀ v d q, Rep K W v d → f d = some q → Dp K H v q) : ∀ {vs : List V} {ds : List D} {qs : List PyData}, Reps K W vs ds → allOf f ds = some qs → DpAll K H vs qs
  | _, _, _, .nil, e => by cases e; exact .nil
  | _, _, _, .cons (d := d) (ds := ds) h r, e => by
    unfold allOf at e
    cases h1 : f d with
    | none => rw [h1] at e; cases e
    | some q =>
      cases h2 : allOf f ds with
      | none => rw [h1, h2] at e; cases e
      | some qs =>
        rw [h1, h2] at e
        cases e
        exact .cons (hf _ _ _ h h1) (Reps.dp hf r h2)
theorem Rep.dp {K : PySem.W.Frag} {W : Wd} {S : Sto} {H : Hp} (s : Sim K W S H) : ∀ (n : Nat) (v : V) (d : D) (q : PyData), Rep K W v d → pyOf S n d = some q → Dp K H v q
  | 0, _, _, _, _, e => by cases e
  | n + 1, v, d, q, r, e => by
    have ih := Rep.dp s n
    cases r with
    | non => cases e; exact .non
    | bl b => cases e; exact .bl b
    | int i => cases e; exact .int i
    | str x => cases e; exact .str x
    | tup h1 h2 =>
      obtain ⟨qs, e1, rfl⟩ := Option.map_eq_some_iff.mp e
      exact .tup (same_sqt s.same h1) (h2.dp ih e1)
    | lst h1 h2 =>
      obtain ⟨qs, e1, rfl⟩ := Option.map_eq_some_iff.mp e
      exact .lst (SqL.of (s.same _ _ h1)) (h2.dp ih e1)
    | @ref i a hi =>
      dsimp only [pyOf] at e
      cases hs : S[i]? with
      | none => rw [hs] at e; cases e
      | some o =>
        rw [hs] at e
        cases o with
        | lst xs =>
          obtain ⟨qs, e1, rfl⟩ := Option.map_eq_some_iff.mp e
          obtain ⟨_, vs, e2, r2⟩ := s.obj i a _ hi hs
          exact .lst (SqL.of e2) (r2.dp ih e1)
        | dead => cases e
        | ins C fs => cases e
        | dct ks xs => cases e
        | any ho => cases e
        | tab p q => cases e
    | dct _ _ _ => cases e
    | ty _ => cases e
    | scr _ => cases e
    | adr _ => cases e
/-- == of any data; g: the answer made of the comparison's -/
def dEqG (g : Bool → Bool) : D2 := fun x y S P => match x, y with
  | .int i, .int j => P (.bl (g (decide (i = j)))) S
  | .str i, .str j => P (.bl (g (decide (i = j)))) S
  | .bl i, .bl j => P (.bl (g (decide (i = j)))) S
  | _, _ => ∃ n q r, pyOf S n x = some q ∧ pyOf S n y = some r ∧ SeqAt.shaped q = true ∧ SeqAt.shaped r = true ∧ P (.bl (g (PyData.eqv q r))) S
abbrev dEq : D2 := dEqG id
abbrev dNe : D2 := dEqG not
def rEqA (K : PySem.W.Frag) : R2 := fun x y H Q => rEq x y H Q ∨ rEqD K x y H Q
def rNeA (K : PySem.W.Frag) : R2 := fun x y H Q => rNe x y H Q ∨ rNeD K x y H Q
theorem do_eq {K : PySem.W.Frag} : DOp K (rEqA K) dEq := by
  intro W S H x y d1 d2 P Q s r1 r2 h post
  unfold dEq dEqG at h
  split at h
  · rw [r1.intV, r2.intV]
    refine .inl ⟨rfl, ?_⟩
    simp only [V.int.injEq]
    exact post _ _ W H _ h s .refl (.bl _)
  · rw [r1.strV, r2.strV]
    refine .inl ⟨rfl, ?_⟩
    simp only [V.str.injEq]
    exact post _ _ W H _ h s .refl (.bl _)
  · rw [r1.bool, r2.bool]
    refine .inl ⟨rfl, ?_⟩
    simp only [V.bl.injEq]
    exact post _ _ W H _ h s .refl (.bl _)
  · obtain ⟨n, q, r, e1, e2, h1, h2, p⟩ := h
    exact .inr ⟨q, r, Rep.dp s n _ _ _ r1 e1, Rep.dp s n _ _ _ r2 e2, h1, h2, post _ _ W H _ p s .refl (.bl _)⟩
theorem do_ne {K : PySem.W.Frag} : DOp K (rNeA K) dNe := by
  intro W S H x y d1 d2 P Q s r1 r2 h post
  unfold dNe dEqG at h
  split at h
  · rw [r1.intV, r2.intV]
    refine .inl ⟨rfl, ?_⟩
    simp only [V.int.injEq]
    exact post _ _ W H _ h s .refl (.bl _)
  · rw [r1.strV, r2.strV]
    refine .inl ⟨rfl, ?_⟩
    simp only [V.str.injEq]
    exact post _ _ W H _ h s .refl (.bl _)
  · rw [r1.bool, r2.bool]
    refine .inl ⟨rfl, ?_⟩
    simp only [V.bl.injEq]
    exact post _ _ W H _ h s .refl (.bl _)
  · obtain ⟨n, q, r, e1, e2, h1, h2, p⟩ := h
    exact .inr ⟨q, r, Rep.dp s n _ _ _ r1 e1, Rep.dp s n _ _ _ r2 e2, h1, h2, post _ _ W H _ p s .refl (.bl _)⟩
theorem op_eqA (hu : X.A.units + 64 < cLine) : OpR X (compareOp .Eq) (rEqA X.K) := OpR.or op_eq (op_eqD hu)
theorem op_neA (hu : X.A.units + 64 < cLine) : OpR X (compareOp .NotEq) (rNeA X.K) := OpR.or op_ne (op_neD hu)

/-! ### is None -/
def isNon : D → Bool
  | .non => true
  | _ => false
theorem Rep.isN {K : PySem.W.Frag} {W : Wd} {v : V} {d : D} (r : Rep K W v d) : decide (v = .non) = isNon d := by
  cases r <;> first | rfl | exact decide_eq_false fun z => nomatch z
def dIs (g : Bool → Bool) : D2 := fun x y S P => y = .non ∧ P (.bl (g (isNon x))) S
theorem do_isN {K : PySem.W.Frag} : DOp K (fun x y H Q => y = .non ∧ Q (.bl (decide (x = .non))) H) (dIs id) := by
  intro W S H x y d1 d2 P Q s r1 r2 ⟨e, h⟩ post
  subst e
  exact ⟨r2.nonV, post _ _ W H _ h s .refl (by rw [r1.isN]; exact .bl _)⟩
theorem do_notN {K : PySem.W.Frag} : DOp K (fun x y H Q => y = .non ∧ Q (.bl (!decide (x = .non))) H) (dIs not) := by
  intro W S H x y d1 d2 P Q s r1 r2 ⟨e, h⟩ post
  subst e
  exact ⟨r2.nonV, post _ _ W H _ h s .refl (by rw [r1.isN]; exact .bl _)⟩

/-! ### in -/
def flatD : D → Option V
  | .non => some .non
  | .bl b => some (.bl b)
  | .int i => some (.int i)
  | .str x => some (.str x)
  | _ => none
def flatsD : List D → Option (List V)
  | [] => some []
  | x :: xs => match flatD x, flatsD xs with
    | some v, some vs => some (v :: vs)
    | _, _ => none
theorem Rep.flat {K : PySem.W.Frag} {W : Wd} {v v' : V} {d : D} (r : Rep K W v d) (h : flatD d = some v') : v = v' ∧ flatV v = true := by
  cases r <;> first | (cases h; exact ⟨rfl, rfl⟩) | cases h
theorem Reps.flat {K : PySem.W.Frag} {W : Wd} : ∀ {vs vs' : List V} {ds : List D}, Reps K W vs ds → flatsD ds = some vs' → vs = vs' ∧ vs.all flatV = true
  | _, _, _, .nil, h => by cases h; exact ⟨rfl, rfl⟩
  | _, _, _, .cons (d := d) (ds := ds) r rs, h => by
    unfold flatsD at h
    cases h1 : flatD d with
    | none => rw [h1] at h; cases h
    | some u =>
      cases h2 : flatsD ds with
      | none => rw [h1, h2] at h; cases h
      | some us =>
        rw [h1, h2] at h
        cases h
        obtain ⟨e1, f1⟩ := r.flat h1
        obtain ⟨e2, f2⟩ := rs.flat h2
        subst e1 e2
        exact ⟨rfl, by rw [List.all_cons, f1, f2]; rfl⟩
def dIn (neg : Bool) : D2 := fun x y S P => ∃ ys v vs, seqOf S y = some ys ∧ flatD x = some v ∧ flatsD ys = some vs ∧ P (.bl (if neg then !inV v vs else inV v vs)) S
theorem do_in {K : PySem.W.Frag} {neg : Bool} : DOp K (rIn K neg) (dIn neg) := by
  intro W S H x y d1 d2 P Q s r1 r2 ⟨ys, v, vs, e1, e2, e3, h⟩ post
  obtain ⟨p, ws, rfl, hq, rr⟩ := r2.seq_of s e1
  obtain ⟨rfl, f1⟩ := r1.flat e2
  obtain ⟨rfl, f2⟩ := rr.flat e3
  exact ⟨p, ws, rfl, hq, f1, f2, post _ _ W H _ h s .refl (.bl _)⟩

/-! ### a < b < c -/
def dChain (R R' : D2) (Ta Tb Tc : DTE) : DTE := fun env S P => Ta env S fun x S1 => Tb env S1 fun y S2 => R x y S2 fun z S3 => dBx (fun k => if k = true then Tc env S3 fun w S4 => R' y w S4 P else P (.bl false) S3) z
theorem lift_chain {r r' : R2} {R R' : D2} (hr : DOp X.K r R) (hr' : DOp X.K r' R') {σ : L2.St} {H : Hp} {Q : VK} (h : liftE X.K W0 (dChain R R' Ta Tb Tc) σ H Q) : tChain r r' (liftE X.K W0 Ta) (liftE X.K W0 Tb) (liftE X.K W0 Tc) σ H Q := by
  obtain ⟨W, env, S, P, hW, sim, er, ht, post⟩ := h
  refine ⟨W, env, S, _, hW, sim, er, ht, fun d1 S1 W1 H1 v1 p1 sim1 le1 rep1 => ⟨W1, env, S1, _, hW.trans le1, sim1, er.mono le1.le, p1, fun d2 S2 W2 H2 v2 p2 sim2 le2 rep2 => ?_⟩⟩
  refine hr W2 S2 H2 v1 v2 d1 d2 _ _ sim2 (rep1.mono le2.le) rep2 p2 fun z S3 W3 H3 v3 ⟨k, e, q⟩ sim3 le3 rep3 => ?_
  subst e
  refine ⟨k, rep3.bool, ?_⟩
  cases k with
  | true => exact ⟨W3, env, S3, _, hW.trans (le1.trans (le2.trans le3)), sim3, er.mono (le1.trans (le2.trans le3)).le, q, fun d4 S4 W4 H4 v4 p4 sim4 le4 rep4 =>
      hr' W4 S4 H4 v2 v4 d2 d4 P Q sim4 (rep2.mono (le3.trans le4).le) rep4 p4 (post.mono (le1.trans (le2.trans (le3.trans le4))))⟩
  | false => exact post _ _ W3 H3 _ q sim3 (le1.trans (le2.trans le3)) (.bl false)
theorem de_chain {op op' : CmpOp} {r r' : R2} {R R' : D2} (ho : OpR X (compareOp op) r) (ho' : OpR X (compareOp op') r') (hr : DOp X.K r R) (hr' : DOp X.K r' R') (ha : DE X W0 a Ta) (hb : DE X W0 b Tb) (hc : DE X W0 c Tc)
    (hm : lastMarks [op, op'] [b, c] = false := by with_unfolding_all rfl) : DE X W0 (.Compare a [op, op'] [b, c] pos) (dChain R R' Ta Tb Tc) := (pe_chain ho ho' ha hb hc hm).imp fun _ _ _ h => lift_chain hr hr' h

/-! ### tests -/
def dAnd (TA TB : DTT) : DTT := fun env S P => TA env S fun k S1 => if k = true then TB env S1 P else P false S1
def dOr (TA TB : DTT) : DTT := fun env S P => TA env S fun k S1 => if k = true then P true S1 else TB env S1 P
def dNot (TA : DTT) : DTT := fun env S P => TA env S fun k S1 => P (!k) S1
variable {rest : List Expr}
theorem lift_if {TA : DTT} {σ : L2.St} {H : Hp} {W : Wd} {env : Ev} {S : Sto} {F : Bool → Hp → Prop} {G : Bool → Sto → Prop} (hW : W0.to W H) (sim : Sim X.K W S H) (er : EnvR X.K W env σ) (ht : TA env S G)
    (h : ∀ k S1 W1 H1, G k S1 → Sim X.K W1 S1 H1 → Stp W H W1 H1 → F k H1) : liftT X.K W0 TA σ H F := ⟨W, env, S, G, hW, sim, er, ht, fun k S1 W1 H1 q s l => h k S1 W1 H1 q s l⟩
theorem dw_and (ha : DT X W0 a TA) (hb : DW X W0 (.BoolOp .And (b :: rest) pos) TB) : DW X W0 (.BoolOp .And (a :: b :: rest) pos) (dAnd TA TB) := (pw_and ha hb).imp fun σ H Q ⟨W, env, S, P, hW, sim, er, ht, post⟩ =>
  lift_if hW sim er ht fun k S1 W1 H1 q s l => by
    cases k with
    | true => exact ⟨W1, env, S1, P, hW.trans l, s, er.mono l.le, q, post.mono l⟩
    | false => exact post _ _ W1 H1 q s l
theorem dw_or (ha : DT X W0 a TA) (hb : DW X W0 (.BoolOp .Or (b :: rest) pos) TB) : DW X W0 (.BoolOp .Or (a :: b :: rest) pos) (dOr TA TB) := (pw_or ha hb).imp fun σ H Q ⟨W, env, S, P, hW, sim, er, ht, post⟩ =>
  lift_if hW sim er ht fun k S1 W1 H1 q s l => by
    cases k with
    | false => exact ⟨W1, env, S1, P, hW.trans l, s, er.mono l.le, q, post.mono l⟩
    | true => exact post _ _ W1 H1 q s l
theorem dw_and1 (ha : DT X W0 a TA) : DW X W0 (.BoolOp .And [a] pos) TA := pw_and1 ha
theorem dw_or1 (ha : DT X W0 a TA) : DW X W0 (.BoolOp .Or [a] pos) TA := pw_or1 ha
theorem dt_w (h : DW X W0 e TA) : DT X W0 e TA := h.pt
theorem dt_not (ha : DT X W0 a TA) : DT X W0 (.UnaryOp .Not a pos) (dNot TA) := (pt_not ha).imp fun σ H Q ⟨W, env, S, P, hW, sim, er, ht, post⟩ => lift_if hW sim er ht fun k S1 W1 H1 q s l => post _ _ W1 H1 q s l
def dIf (TA : DTT) (Ta Tb : DTE) : DTE := fun env S P => TA env S fun k S1 => if k = true then Ta env S1 P else Tb env S1 P
theorem de_if (hc : DT X W0 c TA) (ha : DE X W0 a Ta) (hb : DE X W0 b Tb) : DE X W0 (.IfExp c a b pos) (dIf TA Ta Tb) := (pe_ifExp hc ha hb).imp fun σ H Q ⟨W, env, S, P, hW, sim, er, ht, post⟩ =>
  lift_if hW sim er ht fun k S1 W1 H1 q s l => by
    cases k with
    | true => exact ⟨W1, env, S1, P, hW.trans l, s, er.mono l.le, q, post.mono l⟩
    | false => exact ⟨W1, env, S1, P, hW.trans l, s, er.mono l.le, q, post.mono l⟩
/-- and, or, not as values, of bools -/
def dAndV (Ta Tb : DTE) : DTE := fun env S P => Ta env S fun x S1 => dBx (fun k => if k = true then Tb env S1 P else P (.bl false) S1) x
def dOrV (Ta Tb : DTE) : DTE := fun env S P => Ta env S fun x S1 => dBx (fun k => if k = true then P (.bl true) S1 else Tb env S1 P) x
def dNotV (Ta : DTE) : DTE := fun env S P => Ta env S fun x S1 => dBx (fun k => P (.bl (!k)) S1) x
theorem de_one {op} (h : DE X W0 a Ta) : DE X W0 (.BoolOp op [a] pos) Ta := pe_one h
theorem de_and (ha : DE X W0 a Ta) (hb : DE X W0 (.BoolOp .And (b :: rest) pos) Tb) : DE X W0 (.BoolOp .And (a :: b :: rest) pos) (dAndV Ta Tb) := (pe_and ha hb).imp fun σ H Q ⟨W, env, S, P, hW, sim, er, ht, post⟩ =>
  ⟨W, env, S, _, hW, sim, er, ht, fun x S1 W1 H1 v ⟨k, e, q⟩ s l r => by
    subst e
    refine ⟨k, r.bool, ?_⟩
    cases k with
    | true => exact ⟨W1, env, S1, P, hW.trans l, s, er.mono l.le, q, post.mono l⟩
    | false => exact post _ _ W1 H1 _ q s l (.bl false)⟩
theorem de_or (ha : DE X W0 a Ta) (hb : DE X W0 (.BoolOp .Or (b :: rest) pos) Tb) : DE X W0 (.BoolOp .Or (a :: b :: rest) pos) (dOrV Ta Tb) := (pe_or ha hb).imp fun σ H Q ⟨W, env, S, P, hW, sim, er, ht, post⟩ =>
  ⟨W, env, S, _, hW, sim, er, ht, fun x S1 W1 H1 v ⟨k, e, q⟩ s l r => by
    subst e
    refine ⟨k, r.bool, ?_⟩
    cases k with
    | false => exact ⟨W1, env, S1, P, hW.trans l, s, er.mono l.le, q, post.mono l⟩
    | true => exact post _ _ W1 H1 _ q s l (.bl true)⟩
theorem de_not (ha : DE X W0 a Ta) : DE X W0 (.UnaryOp .Not a pos) (dNotV Ta) := (pe_not ha).imp fun σ H Q ⟨W, env, S, P, hW, sim, er, ht, post⟩ =>
  ⟨W, env, S, _, hW, sim, er, ht, fun x S1 W1 H1 v ⟨k, e, q⟩ s l r => by
    subst e
    exact ⟨k, r.bool, post _ _ W1 H1 _ q s l (.bl _)⟩⟩

/-! ### arguments, displays -/
def dNil : DTA := fun _ S P => P [] S
def dCons (Ta : DTE) (TR : DTA) : DTA := fun env S P => Ta env S fun x S1 => TR env S1 fun xs S2 => P (x :: xs) S2
def xStar (F : List D → Prop) (x : D) (S : Sto) : Prop := ∃ xs, seqOf S x = some xs ∧ F xs
def dStar (Ta : DTE) (TR : DTA) : DTA := fun env S P => Ta env S fun x S1 => xStar (fun xs => TR env S1 fun ys S2 => P (xs ++ ys) S2) x S1
theorem da_nil : DA X W0 [] dNil := pa_nil.imp fun σ H Q ⟨W, env, S, P, hW, sim, er, ht, post⟩ => post [] S W H [] ht sim .refl .nil
theorem da_cons (ha : DE X W0 a Ta) (hr : DA X W0 es TR) (hs : starEach (a :: es) X.env = (false, eval a X.env) :: starEach es X.env := by rfl) : DA X W0 (a :: es) (dCons Ta TR) :=
  (pa_cons ha hr hs).imp fun σ H Q ⟨W, env, S, P, hW, sim, er, ht, post⟩ => ⟨W, env, S, _, hW, sim, er, ht, fun x S1 W1 H1 v q s l r =>
    ⟨W1, env, S1, _, hW.trans l, s, er.mono l.le, q, fun xs S2 W2 H2 vs q2 s2 l2 r2 => post _ _ W2 H2 _ q2 s2 (l.trans l2) (.cons (r.mono l2.le) r2)⟩⟩
theorem da_star (ha : DE X W0 a Ta) (hr : DA X W0 es TR) (hs : starEach (.Starred a p :: es) X.env = (true, eval a X.env) :: starEach es X.env := by rfl) : DA X W0 (.Starred a p :: es) (dStar Ta TR) :=
  (StX.pa_star ha hr hs).imp fun σ H Q ⟨W, env, S, P, hW, sim, er, ht, post⟩ => ⟨W, env, S, _, hW, sim, er, ht, fun x S1 W1 H1 v ⟨xs, e, q⟩ s l r => by
    obtain ⟨a1, vs, rfl, hq, rr⟩ := r.seq_of s e
    exact ⟨a1, vs, rfl, hq.symm, W1, env, S1, _, hW.trans l, s, er.mono l.le, q, fun ys S2 W2 H2 ws q2 s2 l2 r2 => post _ _ W2 H2 _ q2 s2 (l.trans l2) ((rr.mono l2.le).app r2)⟩⟩
def dTup (TR : DTA) : DTE := fun env S P => TR env S fun xs S1 => xs.length ≤ sizeLine ∧ P (.tup xs) S1
def dLst (TR : DTA) : DTN := fun env S P => TR env S fun xs S1 => xs.length ≤ sizeLine ∧ P xs S1
theorem de_tup {x1} (h : DA X W0 es TR) : DE X W0 (.Tuple es x1 pos) (dTup TR) := (pe_tup h).imp fun σ H Q ⟨W, env, S, P, hW, sim, er, ht, post⟩ =>
  ⟨W, env, S, _, hW, sim, er, ht, fun xs S1 W1 H1 vs ⟨hl, q⟩ s l r => ⟨by rw [r.length]; exact hl, (post.mono l).newT s r q⟩⟩
theorem dn_lst (h : DA X W0 es TR) : DN X W0 (.List es pos) (dLst TR) := (pe_lst h).imp fun σ H Q ⟨W, env, S, P, hW, sim, er, ht, post⟩ =>
  ⟨W, env, S, _, hW, sim, er, ht, fun xs S1 W1 H1 vs ⟨hl, q⟩ s l r => ⟨by rw [r.length]; exact hl, (post.mono l).laid q s r⟩⟩

/-! ### items, slices -/
theorem Reps.atI {K : PySem.W.Frag} {W : Wd} {vs : List V} {ds : List D} {i : Int} {d : D} (r : Reps K W vs ds) (h : L2.atI ds i = some d) : ∃ v, L2.atI vs i = some v ∧ Rep K W v d := by
  unfold L2.atI at h ⊢
  rw [r.length]
  cases hx : ixN ds.length i with
  | none => rw [hx] at h; cases h
  | some j =>
    rw [hx] at h
    exact r.get h
def dIx : D2 := fun x y S P => ∃ xs i d, seqOf S x = some xs ∧ y = .int i ∧ L2.atI xs i = some d ∧ P d S
def rIxS2 (K : PySem.W.Frag) : R2 := fun x y H Q => rIxL K x y H Q ∨ rIxT K x y H Q
theorem do_ix {K : PySem.W.Frag} : DOp K (rIxS2 K) dIx := by
  intro W S H x y d1 d2 P Q s r1 r2 ⟨xs, i, d, e1, e2, e3, h⟩ post
  subst e2
  obtain ⟨q, vs, rfl, hq, rr⟩ := r1.seq_of s e1
  obtain ⟨v, h1, h2⟩ := rr.atI e3
  rcases hq with hq | hq
  · exact .inl ⟨q, vs, i, v, rfl, r2.intV, hq, h1, post _ _ W H _ h s .refl h2⟩
  · exact .inr ⟨q, vs, i, v, rfl, r2.intV, hq, h1, post _ _ W H _ h s .refl h2⟩
theorem de_ix (ha : DE X W0 a Ta) (hb : DE X W0 b Tb) (hs : PlainIx b) : DE X W0 (.Subscript a b pos) (dOp dIx Ta Tb) := (pe_ix (IxR.or ix_list ix_tup) ha hb hs).imp fun _ _ _ h => lift_op do_ix h
abbrev DTO := Ev → Sto → (Option Int → Sto → Prop) → Prop
def liftO (K : PySem.W.Frag) (W0 : Bs) (T : DTO) : TO := fun σ H Q => ∃ W env S P, W0.to W H ∧ Sim K W S H ∧ EnvR K W env σ ∧ T env S P ∧ ∀ o S' W' H', P o S' → Sim K W' S' H' → Stp W H W' H' → Q o H'
abbrev DO (X : Cx) (W0 : Bs) (o : Option Expr) (T : DTO) : Prop := PO X o (liftO X.K W0 T)
theorem _root_.L2.PO.imp {o : Option Expr} {t t' : TO} (h : PO X o t) (i : ∀ σ H Q, t' σ H Q → t σ H Q) : PO X o t' := ⟨fun pins s σ H Q I q => h.run pins s σ H Q I (i σ H Q q)⟩
def dNoPart : DTO := fun _ S P => P none S
def xInt (F : Int → Prop) (x : D) : Prop := ∃ i, x = .int i ∧ F i
def dPart (Ta : DTE) : DTO := fun env S P => Ta env S fun x S1 => xInt (fun i => P (some i) S1) x
theorem do_none : DO X W0 none dNoPart := po_none.imp fun σ H Q ⟨W, env, S, P, hW, sim, er, ht, post⟩ => post none S W H ht sim .refl
theorem do_some (h : DE X W0 a Ta) : DO X W0 (some a) (dPart Ta) := (po_some h).imp fun σ H Q ⟨W, env, S, P, hW, sim, er, ht, post⟩ => ⟨W, env, S, _, hW, sim, er, ht, fun x S1 W1 H1 v ⟨i, e, q⟩ s l r => by
  subst e
  exact ⟨i, r.intV, post _ _ W1 H1 q s l⟩⟩
def cutD {α : Type} (xs : List α) (lo hi : Option Int) : List α := (xs.drop (HT.sIx xs.length 0 lo)).take (HT.sIx xs.length xs.length hi - HT.sIx xs.length 0 lo)
theorem Reps.cut {K : PySem.W.Frag} {W : Wd} {vs : List V} {ds : List D} (r : Reps K W vs ds) (lo hi : Option Int) : Reps K W (cutV vs lo hi) (cutD ds lo hi) := by
  unfold cutV cutD
  rw [r.length]
  exact (r.drop _).take _
variable {lo hi : Option Expr} {Tl Th : DTO} {p2 : Pos}
def xSlL : D → Option Int → Option Int → Sto → (List D → Sto → Prop) → Prop := fun x l u S P => ∃ xs, lstOf S x = some xs ∧ P (cutD xs l u) S
def dSl (R : D → Option Int → Option Int → Sto → (List D → Sto → Prop) → Prop) (Ta : DTE) (Tl Th : DTO) : DTN := fun env S P => Ta env S fun x S1 => Tl env S1 fun l S2 => Th env S2 fun u S3 => R x l u S3 P
theorem dn_slice (ha : DE X W0 a Ta) (hl : DO X W0 lo Tl) (hh : DO X W0 hi Th) : DN X W0 (.Subscript a (.Slice lo hi none p2) pos) (dSl xSlL Ta Tl Th) :=
  (pe_slice sl_list ha hl hh).imp fun σ H Q ⟨W, env, S, P, hW, sim, er, ht, post⟩ => ⟨W, env, S, _, hW, sim, er, ht, fun x S1 W1 H1 v q s1 l1 r1 => ⟨W1, env, S1, _, hW.trans l1, s1, er.mono l1.le, q, fun l S2 W2 H2 q2 s2 l2 =>
    ⟨W2, env, S2, _, hW.trans (l1.trans l2), s2, er.mono (l1.trans l2).le, q2, fun u S3 W3 H3 ⟨xs, e, q3⟩ s3 l3 => by
      obtain ⟨a1, vs, rfl, hq, rr⟩ := (r1.mono (l2.trans l3).le).lst_of s3 e
      exact ⟨a1, vs, rfl, SqL.of hq, (post.mono (l1.trans (l2.trans l3))).laid q3 s3 (rr.cut l u)⟩⟩⟩⟩
/-- a tuple's slice (the whole of it is the tuple itself) -/
def xSlT : D → Option Int → Option Int → Sto → DP → Prop := fun x l u S P => ∃ xs, x = .tup xs ∧ P (.tup (cutD xs l u)) S
def dSlT (Ta : DTE) (Tl Th : DTO) : DTE := fun env S P => Ta env S fun x S1 => Tl env S1 fun l S2 => Th env S2 fun u S3 => xSlT x l u S3 P
theorem de_sliceT (ha : DE X W0 a Ta) (hl : DO X W0 lo Tl) (hh : DO X W0 hi Th) : DE X W0 (.Subscript a (.Slice lo hi none p2) pos) (dSlT Ta Tl Th) :=
  (pe_slice sl_tupA ha hl hh).imp fun σ H Q ⟨W, env, S, P, hW, sim, er, ht, post⟩ => ⟨W, env, S, _, hW, sim, er, ht, fun x S1 W1 H1 v q s1 l1 r1 => ⟨W1, env, S1, _, hW.trans l1, s1, er.mono l1.le, q, fun l S2 W2 H2 q2 s2 l2 =>
    ⟨W2, env, S2, _, hW.trans (l1.trans l2), s2, er.mono (l1.trans l2).le, q2, fun u S3 W3 H3 ⟨xs, e, q3⟩ s3 l3 => by
      subst e
      obtain ⟨a1, vs, rfl, hq, rr⟩ := (r1.mono (l2.trans l3).le).tupV
      have pm := post.mono (l1.trans (l2.trans l3))
      refine ⟨a1, vs, rfl, same_sqt s3.same hq, fun hw => ?_, fun _ => pm.newT s3 (rr.cut l u) q3⟩
      rw [rr.length] at hw
      have e : cutD xs l u = xs := by
        unfold cutD
        rw [hw.1, hw.2, List.drop_zero, Nat.sub_zero, List.take_length]
      rw [e] at q3
      exact pm _ _ W3 H3 _ q3 s3 .refl (.tup hq rr)⟩⟩⟩
end
end DL

namespace DL
open PySem PySem.Spec PyProof.Rows L2

/-! ### targets: which slots they may change -/
structure AgO (ss : List Nat) (σ σ' : L2.St) : Prop where
  len : σ'.length = σ.length
  out : ∀ j, j ∉ ss → σ'[j]? = σ[j]?
theorem AgO.refl {ss : List Nat} {σ : L2.St} : AgO ss σ σ := ⟨rfl, fun _ _ => rfl⟩
theorem AgO.trans {s1 s2 : List Nat} {σ σ1 σ2 : L2.St} (a : AgO s1 σ σ1) (b : AgO s2 σ1 σ2) : AgO (s1 ++ s2) σ σ2 :=
  ⟨b.len.trans a.len, fun j h => (b.out j fun z => h (List.mem_append_right _ z)).trans (a.out j fun z => h (List.mem_append_left _ z))⟩
theorem wipe_len (σ : L2.St) : ∀ vs : List Nat, (wipe σ vs).length = σ.length
  | [] => rfl
  | v :: vs => by
    show ((wipe σ vs).set v none).length = _
    rw [List.length_set]
    exact wipe_len σ vs
theorem wipe_get (σ : L2.St) : ∀ (vs : List Nat) (j : Nat), (wipe σ vs)[j]? = if j ∈ vs then (if j < σ.length then some none else none) else σ[j]?
  | [], j => by simp [wipe]
  | v :: vs, j => by
    show ((wipe σ vs).set v none)[j]? = _
    by_cases hj : j = v
    · subst hj
      by_cases hl : j < σ.length
      · rw [List.getElem?_set_self (by rw [wipe_len]; exact hl)]
        simp [hl]
      · rw [List.getElem?_eq_none (by rw [List.length_set, wipe_len]; omega)]
        simp [hl]
    · rw [List.getElem?_set_ne (Ne.symm hj), wipe_get σ vs j]
      simp [hj]
theorem AgO.wipe {ss vs : List Nat} {σ σ' : L2.St} (h : AgO ss σ σ') (hs : ∀ i ∈ ss, i ∈ vs) : L2.wipe σ' vs = L2.wipe σ vs := by
  refine List.ext_getElem? fun j => ?_
  rw [wipe_get, wipe_get, h.len]
  by_cases hj : j ∈ vs
  · rw [if_pos hj, if_pos hj]
  · rw [if_neg hj, if_neg hj, h.out j fun z => hj (hs j z)]
theorem wipe_wipe (σ : L2.St) (vs : List Nat) : L2.wipe (L2.wipe σ vs) vs = L2.wipe σ vs := by
  refine List.ext_getElem? fun j => ?_
  rw [wipe_get, wipe_get, wipe_len]
  by_cases hj : j ∈ vs
  · rw [if_pos hj, if_pos hj]
  · rw [if_neg hj, if_neg hj]
def wipeE (env : Ev) : List Nat → Ev
  | [] => env
  | v :: vs => (wipeE env vs).set v none
theorem EnvR.wipe {K : PySem.W.Frag} {W : Wd} {env : Ev} {σ : L2.St} (e : EnvR K W env σ) : ∀ vs : List Nat, EnvR K W (wipeE env vs) (L2.wipe σ vs)
  | [] => e
  | v :: vs => (EnvR.wipe e vs).unset

def PostG (K : PySem.W.Frag) (W : Wd) (H : Hp) (ss : List Nat) (σ : L2.St) (P : Ev → Sto → Prop) (Q : L2.St → Hp → Prop) : Prop := ∀ env S' W' H' σ', P env S' → Sim K W' S' H' → Stp W H W' H' → EnvR K W' env σ' → AgO ss σ σ' → Q σ' H'
def liftG (K : PySem.W.Frag) (W0 : Bs) (ss : List Nat) (T : DTG) : TG := fun v σ H Q => ∃ W env S P d, W0.to W H ∧ Sim K W S H ∧ EnvR K W env σ ∧ Rep K W v d ∧ T d env S P ∧ PostG K W H ss σ P Q
def liftGs (K : PySem.W.Frag) (W0 : Bs) (ss : List Nat) (T : DTGs) : TGs := fun vs σ H Q => ∃ W env S P ds, W0.to W H ∧ Sim K W S H ∧ EnvR K W env σ ∧ Reps K W vs ds ∧ T ds env S P ∧ PostG K W H ss σ P Q
abbrev DG (X : Cx) (W0 : Bs) (ss : List Nat) (e : Expr) (T : DTG) : Prop := PG X e (liftG X.K W0 ss T)
abbrev DGs (X : Cx) (W0 : Bs) (ss : List Nat) (es : List Expr) (T : DTGs) : Prop := PGs X es (liftGs X.K W0 ss T)

section
variable {X : Cx} {W0 : Bs} {a b c e tg : Expr} {es : List Expr} {Ta Tb Tc T : DTE} {TA TB : DTT} {TR : DTA} {pos p : Pos} {st : Stmt} {sts : List Stmt} {TS TU : DTS} {ss s1 s2 : List Nat} {G : DTG} {Gs : DTGs}

def gNm (i : Nat) : DTG := fun d env S P => P (env.set i (some d)) S
theorem dg_name {i : Nat} {x : Str} (h : PG X (.Name x pos) (gName i)) : DG X W0 [i] (.Name x pos) (gNm i) := h.imp fun v σ H Q ⟨W, env, S, P, d, hW, sim, er, r, ht, post⟩ =>
  post _ S W H _ ht sim .refl (er.set r) ⟨List.length_set, fun j hj => List.getElem?_set_ne fun z => hj (by rw [z]; exact List.mem_singleton.mpr rfl)⟩
def gNl : DTGs := fun ds env S P => ds = [] ∧ P env S
def gCs (G : DTG) (Gs : DTGs) : DTGs := fun ds env S P => ∃ d r, ds = d :: r ∧ G d env S fun env' S' => Gs r env' S' P
theorem dgs_nil : DGs X W0 [] [] gNl := pgs_nil.imp fun vs σ H Q ⟨W, env, S, P, ds, hW, sim, er, r, ⟨e, ht⟩, post⟩ => by
  subst e
  cases r
  exact ⟨rfl, post _ S W H _ ht sim .refl er .refl⟩
theorem dgs_cons (h1 : DG X W0 s1 e G) (h2 : DGs X W0 s2 es Gs) (hs : (assignEach (e :: es) X.env).map (·.2) = assign e X.env :: (assignEach es X.env).map (·.2) := by rfl) : DGs X W0 (s1 ++ s2) (e :: es) (gCs G Gs) :=
  (pgs_cons h1 h2 hs).imp fun vs σ H Q ⟨W, env, S, P, ds, hW, sim, er, r, ⟨d, rr, e, ht⟩, post⟩ => by
    subst e
    cases r with
    | cons r1 r2 => exact ⟨_, _, rfl, W, env, S, _, d, hW, sim, er, r1, ht, fun env1 S1 W1 H1 σ1 q1 sm l1 er1 ag1 => ⟨W1, env1, S1, P, rr, hW.trans l1, sm, er1, r2.mono l1.le, q1, fun env2 S2 W2 H2 σ2 q2 sm2 l2 er2 ag2 =>
        post env2 S2 W2 H2 σ2 q2 sm2 (l1.trans l2) er2 (ag1.trans ag2)⟩⟩
def gTp (n : Nat) (Gs : DTGs) : DTG := fun d env S P => ∃ ds, d = .tup ds ∧ ds.length = n ∧ Gs ds env S P
theorem dg_tup {k n : Nat} (hc : X.calm = true) (h : DGs X W0 ss es Gs) (hn : (assignEach es X.env).length = n := by rfl) (hst : (assignEach es X.env).findIdx? (·.1) = none := by rfl) : DG X W0 ss (.Tuple es k pos) (gTp n Gs) :=
  (pg_tup hc h hn hst).imp fun v σ H Q ⟨W, env, S, P, d, hW, sim, er, r, ⟨ds, e, hl, ht⟩, post⟩ => by
    subst e
    obtain ⟨a1, vs, rfl, hq, rr⟩ := r.tupV
    exact ⟨a1, vs, rfl, same_sqt sim.same hq, by rw [rr.length]; exact hl, W, env, S, P, ds, hW, sim, er, rr, ht, post⟩

/-! ### o[i] = v, of a store's list -/
def setAt (x y d : D) (S : Sto) (P : Sto → Prop) : Prop := ∃ i xs k j, x = .ref i ∧ S[i]? = some (.lst xs) ∧ y = .int k ∧ ixN xs.length k = some j ∧ P (S.set i (.lst (xs.set j d)))
def gSb (Ta Tb : DTE) : DTG := fun d env S P => Ta env S fun x S1 => Tb env S1 fun y S2 => setAt x y d S2 fun S3 => P env S3
theorem dg_sub (ha : DE X W0 a Ta) (hb : DE X W0 b Tb) (h : ∀ {to ti : TE}, PE X a to → PE X b ti → PG X (.Subscript a b pos) (gSub to ti rSetL)) : DG X W0 [] (.Subscript a b pos) (gSb Ta Tb) :=
  (h ha hb).imp fun v σ H Q ⟨W, env, S, P, d, hW, sim, er, r, ht, post⟩ => ⟨W, env, S, _, hW, sim, er, ht, fun x S1 W1 H1 v1 q1 sm1 l1 r1 => ⟨W1, env, S1, _, hW.trans l1, sm1, er.mono l1.le, q1, fun y S2 W2 H2 v2 q2 sm2 l2 r2 => by
    obtain ⟨i, xs, k, j, rfl, hS, rfl, hj, q⟩ := q2
    have r1' := r1.mono l2.le
    cases r1' with
    | ref hi =>
      obtain ⟨hB, vs, hH, rr⟩ := sm2.obj i _ _ hi hS
      refine ⟨_, vs, k, j, rfl, r2.intV, hH, by rw [rr.length]; exact hj, ?_⟩
      exact post env _ W2 _ σ q (sm2.setO hi hS hB ⟨hB, _, upd_same, rr.set (r.mono (l1.trans l2).le) j⟩) ((l1.trans l2).trans (.setO hi)) (er.mono (l1.trans l2).le) .refl⟩⟩

/-! ### statements -/
def dDrop (T : DTE) : DTS := fun E env S => T env S fun _ S1 => E.nx env S1
theorem ds_expr (he : DE X W0 e T) (hs : swapsWith e none pos.line X.env = pure false := by rfl) : DS X W0 (.Expr e pos) (dDrop T) := (ps_expr he hs).imp fun D σ H ⟨W, env, S, E, hW, sim, er, ht, post⟩ =>
  ⟨W, env, S, _, hW, sim, er, ht, fun d S1 W1 H1 v q s l r => post.nx env S1 W1 H1 σ q s l (er.mono l.le)⟩
def dRet (T : DTE) : DTS := fun E env S => T env S E.rt
theorem ds_ret (he : DE X W0 e T) : DS X W0 (.Return (some e) pos) (dRet T) := (ps_ret he).imp fun D σ H ⟨W, env, S, E, hW, sim, er, ht, post⟩ => ⟨W, env, S, _, hW, sim, er, ht, post.rt⟩
theorem ds_retN : DS X W0 (.Return none pos) (fun E _ S => E.rt .non S) := ps_retN.imp fun D σ H ⟨W, env, S, E, hW, sim, er, ht, post⟩ => post.rt _ _ W H _ ht sim .refl .non
def dNext : DTS := fun E env S => E.nx env S
theorem dss_nil : DSs X W0 [] dNext := pss_nil.imp fun D σ H ⟨W, env, S, E, hW, sim, er, ht, post⟩ => post.nx env S W H σ ht sim .refl er
theorem ds_pass : DS X W0 (.Pass pos) dNext := ps_pass.imp fun D σ H ⟨W, env, S, E, hW, sim, er, ht, post⟩ => post.nx env S W H σ ht sim .refl er
theorem ds_break : DS X W0 (.Break pos) (fun E env S => E.bk env S) := ps_break.imp fun D σ H ⟨W, env, S, E, hW, sim, er, ht, post⟩ => post.bk env S W H σ ht sim .refl er
theorem ds_cont : DS X W0 (.Continue pos) (fun E env S => E.ct env S) := ps_continue.imp fun D σ H ⟨W, env, S, E, hW, sim, er, ht, post⟩ => post.ct env S W H σ ht sim .refl er
def dSeq (T U : DTS) : DTS := fun E env S => T { E with nx := U E } env S
theorem dss_cons (h1 : DS X W0 st TS) (h2 : DSs X W0 sts TU) : DSs X W0 (st :: sts) (dSeq TS TU) := (pss_cons h1 h2).imp fun D σ H ⟨W, env, S, E, hW, sim, er, ht, post⟩ =>
  ⟨W, env, S, _, hW, sim, er, ht, ⟨fun env1 S1 W1 H1 σ1 q s l er1 => ⟨W1, env1, S1, E, hW.trans l, s, er1, q, post.mono l⟩, post.rt, post.bk, post.ct⟩⟩
theorem dss_one (h1 : DS X W0 st TS) : DSs X W0 [st] TS := pss_one h1
def dNever : DTS := fun _ _ _ => False
theorem ds_never : DS X W0 st dNever := ps_never.imp fun _ _ _ ⟨_, _, _, _, _, _, _, h, _⟩ => h.elim
theorem dss_never : DSs X W0 sts dNever := pss_never.imp fun _ _ _ ⟨_, _, _, _, _, _, _, h, _⟩ => h.elim
def dIfS (TA : DTT) (T U : DTS) : DTS := fun E env S => TA env S fun k S1 => if k = true then T E env S1 else U E env S1
theorem ds_if {s1 s2 : List Stmt} (hc : DT X W0 c TA) (ha : DSs X W0 s1 TS) (hb : DSs X W0 s2 TU) : DS X W0 (.If c s1 s2 pos) (dIfS TA TS TU) := (ps_if hc ha hb).imp fun D σ H ⟨W, env, S, E, hW, sim, er, ht, post⟩ =>
  lift_if hW sim er ht fun k S1 W1 H1 q s l => by
    cases k with
    | true => exact ⟨W1, env, S1, E, hW.trans l, s, er.mono l.le, q, post.mono l⟩
    | false => exact ⟨W1, env, S1, E, hW.trans l, s, er.mono l.le, q, post.mono l⟩
def dAsg (T : DTE) (G : DTG) : DTS := fun E env S => T env S fun d S1 => G d env S1 E.nx
theorem lift_asg {D : Ends} {σ : L2.St} {H : Hp} (h : liftS X.K W0 (dAsg T G) D σ H) : tAsg (liftE X.K W0 T) (liftG X.K W0 ss G) D σ H := by
  obtain ⟨W, env, S, E, hW, sim, er, ht, post⟩ := h
  exact ⟨W, env, S, _, hW, sim, er, ht, fun d S1 W1 H1 v q s l r => ⟨W1, env, S1, _, d, hW.trans l, s, er.mono l.le, r, q, fun env2 S2 W2 H2 σ2 q2 sm2 l2 er2 _ => post.nx env2 S2 W2 H2 σ2 q2 sm2 (l.trans l2) er2⟩⟩
theorem ds_asg (he : DE X W0 e T) (hg : DG X W0 ss tg G) (h : ∀ {te : TE} {g : TG}, PE X e te → PG X tg g → PS X (.Assign [tg] e pos) (tAsg te g)) : DS X W0 (.Assign [tg] e pos) (dAsg T G) := (h he hg).imp fun _ _ _ q => lift_asg q
/-- name = e -/
theorem ds_set {i : Nat} {x : Str} {pos' : Pos} (he : DE X W0 e T) (h : ∀ {te : TE}, PE X e te → PS X (.Assign [.Name x pos'] e pos) (tAsg te (gName i))) : DS X W0 (.Assign [.Name x pos'] e pos) (dAsg T (gNm i)) :=
  (h he).imp fun D σ H ⟨W, env, S, E, hW, sim, er, ht, post⟩ => ⟨W, env, S, _, hW, sim, er, ht, fun d S1 W1 H1 v q s l r => post.nx _ S1 W1 H1 _ q s l ((er.mono l.le).set r)⟩
def dAug (i : Nat) (T : DTE) (f : Int → Int → Int) : DTS := fun E env S => ∃ a, env[i]? = some (some (.int a)) ∧ T env S fun y S1 => xInt (fun b => E.nx (env.set i (some (.int (f a b)))) S1) y
theorem ds_aug {i : Nat} {f : Int → Int → Int} (he : DE X W0 e T) (h : ∀ {te : TE}, PE X e te → PS X st (tAug i te (ipI f))) : DS X W0 st (dAug i T f) :=
  (h he).imp fun D σ H ⟨W, env, S, E, hW, sim, er, ⟨a, ha, ht⟩, post⟩ => by
    obtain ⟨v, hv, r⟩ := er.get i _ ha
    cases r
    exact ⟨_, hv, W, env, S, _, hW, sim, er, ht, fun d S1 W1 H1 w ⟨b, e, q⟩ s l rr => by
      subst e
      exact ⟨a, b, rfl, rr.intV, post.nx _ S1 W1 H1 _ q s l ((er.mono l.le).set (.int _))⟩⟩
/-- while: a word with its measure -/
def dWhile (TA : DTT) (TB : DTS) : DTS := fun E env S => ∃ I : Nat → Ev → Sto → Prop, (∃ m, I m env S) ∧ ∀ m env S, I m env S → TA env S fun k S1 => if k = true then TB { E with nx := fun e s => ∃ m', m' < m ∧ I m' e s, ct := fun e s => ∃ m', m' < m ∧ I m' e s, bk := E.nx } env S1 else E.nx env S1
theorem ds_while {body : List Stmt} (hp : PassesOwn (model X.prog X.w) X.A X.env X.xe) (hc : DT X W0 c TA) (hb : DSs X W0 body TS) : DS X W0 (.While c body [] pos) (dWhile TA TS) := (ps_while hp hc hb).imp fun D σ H ⟨W, env, S, E, hW, sim, er, ⟨I, ⟨m0, i0⟩, turn⟩, post⟩ => by
  refine ⟨fun m σ' H' => ∃ W' env' S', Stp W H W' H' ∧ Sim X.K W' S' H' ∧ EnvR X.K W' env' σ' ∧ I m env' S', ⟨m0, W, env, S, .refl, sim, er, i0⟩, ?_⟩
  rintro m σ1 H1 ⟨W1, env1, S1, l1, sm1, er1, i1⟩
  refine lift_if (hW.trans l1) sm1 er1 (turn m env1 S1 i1) fun k S2 W2 H2 q s l => ?_
  have l2 := l1.trans l
  cases k with
  | true => exact ⟨_, fun σ' H' z => z, W2, env1, S2, _, hW.trans l2, s, er1.mono l.le, q, ⟨fun env3 S3 W3 H3 σ3 ⟨m', hm, i3⟩ sm3 l3 er3 => ⟨m', hm, W3, env3, S3, l2.trans l3, sm3, er3, i3⟩, (post.mono l2).rt, (post.mono l2).nx,
      fun env3 S3 W3 H3 σ3 ⟨m', hm, i3⟩ sm3 l3 er3 => ⟨m', hm, W3, env3, S3, l2.trans l3, sm3, er3, i3⟩⟩⟩
  | false => exact post.nx env1 S2 W2 H2 σ1 q s l2 (er1.mono l.le)

/-! ### what is walked -/
structure Gives (K : PySem.W.Frag) (W : Wd) (H : Hp) (ok : Sto → Prop) (ds : List D) (J : It) : Prop where
  ex : ∃ (Gd : Hp → Prop) (Y : Nat → Hp → V → Hp → Prop), Walk J ds.length Gd Y ∧ (∀ W' S' H', Stp W H W' H' → Sim K W' S' H' → ok S' → Gd H') ∧
    ∀ i d W' S' H' x H'', ds[i]? = some d → Stp W H W' H' → Sim K W' S' H' → ok S' → Y i H' x H'' → ∃ W'', Sim K W'' S' H'' ∧ Stp W' H' W'' H'' ∧ Rep K W'' x d
abbrev DTI := Ev → Sto → (List D → (Sto → Prop) → Sto → Prop) → Prop
def liftI (K : PySem.W.Frag) (W0 : Bs) (T : DTI) : TI := fun σ H R => ∃ W env S P, W0.to W H ∧ Sim K W S H ∧ EnvR K W env σ ∧ T env S P ∧ ∀ ds ok S' W' H' J, P ds ok S' → Sim K W' S' H' → Stp W H W' H' → Gives K W' H' ok ds J → R J H'
abbrev DI (X : Cx) (W0 : Bs) (tg iter : Expr) (T : DTI) : Prop := PI X tg iter (liftI X.K W0 T)
theorem _root_.L2.PI.imp {iter : Expr} {t t' : TI} (h : PI X tg iter t) (i : ∀ σ H R, t' σ H R → t σ H R) : PI X tg iter t' := ⟨fun pins s σ H R I q => h.run pins s σ H R I (i σ H R q)⟩
abbrev IP := List D → (Sto → Prop) → Sto → Prop
def xTp (P : IP) (d : D) (S : Sto) : Prop := ∃ ds, d = .tup ds ∧ P ds (fun _ => True) S
def iTp (T : DTE) : DTI := fun env S P => T env S (xTp P)
theorem di_tup (h : DE X W0 e T) : DI X W0 tg e (iTp T) := (pi_tup h).imp fun σ H R ⟨W, env, S, P, hW, sim, er, ht, post⟩ => ⟨W, env, S, _, hW, sim, er, ht, fun d S1 W1 H1 v ⟨ds, e, q⟩ s l r => by
  subst e
  obtain ⟨a1, vs, rfl, hq, rr⟩ := r.tupV
  refine ⟨a1, rfl, ⟨vs, same_sqt s.same hq⟩, post ds _ S1 W1 H1 _ q s l ⟨_, _, by rw [← rr.length]; exact walk_tup (xs := vs), fun W' S' H' l' s' _ => same_sqt s'.same (same_sqt l'.le.same hq), ?_⟩⟩
  rintro i d W' S' H' x H'' hd l' s' _ ⟨rfl, hx⟩
  obtain ⟨v, h1, h2⟩ := rr.get hd
  rw [hx] at h1
  cases h1
  exact ⟨W', s', .refl, h2.mono l'.le⟩⟩
/-- a list: a pure one, the script, or one of the store's that stays as it is -/
def lstAny (S : Sto) (d : D) (ds : List D) (ok : Sto → Prop) : Prop := match d with
  | .lst xs => ds = xs ∧ ok = fun _ => True
  | .scr ns => ds = ns.map .int ∧ ok = fun _ => True
  | .ref i => S[i]? = some (.lst ds) ∧ ok = fun S' => S'[i]? = some (.lst ds)
  | _ => False
theorem reps_ints {K : PySem.W.Frag} {W : Wd} : ∀ ns : List Int, Reps K W (ns.map V.int) (ns.map D.int)
  | [] => .nil
  | n :: ns => .cons (.int n) (reps_ints ns)
def xLs (P : IP) (d : D) (S : Sto) : Prop := ∃ ds ok, lstAny S d ds ok ∧ P ds ok S
def iLs (T : DTE) : DTI := fun env S P => T env S (xLs P)
theorem di_list (h : DE X W0 e T) : DI X W0 tg e (iLs T) := (pi_list h).imp fun σ H R ⟨W, env, S, P, hW, sim, er, ht, post⟩ => ⟨W, env, S, _, hW, sim, er, ht, fun d S1 W1 H1 v ⟨ds, ok, e, q⟩ s l r => by
  have at_ : ∀ {a1 : Addr} {ds' : List D}, (∀ W' S' H', Stp W1 H1 W' H' → Sim X.K W' S' H' → ok S' → ∃ vs, SqL X.K H' a1 vs ∧ Reps X.K W' vs ds') → ok S1 → P ds' ok S1 → ∃ a, V.ref a1 = .ref a ∧ (∃ xs, SqL X.K H1 a xs) ∧ R (Itl X.K a) H1 := fun {a1 ds'} h2 h3 q => by
    obtain ⟨vs, h1, _⟩ := h2 W1 S1 H1 .refl s h3
    refine ⟨a1, rfl, ⟨vs, h1⟩, post ds' _ S1 W1 H1 _ q s l ⟨fun H' => ∃ us, SqL X.K H' a1 us ∧ us.length = ds'.length, fun i H' x H'' => H'' = H' ∧ ∀ us, SqL X.K H' a1 us → us[i]? = some x,
      ⟨fun i H' hi ⟨us, hu, he⟩ => ⟨us, us[i]'(by omega), hu, List.getElem?_eq_getElem _⟩, fun H' ⟨us, hu, he⟩ => ⟨us, hu, by omega⟩, fun _ _ _ _ _ _ y => y⟩, fun W' S' H' l' s' o' => ?_, ?_⟩⟩
    · obtain ⟨us, hu, ru⟩ := h2 W' S' H' l' s' o'
      exact ⟨us, hu, ru.length⟩
    · rintro i d W' S' H' x H'' hd l' s' o' ⟨rfl, hx⟩
      obtain ⟨us, hu, ru⟩ := h2 W' S' H'' l' s' o'
      obtain ⟨v, g1, g2⟩ := ru.get hd
      rw [hx us hu] at g1
      cases g1
      exact ⟨W', s', .refl, g2⟩
  cases r with
  | lst h1 rr =>
    obtain ⟨rfl, rfl⟩ := e
    exact at_ (fun W' S' H' l' s' _ => ⟨_, SqL.of (s'.same _ _ (l'.le.same _ _ h1)), rr.mono l'.le⟩) trivial q
  | @scr a1 ns h1 =>
    obtain ⟨rfl, rfl⟩ := e
    exact at_ (fun W' S' H' l' s' _ => ⟨_, same_sql s'.same (same_sql l'.le.same h1), reps_ints ns⟩) trivial q
  | @ref i a1 hi =>
    obtain ⟨hS, rfl⟩ := e
    refine at_ (fun W' S' H' l' s' o' => ?_) hS q
    obtain ⟨hB, vs, hH, rr⟩ := s'.obj i a1 _ (l'.le.pre i a1 hi) o'
    exact ⟨vs, SqL.of hH, rr⟩
  | _ => exact e.elim⟩
end
end DL

namespace DL
open PySem PySem.Spec PyProof.Rows L2
section
variable {X : Cx} {W0 : Bs} {a b c e tg : Expr} {es : List Expr} {Ta Tb Tc T : DTE} {TA TB : DTT} {TR : DTA} {pos p : Pos} {st : Stmt} {sts : List Stmt} {TS TU : DTS} {ss s1 s2 : List Nat} {G : DTG} {Gs : DTGs} {TI : DTI} {TN : DTN}

/-! ### ranges -/
def rangeD (lo : Int) (n : Nat) : List D := (List.range n).map fun (k : Nat) => D.int (lo + (k : Int))
theorem rangeD_get {lo : Int} {n i : Nat} {d : D} (h : (rangeD lo n)[i]? = some d) : i < n ∧ d = .int (lo + i) := by
  unfold rangeD at h
  rw [List.getElem?_map] at h
  by_cases hi : i < n
  · rw [List.getElem?_range hi] at h
    cases h
    exact ⟨hi, rfl⟩
  · rw [List.getElem?_eq_none (by rw [List.length_range]; omega)] at h
    cases h
theorem rangeD_len {lo : Int} {n : Nat} : (rangeD lo n).length = n := by unfold rangeD; rw [List.length_map, List.length_range]
theorem gives_range {K : PySem.W.Frag} {W : Wd} {H : Hp} {lo : Int} {n : Nat} : Gives K W H (fun _ => True) (rangeD lo n) (Itr lo n) := by
  refine ⟨_, _, by rw [rangeD_len]; exact walk_range, fun _ _ _ _ _ _ => trivial, ?_⟩
  rintro i d W' S' H' x H'' hd l' s' _ ⟨rfl, rfl⟩
  obtain ⟨_, rfl⟩ := rangeD_get hd
  exact ⟨W', s', .refl, .int _⟩
def xRg1 (P : IP) (ds : List D) (S : Sto) : Prop := ∃ j, ds = [.int j] ∧ -(2 ^ 62) ≤ j ∧ j < 2 ^ 62 ∧ P (rangeD 0 j.toNat) (fun _ => True) S
def iRg1 (TR : DTA) : DTI := fun env S P => TR env S (xRg1 P)
theorem Reps.one {K : PySem.W.Frag} {W : Wd} {vs : List V} {d : D} (r : Reps K W vs [d]) : ∃ v, vs = [v] ∧ Rep K W v d := by
  cases r with
  | cons h t => cases t; exact ⟨_, rfl, h⟩
theorem Reps.two {K : PySem.W.Frag} {W : Wd} {vs : List V} {d d2 : D} (r : Reps K W vs [d, d2]) : ∃ v w, vs = [v, w] ∧ Rep K W v d ∧ Rep K W w d2 := by
  cases r with
  | cons h t =>
    obtain ⟨w, rfl, h2⟩ := t.one
    exact ⟨_, _, rfl, h, h2⟩
theorem di_range1 (hg : Gl X "range") (hm : X.mg "range" = none) (ha : DA X W0 [a] TR) (hs : starEach [a] X.env = [(false, eval a X.env)] := by rfl) : DI X W0 tg (.Call (.Name "range" p) [a] [] pos) (iRg1 TR) :=
  (pi_range1 hg hm ha hs).imp fun σ H R ⟨W, env, S, P, hW, sim, er, ht, post⟩ => ⟨W, env, S, _, hW, sim, er, ht, fun ds S1 W1 H1 vs ⟨j, e, h1, h2, q⟩ s l r => by
    subst e
    obtain ⟨v, rfl, rv⟩ := r.one
    exact ⟨j, by rw [rv.intV], h1, h2, post _ _ S1 W1 H1 _ q s l gives_range⟩⟩
def xRg2 (P : IP) (ds : List D) (S : Sto) : Prop := ∃ i j, ds = [.int i, .int j] ∧ (-(2 ^ 62) ≤ i ∧ i < 2 ^ 62 ∧ -(2 ^ 62) ≤ j ∧ j < 2 ^ 62) ∧ P (rangeD i (j - i).toNat) (fun _ => True) S
def iRg2 (TR : DTA) : DTI := fun env S P => TR env S (xRg2 P)
theorem di_range2 (hg : Gl X "range") (hm : X.mg "range" = none) (ha : DA X W0 [a, b] TR) (hs : starEach [a, b] X.env = [(false, eval a X.env), (false, eval b X.env)] := by rfl) (hs2 : starEach [b] X.env = [(false, eval b X.env)] := by rfl) : DI X W0 tg (.Call (.Name "range" p) [a, b] [] pos) (iRg2 TR) :=
  (pi_range2 hg hm ha hs hs2).imp fun σ H R ⟨W, env, S, P, hW, sim, er, ht, post⟩ => ⟨W, env, S, _, hW, sim, er, ht, fun ds S1 W1 H1 vs ⟨i, j, e, h1, q⟩ s l r => by
    subst e
    obtain ⟨v, w, rfl, rv, rw'⟩ := r.two
    exact ⟨i, j, by rw [rv.intV, rw'.intV], h1, post _ _ S1 W1 H1 _ q s l gives_range⟩⟩

/-! ### enumerate, zip of lists that stand still -/
def enumD : Nat → List D → List D
  | _, [] => []
  | n, x :: xs => .tup [.int n, x] :: enumD (n + 1) xs
theorem enumD_len : ∀ (n : Nat) (xs : List D), (enumD n xs).length = xs.length
  | _, [] => rfl
  | n, _ :: xs => congrArg (· + 1) (enumD_len (n + 1) xs)
theorem enumD_get : ∀ (n : Nat) (xs : List D) (i : Nat) (d : D), (enumD n xs)[i]? = some d → ∃ x, xs[i]? = some x ∧ d = .tup [.int ((n + i : Nat) : Int), x]
  | _, [], i, d, h => by simp [enumD] at h
  | n, x :: xs, 0, d, h => by
    simp [enumD] at h
    exact ⟨x, rfl, h.symm⟩
  | n, x :: xs, i + 1, d, h => by
    obtain ⟨y, h1, h2⟩ := enumD_get (n + 1) xs i d (by simpa [enumD] using h)
    refine ⟨y, by simpa using h1, ?_⟩
    rw [h2]
    congr 4
    omega
def zipD : List D → List D → List D
  | x :: xs, y :: ys => .tup [x, y] :: zipD xs ys
  | _, _ => []
theorem zipD_len : ∀ xs ys : List D, (zipD xs ys).length = min xs.length ys.length
  | [], _ => by simp [zipD]
  | _ :: _, [] => by simp [zipD]
  | _ :: xs, _ :: ys => by
    show (zipD xs ys).length + 1 = min (xs.length + 1) (ys.length + 1)
    rw [zipD_len xs ys]
    omega
theorem zipD_get : ∀ (xs ys : List D) (i : Nat) (d : D), (zipD xs ys)[i]? = some d → ∃ x y, xs[i]? = some x ∧ ys[i]? = some y ∧ d = .tup [x, y]
  | [], _, i, d, h => by simp [zipD] at h
  | _ :: _, [], i, d, h => by simp [zipD] at h
  | x :: xs, y :: ys, 0, d, h => by
    simp [zipD] at h
    exact ⟨x, y, rfl, rfl, h.symm⟩
  | x :: xs, y :: ys, i + 1, d, h => by
    obtain ⟨u, v, h1, h2, h3⟩ := zipD_get xs ys i d (by simpa [zipD] using h)
    exact ⟨u, v, by simpa using h1, by simpa using h2, h3⟩
/-- a new pair -/
theorem pair_new {K : PySem.W.Frag} {W : Wd} {S : Sto} {H : Hp} {T : Addr} {x y : V} {d1 d2 : D} (s : Sim K W S H) (hT : H T = none) (r1 : Rep K W x d1) (r2 : Rep K W y d2) :
    ∃ W'', Sim K W'' S (upd H T (.tup [x, y])) ∧ Stp W H W'' (upd H T (.tup [x, y])) ∧ Rep K W'' (.ref T) (.tup [d1, d2]) :=
  ⟨W.put T (.tup [x, y]), s.put hT, .put s hT, .tup (SqT.of upd_same) (.cons (r1.mono (Wd.le_put (s.free hT))) (.cons (r2.mono (Wd.le_put (s.free hT))) .nil))⟩
/-- a pure list's place stays -/
theorem pure_lst {K : PySem.W.Frag} {W W' : Wd} {S : Sto} {H H' : Hp} {a : Addr} {vs : List V} (h : W.B a = some (.lst vs)) (l : Stp W H W' H') (s : Sim K W' S H') : SqL K H' a vs := SqL.of (s.same _ _ (l.le.same _ _ h))
theorem Rep.lstV {K : PySem.W.Frag} {W : Wd} {v : V} {ds : List D} (r : Rep K W v (.lst ds)) : ∃ a vs, v = .ref a ∧ W.B a = some (.lst vs) ∧ Reps K W vs ds := by cases r with | lst h1 h2 => exact ⟨_, _, rfl, h1, h2⟩
def xEn (P : IP) (ds : List D) (S : Sto) : Prop := ∃ xs, ds = [.lst xs] ∧ P (enumD 0 xs) (fun _ => True) S
def iEn (TR : DTA) : DTI := fun env S P => TR env S (xEn P)
theorem di_enum {elts : List Expr} {kk : Nat} {tpos : Pos} (hg : Gl X "enumerate") (hm : X.mg "enumerate" = none) (ha : DA X W0 [a] TR) (hs : starEach [a] X.env = [(false, eval a X.env)] := by rfl) : DI X W0 (.Tuple elts kk tpos) (.Call (.Name "enumerate" p) [a] [] pos) (iEn TR) :=
  (pi_enum hg hm ha hs).imp fun σ H R ⟨W, env, S, P, hW, sim, er, ht, post⟩ => ⟨W, env, S, _, hW, sim, er, ht, fun ds S1 W1 H1 vs ⟨xs, e, q⟩ s l r => by
    subst e
    obtain ⟨v, rfl, rv⟩ := r.one
    obtain ⟨a1, vs, rfl, hB, rr⟩ := rv.lstV
    refine ⟨a1, vs, rfl, pure_lst hB .refl s, post _ _ S1 W1 H1 _ q s l ⟨_, _, by rw [enumD_len, ← rr.length]; exact walk_enum (xs := vs), fun W' S' H' l' s' _ => pure_lst hB l' s', ?_⟩⟩
    rintro i d W' S' H' x H'' hd l' s' _ ⟨T, x1, x2, rfl, hT, rfl, e1, e2⟩
    obtain ⟨y, h1, rfl⟩ := enumD_get 0 xs i d hd
    obtain ⟨u, g1, g2⟩ := rr.get h1
    have e2 : vs[i]? = some x2 := e2
    rw [g1] at e2
    cases e2
    cases e1
    rw [Nat.zero_add]
    exact pair_new s' hT (.int _) (g2.mono l'.le)⟩
def xZp (P : IP) (ds : List D) (S : Sto) : Prop := (∃ xs ys, ds = [.lst xs, .lst ys] ∧ P (zipD xs ys) (fun _ => True) S) ∨ ∃ xs ys, ds = [.tup xs, .tup ys] ∧ P (zipD xs ys) (fun _ => True) S
def iZp (TR : DTA) : DTI := fun env S P => TR env S (xZp P)
theorem walk_zipT {K : PySem.W.Frag} {a b : Addr} {xs ys : List V} : Walk (RZ.ItzT K a b) (min xs.length ys.length) (fun H => SqT K H a xs ∧ SqT K H b ys) (YPair (fun i => xs[i]?) (fun i => ys[i]?)) :=
  ⟨fun i H hi ⟨q1, q2⟩ => ⟨xs, ys, xs[i]'(by omega), ys[i]'(by omega), q1, q2, List.getElem?_eq_getElem _, List.getElem?_eq_getElem _⟩, fun H ⟨q1, q2⟩ => ⟨xs, ys, q1, q2, by omega⟩,
    fun i H v H' _ ⟨q1, q2⟩ ⟨T, x, y, h1, h2, h3, h4, h5⟩ => ⟨T, x, y, h1, h2, h3, h4 xs q1, h5 ys q2⟩⟩
theorem di_zip {elts : List Expr} {kk : Nat} {tpos : Pos} (ha : DA X W0 [a, b] TR) (h : ∀ {ta : L2.TA}, PA X [a, b] ta → PI X (.Tuple elts kk tpos) (.Call (.Name "zip" p) [a, b] [] pos) (RZ.iZipA X.K ta)) : DI X W0 (.Tuple elts kk tpos) (.Call (.Name "zip" p) [a, b] [] pos) (iZp TR) :=
  (h ha).imp fun σ H R ⟨W, env, S, P, hW, sim, er, ht, post⟩ => ⟨W, env, S, _, hW, sim, er, ht, fun ds S1 W1 H1 vs q s l r => by
    rcases q with ⟨xs, ys, e, q⟩ | ⟨xs, ys, e, q⟩
    · subst e
      obtain ⟨v, w, rfl, rv, rw'⟩ := r.two
      obtain ⟨a1, vs, rfl, hB, rr⟩ := rv.lstV
      obtain ⟨a2, ws, rfl, hB2, rr2⟩ := rw'.lstV
      refine ⟨a1, a2, vs, ws, rfl, .inl ⟨pure_lst hB .refl s, pure_lst hB2 .refl s, post _ _ S1 W1 H1 _ q s l ⟨fun H' => SqL X.K H' a1 vs ∧ SqL X.K H' a2 ws, _, by rw [zipD_len, ← rr.length, ← rr2.length]; exact walk_zip (xs := vs) (ys := ws) rfl, fun W' S' H' l' s' _ => ⟨pure_lst hB l' s', pure_lst hB2 l' s'⟩, ?_⟩⟩⟩
      rintro i d W' S' H' x H'' hd l' s' _ ⟨T, x1, x2, rfl, hT, rfl, e1, e2⟩
      obtain ⟨y, z, h1, h2, rfl⟩ := zipD_get xs ys i d hd
      obtain ⟨u, g1, g2⟩ := rr.get h1
      obtain ⟨u2, g3, g4⟩ := rr2.get h2
      have e1 : vs[i]? = some x1 := e1
      have e2 : ws[i]? = some x2 := e2
      rw [g1] at e1
      rw [g3] at e2
      cases e1
      cases e2
      exact pair_new s' hT (g2.mono l'.le) (g4.mono l'.le)
    · subst e
      obtain ⟨v, w, rfl, rv, rw'⟩ := r.two
      obtain ⟨a1, vs, rfl, hB, rr⟩ := rv.tupV
      obtain ⟨a2, ws, rfl, hB2, rr2⟩ := rw'.tupV
      have at_ : ∀ {W' : Wd} {S' : Sto} {H' : Hp} {aa : Addr} {us : List V}, SqT X.K W1.B aa us → Stp W1 H1 W' H' → Sim X.K W' S' H' → SqT X.K H' aa us := fun h l' s' => same_sqt s'.same (same_sqt l'.le.same h)
      refine ⟨a1, a2, vs, ws, rfl, .inr ⟨at_ hB .refl s, at_ hB2 .refl s, post _ _ S1 W1 H1 _ q s l ⟨fun H' => SqT X.K H' a1 vs ∧ SqT X.K H' a2 ws, _, by rw [zipD_len, ← rr.length, ← rr2.length]; exact walk_zipT (xs := vs) (ys := ws), fun W' S' H' l' s' _ => ⟨at_ hB l' s', at_ hB2 l' s'⟩, ?_⟩⟩⟩
      rintro i d W' S' H' x H'' hd l' s' _ ⟨T, x1, x2, rfl, hT, rfl, e1, e2⟩
      obtain ⟨y, z, h1, h2, rfl⟩ := zipD_get xs ys i d hd
      obtain ⟨u, g1, g2⟩ := rr.get h1
      obtain ⟨u2, g3, g4⟩ := rr2.get h2
      have e1 : vs[i]? = some x1 := e1
      have e2 : ws[i]? = some x2 := e2
      rw [g1] at e1
      rw [g3] at e2
      cases e1
      cases e2
      exact pair_new s' hT (g2.mono l'.le) (g4.mono l'.le)⟩

/-! ### for -/
def xFor (ds : List D) (ok : Sto → Prop) (S1 : Sto) (G : DTG) (TB : DTS) (E : DEnds) (env : Ev) : Prop := ∃ I : Nat → Ev → Sto → Prop, I 0 env S1 ∧ (∀ i env' S', i ≤ ds.length → I i env' S' → ok S') ∧
  (∀ i x env' S', ds[i]? = some x → I i env' S' → G x env' S' fun env2 S2 => TB { E with nx := I (i + 1), ct := I (i + 1), bk := E.nx } env2 S2) ∧ ∀ env' S', I ds.length env' S' → E.nx env' S'
def dFor (TI : DTI) (G : DTG) (TB : DTS) : DTS := fun E env S => TI env S fun ds ok S1 => xFor ds ok S1 G TB E env
theorem ds_for {body : List Stmt} (hp : PassesOwn (model X.prog X.w) X.A X.env X.xe) (hc : X.calm = true) (hi : DI X W0 tg e TI) (hg : DG X W0 ss tg G) (hb : DSs X W0 body TS) (hs : ∀ x, foldedSetIterable e X.env x = pure x := by intro _; rfl) :
    DS X W0 (.For tg e body [] pos) (dFor TI G TS) := (ps_for hp hc hi hg hb hs).imp fun D σ H ⟨W, env, S, E, hW, sim, er, ht, post⟩ => ⟨W, env, S, _, hW, sim, er, ht, fun ds ok S1 W1 H1 J ⟨I, i0, iok, turn, fin⟩ s l ⟨Gd, Y, wk, wok, wy⟩ => by
  refine for_it wk (fun i σ' H' => ∃ W' env' S', Stp W1 H1 W' H' ∧ Sim X.K W' S' H' ∧ EnvR X.K W' env' σ' ∧ I i env' S') ⟨W1, env, S1, .refl, s, er.mono l.le, i0⟩ ?_ ?_ ?_
  · rintro i σ' H' hi ⟨W', env', S', l', s', er', ii⟩
    exact wok W' S' H' l' s' (iok i env' S' hi ii)
  · rintro i x σ' H' H'' hi ⟨W', env', S', l', s', er', ii⟩ y
    have hd : ds[i]? = some ds[i] := List.getElem?_eq_getElem hi
    obtain ⟨W2, s2, l2, r2⟩ := wy i _ W' S' H' x H'' hd l' s' (iok i env' S' (Nat.le_of_lt hi) ii) y
    have lx := l.trans (l'.trans l2)
    refine ⟨W2, env', S', _, _, hW.trans lx, s2, er'.mono l2.le, r2, turn i _ env' S' hd ii, fun env3 S3 W3 H3 σ3 q3 s3 l3 er3 _ => ?_⟩
    have pm := post.mono (lx.trans l3)
    exact ⟨W3, env3, S3, _, hW.trans (lx.trans l3), s3, er3, q3, ⟨fun env4 S4 W4 H4 σ4 q4 s4 l4 er4 => ⟨W4, env4, S4, (l'.trans l2).trans (l3.trans l4), s4, er4, q4⟩, pm.rt, pm.nx, fun env4 S4 W4 H4 σ4 q4 s4 l4 er4 => ⟨W4, env4, S4, (l'.trans l2).trans (l3.trans l4), s4, er4, q4⟩⟩⟩
  · rintro σ' H' ⟨W', env', S', l', s', er', ii⟩
    exact post.nx env' S' W' H' σ' (fin env' S' ii) s' (l.trans l') er'⟩

/-! ### list comprehensions -/
def xLc (ds : List D) (ok : Sto → Prop) (S1 : Sto) (G : DTG) (TT : DTT) (T : DTE) (vs : List Nat) (env : Ev) (P : List D → Sto → Prop) : Prop := ∃ I : Nat → List D → Sto → Prop, I 0 [] S1 ∧ (∀ i acc S', i ≤ ds.length → I i acc S' → ok S' ∧ acc.length < sizeLine) ∧
  (∀ i x acc S', ds[i]? = some x → I i acc S' → G x (wipeE env vs) S' fun env2 S2 => TT env2 S2 fun k S3 => if k = true then T env2 S3 fun y S4 => I (i + 1) (acc ++ [y]) S4 else I (i + 1) acc S3) ∧ ∀ acc S', I ds.length acc S' → P acc S'
def dLc (TI : DTI) (G : DTG) (TT : DTT) (T : DTE) (vs : List Nat) : DTN := fun env S P => TI env S fun ds ok S1 => xLc ds ok S1 G TT T vs env P
theorem lift_lc {TT : DTT} {vs : List Nat} (hss : ∀ i ∈ ss, i ∈ vs) {σ : L2.St} {H : Hp} {Q : VK} (h : liftN X.K W0 (dLc TI G TT T vs) σ H Q) : tLc (liftI X.K W0 TI) (liftG X.K W0 ss G) (liftT X.K W0 TT) (liftE X.K W0 T) vs σ H Q := by
  obtain ⟨W, env, S, P, hW, sim, er, ht, post⟩ := h
  refine ⟨W, env, S, _, hW, sim, er, ht, fun ds ok S1 W1 H1 J ⟨I, i0, iok, turn, fin⟩ s l ⟨Gd, Y, wk, wok, wy⟩ Dl hD => ?_⟩
  -- the new list stands beside the world
  have key : ∀ {W2 : Wd} {S2 : Sto} {H2 : Hp} {W3 : Wd} {S3 : Sto} {H3 : Hp} {us : List V}, Sim X.K W2 S2 H2 → Stp W2 H2 W3 H3 → W2.B Dl = none → Dl ∉ W2.m → H2 Dl = some (.lst us) → W3.B Dl = none ∧ Dl ∉ W3.m ∧ H3 Dl = some (.lst us) := fun {W2 S2 H2 W3 S3 H3 us} s2 l2 hB hm hH => by
    refine ⟨?_, fun z => ?_, l2.keep _ _ hH hm (fun _ z => by cases z)⟩
    · cases e : W3.B Dl with
      | none => rfl
      | some o =>
        rcases l2.newB Dl o e with q | q | q | ⟨φ, q⟩
        · rw [hB] at q; cases q
        · exact (q.not hH fun _ z => by cases z).elim
        · exact absurd q hm
        · rw [hH] at q; cases q
    · rcases l2.newm Dl z with q | q
      · exact hm q
      · exact (q.not hH fun _ z => by cases z).elim
  refine lc_it wk (fun i H' => ∃ W' S' acc us, Stp W1 H1 W' H' ∧ Sim X.K W' S' H' ∧ W'.B Dl = none ∧ Dl ∉ W'.m ∧ H' Dl = some (.lst us) ∧ Reps X.K W' us acc ∧ I i acc S') ⟨W1, S1, [], [], .lay hD, s.lay hD, s.free hD, fun z => s.dom Dl z hD, upd_same, .nil, i0⟩ ?_ ?_ ?_
  · rintro i H' hi ⟨W', S', acc, us, l', s', _, _, _, _, ii⟩
    exact wok W' S' H' l' s' (iok i acc S' hi ii).1
  · rintro i x H' H'' hi ⟨W', S', acc, us, l', s', hB, hm, hH, rr, ii⟩ y
    have hd : ds[i]? = some ds[i] := List.getElem?_eq_getElem hi
    obtain ⟨W2, s2, l2, r2⟩ := wy i _ W' S' H' x H'' hd l' s' (iok i acc S' (Nat.le_of_lt hi) ii).1 y
    obtain ⟨hB2, hm2, hH2⟩ := key (S3 := S') s' l2 hB hm hH
    have lx := l'.trans l2
    refine ⟨W2, wipeE env vs, S', _, _, hW.trans (l.trans lx), s2, (er.mono (l.trans lx).le).wipe vs, r2, turn i _ acc S' hd ii, fun env3 S3 W3 H3 σ3 q3 s3 l3 er3 ag => ⟨?_, ?_⟩⟩
    · rw [ag.wipe hss, wipe_wipe]
    · obtain ⟨hB3, hm3, hH3⟩ := key (S3 := S3) s2 l3 hB2 hm2 hH2
      refine lift_if (hW.trans (l.trans (lx.trans l3))) s3 er3 q3 fun k S4 W4 H4 q4 s4 l4 => ?_
      obtain ⟨hB4, hm4, hH4⟩ := key (S3 := S4) s3 l4 hB3 hm3 hH3
      have l34 := l2.trans (l3.trans l4)
      cases k with
      | true =>
        refine ⟨W4, env3, S4, _, hW.trans ((l.trans lx).trans (l3.trans l4)), s4, er3.mono l4.le, q4, fun d5 S5 W5 H5 v5 q5 s5 l5 r5 => ?_⟩
        obtain ⟨hB5, hm5, hH5⟩ := key (S3 := S5) s4 l5 hB4 hm4 hH4
        refine ⟨us, hH5, by rw [rr.length]; exact (iok i acc S' (Nat.le_of_lt hi) ii).2, W5, S5, acc ++ [d5], us ++ [v5], ?_, ?_, hB5, hm5, upd_same, (rr.mono (l34.trans l5).le).app (.cons r5 .nil), q5⟩
        · have lz := l'.trans (l34.trans l5)
          refine ⟨lz.le, fun q o hq hn ht => ?_, fun q hq => lz.dom q (fre_set (fun _ z => by cases z) q hq), lz.newm, lz.newB⟩
          have hne : q ≠ Dl := fun z => by rw [z, hD] at hq; cases hq
          rw [upd_ne hne]
          exact lz.keep q o hq hn ht
        · refine ⟨fun b u e => ?_, s5.len, s5.nd, fun b hb => upd_dom b (s5.dom b hb), fun j b ob g1 g2 => ?_, s5.ntb⟩
          · rw [upd_ne (ne_of_none e hB5)]
            exact s5.same b u e
          · refine (s5.obj j b ob g1 g2).mono (Wd.le.refl _) ?_ (upd_ne fun z => hm5 (z ▸ List.mem_of_getElem? g1))
            by_cases hb : W5.B b = none
            · exact .inl hb
            · exact .inr hb
      | false => exact ⟨W4, S4, acc, us, l'.trans l34, s4, hB4, hm4, hH4, rr.mono l34.le, q4⟩
  · rintro H' ⟨W', S', acc, us, l', s', hB, hm, hH, rr, ii⟩
    exact post acc S' W' H' Dl us (fin acc S' ii) s' (l.trans l') (l.free (.of hD)) hB hm hH rr
theorem dn_lc {TT : DTT} {elt iter : Expr} {ifs : List Expr} {scope : Scope} {own : List (Str × Nat)} (hss : ∀ i ∈ ss, i ∈ own.map (·.2)) (hc : X.calm = true) (hN : X.N.Nodup) (hi : DI X W0 tg iter TI) (ok : BlkOk X.N X.env.scope scope own)
    (hg : ∀ (s : Shared) (H : Hp) (C : Addr) (cl : List (Str × Addr)) (fp : List Addr), PG (X.blk s H scope (compEnvC scope cl C X.env) fp) tg (liftG X.K W0 ss G)) (ht : ∀ (s : Shared) (H : Hp) (C : Addr) (cl : List (Str × Addr)) (fp : List Addr), PTs (X.blk s H scope (compEnvC scope cl C X.env) fp) ifs (liftT X.K W0 TT))
    (he : ∀ (s : Shared) (H : Hp) (C : Addr) (cl : List (Str × Addr)) (fp : List Addr), PE (X.blk s H scope (compEnvC scope cl C X.env) fp) elt (liftE X.K W0 T)) (hs : ∀ x, foldedSetIterable iter X.env x = pure x := by intro _; rfl) :
    DN X W0 (.ListComp elt [⟨tg, iter, ifs, 0⟩] scope pos) (dLc TI G TT T (own.map (·.2))) := (pe_lc hc hN hi ok hg ht he hs).imp fun _ _ _ q => lift_lc hss q
def dYes : DTT := fun _ S P => P true S
theorem dts_nil : PTs X [] (liftT X.K W0 dYes) := ⟨fun pins s σ H Q I ⟨W, env, S, P, hW, sim, er, ht, post⟩ => pts_nil.run pins s σ H Q I (post true S W H ht sim .refl)⟩
theorem dts_one (h : DT X W0 c TA) : PTs X [c] (liftT X.K W0 TA) := pts_one h
end
end DL

namespace DL
open PySem PySem.Spec PyProof.Rows L2

/-! ### what a def promises, over data -/
abbrev DSp := List D → Sto → DP → Prop
def liftSp (K : PySem.W.Frag) (sp : DSp) : Sp := fun vs H Q _ => ∃ W ds S P, Sim K W S H ∧ Reps K W vs ds ∧ sp ds S P ∧ Post K W H P Q
section
variable {X : Cx} {W0 : Bs} {a b c e tg : Expr} {es : List Expr} {Ta Tb Tc T : DTE} {TA TB : DTT} {TR : DTA} {pos p apos cpos : Pos}
def dCall (R : List D → Sto → DP → Prop) (TR : DTA) : DTE := fun env S P => TR env S fun ds S1 => R ds S1 P
theorem de_call {k : Nat} {f : Addr} {fd : FuncData} {ps : List Str} {sp : DSp} {x : Str} (ha : DA X W0 es TR) (h : ∀ {ta : L2.TA}, PA X es ta → PE X (.Call (.Name x p) es [] pos) (tCall (liftSp X.K sp) [] E0 ta)) : DE X W0 (.Call (.Name x p) es [] pos) (dCall sp TR) :=
  (h ha).imp fun σ H Q ⟨W, env, S, P, hW, sim, er, ht, post⟩ => ⟨W, env, S, _, hW, sim, er, ht, fun ds S1 W1 H1 vs q s l r => by
    show liftSp X.K sp (vs ++ []) H1 Q E0
    rw [List.append_nil]
    exact ⟨W1, ds, S1, P, s, r, q, post.mono l⟩⟩
/-- a built-in, by values -/
def DCl (K : PySem.W.Frag) (r : List V → Hp → VK → Prop) (R : List D → Sto → DP → Prop) : Prop := ∀ W S H vs ds P Q, Sim K W S H → Reps K W vs ds → R ds S P → Post K W H P Q → r vs H Q
theorem de_b {r : List V → Hp → VK → Prop} {R : List D → Sto → DP → Prop} (hr : DCl X.K r R) (ha : DA X W0 es TR) (h : ∀ {ta : L2.TA}, PA X es ta → PE X e (tCB r ta)) : DE X W0 e (dCall R TR) :=
  (h ha).imp fun σ H Q ⟨W, env, S, P, hW, sim, er, ht, post⟩ => ⟨W, env, S, _, hW, sim, er, ht, fun ds S1 W1 H1 vs q s l r => hr W1 S1 H1 vs ds P Q s r q (post.mono l)⟩
def dCallN (R : List D → Sto → (List D → Sto → Prop) → Prop) (TR : DTA) : DTN := fun env S P => TR env S fun ds S1 => R ds S1 P
def DClN (K : PySem.W.Frag) (r : List V → Hp → VK → Prop) (R : List D → Sto → (List D → Sto → Prop) → Prop) : Prop := ∀ W S H vs ds P Q, Sim K W S H → Reps K W vs ds → R ds S P → PostL K W H P Q → r vs H Q
theorem dn_b {r : List V → Hp → VK → Prop} {R : List D → Sto → (List D → Sto → Prop) → Prop} (hr : DClN X.K r R) (ha : DA X W0 es TR) (h : ∀ {ta : L2.TA}, PA X es ta → PE X e (tCB r ta)) : DN X W0 e (dCallN R TR) :=
  (h ha).imp fun σ H Q ⟨W, env, S, P, hW, sim, er, ht, post⟩ => ⟨W, env, S, _, hW, sim, er, ht, fun ds S1 W1 H1 vs q s l r => hr W1 S1 H1 vs ds P Q s r q (post.mono l)⟩

/-! ### len, min, max, list, tuple, sum, sorted, all -/
/-- what len, list(), tuple() read -/
def itemsOf (S : Sto) : D → Option (List D)
  | .scr ns => some (ns.map .int)
  | d => seqOf S d
theorem Rep.items {K : PySem.W.Frag} {W : Wd} {S : Sto} {H : Hp} {v : V} {d : D} {ds : List D} (s : Sim K W S H) (r : Rep K W v d) (h : itemsOf S d = some ds) : ∃ a vs, v = .ref a ∧ (SqL K H a vs ∨ SqT K H a vs) ∧ Reps K W vs ds := by
  cases r with
  | scr h1 => cases h; exact ⟨_, _, rfl, .inl (same_sql s.same h1), reps_ints _⟩
  | tup h1 h2 => exact Rep.seq_of s (.tup h1 h2) h
  | lst h1 h2 => exact Rep.seq_of s (.lst h1 h2) h
  | ref h1 => exact Rep.seq_of s (.ref h1) h
  | _ => cases h
def bLen : List D → Sto → DP → Prop := fun ds S P => ∃ d xs, ds = [d] ∧ itemsOf S d = some xs ∧ P (.int xs.length) S
theorem dc_len {K : PySem.W.Frag} : DCl K (fun xs H Q => ∃ p ys, xs = [.ref p] ∧ (SqL K H p ys ∨ SqT K H p ys) ∧ Q (.int ys.length) H) bLen := by
  intro W S H vs ds P Q s r ⟨d, xs, e, h, q⟩ post
  subst e
  obtain ⟨v, rfl, rv⟩ := r.one
  obtain ⟨a, us, rfl, hq, rr⟩ := rv.items s h
  refine ⟨a, us, rfl, hq, ?_⟩
  rw [rr.length]
  exact post _ _ W H _ q s .refl (.int _)
def bMin : List D → Sto → DP → Prop := fun ds S P => ∃ i j, ds = [.int i, .int j] ∧ P (.int (if j < i then j else i)) S
def bMax : List D → Sto → DP → Prop := fun ds S P => ∃ i j, ds = [.int i, .int j] ∧ P (.int (if j > i then j else i)) S
theorem dc_min {K : PySem.W.Frag} : DCl K (fun xs H Q => ∃ i j, xs = [.int i, .int j] ∧ Q (.int (if j < i then j else i)) H) bMin := by
  intro W S H vs ds P Q s r ⟨i, j, e, q⟩ post
  subst e
  obtain ⟨v, w, rfl, rv, rw'⟩ := r.two
  exact ⟨i, j, by rw [rv.intV, rw'.intV], post _ _ W H _ q s .refl (.int _)⟩
theorem dc_max {K : PySem.W.Frag} : DCl K (fun xs H Q => ∃ i j, xs = [.int i, .int j] ∧ Q (.int (if j > i then j else i)) H) bMax := by
  intro W S H vs ds P Q s r ⟨i, j, e, q⟩ post
  subst e
  obtain ⟨v, w, rfl, rv, rw'⟩ := r.two
  exact ⟨i, j, by rw [rv.intV, rw'.intV], post _ _ W H _ q s .refl (.int _)⟩
def bList : List D → Sto → (List D → Sto → Prop) → Prop := fun ds S P => ∃ d xs, ds = [d] ∧ itemsOf S d = some xs ∧ P xs S
theorem dc_list {K : PySem.W.Frag} : DClN K (fun xs H Q => ∃ p ys, xs = [.ref p] ∧ (SqL K H p ys ∨ SqT K H p ys) ∧ ∀ l, H l = none → Q (.ref l) (upd H l (.lst ys))) bList := by
  intro W S H vs ds P Q s r ⟨d, xs, e, h, q⟩ post
  subst e
  obtain ⟨v, rfl, rv⟩ := r.one
  obtain ⟨a, us, rfl, hq, rr⟩ := rv.items s h
  exact ⟨a, us, rfl, hq, post.laid q s rr⟩
def bTuple : List D → Sto → DP → Prop := fun ds S P => ∃ d xs, ds = [d] ∧ seqOf S d = some xs ∧ P (.tup xs) S
theorem dc_tuple {K : PySem.W.Frag} : DCl K (fun xs H Q => ∃ p ys, xs = [.ref p] ∧ ((SqL K H p ys ∧ ∀ l, H l = none → Q (.ref l) (upd H l (.tup ys))) ∨ (SqT K H p ys ∧ Q (.ref p) H))) bTuple := by
  intro W S H vs ds P Q s r ⟨d, xs, e, h, q⟩ post
  subst e
  obtain ⟨v, rfl, rv⟩ := r.one
  cases rv with
  | tup h1 h2 => cases h; exact ⟨_, _, rfl, .inr ⟨same_sqt s.same h1, post _ _ W H _ q s .refl (.tup h1 h2)⟩⟩
  | lst h1 h2 => cases h; exact ⟨_, _, rfl, .inl ⟨SqL.of (s.same _ _ h1), post.newT s h2 q⟩⟩
  | ref h1 =>
    obtain ⟨a, us, e, hq, rr⟩ := Rep.lst_of s (.ref h1) h
    exact ⟨a, us, by rw [e], .inl ⟨SqL.of hq, post.newT s rr q⟩⟩
  | _ => cases h
theorem Reps.ints {K : PySem.W.Frag} {W : Wd} : ∀ {ns : List Int} {vs : List V}, Reps K W vs (ns.map D.int) → vs = ns.map V.int
  | [], _, r => by cases r; rfl
  | n :: ns, _, r => by
    cases r with
    | cons h t => rw [h.intV, Reps.ints t]; rfl
theorem Reps.bools {K : PySem.W.Frag} {W : Wd} : ∀ {ns : List Bool} {vs : List V}, Reps K W vs (ns.map D.bl) → vs = ns.map V.bl
  | [], _, r => by cases r; rfl
  | n :: ns, _, r => by
    cases r with
    | cons h t => rw [h.bool, Reps.bools t]; rfl
def bSum : List D → Sto → DP → Prop := fun ds S P => ∃ (d : D) (ns : List Int), ds = [d] ∧ lstOf S d = some (ns.map .int) ∧ P (.int ns.sum) S
theorem dc_sum {K : PySem.W.Frag} : DCl K (rSum K) bSum := by
  intro W S H vs ds P Q s r ⟨d, ns, e, h, q⟩ post
  subst e
  obtain ⟨v, rfl, rv⟩ := r.one
  obtain ⟨a, us, rfl, hq, rr⟩ := rv.lst_of s h
  exact ⟨a, ns, rfl, by rw [← rr.ints]; exact SqL.of hq, post _ _ W H _ q s .refl (.int _)⟩
def bAll : List D → Sto → DP → Prop := fun ds S P => ∃ (d : D) (bs : List Bool), ds = [d] ∧ lstOf S d = some (bs.map .bl) ∧ P (.bl (bs.all id)) S
theorem dc_all {K : PySem.W.Frag} : DCl K (rAll K) bAll := by
  intro W S H vs ds P Q s r ⟨d, ns, e, h, q⟩ post
  subst e
  obtain ⟨v, rfl, rv⟩ := r.one
  obtain ⟨a, us, rfl, hq, rr⟩ := rv.lst_of s h
  exact ⟨a, ns, rfl, by rw [← rr.bools]; exact SqL.of hq, post _ _ W H _ q s .refl (.bl _)⟩
/-! ### isinstance -/
def tyOf (S : Sto) : D → Option String
  | .non => some "NoneType"
  | .bl _ => some "bool"
  | .int _ => some "int"
  | .str _ => some "str"
  | .tup _ => some "tuple"
  | .lst _ => some "list"
  | .ref i => match S[i]? with
    | some (.lst _) => some "list"
    | _ => none
  | _ => none
theorem Rep.tyx {K : PySem.W.Frag} {W : Wd} {S : Sto} {H : Hp} {v : V} {d : D} {n : String} (s : Sim K W S H) (r : Rep K W v d) (h : tyOf S d = some n) : TyX K H v (.type n) := by
  cases r with
  | non => cases h; exact .base .non
  | bl b => cases h; exact .base (.bl b)
  | int i => cases h; exact .base (.int i)
  | str x => cases h; exact .base (.str x)
  | tup h1 _ =>
    cases h
    rcases same_sqt s.same h1 with (q | ⟨o, q⟩) | ⟨o, its, m, q, c, _⟩
    · exact .base (.tup q)
    · exact .fTuple q
    · exact .kTuple q c
  | lst h1 _ => cases h; exact .base (.lst (s.same _ _ h1))
  | @ref i a hi =>
    dsimp only [tyOf] at h
    cases hs : S[i]? with
    | none => rw [hs] at h; cases h
    | some o =>
      rw [hs] at h
      cases o with
      | lst xs =>
        cases h
        obtain ⟨_, vs, e, _⟩ := s.obj i a _ hi hs
        exact .base (.lst e)
      | _ => cases h
  | _ => cases h
def bIsi : List D → Sto → DP → Prop := fun ds S P => ∃ d n t k, ds = [d, .ty t] ∧ tyOf S d = some n ∧ kitB n t = some k ∧ P (.bl k) S
theorem dc_isi {K : PySem.W.Frag} : DCl K (rIsi K) bIsi := by
  intro W S H vs ds P Q s r ⟨d, n, t, k, e, h, hk, q⟩ post
  subst e
  obtain ⟨v, w, rfl, rv, rw'⟩ := r.two
  cases rw'
  exact ⟨v, _, _, _, k, rfl, .ty t, rv.tyx s h, kit_ty hk, post _ _ W H _ q s .refl (.bl k)⟩
end

/-! ### methods of lists in the store -/
section
variable {X : Cx} {W0 : Bs} {a e : Expr} {es : List Expr} {Ta T : DTE} {TR : DTA} {pos p apos cpos : Pos}
def dMt (R : D → List D → Sto → DP → Prop) (Ta : DTE) (TR : DTA) : DTE := fun env S P => Ta env S fun x S1 => (∃ i xs, x = .ref i ∧ S1[i]? = some (.lst xs)) ∧ TR env S1 fun ds S2 => R x ds S2 P
def DMt (K : PySem.W.Frag) (r : V → List V → Hp → VK → Prop) (R : D → List D → Sto → DP → Prop) : Prop := ∀ W S H x vs d ds P Q, Sim K W S H → Rep K W x d → Reps K W vs ds → R d ds S P → Post K W H P Q → r x vs H Q
theorem de_mt {r : V → List V → Hp → VK → Prop} {R : D → List D → Sto → DP → Prop} (hr : DMt X.K r R) (ho : DE X W0 a Ta) (ha : DA X W0 es TR) (h : ∀ {to : TE} {ta : L2.TA}, PE X a to → PA X es ta → PE X e (tBM X.K "list" r to ta)) : DE X W0 e (dMt R Ta TR) :=
  (h ho ha).imp fun σ H Q ⟨W, env, S, P, hW, sim, er, ht, post⟩ => ⟨W, env, S, _, hW, sim, er, ht, fun x S1 W1 H1 v ⟨⟨i, xs, ex, hS⟩, q⟩ s l r => by
    refine ⟨?_, W1, env, S1, _, hW.trans l, s, er.mono l.le, q, fun ds S2 W2 H2 vs q2 s2 l2 r2 => hr W2 S2 H2 _ _ x ds P Q s2 (r.mono l2.le) r2 q2 (post.mono (l.trans l2))⟩
    subst ex
    cases r with
    | ref hi =>
      obtain ⟨_, vs, e, _⟩ := s.obj i _ _ hi hS
      exact .inl ⟨rfl, vs, SqL.of e⟩⟩
def mAppend : D → List D → Sto → DP → Prop := fun x ds S P => ∃ i xs y, x = .ref i ∧ ds = [y] ∧ S[i]? = some (.lst xs) ∧ xs.length < sizeLine ∧ P .non (S.set i (.lst (xs ++ [y])))
theorem dm_append {K : PySem.W.Frag} : DMt K rAppend mAppend := by
  intro W S H x vs d ds P Q s r rs ⟨i, xs, y, e1, e2, hS, hl, q⟩ post
  subst e1 e2
  cases r with
  | ref hi =>
    obtain ⟨v, rfl, rv⟩ := rs.one
    obtain ⟨hB, us, hH, rr⟩ := s.obj i _ _ hi hS
    exact ⟨_, us, v, rfl, rfl, hH, by rw [rr.length]; exact hl, post _ _ W _ _ q (s.setO hi hS hB ⟨hB, _, upd_same, rr.app (.cons rv .nil)⟩) (.setO hi) .non⟩
def mExtend : D → List D → Sto → DP → Prop := fun x ds S P => ∃ i xs y ys, x = .ref i ∧ ds = [y] ∧ S[i]? = some (.lst xs) ∧ lstOf S y = some ys ∧ xs.length + ys.length ≤ sizeLine ∧ P .non (S.set i (.lst (xs ++ ys)))
theorem dm_extend {K : PySem.W.Frag} : DMt K rExtend mExtend := by
  intro W S H x vs d ds P Q s r rs ⟨i, xs, y, ys, e1, e2, hS, hy, hl, q⟩ post
  subst e1 e2
  cases r with
  | ref hi =>
    obtain ⟨v, rfl, rv⟩ := rs.one
    obtain ⟨hB, us, hH, rr⟩ := s.obj i _ _ hi hS
    obtain ⟨b, ws, rfl, hb, rw'⟩ := rv.lst_of s hy
    exact ⟨_, b, us, ws, rfl, rfl, hH, hb, by rw [rr.length, rw'.length]; exact hl, post _ _ W _ _ q (s.setO hi hS hB ⟨hB, _, upd_same, rr.app rw'⟩) (.setO hi) .non⟩
end

/-! ### leaving a def: what the store got there is forgotten -/
mutual
def D.under (n : Nat) : D → Bool
  | .ref i => decide (i < n)
  | .tup xs => unders n xs
  | .lst xs => unders n xs
  | .dct _ xs => unders n xs
  | _ => true
def unders (n : Nat) : List D → Bool
  | [] => true
  | x :: xs => x.under n && unders n xs
end
def O.under (n : Nat) : O → Bool
  | .lst xs => unders n xs
  | .ins _ fs => unders n (fs.map (·.2))
  | .dct _ xs => unders n xs
  | .dead => true
  | .any _ => true
  | .tab _ _ => true
def Wd.cut (W : Wd) (n : Nat) : Wd := ⟨W.m.take n, W.B⟩
section
variable {K : PySem.W.Frag} {W : Wd} {n : Nat}
mutual
theorem Rep.cut : ∀ {v : V} {d : D}, Rep K W v d → d.under n = true → Rep K (W.cut n) v d
  | _, _, .non, _ => .non
  | _, _, .bl b, _ => .bl b
  | _, _, .int i, _ => .int i
  | _, _, .str x, _ => .str x
  | _, _, .ty x, _ => .ty x
  | _, _, .tup h r, e => .tup h (Reps.cutW r e)
  | _, _, .lst h r, e => .lst h (Reps.cutW r e)
  | _, _, .dct h q r, e => .dct h q (Reps.cutW r e)
  | _, _, .scr h, _ => .scr h
  | _, _, .adr a, _ => .adr a
  | _, _, .ref h, e => .ref (by
    show (W.m.take n)[_]? = some _
    rw [List.getElem?_take_of_lt (of_decide_eq_true e)]
    exact h)
theorem Reps.cutW : ∀ {vs : List V} {ds : List D}, Reps K W vs ds → unders n ds = true → Reps K (W.cut n) vs ds
  | _, _, .nil, _ => .nil
  | _, _, .cons h r, e => .cons (Rep.cut h (Bool.and_eq_true_iff.mp e).1) (Reps.cutW r (Bool.and_eq_true_iff.mp e).2)
end
mutual
theorem Rep.under : ∀ {v : V} {d : D}, Rep K W v d → d.under W.m.length = true
  | _, _, .non => rfl
  | _, _, .bl b => rfl
  | _, _, .int i => rfl
  | _, _, .str x => rfl
  | _, _, .ty x => rfl
  | _, _, .tup _ r => Reps.under r
  | _, _, .lst _ r => Reps.under r
  | _, _, .dct _ _ r => Reps.under r
  | _, _, .scr _ => rfl
  | _, _, .adr _ => rfl
  | _, _, .ref h => decide_eq_true (List.getElem?_eq_some_iff.mp h).1
theorem Reps.under : ∀ {vs : List V} {ds : List D}, Reps K W vs ds → unders W.m.length ds = true
  | _, _, .nil => rfl
  | _, _, .cons h r => Bool.and_eq_true_iff.mpr ⟨Rep.under h, Reps.under r⟩
end
theorem Sim.under {S : Sto} {H : Hp} (s : Sim K W S H) : ∀ o ∈ S, o.under S.length = true := fun o ho => by
  obtain ⟨i, hi⟩ := List.getElem?_of_mem ho
  obtain ⟨a, h1, h2⟩ := s.at hi
  cases o with
  | dead => rfl
  | lst xs => obtain ⟨_, _, _, r⟩ := h2; have := r.under; rw [s.len] at this; exact this
  | ins C fs => obtain ⟨_, _, _, _, r⟩ := h2; have := r.under; rw [s.len] at this; exact this
  | dct ks xs => obtain ⟨_, _, _, _, r⟩ := h2; have := r.under; rw [s.len] at this; exact this
  | any ho => rfl
  | tab p q => rfl
theorem Sim.cut {S T : Sto} {H : Hp} (s : Sim K W (S ++ T) H) (h : ∀ o ∈ S, o.under S.length = true) : Sim K (W.cut S.length) S H := by
  have hle : S.length ≤ W.m.length := by rw [s.len, List.length_append]; omega
  refine ⟨s.same, by show (W.m.take S.length).length = _; rw [List.length_take]; omega, s.nd.sublist (List.take_sublist _ _), fun a ha => s.dom a (List.mem_of_mem_take ha), fun i a o h1 h2 => ?_, s.ntb⟩
  have hi : i < S.length := (List.getElem?_eq_some_iff.mp h2).1
  have h1 : (W.m.take S.length)[i]? = some a := h1
  rw [List.getElem?_take_of_lt hi] at h1
  have q := s.obj i a o h1 (by rw [List.getElem?_append_left hi]; exact h2)
  have hb := h o (List.mem_of_getElem? h2)
  cases o with
  | dead => trivial
  | lst xs => obtain ⟨b, vs, e, r⟩ := q; exact ⟨b, vs, e, r.cutW hb⟩
  | ins C fs => obtain ⟨b, dx, vs, e, r⟩ := q; exact ⟨b, dx, vs, e, r.cutW hb⟩
  | dct ks xs => obtain ⟨b, vs, e, z, r⟩ := q; exact ⟨b, vs, e, z, r.cutW hb⟩
  | any ho => exact q
  | tab p' q' => exact q
theorem Stp.cut {W' : Wd} {H H' : Hp} {k : Nat} (s : Stp W H W' H') (hk : W.m.length ≤ k) : Stp W H (W'.cut k) H' :=
  ⟨⟨fun i a h => by
    show (W'.m.take k)[i]? = some a
    rw [List.getElem?_take_of_lt (Nat.lt_of_lt_of_le (List.getElem?_eq_some_iff.mp h).1 hk)]
    exact s.le.pre i a h, s.le.same⟩, s.keep, s.dom, fun q hq => s.newm q (List.mem_of_mem_take hq), s.newB⟩
end
/-- the end of a def: what lies behind the first of the store's is dropped -/
def atExit (S0 : Sto) (P : DP) : DP := fun d S' => ∃ S1 T, S' = S1 ++ T ∧ S1.length = S0.length ∧ (∀ o ∈ S1, o ∈ S0 ∨ o.under S1.length = true) ∧ d.under S1.length = true ∧ P d S1
theorem Post.exit {K : PySem.W.Frag} {W : Wd} {S : Sto} {H : Hp} {P : DP} {Q : VK} (s : Sim K W S H) (post : Post K W H P Q) : Post K W H (atExit S P) Q := fun d S' W' H' v ⟨S1, T, e, hl, ho, hd, q⟩ s' l r => by
  subst e
  have hb : ∀ o ∈ S1, o.under S1.length = true := fun o h => (ho o h).elim (fun z => by rw [hl]; exact s.under o z) id
  exact post d S1 (W'.cut S1.length) H' v q (s'.cut hb) (l.cut (by rw [s.len, hl]; exact Nat.le_refl _)) (r.cut hd)
def startE (N : List Str) (ds : List D) : Ev := ds.map some ++ List.replicate (N.length - ds.length) none
theorem EnvR.start {K : PySem.W.Frag} {W : Wd} {N : List Str} {vs : List V} {ds : List D} (r : Reps K W vs ds) : EnvR K W (startE N ds) (L2.start N vs) := by
  have hl := r.length
  refine ⟨by unfold L2.start startE; simp [hl], fun i d h => ?_⟩
  unfold startE at h
  have hi : i < ds.length := by
    by_cases hi : i < ds.length
    · exact hi
    · rw [List.getElem?_append_right (by simpa using hi), List.getElem?_replicate] at h
      split at h <;> cases h
  rw [List.getElem?_append_left (by simpa using hi), List.getElem?_map] at h
  cases e : ds[i]? with
  | none => rw [e] at h; cases h
  | some d' =>
    rw [e] at h
    cases h
    obtain ⟨v, h1, h2⟩ := r.get e
    refine ⟨v, ?_, h2⟩
    unfold L2.start
    rw [List.getElem?_append_left (by rw [List.length_map, hl]; exact hi), List.getElem?_map, h1]
    rfl
/-- the ends of a def's body -/
def exitE (S0 : Sto) (P : DP) : DEnds := { nx := fun _ S' => atExit S0 P .non S', rt := atExit S0 P }
/-- a def by its body over data -/
theorem fn_d {P : Program} {w : World} {K : PySem.W.Frag} {mg : Str → Option Value} {base : Heap} {x qual : Str} {st : Stmt} {f : Addr} {fd : FuncData} {N ps : List Str} {k : Nat} {sp : DSp} (F : Fun K x qual st f fd) (S : FnScope N ps (defScope st))
    (len : ∀ ds S P, sp ds S P → ds.length = ps.length)
    (body : ∀ (X : Cx) (W0 : Bs) (cdv : Value) (A : Around) (outer : List Env) (s : Shared) (H : Hp) (E : XK), X = (cxOf CX0 P w K mg base N qual (defScope st) f cdv A outer s H E).nox → Room k X.A →
      ∃ T : DTS, DSs X W0 (defBody st) T ∧ ∀ ds S P, sp ds S P → T (exitE S P) (startE N ds) S) : FnOk P w K mg base CX0 (k + 1) f fd ps (liftSp K sp) := by
  refine F.ok S (fun vs H Q E h => ?_) fun cdv A outer s H vs Q E hr h => ?_
  · obtain ⟨W, ds, S, P, _, r, q, _⟩ := h
    rw [r.length]
    exact len ds S P q
  · obtain ⟨W, ds, S, P, sim, r, q, post⟩ := h
    obtain ⟨T, hT, hq⟩ := body _ { W := W, H := H } cdv A outer s H E rfl hr
    exact ⟨_, hT, W, startE N ds, S, _, Stp.refl, sim, EnvR.start r, hq ds S P q, ⟨fun env S' W' H' σ q' s' l _ => post.exit sim _ _ W' H' _ q' s' l .non, post.exit sim, fun _ _ _ _ _ z => z.elim, fun _ _ _ _ _ z => z.elim⟩⟩
end DL

namespace DL
open PySem PySem.Spec PyProof.Rows L2
section
variable {X : Cx} {W0 : Bs} {a b c e tg : Expr} {es : List Expr} {Ta Tb Tc T : DTE} {TA TB : DTT} {TR : DTA} {pos p apos cpos : Pos}
theorem de_mul (ha : DE X W0 a Ta) (hb : DE X W0 b Tb) : DE X W0 (.BinOp a .Mult b pos) (dOp (dI CMul fun i j => .int (i * j)) Ta Tb) := de_op op_mul (dop_I fun _ _ _ => .int _) ha hb
def dNeg (Ta : DTE) : DTE := fun env S P => Ta env S fun x S1 => xInt (fun i => P (.int (-i)) S1) x
theorem de_neg (ha : DE X W0 a Ta) : DE X W0 (.UnaryOp .USub a pos) (dNeg Ta) := (pe_un un_neg ha).imp fun σ H Q ⟨W, env, S, P, hW, sim, er, ht, post⟩ =>
  ⟨W, env, S, _, hW, sim, er, ht, fun x S1 W1 H1 v ⟨i, e, q⟩ s l r => by
    subst e
    exact ⟨i, r.intV, post _ _ W1 H1 _ q s l (.int _)⟩⟩
/-- name = [..], the name a local on the same line -/
theorem ds_setLc {st : Stmt} {i : Nat} {TI : DTI} {G : DTG} {TT : DTT} {ss vs : List Nat} (hss : ∀ i ∈ ss, i ∈ vs) (h : PS X st (tAsg (tLc (liftI X.K W0 TI) (liftG X.K W0 ss G) (liftT X.K W0 TT) (liftE X.K W0 T) vs) (gName i))) : DS X W0 st (dAsg (dPure (dLc TI G TT T vs)) (gNm i)) :=
  h.imp fun D σ H ⟨W, env, S, E, hW, sim, er, ht, post⟩ => lift_lc hss ⟨W, env, S, _, hW, sim, er, ht, fun ds S' W' H' p us q s l hp hB hm hH r =>
    post.nx _ S' (W'.put p (.lst us)) H' _ q (s.adopt hB hm hH) (l.adopt hp hB) ((er.mono (l.adopt hp hB).le).set (.lst upd_same (r.mono (Wd.le_put hB))))⟩
theorem ds_setLcN {st : Stmt} {i : Nat} {TI : DTI} {G : DTG} {TT : DTT} {ss vs : List Nat} (hss : ∀ i ∈ ss, i ∈ vs) (h : PS X st (tAsg (tLc (liftI X.K W0 TI) (liftG X.K W0 ss G) (liftT X.K W0 TT) (liftE X.K W0 T) vs) (gName i))) : DS X W0 st (dAsg (dNew (dLc TI G TT T vs)) (gNm i)) :=
  h.imp fun D σ H ⟨W, env, S, E, hW, sim, er, ht, post⟩ => lift_lc hss ⟨W, env, S, _, hW, sim, er, ht, fun ds S' W' H' p us q s l hp hB hm hH r =>
    post.nx _ _ (W'.new p) H' _ q (s.adoptO hB hm (by rw [hH]; exact fun z => nomatch z) ⟨hB, us, hH, r.mono Wd.le_new⟩) (l.adoptO hp) ((er.mono (l.adoptO hp).le).set (.ref (by show (W'.m ++ [p])[S'.length]? = some p; rw [← s.len, List.getElem?_append_right (Nat.le_refl _), Nat.sub_self]; rfl)))⟩
/-- a statement, then the rest, by a word between them -/
def dCut (TS TU : DTS) : DTS := fun E env S => ∃ M : Ev → Sto → Prop, TS { E with nx := M } env S ∧ ∀ env' S', M env' S' → TU E env' S'
theorem dss_cut {st : Stmt} {sts : List Stmt} {TS TU : DTS} (h1 : DS X W0 st TS) (h2 : DSs X W0 sts TU) : DSs X W0 (st :: sts) (dCut TS TU) := (Evl.pss_cut h1 h2).imp fun D σ H ⟨W, env, S, E, hW, sim, er, ⟨M, ht, hm⟩, post⟩ =>
  ⟨fun σ' H' => ∃ W' env' S', Stp W H W' H' ∧ Sim X.K W' S' H' ∧ EnvR X.K W' env' σ' ∧ M env' S', ⟨W, env, S, _, hW, sim, er, ht, ⟨fun env1 S1 W1 H1 σ1 q s l er1 => ⟨W1, env1, S1, l, s, er1, q⟩, post.rt, post.bk, post.ct⟩⟩,
    fun σ' H' ⟨W', env', S', l, s, er', q⟩ => ⟨W', env', S', E, hW.trans l, s, er', hm env' S' q, post.mono l⟩⟩
/-- a, b = x, y -/
def xPar (F : D → D → Prop) (ds : List D) : Prop := ∃ d1 d2, ds = [d1, d2] ∧ F d1 d2
def dPar (i j : Nat) (TR : DTA) : DTS := fun E env S => TR env S fun ds S1 => xPar (fun d1 d2 => E.nx ((env.set i (some d1)).set j (some d2)) S1) ds
theorem ds_par {st : Stmt} {i j : Nat} (ha : DA X W0 es TR) (h : ∀ {ta : L2.TA}, PA X es ta → PS X st (tPar i j ta)) : DS X W0 st (dPar i j TR) := (h ha).imp fun D σ H ⟨W, env, S, E, hW, sim, er, ht, post⟩ =>
  ⟨W, env, S, _, hW, sim, er, ht, fun ds S1 W1 H1 vs ⟨d1, d2, e, q⟩ s l r => by
    subst e
    obtain ⟨v, w, rfl, rv, rw'⟩ := r.two
    exact ⟨v, w, rfl, post.nx _ S1 W1 H1 _ q s l (((er.mono l.le).set rv).set rw')⟩⟩
end
end DL

namespace DL
open PySem PySem.Spec PyProof.Rows L2
/-! ### the readings' steps, one lemma a head -/
section
variable {env : Ev} {S S' : Sto} {P : DP} {Q : List D → Sto → Prop} {B : Bool → Sto → Prop} {E : DEnds} {Ta Tb Tc T : DTE} {TA TB : DTT} {TR : DTA} {TN : DTN} {TS TU : DTS} {G : DTG} {Gs : DTGs} {R R' : D2} {x y d d1 d2 : D} {xs ys ds : List D} {i j k : Int} {n : Nat} {b : Bool} {N : Ev → Sto → Prop} {TO Th : DTO} {O' : Option Int → Sto → Prop}
theorem i_var (h : env[n]? = some (some d)) (q : P d S) : dVar n env S P := ⟨d, h, q⟩
theorem i_c (q : P d S) : dC d env S P := q
theorem i_op (q : Ta env S fun d1 S1 => Tb env S1 fun d2 S2 => R d1 d2 S2 P) : dOp R Ta Tb env S P := q
theorem i_opN {RN : D2N} (q : Ta env S fun d1 S1 => Tb env S1 fun d2 S2 => RN d1 d2 S2 Q) : dOpN RN Ta Tb env S Q := q
theorem i_pure (q : TN env S fun ds S' => P (.lst ds) S') : dPure TN env S P := q
theorem i_new (q : TN env S fun ds S' => P (.ref S'.length) (S' ++ [.lst ds])) : dNew TN env S P := q
theorem i_I {C : Int → Int → Prop} {g : Int → Int → D} (h : C i j) (q : P (g i j) S) : dI C g (.int i) (.int j) S P := ⟨i, j, rfl, rfl, h, q⟩
theorem i_I0 {g : Int → Int → D} (q : P (g i j) S) : dI0 g (.int i) (.int j) S P := ⟨i, j, rfl, rfl, q⟩
theorem i_addI (q : P (.int (i + j)) S) : dAdd (.int i) (.int j) S P := q
theorem i_addT (hl : xs.length + ys.length ≤ sizeLine) (q : P (.tup (xs ++ ys)) S) : dAdd (.tup xs) (.tup ys) S P := ⟨hl, q⟩
theorem i_cat (h1 : lstOf S x = some xs) (h2 : lstOf S y = some ys) (hl : xs.length + ys.length ≤ sizeLine) (q : Q (xs ++ ys) S) : dCat x y S Q := ⟨xs, ys, h1, h2, hl, q⟩
theorem i_addL (q : dCat (.lst xs) y S fun zs S' => P (.lst zs) S') : dAdd (.lst xs) y S P := by cases y <;> exact q
theorem i_addR {m : Nat} (q : dCat (.ref m) y S fun zs S' => P (.lst zs) S') : dAdd (.ref m) y S P := by cases y <;> exact q
theorem i_rep (h1 : lstOf S x = some xs) (h2 : -(2 ^ 63) ≤ k) (h3 : k < 2 ^ 63) (hl : xs.length * k.toNat ≤ sizeLine) (q : Q (List.replicate k.toNat xs).flatten S) : dRep x (.int k) S Q := ⟨xs, k, h1, rfl, h2, h3, hl, q⟩
theorem i_ix (h1 : seqOf S x = some xs) (h2 : L2.atI xs i = some d) (q : P d S) : dIx x (.int i) S P := ⟨xs, i, d, h1, rfl, h2, q⟩
theorem i_eqI {g : Bool → Bool} (q : P (.bl (g (decide (i = j)))) S) : dEqG g (.int i) (.int j) S P := q
theorem i_eqS {g : Bool → Bool} {u v : Str} (q : P (.bl (g (decide (u = v)))) S) : dEqG g (.str u) (.str v) S P := q
theorem i_eqB {g : Bool → Bool} {u v : Bool} (q : P (.bl (g (decide (u = v)))) S) : dEqG g (.bl u) (.bl v) S P := q
theorem i_is {g : Bool → Bool} (q : P (.bl (g (isNon x))) S) : dIs g x .non S P := ⟨rfl, q⟩
theorem i_B (q : T env S fun d S' => dBx (fun k => B k S') d) : dB T env S B := q
theorem i_Bx {B : Bool → Prop} (q : B b) : dBx B (.bl b) := ⟨b, rfl, q⟩
theorem i_and (q : TA env S fun k S1 => if k = true then TB env S1 B else B false S1) : dAnd TA TB env S B := q
theorem i_or (q : TA env S fun k S1 => if k = true then B true S1 else TB env S1 B) : dOr TA TB env S B := q
theorem i_chain (q : Ta env S fun x S1 => Tb env S1 fun y S2 => R x y S2 fun z S3 => dBx (fun k => if k = true then Tc env S3 fun w S4 => R' y w S4 P else P (.bl false) S3) z) : dChain R R' Ta Tb Tc env S P := q
theorem i_not (q : TA env S fun k S1 => B (!k) S1) : dNot TA env S B := q
theorem i_if (q : TA env S fun k S1 => if k = true then Ta env S1 P else Tb env S1 P) : dIf TA Ta Tb env S P := q
theorem i_andV (q : Ta env S fun x S1 => dBx (fun k => if k = true then Tb env S1 P else P (.bl false) S1) x) : dAndV Ta Tb env S P := q
theorem i_orV (q : Ta env S fun x S1 => dBx (fun k => if k = true then P (.bl true) S1 else Tb env S1 P) x) : dOrV Ta Tb env S P := q
theorem i_notV (q : Ta env S fun x S1 => dBx (fun k => P (.bl (!k)) S1) x) : dNotV Ta env S P := q
theorem i_nil (q : Q [] S) : dNil env S Q := q
theorem i_cons (q : Ta env S fun x S1 => TR env S1 fun xs S2 => Q (x :: xs) S2) : dCons Ta TR env S Q := q
theorem i_xstar {F : List D → Prop} (h : seqOf S x = some xs) (q : F xs) : xStar F x S := ⟨xs, h, q⟩
theorem i_star (q : Ta env S fun x S1 => xStar (fun xs => TR env S1 fun ys S2 => Q (xs ++ ys) S2) x S1) : dStar Ta TR env S Q := q
theorem i_tup (q : TR env S fun xs S1 => xs.length ≤ sizeLine ∧ P (.tup xs) S1) : dTup TR env S P := q
theorem i_lst (q : TR env S fun xs S1 => xs.length ≤ sizeLine ∧ Q xs S1) : dLst TR env S Q := q
theorem i_call {F : List D → Sto → DP → Prop} (q : TR env S fun ds S1 => F ds S1 P) : dCall F TR env S P := q
theorem i_callN {F : List D → Sto → (List D → Sto → Prop) → Prop} (q : TR env S fun ds S1 => F ds S1 Q) : dCallN F TR env S Q := q
theorem i_len (h : itemsOf S d = some xs) (q : P (.int xs.length) S) : bLen [d] S P := ⟨d, xs, rfl, h, q⟩
theorem i_min (q : P (.int (if j < i then j else i)) S) : bMin [.int i, .int j] S P := ⟨i, j, rfl, q⟩
theorem i_max (q : P (.int (if j > i then j else i)) S) : bMax [.int i, .int j] S P := ⟨i, j, rfl, q⟩
theorem i_list (h : itemsOf S d = some xs) (q : Q xs S) : bList [d] S Q := ⟨d, xs, rfl, h, q⟩
theorem i_tuple (h : seqOf S d = some xs) (q : P (.tup xs) S) : bTuple [d] S P := ⟨d, xs, rfl, h, q⟩
theorem i_xint {F : Int → Prop} (q : F i) : xInt F (.int i) := ⟨i, rfl, q⟩
theorem i_neg (q : Ta env S fun x S1 => xInt (fun i => P (.int (-i)) S1) x) : dNeg Ta env S P := q
theorem i_part (q : Ta env S fun x S1 => xInt (fun i => O' (some i) S1) x) : dPart Ta env S O' := q
theorem i_nopart (q : O' none S) : dNoPart env S O' := q
theorem i_sl {F : D → Option Int → Option Int → Sto → (List D → Sto → Prop) → Prop} (q : Ta env S fun x S1 => TO env S1 fun l S2 => Th env S2 fun u S3 => F x l u S3 Q) : dSl F Ta TO Th env S Q := q
theorem i_xslL {l u : Option Int} (h : lstOf S x = some xs) (q : Q (cutD xs l u) S) : xSlL x l u S Q := ⟨xs, h, q⟩
theorem i_slT (q : Ta env S fun x S1 => TO env S1 fun l S2 => Th env S2 fun u S3 => xSlT x l u S3 P) : dSlT Ta TO Th env S P := q
theorem i_xslT {l u : Option Int} (q : P (.tup (cutD xs l u)) S) : xSlT (.tup xs) l u S P := ⟨xs, rfl, q⟩
theorem i_xtp {F : IP} (q : F ds (fun _ => True) S) : xTp F (.tup ds) S := ⟨ds, rfl, q⟩
theorem i_xls {F : IP} (q : F ds (fun _ => True) S) : xLs F (.lst ds) S := ⟨ds, _, ⟨rfl, rfl⟩, q⟩
theorem i_xlsS {F : IP} {ns : List Int} (q : F (ns.map .int) (fun _ => True) S) : xLs F (.scr ns) S := ⟨_, _, ⟨rfl, rfl⟩, q⟩
theorem i_xlsR {F : IP} {m : Nat} (h : S[m]? = some (.lst ds)) (q : F ds (fun S' => S'[m]? = some (.lst ds)) S) : xLs F (.ref m) S := ⟨ds, _, ⟨h, rfl⟩, q⟩
theorem i_rg1 {F : IP} (h1 : -(2 ^ 62) ≤ j) (h2 : j < 2 ^ 62) (q : F (rangeD 0 j.toNat) (fun _ => True) S) : xRg1 F [.int j] S := ⟨j, rfl, h1, h2, q⟩
theorem i_xen {F : IP} (q : F (enumD 0 xs) (fun _ => True) S) : xEn F [.lst xs] S := ⟨xs, rfl, q⟩
theorem i_xzpL {F : IP} (q : F (zipD xs ys) (fun _ => True) S) : xZp F [.lst xs, .lst ys] S := .inl ⟨xs, ys, rfl, q⟩
theorem i_xzpT {F : IP} (q : F (zipD xs ys) (fun _ => True) S) : xZp F [.tup xs, .tup ys] S := .inr ⟨xs, ys, rfl, q⟩
theorem i_irg1 {F : IP} (q : TR env S (xRg1 F)) : iRg1 TR env S F := q
theorem i_itp {F : IP} (q : T env S (xTp F)) : iTp T env S F := q
theorem i_ils {F : IP} (q : T env S (xLs F)) : iLs T env S F := q
theorem i_ien {F : IP} (q : TR env S (xEn F)) : iEn TR env S F := q
theorem i_izp {F : IP} (q : TR env S (xZp F)) : iZp TR env S F := q
theorem i_for {TI : DTI} (q : TI env S fun ds ok S1 => xFor ds ok S1 G TS E env) : dFor TI G TS E env S := q
theorem i_lc {TI : DTI} {TT : DTT} {vs : List Nat} (q : TI env S fun ds ok S1 => xLc ds ok S1 G TT T vs env Q) : dLc TI G TT T vs env S Q := q
theorem i_yes (q : B true S) : dYes env S B := q
theorem i_in {neg : Bool} {v : V} {vs : List V} (h1 : seqOf S y = some ys) (h2 : flatD x = some v) (h3 : flatsD ys = some vs) (q : P (.bl (if neg then !inV v vs else inV v vs)) S) : dIn neg x y S P := ⟨ys, v, vs, h1, h2, h3, q⟩
theorem i_sum {ns : List Int} (h : lstOf S d = some (ns.map .int)) (q : P (.int ns.sum) S) : bSum [d] S P := ⟨d, ns, rfl, h, q⟩
theorem i_all {bs : List Bool} (h : lstOf S d = some (bs.map .bl)) (q : P (.bl (bs.all id)) S) : bAll [d] S P := ⟨d, bs, rfl, h, q⟩
theorem i_isi {u v : String} {kk : Bool} (h1 : tyOf S d = some u) (h2 : kitB u v = some kk) (q : P (.bl kk) S) : bIsi [d, .ty v] S P := ⟨d, u, v, kk, rfl, h1, h2, q⟩
theorem i_xpar {F : D → D → Prop} (q : F d1 d2) : xPar F [d1, d2] := ⟨d1, d2, rfl, q⟩
theorem i_par {p1 p2 : Nat} (q : TR env S fun ds S1 => xPar (fun d1 d2 => E.nx ((env.set p1 (some d1)).set p2 (some d2)) S1) ds) : dPar p1 p2 TR E env S := q
theorem i_asg (q : T env S fun d S1 => G d env S1 E.nx) : dAsg T G E env S := q
theorem i_nm (q : N (env.set n (some d)) S) : gNm n d env S N := q
theorem i_tp (h : ds.length = n) (q : Gs ds env S N) : gTp n Gs (.tup ds) env S N := ⟨ds, rfl, h, q⟩
theorem i_gc (q : G d env S fun env' S' => Gs ds env' S' N) : gCs G Gs (d :: ds) env S N := ⟨d, ds, rfl, q⟩
theorem i_gn (q : N env S) : gNl [] env S N := ⟨rfl, q⟩
theorem i_sb (q : Ta env S fun x S1 => Tb env S1 fun y S2 => setAt x y d S2 fun S3 => N env S3) : gSb Ta Tb d env S N := q
theorem i_set {m p : Nat} {F : Sto → Prop} (h1 : S[m]? = some (.lst xs)) (h2 : ixN xs.length i = some p) (q : F (S.set m (.lst (xs.set p d)))) : setAt (.ref m) (.int i) d S F := ⟨m, xs, i, p, rfl, h1, rfl, h2, q⟩
theorem i_seq (q : TS { E with nx := TU E } env S) : dSeq TS TU E env S := q
theorem i_drop (q : T env S fun _ S1 => E.nx env S1) : dDrop T E env S := q
theorem i_ret (q : T env S E.rt) : dRet T E env S := q
theorem i_ifS (q : TA env S fun k S1 => if k = true then TS E env S1 else TU E env S1) : dIfS TA TS TU E env S := q
theorem i_next (q : E.nx env S) : dNext E env S := q
theorem i_mt {F : D → List D → Sto → DP → Prop} (q : Ta env S fun x S1 => (∃ i xs, x = .ref i ∧ S1[i]? = some (.lst xs)) ∧ TR env S1 fun ds S2 => F x ds S2 P) : dMt F Ta TR env S P := q
theorem i_mtx {m : Nat} {A : Prop} (h : S[m]? = some (.lst xs)) (q : A) : (∃ i ys, D.ref m = .ref i ∧ S[i]? = some (.lst ys)) ∧ A := ⟨⟨m, xs, rfl, h⟩, q⟩
theorem i_append {m : Nat} (h : S[m]? = some (.lst xs)) (hl : xs.length < sizeLine) (q : P .non (S.set m (.lst (xs ++ [d])))) : mAppend (.ref m) [d] S P := ⟨m, xs, d, rfl, rfl, h, hl, q⟩
theorem i_exit {S1 T' : Sto} (e : S' = S1 ++ T') (hl : S1.length = S.length) (ho : ∀ o ∈ S1, o ∈ S ∨ o.under S1.length = true) (hd : d.under S1.length = true) (q : P d S1) : atExit S P d S' := ⟨S1, T', e, hl, ho, hd, q⟩
end
theorem noslice {a b : Prop} (h : b) (_ : a) : b := h
end DL

namespace DL
open PySem PySem.Spec PyProof.Rows L2
section
variable {S : Sto} {P : DP} {x y d : D} {A : Prop} {n : Nat}
theorem i_sz (h : decide (n ≤ 100000) = true) (q : A) : n ≤ sizeLine ∧ A := ⟨Nat.le_trans (of_decide_eq_true h) (by decide), q⟩
theorem sz_le (h : n ≤ 100000) : n ≤ sizeLine := Nat.le_trans h (by decide)
theorem sz_lt (h : n < 100000) : n < sizeLine := Nat.lt_of_lt_of_le h (by decide)
/-! ### a list against the empty one -/
theorem allOf_ints {S : Sto} {m : Nat} : ∀ ns : List Int, allOf (pyOf S (m + 1)) (ns.map .int) = some (ns.map .int)
  | [] => rfl
  | k :: ns => by
    show (match pyOf S (m + 1) (.int k), allOf (pyOf S (m + 1)) (ns.map .int) with | some p, some ps => some (p :: ps) | _, _ => none) = _
    rw [allOf_ints ns]
    rfl
theorem canLay_ints : ∀ ns : List Int, PyData.canLayAll0 (ns.map .int) = true
  | [] => rfl
  | k :: ns => by
    show (PyData.canLay0 (.int k) && PyData.canLayAll0 (ns.map .int)) = true
    rw [canLay_ints ns]
    rfl
theorem depth_ints : ∀ ns : List Int, PyData.depthAll (ns.map .int) = 0
  | [] => by simp [PyData.depthAll]
  | k :: ns => by simp [PyData.depthAll, PyData.depth, depth_ints ns]
theorem shaped_ints (ns : List Int) : SeqAt.shaped (.list (ns.map .int)) = true := by
  unfold SeqAt.shaped
  rw [show PyData.canLay0 (.list (ns.map .int)) = true from canLay_ints ns]
  simp [PyData.depth, depth_ints]
theorem eqv_nil (qs : List PyData) : PyData.eqv (.list qs) (.list []) = qs.isEmpty := by
  cases qs <;> simp [PyData.eqv, PyData.eqvAll]
theorem i_eqNil {g : Bool → Bool} {ns : List Int} (h : lstOf S x = some (ns.map .int)) (q : P (.bl (g ns.isEmpty)) S) : dEqG g x (.lst []) S P := by
  have hp : pyOf S 2 x = some (.list (ns.map .int)) := by
    cases x with
    | lst xs =>
      cases h
      show (allOf (pyOf S 1) (ns.map .int)).map PyData.list = _
      rw [allOf_ints]
      rfl
    | ref i =>
      dsimp only [lstOf] at h
      show (match S[i]? with | some (.lst xs) => (allOf (pyOf S 1) xs).map PyData.list | _ => none) = _
      cases hs : S[i]? with
      | none => rw [hs] at h; cases h
      | some o =>
        rw [hs] at h
        cases o with
        | lst xs =>
          cases h
          show (allOf (pyOf S 1) (ns.map .int)).map PyData.list = _
          rw [allOf_ints]
          rfl
        | _ => cases h
    | _ => cases h
  have e : PyData.eqv (.list (ns.map .int)) (.list []) = ns.isEmpty := by
    rw [eqv_nil]
    cases ns <;> rfl
  have go : ∃ n q r, pyOf S n x = some q ∧ pyOf S n (.lst []) = some r ∧ SeqAt.shaped q = true ∧ SeqAt.shaped r = true ∧ P (.bl (g (PyData.eqv q r))) S :=
    ⟨2, _, .list [], hp, rfl, shaped_ints ns, by decide, by rw [e]; exact q⟩
  cases x with
  | int i => cases h
  | str i => cases h
  | bl i => cases h
  | _ => exact go
theorem at_get {ns : List Int} {i : Int} (h0 : 0 ≤ i) (h1 : i < ns.length) : ∃ c, L2.atI (ns.map D.int) i = some (.int c) := by
  obtain ⟨m, rfl⟩ : ∃ m : Nat, i = m := ⟨i.toNat, by omega⟩
  have hi : m < ns.length := by omega
  exact ⟨ns[m], atI_nat (by rw [List.getElem?_map, List.getElem?_eq_getElem hi]; rfl)⟩
theorem kit_NoneType_int : kitB "NoneType" "int" = some false := by decide +kernel
theorem kit_NoneType_bool : kitB "NoneType" "bool" = some false := by decide +kernel
theorem kit_NoneType_str : kitB "NoneType" "str" = some false := by decide +kernel
theorem kit_NoneType_tuple : kitB "NoneType" "tuple" = some false := by decide +kernel
theorem kit_NoneType_list : kitB "NoneType" "list" = some false := by decide +kernel
theorem kit_bool_int : kitB "bool" "int" = some true := by decide +kernel
theorem kit_bool_bool : kitB "bool" "bool" = some true := by decide +kernel
theorem kit_bool_str : kitB "bool" "str" = some false := by decide +kernel
theorem kit_bool_tuple : kitB "bool" "tuple" = some false := by decide +kernel
theorem kit_bool_list : kitB "bool" "list" = some false := by decide +kernel
theorem kit_int_int : kitB "int" "int" = some true := by decide +kernel
theorem kit_int_bool : kitB "int" "bool" = some false := by decide +kernel
theorem kit_int_str : kitB "int" "str" = some false := by decide +kernel
theorem kit_int_tuple : kitB "int" "tuple" = some false := by decide +kernel
theorem kit_int_list : kitB "int" "list" = some false := by decide +kernel
theorem kit_str_int : kitB "str" "int" = some false := by decide +kernel
theorem kit_str_bool : kitB "str" "bool" = some false := by decide +kernel
theorem kit_str_str : kitB "str" "str" = some true := by decide +kernel
theorem kit_str_tuple : kitB "str" "tuple" = some false := by decide +kernel
theorem kit_str_list : kitB "str" "list" = some false := by decide +kernel
theorem kit_tuple_int : kitB "tuple" "int" = some false := by decide +kernel
theorem kit_tuple_bool : kitB "tuple" "bool" = some false := by decide +kernel
theorem kit_tuple_str : kitB "tuple" "str" = some false := by decide +kernel
theorem kit_tuple_tuple : kitB "tuple" "tuple" = some true := by decide +kernel
theorem kit_tuple_list : kitB "tuple" "list" = some false := by decide +kernel
theorem kit_list_int : kitB "list" "int" = some false := by decide +kernel
theorem kit_list_bool : kitB "list" "bool" = some false := by decide +kernel
theorem kit_list_str : kitB "list" "str" = some false := by decide +kernel
theorem kit_list_tuple : kitB "list" "tuple" = some false := by decide +kernel
theorem kit_list_list : kitB "list" "list" = some true := by decide +kernel
theorem ite_t {c A B : Prop} [Decidable c] (hc : c) (h : A) : if c then A else B := by rw [if_pos hc]; exact h
theorem ite_f {c A B : Prop} [Decidable c] (hc : ¬ c) (h : B) : if c then A else B := by rw [if_neg hc]; exact h
end
end DL

namespace DL
open PySem PySem.Spec PyProof.Rows L2
/-! ### defs by name -/
def Fn (P : Program) (w : World) (K : PySem.W.Frag) (mg : Str → Option Value) (base : Heap) (x : Str) (k : Nat) (ps : List Str) (sp : DSp) : Prop :=
  ∃ (f : Addr) (fd : FuncData), mg x = some (.ref f) ∧ PySem.W.keepIn K (.ref f) = true ∧ Binds K fd ps [] ∧ FnOk P w K mg base CX0 k f fd ps (liftSp K sp)
/-- where a def stands -/
structure At (K : PySem.W.Frag) (mg : Str → Option Value) (x : Str) (st : Stmt) (ps : List Str) : Prop where
  ex : ∃ (f : Addr) (fd : FuncData), mg x = some (.ref f) ∧ Fun K x x st f fd ∧ Binds K fd ps []
section
variable {P : Program} {w : World} {K : PySem.W.Frag} {mg : Str → Option Value} {base : Heap}
theorem fn_at {x : Str} {st : Stmt} {ps : List Str} {k : Nat} {sp : DSp} (h : At K mg x st ps) (ok : ∀ f fd, Fun K x x st f fd → FnOk P w K mg base CX0 k f fd ps (liftSp K sp)) : Fn P w K mg base x k ps sp := by
  obtain ⟨f, fd, h1, h2, h3⟩ := h.ex
  exact ⟨f, fd, h1, h2.kp, h3, ok f fd h2⟩
theorem Fn.imp {x : Str} {ps : List Str} {k : Nat} {sp sp' : DSp} (h : Fn P w K mg base x k ps sp) (i : ∀ ds S P, sp' ds S P → sp ds S P) : Fn P w K mg base x k ps sp' := by
  obtain ⟨f, fd, h1, h2, h3, h4⟩ := h
  exact ⟨f, fd, h1, h2, h3, h4.imp fun vs H Q E ⟨W, ds, S, P, s, r, q, post⟩ => ⟨W, ds, S, P, s, r, i ds S P q, post⟩⟩
end
section
variable {X : Cx} {W0 : Bs} {e : Expr} {es : List Expr} {TR : DTA} {pos p : Pos}
theorem de_fn {x : Str} {k : Nat} {ps : List Str} {sp : DSp} (h : Fn X.prog X.w X.K X.mg X.base x k ps sp) (hr : Room k X.A) (hg : Gl X x) (ha : DA X W0 (e :: es) TR) (hdb : (x == ("__debug__" : Str)) = false := by decide) (he : starEach (e :: es) X.env = (false, eval e X.env) :: starEach es X.env := by rfl) (hpl : (backTo pos (starEach es X.env)).any (·.1) = false := by rfl) :
    DE X W0 (.Call (.Name x p) (e :: es) [] pos) (dCall sp TR) := by
  obtain ⟨f, fd, h1, h2, h3, h4⟩ := h
  exact de_call (k := k) (f := f) (fd := fd) (ps := ps) ha fun q => pe_call h4 hr hg h1 h2 h3 .nil pass0 q hdb he hpl
end
end DL

namespace DL
open PySem PySem.Spec PyProof.Rows L2

theorem ext_tup (l b : Addr) (xs ys : Array Value) (n m : Nat) (dd : Option Addr) (sl : Array (Option Value)) (h0 : xs.size + ys.size ≤ sizeLine) (hl : ¬ (!xs.isEmpty && Builtin.List.listTooLong (xs.size + ys.size)) = true) :
    Meets (Builtin.«list.extend» ⟨[.ref l, .ref b], []⟩) (fun _ R s => s.heap.get? l = some { cls := .type "list", data := .seq xs n } ∧ s.heap.get? b = some { cls := .type "tuple", dict := dd, data := .seq ys m, slots := sl } ∧
      R (.ok (.ret Value.none)) { s with heap := s.heap.update l (Obj.mapSeq fun z => z ++ ys) }) := by
  refine .of_wp fun prog w A R s h => ?_
  obtain ⟨g1, g2, q⟩ := h
  have z1 : (xs ++ ys).size ≤ sizeLine + 1 := by rw [Array.size_append]; omega
  have z2 : xs.size ≤ sizeLine := by omega
  have a1 := PySem.AutoSeq1.idx_int
  have a2 := PySem.AutoSeq1.sub_tuple_tuple
  have a3 := PySem.AutoSeq1.sub_tuple_list
  have a4 := PySem.AutoSeq1.sub_list_tuple
  have a5 := PySem.AutoSeq1.sub_list_list
  wp_walk using (wpAny_updateSeq g1 rfl (hz := z2) (_hz' := z1)), wpAny_loadPart' g1, wpAny_loadPart' g2
  exact ⟨_, rfl, q⟩
section
variable {X : Cx}
/-- xs.extend(t), t a tuple -/
def rExtT (K : PySem.W.Frag) : V → List V → Hp → VK → Prop := fun x vs H Q => ∃ l b xs zs, x = .ref l ∧ vs = [.ref b] ∧ H l = some (.lst xs) ∧ SqT K H b zs ∧ xs.length + zs.length ≤ sizeLine ∧ Q .non (upd H l (.lst (xs ++ zs)))
theorem mt_extT : MtM X "list.extend" (rExtT X.K) := by
  rintro pins s σ H x vs v us Q I rx rv ⟨l, b, xs, zs, rfl, rfl, hl, hb, hz, q⟩
  obtain ⟨u, rfl, ru⟩ := rv.one
  cases ru
  cases rx
  obtain ⟨_, its, n, r, e1, e⟩ := I.lstM hl
  obtain ⟨jts, r2, ⟨o, e2, c2, m, d2⟩, _⟩ := I.tuple hb
  obtain ⟨oc, od, dt, sl⟩ := o
  cases c2
  cases d2
  have e3 := r2.length
  have hsum : its.toArray.size + jts.toArray.size ≤ sizeLine := by simp only [List.size_toArray]; omega
  have big : ¬ (!its.toArray.isEmpty && Builtin.List.listTooLong (its.toArray.size + jts.toArray.size)) = true := fun z => by
    rw [notLongL hsum] at z
    simp at z
  refine call_meets F.slot_list_extend ⟨_, e, rfl⟩ F.entry_list_extend (F.args_list_extend_2 _ _) (ext_tup l b _ _ n m od sl hsum big) ⟨e, e2, .non, _, ?_, rfl, q⟩
  exact I.lset (t' := s.toks) (its' := its ++ jts) hl e (by simp) (r.append r2) (by rw [List.length_append]; exact hz)
def mExtT : D → List D → Sto → DP → Prop := fun x ds S P => ∃ i xs ys, x = .ref i ∧ ds = [.tup ys] ∧ S[i]? = some (.lst xs) ∧ xs.length + ys.length ≤ sizeLine ∧ P .non (S.set i (.lst (xs ++ ys)))
theorem dm_extT {K : PySem.W.Frag} : DMt K (rExtT K) mExtT := by
  rintro W S H x vs d ds P Q s r rs ⟨i, xs, ys, rfl, rfl, hS, hz, q⟩ post
  cases r with
  | ref hi =>
    obtain ⟨v, rfl, rv⟩ := rs.one
    obtain ⟨hB, us, hH, rr⟩ := s.obj i _ _ hi hS
    obtain ⟨b, ws, rfl, hb, rw'⟩ := rv.tupV
    exact ⟨_, b, us, ws, rfl, rfl, hH, same_sqt s.same hb, by rw [rr.length, rw'.length]; exact hz, post _ _ W _ _ q (s.setO hi hS hB ⟨hB, _, upd_same, rr.app rw'⟩) (.setO hi) .non⟩
theorem i_extT {S : Sto} {P : DP} {xs ys : List D} {m : Nat} (h : S[m]? = some (.lst xs)) (hl : xs.length + ys.length ≤ sizeLine) (q : P .non (S.set m (.lst (xs ++ ys)))) : mExtT (.ref m) [.tup ys] S P := ⟨m, xs, ys, rfl, rfl, h, hl, q⟩
theorem i_ext {S : Sto} {P : DP} {xs ys : List D} {y : D} {m : Nat} (h : S[m]? = some (.lst xs)) (h2 : lstOf S y = some ys) (hl : xs.length + ys.length ≤ sizeLine) (q : P .non (S.set m (.lst (xs ++ ys)))) : mExtend (.ref m) [y] S P := ⟨m, xs, y, ys, rfl, rfl, h, h2, hl, q⟩
end
end DL

namespace DL
open PySem PySem.Spec PyProof.Rows L2
abbrev enumO (k : Addr) : Obj := { cls := .type "enumerate", data := .fields #[.none, .bool false, .ref k, rawInt 0, .none, .none] }
/-- enumerate(v), one argument, v told by how its iterator begins -/
theorem enum1 {v : Value} {o : Obj} {Hh : Heap → Prop} (B : Begins v o Hh) : Meets (Builtin.«enumerate.__new__» ⟨[.type "enumerate", v], []⟩) (fun _ R s => Hh s.heap ∧ R (.ok (.ret (.ref (s.heap.push o).objs.size))) { s with heap := (s.heap.push o).push (enumO s.heap.objs.size) }) := by
  refine .of_wp fun prog w A R s ⟨b, q⟩ => ?_
  have sub := sub_enumerate
  cases s
  have begun := fun {A' : Around} {E : Value → Shared → Prop} {Q : Value → Shared → Prop} z => B.iter prog w A' E _ Q b z
  wp_walk using begun
  refine wpAny_stack_any fun st => wpAny_pure ?_
  split
  all_goals (try (rename_i c _ _ _ _ _; generalize (c == Value.type "enumerate") = z; cases z))
  all_goals (wp_walk using begun; exact ⟨_, rfl, q⟩)
section
variable {prog : Program} {w : World} {A : Around} {E : Value → Shared → Prop} {s : Shared}
theorem call_enum1 {v : Value} {o : Obj} {Hh : Heap → Prop} {Q : Value → Shared → Prop} (B : Begins v o Hh) (h1 : Hh s.heap)
    (h : ∀ h', IsEnum h' (s.heap.objs.size + 1) s.heap.objs.size 0 .none → h'.get? s.heap.objs.size = some o → (∀ b u, s.heap.get? b = some u → h'.get? b = some u) → Q (.ref (s.heap.objs.size + 1)) { s with heap := h' }) :
    wpAny (model prog w) A (call (.type "enumerate") [v]) Q E s := by
  have e1 : (s.heap.push o).objs.size = s.heap.objs.size + 1 := Heap.size_push ..
  have e2 : ((s.heap.push o).push (enumO s.heap.objs.size)).get? (s.heap.objs.size + 1) = some (enumO s.heap.objs.size) := by
    rw [← e1]
    exact Heap.get?_push_size _ rfl
  refine callType_new F.called_enumerate (by decide) (F.typeCall_enumerate_1 _) (F.newCall_enumerate_1 _) (fun ob => F.args_object_init_2 ob _) F.entry_enumerate_new (enum1 B) ⟨h1, ?_⟩
  have k2 : ∀ b u, s.heap.get? b = some u → ((s.heap.push o).push (enumO s.heap.objs.size)).get? b = some u := fun b u z => Heap.get?_push_of_some _ (Heap.get?_push_of_some _ z)
  have q := h ((s.heap.push o).push (enumO s.heap.objs.size)) e2 (Heap.get?_push_of_some _ (Heap.get?_push_size _ B.free)) k2
  rw [← e1] at q e2
  exact ⟨⟨_, e2, rfl⟩, q⟩
end
def IteT (K : PySem.W.Frag) (a : Addr) : It where
  go := fun i H => ∃ (xs : List V) (x : V), SqT K H a xs ∧ xs[i]? = some x
  yld := fun i H v H' => ∃ T x, v = .ref T ∧ H T = none ∧ H' = upd H T (.tup [.int (i : Nat), x]) ∧ ∀ xs, SqT K H a xs → xs[i]? = some x
  stop := fun i H => ∃ xs : List V, SqT K H a xs ∧ xs.length = i
theorem enum_apart {h : Heap} {a e it : Addr} {i : Nat} {c : Int} {old : Value} {items : Array Value} (he : IsEnum h e it c old) (hit : h.IsTupleIter it a i) (tp : IsTup h a items) : a ≠ it ∧ e ≠ a := by
  obtain ⟨o, g1, g2, _⟩ := tp
  obtain ⟨o2, g3, g4, _⟩ := hit
  refine ⟨fun z => ?_, fun z => ?_⟩
  · rw [z, g3] at g1
    cases g1
    rw [g4] at g2
    exact absurd g2 (by decide)
  · rw [← z] at g1
    unfold IsEnum at he
    rw [g1] at he
    cases he
    exact absurd (show Value.type "enumerate" = Value.type "tuple" from g2) (by decide)
theorem turn_enumT {P : Program} {w : World} {K : PySem.W.Frag} {elts : List Expr} {kk : Nat} {tpos : Pos} (a e it : Addr) :
    Turn P w K (.Tuple elts kk tpos) (IteT K a) [e, it] e (fun i h => (∃ old, IsEnum h e it ((i : Nat) : Int) old) ∧ h.IsTupleIter it a i ∧ e ≠ it) where
  mem := List.mem_cons_self ..
  obj := fun i h ⟨⟨old, he⟩, ⟨o, ho, hc, hd⟩, _⟩ b hb => by
    rcases List.mem_cons.mp hb with rfl | hb
    · exact ⟨_, he, fun v z => nomatch z⟩
    · rw [List.mem_singleton.mp hb]
      exact ⟨o, ho, fun v z => by rw [hd] at z; cases z⟩
  keep := fun i h h' ⟨⟨old, he⟩, hit, hne⟩ k => ⟨⟨old, k e (by simp) _ he⟩, hit.at fun o z => k it (by simp) o z, hne⟩
  item := by
    rintro X rfl rfl rfl hc i pins s σ H E I hf ⟨⟨old, he⟩, hit, hne⟩ ⟨xs, x, hq, hx⟩
    obtain ⟨its, rv, tp, hz⟩ := I.tuple hq
    obtain ⟨y, hy, ry⟩ := rv.get hx
    have ha := enum_apart he hit tp
    have Dr := Draws.tuple (prog := X.prog) (w := X.w) (A := X.A.in1) (show X.A.in1.handled = none from I.ok.hd hc) it a ha.1 its.toArray
    have Wk := WalksT.enumFrom 0 Dr e hne (by simp [hne, ha.2]) (by simp)
    refine Wk.item i s _ E (by simp; exact (List.getElem?_eq_some_iff.mp hy).1) ⟨⟨old, by rw [Int.zero_add]; exact he⟩, hit, tp⟩ fun T vals h1 tk ⟨t, y', hy', hv⟩ hT htup hmid hk1 => ⟨_, rfl, ?_⟩
    have hTw := Wk.apart i T h1 hmid
    refine Wk.go elts kk tpos i T { s with heap := h1, toks := tk } _ E hmid fun h2 hst2 hk2 => ?_
    have eyy : y' = y := by
      have z : its[i]? = some y' := by simpa using hy'
      rw [hy] at z
      exact (Option.some.inj z).symm
    subst eyy
    obtain ⟨⟨old2, he2⟩, hit2, _⟩ := hst2
    have fresh := I.hok.fresh hT
    refine ⟨.ref T, upd H T (.tup [.int (i : Nat), x]), I.turnedNew (ch := [e, it]) (fun b ob hb q => hk2 b ob hb (hk1 b ob hb q)) hf hT ⟨by show 2 ≤ sizeLine; decide, [.int (0 + (i : Int)) t, y'], .cons ⟨t, by rw [Int.zero_add]⟩ (.cons ry .nil), ?_⟩, rfl,
      ⟨T, x, rfl, fresh, rfl, fun ys hys => by rw [I.tuple_inj hys hq]; exact hx⟩, ⟨⟨old2, by rw [Int.zero_add] at he2; exact he2⟩, hit2, hne⟩, fun b hb => ?_⟩
    · subst hv
      obtain ⟨o, g1, g2, n, g3⟩ := htup
      exact ⟨o, hk2 T o hTw g1, g2, n, g3⟩
    · have hbs : b < s.heap.objs.size := by
        rcases List.mem_cons.mp hb with rfl | hb
        · exact Heap.lt_size he
        · rw [List.mem_singleton.mp hb]
          obtain ⟨o, g, _⟩ := hit
          exact Heap.lt_size g
      rw [upd_ne (Nat.ne_of_lt (Nat.lt_of_lt_of_le hbs hT))]
      exact (hf b hb).1
  done := by
    rintro X rfl rfl rfl hc i pins s σ H E I hf ⟨⟨old, he⟩, hit, hne⟩ ⟨xs, hq, hx⟩
    obtain ⟨its, rv, tp, hz⟩ := I.tuple hq
    have ha := enum_apart he hit tp
    have Dr := Draws.tuple (prog := X.prog) (w := X.w) (A := X.A.in1) (show X.A.in1.handled = none from I.ok.hd hc) it a ha.1 its.toArray
    have en : its.toArray.size = i := by rw [List.size_toArray, ← rv.length]; exact hx
    subst en
    exact (WalksT.enumFrom 0 Dr e hne (by simp [hne, ha.2]) (by simp)).done s _ E ⟨⟨old, by rw [Int.zero_add]; exact he⟩, hit, tp⟩ fun h' tk hk => ⟨rfl, I.turnedL (ch := [e, it]) hk hf⟩
  self := fun A i s Q E ⟨⟨old, he⟩, _⟩ h => wpAny_pyIter_enum he h
theorem boot_en : bootBuiltins "enumerate" = some (.type "enumerate") := by decide +kernel
def iEnumT (K : PySem.W.Frag) (ta : TA) : TI := fun σ H R => ta σ H fun vs H1 => ∃ a xs, vs = [.ref a] ∧ SqT K H1 a xs ∧ R (IteT K a) H1
theorem pi_enumT {X : Cx} {e : Expr} {ta : TA} {p pos tpos : Pos} {elts : List Expr} {kk : Nat} (hg : Gl X "enumerate") (hm : X.mg "enumerate" = none) (ha : PA X [e] ta) (hs : starEach [e] X.env = [(false, eval e X.env)] := by rfl) :
    PI X (.Tuple elts kk tpos) (.Call (.Name "enumerate" p) [e] [] pos) (iEnumT X.K ta) := by
  refine ⟨fun pins s σ H R I h => Call_ (ld_blt I hg hm boot_en (PyProof.Rows.callWith_type1 (thn (ha.run pos pins s σ H _ I h) ?_) hs rfl))⟩
  rintro us s1 ⟨vs, H1, I1, r1, a, xs, rfl, hq, q⟩
  obtain ⟨u, rfl, ru⟩ := r1.one
  cases ru
  obtain ⟨its, rv, tp, hz⟩ := I1.tuple hq
  refine call_enum1 (begins_tuple a its.toArray) tp fun h' he ho hk => wpAny_pyIter_enum he ?_
  have up : ∀ b ∈ [s1.heap.objs.size + 1, s1.heap.objs.size], s1.heap.objs.size ≤ b := fun b hb => by
    simp at hb
    omega
  exact ⟨s1.heap.objs.size + 1, [s1.heap.objs.size + 1, s1.heap.objs.size], _, IteT X.K a, H1, rfl, I1.kept (t' := s1.toks) hk, turn_enumT a _ _, ⟨⟨.none, he⟩, ⟨_, ho, rfl, rfl⟩, Nat.succ_ne_self _⟩, fun b hb => I1.fpOk (up b hb) (I1.hok.fresh (up b hb)), q⟩
section
variable {X : Cx} {W0 : Bs} {a : Expr} {TR : DTA} {pos p : Pos}
def xEnT (P : IP) (ds : List D) (S : Sto) : Prop := ∃ xs, ds = [.tup xs] ∧ P (enumD 0 xs) (fun _ => True) S
def iEnT (TR : DTA) : DTI := fun env S P => TR env S (xEnT P)
theorem walk_enumT {K : PySem.W.Frag} {b : Addr} {xs : List V} : Walk (IteT K b) xs.length (fun H => SqT K H b xs) (YPair (fun i => some (.int (i : Nat))) (fun i => xs[i]?)) :=
  ⟨fun i H hi q => ⟨xs, xs[i], q, List.getElem?_eq_getElem hi⟩, fun H q => ⟨xs, q, rfl⟩, fun i H v H' _ q ⟨T, x, h1, h2, h3, h4⟩ => ⟨T, _, x, h1, h2, h3, rfl, h4 xs q⟩⟩
theorem di_enumT {elts : List Expr} {kk : Nat} {tpos : Pos} (hg : Gl X "enumerate") (hm : X.mg "enumerate" = none) (ha : DA X W0 [a] TR) (hs : starEach [a] X.env = [(false, eval a X.env)] := by rfl) : DI X W0 (.Tuple elts kk tpos) (.Call (.Name "enumerate" p) [a] [] pos) (iEnT TR) :=
  (pi_enumT hg hm ha hs).imp fun σ H R ⟨W, env, S, P, hW, sim, er, ht, post⟩ => ⟨W, env, S, _, hW, sim, er, ht, fun ds S1 W1 H1 vs ⟨xs, e, q⟩ s l r => by
    subst e
    obtain ⟨v, rfl, rv⟩ := r.one
    obtain ⟨a1, vs, rfl, hB, rr⟩ := rv.tupV
    have st : ∀ {W' : Wd} {S' : Sto} {H' : Hp}, Stp W1 H1 W' H' → Sim X.K W' S' H' → SqT X.K H' a1 vs := fun l' s' => same_sqt s'.same (same_sqt l'.le.same hB)
    refine ⟨a1, vs, rfl, st .refl s, post _ _ S1 W1 H1 _ q s l ⟨fun H' => SqT X.K H' a1 vs, _, by rw [enumD_len, ← rr.length]; exact walk_enumT (xs := vs), fun W' S' H' l' s' _ => st l' s', ?_⟩⟩
    rintro i d W' S' H' x H'' hd l' s' _ ⟨T, x1, x2, rfl, hT, rfl, e1, e2⟩
    obtain ⟨y, h1, rfl⟩ := enumD_get 0 xs i d hd
    obtain ⟨u, g1, g2⟩ := rr.get h1
    have e2 : vs[i]? = some x2 := e2
    rw [g1] at e2
    cases e2
    cases e1
    rw [Nat.zero_add]
    exact pair_new s' hT (.int _) (g2.mono l'.le)⟩
theorem i_ienT {env : Ev} {S : Sto} {F : IP} (q : TR env S (xEnT F)) : iEnT TR env S F := q
theorem i_xenT {S : Sto} {F : IP} {xs : List D} (q : F (enumD 0 xs) (fun _ => True) S) : xEnT F [.tup xs] S := ⟨xs, rfl, q⟩
end
end DL

namespace DL
open PySem PySem.Spec PyProof.Rows L2
/-! ### pure dicts -/
def keyOf : D → Option Key
  | .int i => some (.inl i)
  | .str x => some (.inr x)
  | _ => none
def dlook : List Key → List D → Key → Option D
  | k :: ks, d :: ds, q => if k = q then some d else dlook ks ds q
  | _, _, _ => none
theorem Rep.key {K : PySem.W.Frag} {W : Wd} {v : V} {d : D} {k : Key} (r : Rep K W v d) (h : keyOf d = some k) : v = kV k := by
  cases r <;> first | (cases h; rfl) | cases h
theorem look_rep {K : PySem.W.Frag} {W : Wd} {q : Key} : ∀ {ks : List Key} {vs : List V} {ds : List D}, Reps K W vs ds → ks.length = vs.length → (∀ d, dlook ks ds q = some d → ∃ v, valV (ks.zip vs) q = some v ∧ Rep K W v d) ∧ (dlook ks ds q = none → valV (ks.zip vs) q = none)
  | [], vs, ds, r, e => by
    refine ⟨fun d h => ?_, fun _ => ?_⟩
    · cases ds <;> cases h
    · cases vs <;> rfl
  | k :: ks, [], ds, r, e => by cases e
  | k :: ks, v :: vs, _, .cons (d := d) (ds := ds) h r, e => by
    have ih := look_rep (q := q) (ks := ks) r (by simpa using e)
    by_cases hk : k = q
    · refine ⟨fun d' h' => ?_, fun h' => ?_⟩
      · unfold dlook at h'
        rw [if_pos hk] at h'
        cases h'
        exact ⟨v, by rw [List.zip_cons_cons]; exact valV_pos hk, h⟩
      · unfold dlook at h'
        rw [if_pos hk] at h'
        cases h'
    · have e1 : dlook (k :: ks) (d :: ds) q = dlook ks ds q := by
        show (if k = q then some d else dlook ks ds q) = _
        rw [if_neg hk]
      rw [e1, List.zip_cons_cons, valV_neg hk]
      exact ih
section
variable {X : Cx} {W0 : Bs} {a b c e o : Expr} {es : List Expr} {Ta Tb T : DTE} {TR : DTA} {pos p apos cpos : Pos}
theorem Rep.dctV {K : PySem.W.Frag} {W : Wd} {v : V} {ks : List Key} {ds : List D} (r : Rep K W v (.dct ks ds)) : ∃ a vs, v = .ref a ∧ Rd W.B a (.dK (ks.zip vs)) ∧ ks.length = vs.length ∧ Reps K W vs ds := by
  cases r with | dct h1 h2 h3 => exact ⟨_, _, rfl, h1, h2, h3⟩
theorem dget_rd {H : Hp} {a : Addr} {kvs : List (Key × V)} {k : Key} (h : Rd H a (.dK kvs)) : DGet H a (kV k) (valV kvs k) := .inl ⟨kvs, k, h, rfl, rfl⟩
def xDget (P : D → Prop) (x y : D) : Prop := ∃ ks ds k d, x = .dct ks ds ∧ keyOf y = some k ∧ dlook ks ds k = some d ∧ P d
def dDget (Ta Tb : DTE) : DTE := fun env S P => Ta env S fun x S1 => Tb env S1 fun y S2 => xDget (fun d => P d S2) x y
theorem de_dget (hu : X.A.units + 1 < cLine) (ha : DE X W0 a Ta) (hb : DE X W0 b Tb) (hs : NoSl b) : DE X W0 (.Subscript a b pos) (dDget Ta Tb) := (pe_dget hu ha hb hs).imp fun σ H Q ⟨W, env, S, P, hW, sim, er, ht, post⟩ =>
  ⟨W, env, S, _, hW, sim, er, ht, fun x S1 W1 H1 v1 q1 s1 l1 r1 => ⟨W1, env, S1, _, hW.trans l1, s1, er.mono l1.le, q1, fun y S2 W2 H2 v2 q2 s2 l2 r2 => by
    obtain ⟨ks, ds, k, d, rfl, hk, hd, q⟩ := q2
    obtain ⟨a1, vs, rfl, hB, hl, rr⟩ := (r1.mono l2.le).dctV
    obtain ⟨v, h1, h2⟩ := (look_rep rr hl).1 d hd
    refine ⟨a1, v, rfl, ?_, post _ _ W2 H2 _ q s2 (l1.trans l2) h2⟩
    rw [r2.key hk, ← h1]
    exact dget_rd (same_rd s2.same hB)⟩⟩
def xDget1 (P : D → Prop) (x y : D) : Prop := ∃ ks ds k, x = .dct ks ds ∧ keyOf y = some k ∧ P ((dlook ks ds k).getD .non)
def dDget1 (Ta Tb : DTE) : DTE := fun env S P => Ta env S fun x S1 => (∃ ks ds, x = .dct ks ds) ∧ Tb env S1 fun y S2 => xDget1 (fun d => P d S2) x y
theorem de_dget1 (hu : X.A.units + 1 < cLine) (ha : DE X W0 o Ta) (hb : DE X W0 e Tb) (m : M1 X o "get" apos e cpos) : DE X W0 (.Call (.Attribute o "get" apos) [e] [] cpos) (dDget1 Ta Tb) := (pe_dget1 hu ha hb m).imp fun σ H Q ⟨W, env, S, P, hW, sim, er, ht, post⟩ =>
  ⟨W, env, S, _, hW, sim, er, ht, fun x S1 W1 H1 v1 ⟨⟨ks0, ds0, e0⟩, q1⟩ s1 l1 r1 => by
    subst e0
    obtain ⟨a1, vs, rfl, hB, hl, rr⟩ := r1.dctV
    refine ⟨a1, rfl, .inl ⟨_, same_rd s1.same hB⟩, W1, env, S1, _, hW.trans l1, s1, er.mono l1.le, q1, fun y S2 W2 H2 v2 q2 s2 l2 r2 => ?_⟩
    obtain ⟨ks, ds, k, e1, hk, q⟩ := q2
    cases e1
    have rr2 := rr.mono l2.le
    refine ⟨valV (ks0.zip vs) k, ?_, ?_⟩
    · rw [r2.key hk]
      exact dget_rd (same_rd s2.same (same_rd l2.le.same hB))
    · cases hd : dlook ks0 ds0 k with
      | none =>
        rw [hd] at q
        rw [(look_rep rr2 hl).2 hd]
        exact post _ _ W2 H2 _ q s2 (l1.trans l2) .non
      | some d =>
        rw [hd] at q
        obtain ⟨v, h1, h2⟩ := (look_rep rr2 hl).1 d hd
        rw [h1]
        exact post _ _ W2 H2 _ q s2 (l1.trans l2) h2⟩
/-! ### displays -/
def dPairs : List (DTE × DTE) → Ev → Sto → (List (D × D) → Sto → Prop) → Prop
  | [], _, S, Q => Q [] S
  | t :: ts, env, S, Q => t.1 env S fun k S1 => t.2 env S1 fun v S2 => dPairs ts env S2 fun ps S3 => Q ((k, v) :: ps) S3
abbrev DPs (X : Cx) (W0 : Bs) (pos : Pos) (keys : List (Option Expr)) (values : List Expr) (Ts : List (DTE × DTE)) : Prop := PPs X pos keys values (Ts.map fun t => (liftE X.K W0 t.1, liftE X.K W0 t.2))
theorem dps_nil : DPs X W0 pos [] [] [] := pps_nil
theorem dps_cons {k v : Expr} {ks : List (Option Expr)} {vs : List Expr} {Tk Tv : DTE} {Ts : List (DTE × DTE)} (hk : DE X W0 k Tk) (hv : DE X W0 v Tv) (hr : DPs X W0 pos ks vs Ts) : DPs X W0 pos (some k :: ks) (v :: vs) ((Tk, Tv) :: Ts) := pps_cons hk hv hr
theorem lift_pairs {K : PySem.W.Frag} {W0 : Bs} {σ : L2.St} {env : Ev} : ∀ {Ts : List (DTE × DTE)} {W : Wd} {S : Sto} {H : Hp} {P : List (D × D) → Sto → Prop} {Q : List (V × V) → Hp → Prop}, W0.to W H → Sim K W S H → EnvR K W env σ → dPairs Ts env S P →
    (∀ ps S' W' H' us, P ps S' → Sim K W' S' H' → Stp W H W' H' → Reps K W' (us.map (·.1)) (ps.map (·.1)) → Reps K W' (us.map (·.2)) (ps.map (·.2)) → Q us H') → tPairs (Ts.map fun t => (liftE K W0 t.1, liftE K W0 t.2)) σ H Q
  | [], W, S, H, P, Q, hW, s, er, h, q => q [] S W H [] h s .refl .nil .nil
  | t :: ts, W, S, H, P, Q, hW, s, er, h, q => ⟨W, env, S, _, hW, s, er, h, fun k S1 W1 H1 v1 q1 s1 l1 r1 => ⟨W1, env, S1, _, hW.trans l1, s1, er.mono l1.le, q1, fun d S2 W2 H2 v2 q2 s2 l2 r2 =>
      lift_pairs (hW.trans (l1.trans l2)) s2 (er.mono (l1.trans l2).le) q2 fun ps S3 W3 H3 us q3 s3 l3 ra rb => q _ S3 W3 H3 ((v1, v2) :: us) q3 s3 ((l1.trans l2).trans l3) (.cons (r1.mono (l2.trans l3).le) ra) (.cons (r2.mono l3.le) rb)⟩⟩
def xDisp (P : D → Sto → Prop) (ps : List (D × D)) (S : Sto) : Prop := ∃ ks, ps.map (fun q => keyOf q.1) = ks.map some ∧ ks.Nodup ∧ ks.length ≤ 15 ∧ P (.dct ks (ps.map (·.2))) S
def dDisp (Ts : List (DTE × DTE)) : DTE := fun env S P => dPairs Ts env S (xDisp P)
end
theorem Sim.beside {K : PySem.W.Frag} {W : Wd} {S : Sto} {H : Hp} {p : Addr} {o : HO} (s : Sim K W S H) (hB : W.B p = none) (hm : p ∉ W.m) : Sim K W S (upd H p o) := by
  refine ⟨fun b u e => by rw [upd_ne (ne_of_none e hB)]; exact s.same b u e, s.len, s.nd, fun a ha => upd_dom a (s.dom a ha), fun i a ob h1 h2 => ?_, s.ntb⟩
  refine (s.obj i a ob h1 h2).mono (Wd.le.refl _) ?_ (upd_ne fun z => hm (z ▸ List.mem_of_getElem? h1))
  by_cases hb : W.B a = none
  · exact .inl hb
  · exact .inr hb
theorem Stp.over {W W' : Wd} {H H' : Hp} {p : Addr} {o : HO} (l : Stp W H W' H') (hp : H p = none) (hB : W'.B p = none) (hn : ∀ ps, o ≠ .tbl ps := by intro _ z; cases z) : Stp W H (W'.put p o) (upd H' p o) := by
  have a := l.adopt (o := o) (.of hp) hB
  exact ⟨a.le, fun q u h n t => by rw [upd_ne (ne_of_none h hp)]; exact a.keep q u h n t, fun q h => a.dom q (fre_set hn q h), a.newm, a.newB⟩
/-- what lies beside a world stays as it is -/
theorem Stp.stays {W W' : Wd} {H H' : Hp} {p : Addr} {o : HO} (l : Stp W H W' H') (hB : W.B p = none) (hm : p ∉ W.m) (hH : H p = some o) (ht : ∀ ps, o ≠ .tbl ps := by intro _ z; cases z) (hx : ∀ φ, o ≠ .ext φ := by intro _ z; cases z) : W'.B p = none ∧ p ∉ W'.m ∧ H' p = some o := by
  refine ⟨?_, fun z => ?_, l.keep _ _ hH hm ht⟩
  · cases e : W'.B p with
    | none => rfl
    | some u =>
      rcases l.newB p u e with q | q | q | ⟨φ, q⟩
      · rw [hB] at q; cases q
      · exact (q.not hH ht).elim
      · exact absurd q hm
      · rw [hH] at q; exact absurd (Option.some.inj q) (hx φ)
  · rcases l.newm p z with q | q
    · exact hm q
    · exact q.not hH ht
theorem putK_new {kvs : List (Key × V)} {k : Key} {v : V} (h : k ∉ kvs.map (·.1)) : putK kvs k v = kvs ++ [(k, v)] := by
  unfold putK
  rw [if_neg]
  intro z
  obtain ⟨q, hq, e⟩ := List.any_eq_true.mp z
  exact h (List.mem_map.mpr ⟨q, hq, of_decide_eq_true e⟩)
theorem merge_new : ∀ (more kvs : List (Key × V)), (kvs.map (·.1) ++ more.map (·.1)).Nodup → mergeK kvs more = kvs ++ more
  | [], kvs, _ => (List.append_nil kvs).symm
  | q :: more, kvs, h => by
    show mergeK (putK kvs q.1 q.2) more = _
    have hn : q.1 ∉ kvs.map (·.1) := fun z => by
      have := (List.nodup_append.mp h).2.2 q.1 z q.1 (by simp)
      exact this rfl
    rw [putK_new hn, merge_new more _ (by simpa using h)]
    simp
section
variable {X : Cx} {W0 : Bs} {pos : Pos}
theorem keys_us {K : PySem.W.Frag} {W : Wd} : ∀ {us : List (V × V)} {ps : List (D × D)} {ks : List Key}, Reps K W (us.map (·.1)) (ps.map (·.1)) → ps.map (fun q => keyOf q.1) = ks.map some → us = (ks.zip (us.map (·.2))).map fun kv => (kV kv.1, kv.2)
  | [], _, _, _, _ => by simp
  | u :: us, [], _, r, _ => by cases r
  | u :: us, q :: ps, [], _, e => by simp at e
  | u :: us, q :: ps, k :: ks, r, e => by
    cases r with
    | cons h t =>
      have e' : keyOf q.1 = some k ∧ ps.map (fun q => keyOf q.1) = ks.map some := by simpa using e
      have ih := keys_us t e'.2
      simp only [List.map_cons, List.zip_cons_cons]
      rw [← ih, ← h.key e'.1]
theorem de_disp {keys : List (Option Expr)} {values : List Expr} {Ts : List (DTE × DTE)} (h : DPs X W0 pos keys values Ts) (hall : keys.all (·.isSome) = true) (hl : keys.length = values.length) (h0 : keys ≠ []) (h15 : keys.length ≤ 15) : DE X W0 (.Dict keys values pos) (dDisp Ts) :=
  (pe_disp h hall hl h0 h15).imp fun σ H Q ⟨W, env, S, P, hW, sim, er, ht, post⟩ p hp => by
    refine lift_pairs (hW.trans (.lay hp)) (sim.lay hp) er ht fun ps S' W' H' us ⟨ks, e, nd, h15, q⟩ s l ra rb => ?_
    obtain ⟨hB, hm, hH⟩ := l.stays (sim.free hp) (fun z => sim.dom p z hp) upd_same
    have lus : us.length = ps.length := by simpa using ra.length
    have lks : ks.length = ps.length := by simpa using (congrArg List.length e).symm
    have lzip : ks.length = (us.map (·.2)).length := by rw [List.length_map, lus, lks]
    have ek : (ks.zip (us.map (·.2))).map (·.1) = ks := List.map_fst_zip (by omega)
    refine ⟨hH, ks.zip (us.map (·.2)), keys_us ra e, by rw [List.length_zip]; omega, ?_⟩
    rw [merge_new _ [] (by simpa [ek] using nd), List.nil_append]
    have s2 := (s.beside (o := .dK (ks.zip (us.map (·.2)))) hB hm).adopt hB hm upd_same
    exact post _ _ _ _ _ q s2 ((Stp.lay hp).trans l |>.over hp hB) (.dct (.inl upd_same) lzip (rb.mono (Wd.le_put hB)))
/-! ### dicts of the written part -/
structure KTab (P : Program) (w : World) (K : PySem.W.Frag) (a : Addr) (ks : List Key) (ds : List D) : Prop where
  ex : ∃ (vs : List V) (us : List (Key × Value)), ks.length = vs.length ∧ (∀ W, Reps K W vs ds) ∧ KV (ks.zip vs) us ∧ ks.length ≤ 1000 ∧ (a == sysModules) = false ∧ ∀ h : Heap, K.In h → h.DictOf (mixKind P w) a us
/-- dict(NAME) -/
theorem call_kcopy {a : Addr} {ks : List Key} {ds : List D} {vs : List V} {us : List (Key × Value)} (hl : ks.length = vs.length) (kv : KV (ks.zip vs) us) (hk : ks.length ≤ 1000) (hs : (a == sysModules) = false) (hd : ∀ h : Heap, X.K.In h → h.DictOf (mixKind X.prog X.w) a us) :
    CallR X (.type "dict") (fun xs H Q => xs = [.ref a] ∧ ∀ p, H p = none → Q (.ref p) (upd H p (.dK (ks.zip vs)))) := by
  rintro pins s σ H xs gs Q I r ⟨rfl, q⟩
  obtain ⟨u, rfl, ru⟩ := r.one
  cases ru
  have lz : (ks.zip vs).length ≤ sizeLine := Nat.le_trans (by rw [List.length_zip]; omega) (show 1000 ≤ sizeLine by decide)
  refine kt_call_dict hs (hd _ I.kIn) (by rw [← Paired.length kv]; exact lz) fun h' d' sb => ?_
  have low : (s.heap.objs.size == sysModules) = false := beq_eq_false_iff_ne.mpr (Nat.ne_of_gt I.big)
  refine ⟨.ref s.heap.objs.size, _, I.laid (t' := s.toks) (fun b u e => ?_) (Nat.le_refl _) (o := .dK (ks.zip vs)) ⟨lz, low, us, kv, d'⟩, rfl, q _ I.fresh⟩
  rw [sb.2 b (Nat.ne_of_lt (Heap.lt_size e))]
  exact Heap.get?_push_of_some _ e
def dNewD (ks : List Key) (ds : List D) : DTE := fun _ S P => P (.dct ks ds) S
theorem de_kcopy {x : Str} {a : Addr} {ks : List Key} {ds : List D} {p pos' : Pos} (tab : KTab X.prog X.w X.K a ks ds) (hx : Gl X x) (hm : X.mg x = some (.ref a)) (hg : Gl X "dict") (hmd : X.mg "dict" = none) (hdb : (x == ("__debug__" : Str)) = false := by decide) :
    DE X W0 (.Call (.Name "dict" p) [.Name x pos'] [] pos) (dNewD ks ds) := by
  obtain ⟨vs, us, hl, hr, kv, hk, hs, hd⟩ := tab.ex
  refine (pe_callTy (call_kcopy (ds := ds) hl kv hk hs hd) hg hmd (by decide +kernel) (pa_cons (pe_glob (v := .ref a) hx hm rfl hdb) pa_nil)).imp fun σ H Q ⟨W, env, S, P, hW, sim, er, ht, post⟩ => ⟨rfl, fun q hq => ?_⟩
  exact post _ _ _ _ _ ht (sim.put hq) (.put sim hq) (.dct (.inl upd_same) hl (hr _))
/-- NAME[e] -/
structure KGet (w : World) (K : PySem.W.Frag) (a : Addr) (ks : List Key) (ds : List D) : Prop where
  get : ∀ (z : Str) d, dlook ks ds (.inr z) = some d → ∃ v, KDct K w a z v ∧ ∀ W, Rep K W v d
def xKix (ks : List Key) (ds : List D) (P : D → Prop) (y : D) : Prop := ∃ z d, y = .str z ∧ dlook ks ds (.inr z) = some d ∧ P d
def dKix (ks : List Key) (ds : List D) (Tb : DTE) : DTE := fun env S P => Tb env S fun y S1 => xKix ks ds (fun d => P d S1) y
theorem de_kix {x : Str} {a : Addr} {ks : List Key} {ds : List D} {b : Expr} {Tb : DTE} {pos' : Pos} (tab : KGet X.w X.K a ks ds) (hx : Gl X x) (hm : X.mg x = some (.ref a)) (hb : DE X W0 b Tb) (hs : PlainIx b) (hdb : (x == ("__debug__" : Str)) = false := by decide) :
    DE X W0 (.Subscript (.Name x pos') b pos) (dKix ks ds Tb) :=
  (pe_ix ix_kdict (pe_glob (v := .ref a) hx hm rfl hdb) hb hs).imp fun σ H Q ⟨W, env, S, P, hW, sim, er, ht, post⟩ => ⟨W, env, S, _, hW, sim, er, ht, fun y S1 W1 H1 v1 ⟨z, d, e, hd, q⟩ s1 l1 r1 => by
    subst e
    obtain ⟨v, hk, hr⟩ := tab.get z d hd
    exact ⟨a, z, v, rfl, r1.strV, hk, post _ _ W1 H1 _ q s1 l1 (hr W1)⟩⟩
/-! ### their steps -/
section
variable {env : Ev} {S : Sto} {P : DP} {Ta Tb : DTE} {x y d : D} {ks : List Key} {ds : List D} {k : Key}
theorem i_kix (q : Tb env S fun y S1 => xKix ks ds (fun d => P d S1) y) : dKix ks ds Tb env S P := q
theorem i_xkix {F : D → Prop} {z : Str} (h : dlook ks ds (.inr z) = some d) (q : F d) : xKix ks ds F (.str z) := ⟨z, d, rfl, h, q⟩
theorem i_newD (q : P (.dct ks ds) S) : dNewD ks ds env S P := q
theorem i_dget (q : Ta env S fun x S1 => Tb env S1 fun y S2 => xDget (fun d => P d S2) x y) : dDget Ta Tb env S P := q
theorem i_xdget {F : D → Prop} (hk : keyOf y = some k) (h : dlook ks ds k = some d) (q : F d) : xDget F (.dct ks ds) y := ⟨ks, ds, k, d, rfl, hk, h, q⟩
theorem i_dget1 (q : Ta env S fun x S1 => (∃ ks ds, x = .dct ks ds) ∧ Tb env S1 fun y S2 => xDget1 (fun d => P d S2) x y) : dDget1 Ta Tb env S P := q
theorem i_dd {A : Prop} (q : A) : (∃ ks' ds', D.dct ks ds = .dct ks' ds') ∧ A := ⟨⟨ks, ds, rfl⟩, q⟩
theorem i_xdget1 {F : D → Prop} (hk : keyOf y = some k) (q : F ((dlook ks ds k).getD .non)) : xDget1 F (.dct ks ds) y := ⟨ks, ds, k, rfl, hk, q⟩
theorem i_disp {Ts : List (DTE × DTE)} (q : dPairs Ts env S (xDisp P)) : dDisp Ts env S P := q
theorem i_pnil {F : List (D × D) → Sto → Prop} (q : F [] S) : dPairs [] env S F := q
theorem i_pcons {F : List (D × D) → Sto → Prop} {T1 T2 : DTE} {Ts : List (DTE × DTE)} (q : T1 env S fun k S1 => T2 env S1 fun v S2 => dPairs Ts env S2 fun ps S3 => F ((k, v) :: ps) S3) : dPairs ((T1, T2) :: Ts) env S F := q
theorem i_xdisp {ps : List (D × D)} (h1 : ps.map (fun q => keyOf q.1) = ks.map some) (h2 : ks.Nodup) (h3 : ks.length ≤ 15) (q : P (.dct ks (ps.map (·.2))) S) : xDisp P ps S := ⟨ks, h1, h2, h3, q⟩
end
end
end DL

namespace DL
open PySem PySem.Spec PyProof.Rows L2
/-! ### defs that hand back a list of their own -/
abbrev DSpN := List D → Sto → (List D → Sto → Prop) → Prop
def liftSpN (K : PySem.W.Frag) (sp : DSpN) : Sp := fun vs H Q _ => ∃ W ds S P, Sim K W S H ∧ Reps K W vs ds ∧ sp ds S P ∧ PostL K W H P Q
def FnN (P : Program) (w : World) (K : PySem.W.Frag) (mg : Str → Option Value) (base : Heap) (x : Str) (k : Nat) (ps : List Str) (sp : DSpN) : Prop :=
  ∃ (f : Addr) (fd : FuncData), mg x = some (.ref f) ∧ PySem.W.keepIn K (.ref f) = true ∧ Binds K fd ps [] ∧ FnOk P w K mg base CX0 k f fd ps (liftSpN K sp)
theorem fnN_at {P : Program} {w : World} {K : PySem.W.Frag} {mg : Str → Option Value} {base : Heap} {x : Str} {st : Stmt} {ps : List Str} {k : Nat} {sp : DSpN} (h : At K mg x st ps) (ok : ∀ f fd, Fun K x x st f fd → FnOk P w K mg base CX0 k f fd ps (liftSpN K sp)) : FnN P w K mg base x k ps sp := by
  obtain ⟨f, fd, h1, h2, h3⟩ := h.ex
  exact ⟨f, fd, h1, h2.kp, h3, ok f fd h2⟩
section
variable {X : Cx} {W0 : Bs} {e : Expr} {es : List Expr} {TR : DTA} {pos p : Pos}
theorem dn_fn {x : Str} {k : Nat} {ps : List Str} {sp : DSpN} (h : FnN X.prog X.w X.K X.mg X.base x k ps sp) (hr : Room k X.A) (hg : Gl X x) (ha : DA X W0 (e :: es) TR) (hdb : (x == ("__debug__" : Str)) = false := by decide) (he : starEach (e :: es) X.env = (false, eval e X.env) :: starEach es X.env := by rfl) (hpl : (backTo pos (starEach es X.env)).any (·.1) = false := by rfl) :
    DN X W0 (.Call (.Name x p) (e :: es) [] pos) (dCallN sp TR) := by
  obtain ⟨f, fd, h1, h2, h3, h4⟩ := h
  refine (pe_call h4 hr hg h1 h2 h3 .nil pass0 ha hdb he hpl).imp fun σ H Q ⟨W, env, S, P, hW, sim, er, ht, post⟩ => ⟨W, env, S, _, hW, sim, er, ht, fun ds S1 W1 H1 vs q s l r => ?_⟩
  show liftSpN X.K sp (vs ++ []) H1 Q E0
  rw [List.append_nil]
  exact ⟨W1, ds, S1, P, s, r, q, post.mono l⟩
end
theorem de_gint {X : Cx} {W0 : Bs} {x : Str} {n : Int} {pos : Pos} (hg : Gl X x) (h : ∃ t, X.mg x = some (.int n t)) (hd : (x == ("__debug__" : Str)) = false := by decide) : DE X W0 (.Name x pos) (dC (.int n)) := by
  obtain ⟨t, h⟩ := h
  exact de_glob (v := .int n) hg h ⟨t, rfl⟩ (fun _ => .int n) hd
theorem at0 {α : Type} (x : α) (xs : List α) : L2.atI (x :: xs) 0 = some x := atI_nat (j := 0) rfl
/-- the end: a list that the store got here is handed back, what else it got is dropped -/
def atExitN (S0 : Sto) (P : List D → Sto → Prop) : DP := fun d S' => ∃ S1 T ds i, S' = S1 ++ T ∧ S1.length = S0.length ∧ (∀ o ∈ S1, o ∈ S0 ∨ o.under S1.length = true) ∧ d = .ref i ∧ S1.length ≤ i ∧ S'[i]? = some (.lst ds) ∧ unders S1.length ds = true ∧ P ds S1
theorem PostL.exit {K : PySem.W.Frag} {W : Wd} {S : Sto} {H : Hp} {P : List D → Sto → Prop} {Q : VK} (s : Sim K W S H) (post : PostL K W H P Q) : Post K W H (atExitN S P) Q := by
  rintro d S' W' H' v ⟨S1, T, ds, i, rfl, hl, ho, rfl, hi, hS, hd, q⟩ s' l r
  have hb : ∀ o ∈ S1, o.under S1.length = true := fun o h => (ho o h).elim (fun z => by rw [hl]; exact s.under o z) id
  cases r with
  | @ref _ a ha =>
    obtain ⟨hB, vs, hH, rr⟩ := s'.obj i a _ ha hS
    have away : a ∉ W'.m.take S1.length := fun z => by
      obtain ⟨j, hj⟩ := List.getElem?_of_mem z
      have hjl : j < S1.length := by
        have := (List.getElem?_eq_some_iff.mp hj).1
        rw [List.length_take] at this
        omega
      rw [List.getElem?_take_of_lt hjl] at hj
      have := one_place _ s'.nd _ _ _ hj ha
      omega
    have lc := l.cut (k := S1.length) (by rw [s.len, hl]; exact Nat.le_refl _)
    have fresh : Fre H a := by
      rcases l.newm a (List.mem_of_getElem? ha) with z | z
      · obtain ⟨j, hj⟩ := List.getElem?_of_mem z
        exact absurd (List.mem_of_getElem? (lc.le.pre j a hj)) away
      · exact z
    exact post ds S1 (W'.cut S1.length) H' a vs q (s'.cut hb) lc fresh hB away hH (rr.cutW hd)
def exitEN (S0 : Sto) (P : List D → Sto → Prop) : DEnds := { nx := fun _ _ => False, rt := atExitN S0 P }
theorem fn_dN {P : Program} {w : World} {K : PySem.W.Frag} {mg : Str → Option Value} {base : Heap} {x qual : Str} {st : Stmt} {f : Addr} {fd : FuncData} {N ps : List Str} {k : Nat} {sp : DSpN} (F : Fun K x qual st f fd) (S : FnScope N ps (defScope st))
    (len : ∀ ds S P, sp ds S P → ds.length = ps.length)
    (body : ∀ (X : Cx) (W0 : Bs) (cdv : Value) (A : Around) (outer : List Env) (s : Shared) (H : Hp) (E : XK), X = (cxOf CX0 P w K mg base N qual (defScope st) f cdv A outer s H E).nox → Room k X.A →
      ∃ T : DTS, DSs X W0 (defBody st) T ∧ ∀ ds S P, sp ds S P → T (exitEN S P) (startE N ds) S) : FnOk P w K mg base CX0 (k + 1) f fd ps (liftSpN K sp) := by
  refine F.ok S (fun vs H Q E ⟨W, ds, S, P, _, r, q, _⟩ => by rw [r.length]; exact len ds S P q) fun cdv A outer s H vs Q E hr h => ?_
  obtain ⟨W, ds, S, P, sim, r, q, post⟩ := h
  obtain ⟨T, hT, hq⟩ := body _ { W := W, H := H } cdv A outer s H E rfl hr
  exact ⟨_, hT, W, startE N ds, S, _, Stp.refl, sim, EnvR.start r, hq ds S P q, ⟨fun _ _ _ _ _ z => z.elim, post.exit sim, fun _ _ _ _ _ z => z.elim, fun _ _ _ _ _ z => z.elim⟩⟩
theorem exitN_one {S : Sto} {P : List D → Sto → Prop} {ds : List D} (h : ∀ n, unders n ds = true) (q : P ds S) : atExitN S P (.ref S.length) (S ++ [.lst ds]) :=
  ⟨S, [.lst ds], ds, S.length, rfl, rfl, fun o ho => .inl ho, rfl, Nat.le_refl _, by rw [List.getElem?_append_right (Nat.le_refl _), Nat.sub_self]; rfl, h _, q⟩
end DL

namespace DL
open PySem PySem.Spec PyProof.Rows L2
/-! ### isinstance(x, (T1, T2)) -/
def kit2 (u n1 n2 : String) : Option Bool := match kitB u n1 with
  | some true => some true
  | some false => kitB u n2
  | none => none
theorem kit2_any {K : PySem.W.Frag} {u n1 n2 : String} {k : Bool} (h : kit2 u n1 n2 = some k) : PySem.W.kitAny K (.type u) [.type n1, .type n2] = some k := by
  unfold kit2 at h
  cases h1 : kitB u n1 with
  | none => rw [h1] at h; cases h
  | some b =>
    have e1 := kit_ty (K := K) h1
    rw [h1] at h
    cases b with
    | true =>
      cases h
      simp only [PySem.W.kitAny, e1]
    | false =>
      have e2 := kit_ty (K := K) (show kitB u n2 = some k from h)
      simp only [PySem.W.kitAny, e1, e2]
      cases k <;> rfl
def dIsi2 (n1 n2 : String) (T : DTE) : DTE := fun env S P => T env S fun d S1 => ∃ u k, tyOf S1 d = some u ∧ kit2 u n1 n2 = some k ∧ P (.bl k) S1
theorem de_isi2 {X : Cx} {W0 : Bs} {e : Expr} {T : DTE} {x1 x2 : Str} {n1 n2 : String} {z : _} {p p1 p2 p3 pos : Pos} (he : DE X W0 e T) (hg : Gl X "isinstance") (hm : X.mg "isinstance" = none) (hb : bootBuiltins "isinstance" = some (.builtin "isinstance"))
    (g1 : Gl X x1) (m1 : X.mg x1 = none) (b1 : bootBuiltins x1 = some (.type n1)) (g2 : Gl X x2) (m2 : X.mg x2 = none) (b2 : bootBuiltins x2 = some (.type n2))
    (hn1 : x1 ≠ "__name__" := by decide) (hd1 : (x1 == ("__debug__" : Str)) = false := by decide) (hn2 : x2 ≠ "__name__" := by decide) (hd2 : (x2 == ("__debug__" : Str)) = false := by decide)
    (hs : starEach (e :: [Expr.Tuple [.Name x1 p1, .Name x2 p2] z p3]) X.env = (false, eval e X.env) :: starEach [Expr.Tuple [.Name x1 p1, .Name x2 p2] z p3] X.env := by rfl) :
    DE X W0 (.Call (.Name "isinstance" p) [e, .Tuple [.Name x1 p1, .Name x2 p2] z p3] [] pos) (dIsi2 n1 n2 T) := by
  have pT : PE X (.Tuple [.Name x1 p1, .Name x2 p2] z p3) _ := pe_tup (pa_cons (pe_bltn g1 m1 b1 (v := .ty n1) rfl hn1 hd1) (pa_cons (pe_bltn g2 m2 b2 (v := .ty n2) rfl hn2 hd2) pa_nil))
  refine (pe_callB call_isiT hg hm hb (pa_cons he (pa_cons pT pa_nil) hs) (he := hs)).imp fun σ H Q ⟨W, env, S, P, hW, sim, er, ht, post⟩ => ⟨W, env, S, _, hW, sim, er, ht, fun d S1 W1 H1 v ⟨u, k, hty, hk, q⟩ s l r => ?_⟩
  refine ⟨sz_le (by simp), fun a ha => ?_⟩
  have s' := s.put (o := .tup [.ty n1, .ty n2]) ha
  have r' := r.mono (Wd.le_put (o := .tup [.ty n1, .ty n2]) (s.free ha))
  exact ⟨v, a, [.ty n1, .ty n2], .type u, [.type n1, .type n2], k, rfl, upd_same, .cons (.ty n1) (.cons (.ty n2) .nil), r'.tyx s' hty, kit2_any hk, (post.mono l) _ _ _ _ _ q s' (.put s ha) (.bl k)⟩
theorem i_isi2 {env : Ev} {S : Sto} {P : DP} {n1 n2 : String} {T : DTE} (q : T env S fun d S1 => ∃ u k, tyOf S1 d = some u ∧ kit2 u n1 n2 = some k ∧ P (.bl k) S1) : dIsi2 n1 n2 T env S P := q
/-- a def whose end keeps what the store got -/
def exitK (P : DP) : DEnds := { nx := fun _ _ => False, rt := P }
theorem fn_dK {P : Program} {w : World} {K : PySem.W.Frag} {mg : Str → Option Value} {base : Heap} {x qual : Str} {st : Stmt} {f : Addr} {fd : FuncData} {N ps : List Str} {k : Nat} {sp : DSp} (F : Fun K x qual st f fd) (S : FnScope N ps (defScope st))
    (len : ∀ ds S P, sp ds S P → ds.length = ps.length)
    (body : ∀ (X : Cx) (W0 : Bs) (cdv : Value) (A : Around) (outer : List Env) (s : Shared) (H : Hp) (E : XK), X = (cxOf CX0 P w K mg base N qual (defScope st) f cdv A outer s H E).nox → Room k X.A →
      ∃ T : DTS, DSs X W0 (defBody st) T ∧ ∀ ds S P, sp ds S P → T (exitK P) (startE N ds) S) : FnOk P w K mg base CX0 (k + 1) f fd ps (liftSp K sp) := by
  refine F.ok S (fun vs H Q E ⟨W, ds, S, P, _, r, q, _⟩ => by rw [r.length]; exact len ds S P q) fun cdv A outer s H vs Q E hr h => ?_
  obtain ⟨W, ds, S, P, sim, r, q, post⟩ := h
  obtain ⟨T, hT, hq⟩ := body _ { W := W, H := H } cdv A outer s H E rfl hr
  exact ⟨_, hT, W, startE N ds, S, _, Stp.refl, sim, EnvR.start r, hq ds S P q, ⟨fun _ _ _ _ _ z => z.elim, post, fun _ _ _ _ _ z => z.elim, fun _ _ _ _ _ z => z.elim⟩⟩
/-- == of what may be laid -/
theorem i_eqSame {g : Bool → Bool} {S : Sto} {P : DP} {n : Nat} {xs : List D} {q : PyData} (h : pyOf S n (.tup xs) = some q) (hl : q.canLay0 = true) (hd : q.depth ≤ 64) (p : P (.bl (g true)) S) : dEqG g (.tup xs) (.tup xs) S P := by
  have hs : SeqAt.shaped q = true := by
    unfold SeqAt.shaped
    rw [hl, decide_eq_true hd]
    rfl
  exact ⟨n, q, q, h, h, hs, hs, by rw [SeqAt.eqv_refl q hl]; exact p⟩
end DL

/-! comprehensions, a clause at a time -/
namespace SC
open PySem PySem.Spec PyProof.Rows L2

def tests (ifs : List Expr) (env : Env) : Sem Bool :=
  forIn ifs true fun c r => if r = true then do let ok ← isTrue c env (eval c env); pure (ForInStep.yield ok) else pure (ForInStep.yield r)
/-- one turn of a clause: the item, its store, the tests, then inner -/
def oneTurn (p : Pos) (tg : Expr) (ifs : List Expr) (inner : Sem Fin) (it : Value) (env : Env) (c : Code) : Sem Fin := do
  standAt p
  let r ← pyNext it
  match r with
  | none => pure (.done .next)
  | some v =>
    letOwnedTupleGo tg it v
    assign tg env v
    let ok ← tests ifs env
    if ok then inner else again c
abbrev Fls : Value → Shared → Prop := fun _ _ => False
theorem oneTurn_wp {M : Model} {A : Around} {p : Pos} {tg : Expr} {ifs : List Expr} {inner : Sem Fin} {it : Value} {env : Env} {c : Code} {E : Value → Shared → Prop} {s : Shared} {Rn Nx : Shared → Prop}
    (h : wpAny M A (pyNext it) (fun r s1 => match r with
      | none => Rn s1
      | some v => wpAny M A (letOwnedTupleGo tg it v) (fun _ s2 => wpAny M A (assign tg env v) (fun _ s3 => wpAny M A (tests ifs env) (fun ok s4 => if ok = true then wpAny M A inner (fun fin s5 => fin = .again c ∧ Nx s5) Fls s4 else Nx s4) Fls s3) Fls s2) Fls s1) Fls s) :
    wpAny M A (oneTurn p tg ifs inner it env c) (fun fin s' => match fin with | .done f => f = .next ∧ Rn s' | .again c' => c' = c ∧ Nx s') E s := by
  unfold oneTurn
  refine wpAny_bind (wpAny_standAt (wpAny_bind (thnF h fun r s1 h1 => ?_)))
  cases r with
  | none => exact wpAny_pure ⟨rfl, h1⟩
  | some v =>
    refine wpAny_bind (thnF h1 fun _ s2 h2 => wpAny_bind (thnF h2 fun _ s3 h3 => wpAny_bind (thnF h3 fun ok s4 h4 => ?_)))
    cases ok with
    | false => exact wpAny_pure ⟨rfl, h4⟩
    | true =>
      refine thnF h4 fun fin s5 h5 => ?_
      obtain ⟨rfl, h5⟩ := h5
      exact ⟨rfl, h5⟩

/-- σ' knows what σ knows -/
structure Kn (σ σ' : L2.St) : Prop where
  len : σ.length = σ'.length
  get : ∀ (j : Nat) v, σ[j]? = some (some v) → σ'[j]? = some (some v)
abbrev TInn := L2.St → Hp → (Hp → Prop) → Prop
/-- a clause's loop over J from the slots σ0 -/
def lev (J : It) (g : TG) (tt : TT) (ti : TInn) (σ0 : L2.St) (Qe : Hp → Prop) (H : Hp) : Prop := ∃ W : Nat → Nat → Hp → Prop, (∃ m, W 0 m H) ∧ ∀ i m H, W i m H →
  (J.stop i H ∧ Qe H) ∨ (J.go i H ∧ ∃ Nx : Hp → Prop, (∀ H', Nx H' → ∃ m', m' < m ∧ W (i + 1) m' H') ∧ ∀ x H', J.yld i H x H' → g x σ0 H' fun σ2 H2 => Kn σ0 σ2 ∧ tt σ2 H2 fun b H3 => if b = true then ti σ2 H3 Nx else Nx H3)
section
variable {Y : Cx}
theorem thnX {α : Type} {t : Sem α} {Q Q' : α → Shared → Prop} {M : Model} {A : Around} {E E' : Value → Shared → Prop} {s : Shared} (hx : E' = Fls) (h : wpAny M A t Q E' s) (hQ : ∀ a s, Q a s → Q' a s) : wpAny M A t Q' E s := by
  subst hx
  exact thnF h hQ
theorem level (hc : Y.calm = true) (hx : Y.xe = Fls) {elt : Expr} {gens : List Comprehension} {scope : Scope} {pos : Pos} {d : Nat} {p : Pos} {tg : Expr} {ifs : List Expr} {inner : Sem Fin} {acc : Value} {it : Addr} {fp : List Addr} {tn : Nat → Heap → Prop} {J : It} {g : TG} {tt : TT} {ti : TInn} {pins : List (Addr × Obj)} {σ0 : L2.St} {Qe : Hp → Prop} {R : Result → Shared → Prop}
    (hT : compTurn (.SetComp elt gens scope pos) d (.ref it) acc Y.env = oneTurn p tg ifs inner (.ref it) Y.env (.compLoop (.SetComp elt gens scope pos) d (.ref it) acc Y.env))
    (T : Turn Y.prog Y.w Y.K tg J fp it tn) (pg : PG Y tg g) (pt : PTs Y ifs tt)
    (inn : ∀ (pl : List (Addr × Obj)) (s : Shared) (σ : L2.St) (H : Hp) (N : Hp → Prop), Kn σ0 σ → Inv Y (pins ++ pl) σ H s → ti σ H N → wpAny (model Y.prog Y.w) Y.A inner (fun fin s' => fin = .again (.compLoop (.SetComp elt gens scope pos) d (.ref it) acc Y.env) ∧ ∃ H', Inv Y (pins ++ pl) σ0 H' s' ∧ N H') Fls s)
    (ex : ∀ {σ : L2.St} {H : Hp} {s : Shared}, Inv Y pins σ H s → (∀ b ∈ fp, H b = none) → ∀ b ∈ fp, FpOk Y pins H b)
    (hR : ∀ s' H', Inv Y pins σ0 H' s' → Qe H' → R (.ok .next) s')
    {s : Shared} {H : Hp} (I : Inv Y pins σ0 H s) (st : tn 0 s.heap) (hn : ∀ b ∈ fp, H b = none) (lv : lev J g tt ti σ0 Qe H) :
    codeAny (model Y.prog Y.w) Y.A (.compLoop (.SetComp elt gens scope pos) d (.ref it) acc Y.env) R s := by
  obtain ⟨W, ⟨m0, w0⟩, turn⟩ := lv
  refine codeAny_loop rfl (fun n z => ∃ i G, Inv Y pins σ0 G z ∧ tn i z.heap ∧ (∀ b ∈ fp, G b = none) ∧ W i n G) ?_ m0 ⟨0, H, I, st, hn, w0⟩
  rintro n z ⟨i, G, IG, sz, nz, wz⟩
  show wpAny _ Y.A (Sem.onRaise (compTurn (.SetComp elt gens scope pos) d (.ref it) acc Y.env) _) _ _ z
  refine wpAny_noted ?_
  rw [hT]
  refine wpAny_mono (oneTurn_wp (Rn := fun s' => R (.ok .next) s') (Nx := fun s' => ∃ m, m < n ∧ ∃ i G, Inv Y pins σ0 G s' ∧ tn i s'.heap ∧ (∀ b ∈ fp, G b = none) ∧ W i m G) (E := fun _ _ => False) ?_) (fun fin s' q => ?_) fun _ _ f => f.elim
  · rcases turn i n G wz with ⟨stop, qe⟩ | ⟨go, Nx, hNx, step⟩
    · refine thnF (T.done Y rfl rfl rfl hc i pins z σ0 G Fls IG (ex IG nz) sz stop) fun r s1 ⟨er, I1⟩ => ?_
      subst er
      exact hR s1 G I1 qe
    · refine thnF (T.item Y rfl rfl rfl hc i pins z σ0 G Fls IG (ex IG nz) sz go) fun r s1 ⟨u, er, h1⟩ => ?_
      subst er
      refine thnF h1 fun _ s2 ⟨x, H2, I2, r2, y2, st2, n2⟩ => ?_
      have IP := I2.pinned (ex I2 n2) (T.obj _ _ st2)
      have fin : ∀ (s' : Shared), (∃ H', Inv Y (pins ++ pinsAt fp s2.heap) σ0 H' s' ∧ Nx H') → ∃ m, m < n ∧ ∃ i G, Inv Y pins σ0 G s' ∧ tn i s'.heap ∧ (∀ b ∈ fp, G b = none) ∧ W i m G := by
        rintro s' ⟨H', I', nx⟩
        obtain ⟨m', hm, w'⟩ := hNx H' nx
        have still : ∀ b ∈ fp, ∀ o, s2.heap.get? b = some o → s'.heap.get? b = some o ∧ H' b = none := fun b hb o e =>
          have q := I'.pin (b, o) (List.mem_append_right _ (List.mem_append_right _ (mem_pinsAt hb e)))
          ⟨q.1, q.2.1⟩
        exact ⟨m', hm, i + 1, H', I'.unpinned, T.keep _ _ _ st2 fun b hb o e => (still b hb o e).1, fun b hb => by
          obtain ⟨o, e, _⟩ := T.obj _ _ st2 b hb
          exact (still b hb o e).2, w'⟩
      refine thnX hx (pg.run _ s2 σ0 H2 x u _ IP r2 (step x H2 y2)) fun _ s3 ⟨σ3, H3, I3, kn, q3⟩ => ?_
      refine thnX hx (pt.run _ s3 σ3 H3 _ I3 q3) fun b s4 ⟨H4, I4, q4⟩ => ?_
      cases b with
      | false => exact fin s4 ⟨H4, I4.weak kn.len kn.get, by simpa using q4⟩
      | true =>
        simp only [if_true] at q4 ⊢
        exact thnF (inn _ s4 σ3 H4 Nx kn I4 q4) fun _ s5 q5 => ⟨q5.1, fin s5 q5.2⟩
  · cases fin with
    | done f =>
      obtain ⟨rfl, q⟩ := q
      exact q
    | again c' => exact q
end
end SC

/-! a set of ints by two clauses -/
namespace SC
open PySem PySem.Spec PyProof.Rows L2

abbrev two (elt t0 i0 : Expr) (f0 : List Expr) (t1 i1 : Expr) (f1 : List Expr) (scope : Scope) (pos : Pos) : Expr := .SetComp elt [⟨t0, i0, f0, 0⟩, ⟨t1, i1, f1, 0⟩] scope pos
def put (elt : Expr) (acc : Value) (env : Env) (c : Code) : Sem Fin := do
  (do let v ← eval elt env; standAt elt.pos; let _ ← call (.builtin "set.add") [acc, v])
  again c
def deeper (e i1 : Expr) (acc : Value) (env : Env) (c : Code) : Sem Fin := do
  let x ← eval i1 env
  standAt i1.pos
  let y ← foldedSetIterable i1 env x
  let _ ← runOwn (.compStart e 1 (← holding [y] (pyIter y)) acc env) env
  again c
section
variable {elt t0 i0 t1 i1 : Expr} {f0 f1 : List Expr} {scope : Scope} {pos : Pos} {it acc : Value} {env : Env}
theorem turn0 : compTurn (two elt t0 i0 f0 t1 i1 f1 scope pos) 0 it acc env = oneTurn i0.pos t0 f0 (deeper (two elt t0 i0 f0 t1 i1 f1 scope pos) i1 acc env (.compLoop (two elt t0 i0 f0 t1 i1 f1 scope pos) 0 it acc env)) it env (.compLoop (two elt t0 i0 f0 t1 i1 f1 scope pos) 0 it acc env) := rfl
theorem turn1 : compTurn (two elt t0 i0 f0 t1 i1 f1 scope pos) 1 it acc env = oneTurn i1.pos t1 f1 (put elt acc env (.compLoop (two elt t0 i0 f0 t1 i1 f1 scope pos) 1 it acc env)) it env (.compLoop (two elt t0 i0 f0 t1 i1 f1 scope pos) 1 it acc env) := rfl
variable {prog : Program} {w : World} {A : Around} {R : Result → Shared → Prop} {s : Shared}
theorem start1 (h0 : codeAny (model prog w) A (.compLoop (two elt t0 i0 f0 t1 i1 f1 scope pos) 1 it acc env) R s)
    (h : wpAny (model prog w) A (pyIter it) (fun j s' => codeAny (model prog w) A (.compLoop (two elt t0 i0 f0 t1 i1 f1 scope pos) 1 j acc env) R s') Fls s) :
    codeAny (model prog w) A (.compStart (two elt t0 i0 f0 t1 i1 f1 scope pos) 1 it acc env) R s := by
  refine codeAny_of_tree ?_
  show wpAny _ _ (Sem.onRaise (compStart (two elt t0 i0 f0 t1 i1 f1 scope pos) 1 it acc env) (fun x => do noteFrame x env; standAt theWindowsPlace)) _ _ s
  refine wpAny_notedAt ?_
  unfold compStart
  show wpAny _ _ (ask >>= _) _ _ s
  refine wpAny_bind (wpAny_askSetting (wpAny_ite ?_))
  split
  · first
      | exact wpAny_pure (And.intro rfl h0)
      | exact wpAny_bind (wpAny_pure (wpAny_pure (And.intro rfl h0)))
  · refine wpAny_bind (wpAny_rule ?_)
    first
      | exact wpAny_bind (wpAny_standAt (wpAny_bind (thnF h fun j s' q => wpAny_pure (And.intro rfl q))))
      | (show wpAny _ _ (standAt i1.pos >>= _) _ _ s
         exact wpAny_bind (wpAny_standAt (wpAny_bind (thnF h fun j s' q => wpAny_pure (And.intro rfl q)))))
end

def tPut (w : World) (D : Addr) (te : TE) : TInn := fun σ H N => te σ H fun y H4 => ∃ (c : Int) (S : Int → Bool) (n : Nat), y = .int c ∧ H4 D = some (SetO w D S n) ∧ n + 1 < scanBound ∧ N (upd H4 D (SetO w D (fun j => S j || decide (j = c)) (if S c = true then n else n + 1)))
def tDeep (wi1 : TI) (g1 : TG) (tt1 : TT) (ti : TInn) (vs1 : List Nat) : TInn := fun σ H N => wi1 σ H fun J1 H4 => lev J1 g1 tt1 ti (wipe σ vs1) N H4
def tSc2 (w : World) (wi : TI) (g : TG) (tt : TT) (wi1 : TI) (g1 : TG) (tt1 : TT) (te : TE) (vs vs1 : List Nat) : TE := fun σ H Q => wi σ H fun J H1 => ∀ D, H1 D = none →
  lev J g tt (tDeep wi1 g1 tt1 (tPut w D te) vs1) (wipe σ vs) (Q (.ref D)) (upd H1 D (SetO w D (fun _ => false) 0))

section
variable {Y : Cx}
theorem put_ok (hx : Y.xe = Fls) {elt : Expr} {te : TE} {D : Addr} (pe : PE Y elt te) {c : Code} {σ0 σ : L2.St} {pins : List (Addr × Obj)} {s : Shared} {H : Hp} {N : Hp → Prop} (kn : Kn σ0 σ) (I : Inv Y pins σ H s) (q : tPut Y.w D te σ H N) :
    wpAny (model Y.prog Y.w) Y.A (put elt (.ref D) Y.env c) (fun fin s' => fin = .again c ∧ ∃ H', Inv Y pins σ0 H' s' ∧ N H') Fls s := by
  unfold put
  refine wpAny_bind (wpAny_bind (thnX hx (pe.run pins s σ H _ I q) fun v s1 ⟨y, H1, I1, r1, c, S, n, ey, hD, room, nx⟩ => ?_))
  subst ey
  obtain ⟨tk, rfl⟩ := r1
  refine wpAny_bind (wpAny_standAt (wpAny_bind (setR_add (setO_get I1 hD) room fun h' sb new => ?_)))
  have he : ∃ u, h'.get? D = some u := let ⟨o, _, _, _, ho, _⟩ := new; ⟨o, ho⟩
  exact wpAny_pure (wpAny_pure ⟨rfl, _, (I1.write (e := D) (t' := s1.toks + 1) (by rw [hD]; trivial) (.inl rfl) (fun b u hb hu => (sb.2 b hb).trans hu) he (setO_new new)).weak kn.len kn.get, nx⟩)
theorem deep_ok (hc : Y.calm = true) (hx : Y.xe = Fls) {elt t0 i0 t1 i1 : Expr} {f0 f1 : List Expr} {scope : Scope} {pos : Pos} {wi1 : TI} {g1 : TG} {tt1 : TT} {te : TE} {D : Addr} {vs1 : List Nat} {c : Code} (pi1 : PI Y t1 i1 wi1) (pg1 : PG Y t1 g1) (pt1 : PTs Y f1 tt1) (pe : PE Y elt te)
    (hs1 : ∀ x, foldedSetIterable i1 Y.env x = pure x) {σ0 σ : L2.St} (away : ∀ (j : Nat) v, σ0[j]? = some (some v) → j ∉ vs1) {pins : List (Addr × Obj)} {s : Shared} {H : Hp} {N : Hp → Prop} (kn : Kn σ0 σ) (I : Inv Y pins σ H s) (q : tDeep wi1 g1 tt1 (tPut Y.w D te) vs1 σ H N) :
    wpAny (model Y.prog Y.w) Y.A (deeper (two elt t0 i0 f0 t1 i1 f1 scope pos) i1 (.ref D) Y.env c) (fun fin s' => fin = .again c ∧ ∃ H', Inv Y pins σ0 H' s' ∧ N H') Fls s := by
  unfold deeper
  refine wpAny_bind (thnX hx (pi1.run pins s σ H _ I q) fun x s1 h1 => wpAny_bind (wpAny_standAt (wpAny_bind (wpAny_of_eq (hs1 x) ?_))))
  refine wpAny_bind (wpAny_holding (thnX hx h1 fun v s2 h2 => ?_))
  obtain ⟨it, fp, tn, J, H2, rfl, I2, T, st2, f2, lv⟩ := h2
  have kn1 : Kn σ0 (wipe σ vs1) := ⟨kn.len.trans (wipe_length σ vs1).symm, fun j v e => by rw [wipe_out (away j v e)]; exact kn.get j v e⟩
  refine wpAny_bind (wpAny_runOwn ?_)
  rw [Around.mark_none]
  have lp : codeAny (model Y.prog Y.w) Y.A (.compLoop (two elt t0 i0 f0 t1 i1 f1 scope pos) 1 (.ref it) (.ref D) Y.env) (fun r s' => match r with
      | .ok _ => ∃ H', Inv Y pins σ0 H' s' ∧ N H'
      | .error _ => False) s2 :=
    level hc hx turn1 T pg1 pt1 (fun pl s σ H N kn I q => put_ok hx pe kn I q) (fun {_ _ _} _ hn b hb => ⟨hn b hb, (f2 b hb).2⟩) (fun s' H' I' n' => ⟨H', I'.weak kn1.len kn1.get, n'⟩) (I2.weak (wipe_length _ _) fun j v e => (wipe_some e).1) st2 (fun b hb => (f2 b hb).1) lv
  refine codeAny_mono (start1 lp (T.self Y.A 0 _ _ _ st2 lp)) fun r s' hr => ?_
  cases r with
  | ok f => exact wpAny_pure ⟨rfl, hr⟩
  | error e => exact hr.elim
end
section
variable {X : Cx}
abbrev InBlk (X : Cx) (scope : Scope) (F : Cx → Prop) : Prop := ∀ (s : Shared) (H : Hp) (C : Addr) (cl : List (PySem.Str × Addr)) (fp : List Addr), F (X.blk s H scope (compEnvC scope cl C X.env) fp)
theorem pe_sc2 {elt t0 i0 t1 i1 : Expr} {f0 f1 : List Expr} {scope : Scope} {own : List (PySem.Str × Nat)} {vs1 : List Nat} {pos : Pos} {wi wi1 : TI} {g g1 : TG} {tt tt1 : TT} {te : TE} (hc : X.calm = true) (hN : X.N.Nodup) (hi : PI X t0 i0 wi) (ok : BlkOk X.N X.env.scope scope own) (hv : ∀ i ∈ vs1, i ∈ own.map (·.2))
    (hg : InBlk X scope fun Y => PG Y t0 g) (ht : InBlk X scope fun Y => PTs Y f0 tt) (hi1 : InBlk X scope fun Y => PI Y t1 i1 wi1) (hg1 : InBlk X scope fun Y => PG Y t1 g1) (ht1 : InBlk X scope fun Y => PTs Y f1 tt1) (he : InBlk X scope fun Y => PE Y elt te)
    (hs : ∀ x, foldedSetIterable i0 X.env x = pure x := by intro _; rfl) (hs1 : ∀ env x, foldedSetIterable i1 env x = pure x := by intro _ _; rfl) :
    PE X (two elt t0 i0 f0 t1 i1 f1 scope pos) (tSc2 X.w wi g tt wi1 g1 tt1 te (own.map (·.2)) vs1) := by
  refine ⟨fun pins s σ H Q I h => ?_⟩
  rw [PpSet.eval_SetComp]
  have cells : ∀ y ∈ scope.names, y.2 = .free → ∃ c, X.env.cells.lookup y.1 = some c := fun y hy e => (ok.free y hy e).elim (fun k => I.ok.has _ (.inl k)) fun k => I.ok.has _ (.inr k)
  refine wpAny_comprehension_free rfl hs (closure_ok cells) ok.kind (fun y hy e => by rw [ok.uniq y hy, e]) (thn (hi.run pins s σ H _ I h) fun x s1 h1 => thn h1 fun v s2 h2 => ?_)
  obtain ⟨it, fp, tn, J, H2, rfl, I2, T, st2, f2, q⟩ := h2
  refine PpSet.newSet_ok (newEnv_comp ?_)
  have hDn : H2 s2.heap.objs.size = none := I2.hok.fresh (Nat.le_refl _)
  have lv := q _ hDn
  generalize eo : ({ cls := .type "set", dict := none, data := .set #[] 0 (.fresh 0 0 (!X.w.params.followText "set-order")) } : Obj) = ob
  have new : SetR X.w (s2.heap.push ob) s2.heap.objs.size (fun _ => false) 0 := by
    subst eo
    exact setR_fresh X.w
  generalize eD : s2.heap.objs.size = D at hDn lv new
  have fpD : ∀ b ∈ fp, b < D := fun b hb => by
    obtain ⟨o, e, _⟩ := T.obj _ _ st2 b hb
    rw [← eD]
    exact Heap.lt_size e
  have pk : ∀ b o, s2.heap.get? b = some o → (s2.heap.push ob).get? b = some o := fun b o e => Heap.get?_push_of_some _ e
  have I3 : Inv X pins σ (upd H2 D (SetO X.w D (fun _ => false) 0)) { s2 with heap := s2.heap.push ob } := I2.laid (t' := s2.toks) pk (Nat.le_of_eq eD) (setO_new new)
  have f3 : ∀ b ∈ fp, FpOk X pins (upd H2 D (SetO X.w D (fun _ => false) 0)) b ∧ b < (s2.heap.push ob).objs.size := fun b hb =>
    ⟨⟨by rw [upd_ne (Nat.ne_of_lt (fpD b hb))]; exact (f2 b hb).1, (f2 b hb).2⟩, by rw [Heap.size_push, eD]; exact Nat.lt_succ_of_lt (fpD b hb)⟩
  have st3 : tn 0 (s2.heap.push ob) := T.keep _ _ _ st2 fun b _ o e => pk b o e
  generalize eH : upd H2 D (SetO X.w D (fun _ => false) 0) = H3 at lv I3 f3
  generalize es : ({ s2 with heap := s2.heap.push ob } : Shared) = s3 at I3
  have eh : s2.heap.push ob = s3.heap := by subst es; rfl
  rw [eh] at f3 st3
  have I4 := block_start I3 ok hN f3
  have nf : ∀ b ∈ fp, H3 b = none := fun b hb => (f3 b hb).1.1
  generalize ec : cellsFrom (s3.heap.objs.size + 1) scope.names (cloFrom X.env.cells scope.names []) = cl at I4
  generalize ee : compEnvC scope cl s3.heap.objs.size X.env = ce at I4
  have cL : ce.locals = s3.heap.objs.size := by subst ee; rfl
  generalize ey : X.blk s3 H3 scope ce fp = Y at I4
  have blk : ∀ {F : Cx → Prop}, InBlk X scope F → F Y := fun {F} k => by
    subst ey ee
    exact k s3 H3 s3.heap.objs.size cl fp
  have hYe : Y.env = ce := by subst ey; rfl
  have st4 : tn 0 (pushCells (s3.heap.push { cls := .type "dict", data := .dict #[] }) scope.names) := T.keep _ _ _ st3 fun b _ o e => pushCells_keeps _ _ _ _ (Heap.get?_push_of_some _ e)
  generalize e4 : ({ s3 with heap := pushCells (s3.heap.push { cls := .type "dict", data := .dict #[] }) scope.names } : Shared) = s4 at I4
  have e4h : pushCells (s3.heap.push { cls := .type "dict", data := .dict #[] }) scope.names = s4.heap := by subst e4; rfl
  rw [e4h] at st4
  have away : ∀ (j : Nat) v, (wipe σ (own.map (·.2)))[j]? = some (some v) → j ∉ vs1 := fun j v e z => (wipe_some e).2 (hv j z)
  have lp : codeAny (model X.prog X.w) X.A (.compLoop (two elt t0 i0 f0 t1 i1 f1 scope pos) 0 (.ref it) (.ref D) ce) (compPost (model X.prog X.w) X.A X.xe none (EP X pins σ Q) (.ref D) s3.heap.objs.size) s4 := by
    have hYc : Y.calm = true := by subst ey; exact hc
    have hYx : Y.xe = Fls := by subst ey; rfl
    have hYp : Y.prog = X.prog ∧ Y.w = X.w ∧ Y.K = X.K ∧ Y.A = X.A := by subst ey; exact ⟨rfl, rfl, rfl, rfl⟩
    have key := level (Y := Y) (pins := []) (R := compPost (model X.prog X.w) X.A X.xe none (EP X pins σ Q) (.ref D) s3.heap.objs.size) hYc hYx (turn0 (elt := elt) (t0 := t0) (i0 := i0) (t1 := t1) (i1 := i1) (f0 := f0) (f1 := f1) (scope := scope) (pos := pos) (acc := .ref D)) (by rw [hYp.1, hYp.2.1, hYp.2.2.1]; exact T) (blk hg) (blk ht)
      (fun pl s σ H N kn I q => deep_ok hYc hYx (blk hi1) (blk hg1) (blk ht1) (blk he) (hs1 _) away kn I (by rw [hYp.2.1]; exact q)) ?ex ?hR I4 st4 nf lv
    case ex =>
      intro σ' H' s' I' hn b hb
      subst ey
      exact ⟨hn b hb, (I'.ok.exf b hb).1, I'.ok.exfs b hb, .inl hb, fun x c e => (I'.ok.exf b hb).2 x c e, fun p hp => absurd (show p ∈ ([] : List (Addr × Obj)) ++ [] from hp) (by simp)⟩
    case hR =>
      intro s6 H5 I6 qq
      subst ey
      have I7 : Inv X pins σ H5 s6 := I3.call' (ch := fp) I6.os I6.base I6.hok I6.bare fun b hb => have z := (f3 b hb).1.2; ⟨z.2.2.1, z.1, z.2.2.2.1, z.2.2.2.2⟩
      have nC : H5 s3.heap.objs.size = none := by
        have z : H5 ce.locals = none := I6.free
        rwa [cL] at z
      obtain ⟨m, hn, _⟩ := I6.loc
      have hn : s6.heap.Ns ce.locals m := hn
      rw [cL] at hn
      refine ⟨m, hn, fun h'' sb => ?_⟩
      obtain ⟨g0, g1, g2, g3, g4, g5⟩ := I3.fpOk (Nat.le_refl _) nC
      exact ⟨.ref D, H5, I7.turned (t' := s6.toks) (fun b o hb e => (sb.2 b hb).trans e) g0 g1 g3 g4 g5, rfl, qq⟩
    rw [hYp.1, hYp.2.1, hYp.2.2.2, hYe] at key
    exact key
  have := PpSet.codeAny_compStart_set lp (T.self X.A 0 _ _ _ st4 lp)
  subst ee
  exact this
end
end SC

/-! set(xs) of a list of ints, walked later -/
namespace SC
open PySem PySem.Spec PyProof.Rows L2
abbrev zo (w : World) : Obj := { cls := .type "set", dict := none, data := .set #[] 0 (.fresh 0 0 (!w.params.followText "set-order")) }
section
variable {P : Program} {w : World} {A : Around} {E : Value → Shared → Prop} {s : Shared}
/-- what set.__init__ leaves of the new set -/
def Filled (w : World) (s : Shared) (ns : List Int) (r : Value) (z : Shared) : Prop := r = .none ∧ ∃ g tk c, z = { s with heap := g, toks := tk } ∧ SetR w g s.heap.objs.size (fun j => decide (j ∈ ns)) c ∧ ∀ b o, s.heap.get? b = some o → g.get? b = some o
theorem init_list {l : Addr} {items : Array Value} (ns : List Int) (hh : A.handled = none) (hl : s.heap.IsList l items) (hi : IntsAre items.toList ns) (hb : ns.length + 1 < scanBound) {QQ : PySem.Fin → Shared → Prop} (hQ : ∀ z, Filled w s ns .none z → QQ (.done (.ret .none)) z) :
    wpAny (model P w) A (Builtin.«set.__init__» ⟨[.ref s.heap.objs.size, .ref l], []⟩) QQ E { s with heap := s.heap.push (zo w) } := by
  obtain ⟨⟨oc, od, odt, osl⟩, ho, hc, nl, hd⟩ := hl
  simp only at hc hd
  subst hc hd
  have ho' : (s.heap.push (zo w)).get? l = some { cls := .type "list", dict := od, data := .seq items nl, slots := osl } := Heap.get?_push_of_some _ ho
  have il : (s.heap.push (zo w)).IsList l items := ⟨_, ho', rfl, nl, rfl⟩
  have k1 := F.sub_list_set
  have k2 := F.sub_list_frozenset
  have k3 : (Value.type "list" == Value.type "dict") = false := by decide
  unfold Builtin.«set.__init__» noKeywords Builtin.Frozenset.updateFrom
  generalize ePI : pyIter = PI
  wp_walk
  subst ePI
  refine wpAny_pyIter_list il (wpAny_bind (wpAny_runValue ?_))
  have hlS : l < s.heap.objs.size := Heap.lt_size ho
  have sz : (s.heap.push (zo w)).objs.size = s.heap.objs.size + 1 := Heap.size_push ..
  have len : items.size = ns.length := by
    have q := IntsAre.length hi
    rwa [Array.length_toList] at q
  refine set_update_ints ((Walks.list (by simp [hh]) _ l (Nat.ne_of_lt (by rw [sz]; exact Nat.lt_succ_of_lt hlS)) items).toS) s.heap.objs.size (by rw [sz]; exact fun z => (List.mem_cons.mp z).elim (fun e => Nat.ne_of_lt (Nat.lt_succ_self _) e) fun z => Nat.ne_of_gt hlS (List.mem_singleton.mp z)) ns len hb (fun i v hv => ?_) (items.size - 0) 0 _ (by omega) (Nat.zero_le _)
    ⟨⟨_, Heap.get?_push_size _ rfl, rfl, rfl⟩, il.push _⟩ ⟨0, Nat.le_refl 0, setR_new_at (Heap.get?_push_of_some _ (Heap.get?_push_size _ rfl))⟩ fun z c hm hc hS => ?_
  · have hin : i < ns.length := by
      rw [← len]
      exact (Array.getElem?_eq_some_iff.mp hv).1
    obtain ⟨t, e⟩ := IntsAre.int_at hi i v (by rw [Array.getElem?_toList]; exact hv)
    refine ⟨ns[i], t, List.getElem?_eq_getElem hin, ?_⟩
    rw [e, List.getD_eq_getElem?_getD, List.getElem?_eq_getElem hin]
    rfl
  · obtain ⟨g, g2, d2, tk, o2⟩ := z
    have e1 : g2 = s.gens := hm.gens
    have e2 : d2 = s.drawn := hm.drawn
    have e3 : o2 = s.os := hm.os
    subst e1 e2 e3
    show wpAny _ _ _ _ _ _
    refine wpAny_pure ?_
    show wpAny _ _ (ret Value.none) _ _ _
    refine wpAny_pure (hQ _ ⟨rfl, g, tk, c, rfl, hS, fun b o e => ?_⟩)
    have hb0 : b < s.heap.objs.size := Heap.lt_size e
    exact hm.heap b o (by rw [sz]; exact fun z => (List.mem_cons.mp z).elim (Nat.ne_of_lt hb0) fun z => Nat.ne_of_lt (Nat.lt_succ_of_lt hb0) (List.mem_singleton.mp z)) (Heap.get?_push_of_some _ (Heap.get?_push_of_some _ e))
set_option maxHeartbeats 3200000 in
theorem call_set_ints {l : Addr} {items : Array Value} (ns : List Int) {Q : Value → Shared → Prop} (hh : A.handled = none) (hl : s.heap.IsList l items) (hi : IntsAre items.toList ns) (hb : ns.length + 1 < scanBound)
    (h : ∀ (g : Heap) (tk c : Nat), SetR w g s.heap.objs.size (fun j => decide (j ∈ ns)) c → (∀ b o, s.heap.get? b = some o → g.get? b = some o) → Q (.ref s.heap.objs.size) { s with heap := g, toks := tk }) :
    wpAny (model P w) A (call (.type "set") [.ref l]) Q E s := by
  obtain ⟨c0, tl, mro⟩ := F.called_set.mro
  have k1 := F.called_set.made
  have k2 := F.called_set.sub
  have k3 := F.called_set.notType
  have k4 := F.called_set.canCreate
  have k5 := F.typeCall_set_1 (.ref l)
  refine wpAny_call (codeAny_of_tree ?_)
  show wpAny _ _ (callAny (.type "set") _) _ _ _
  refine wpAny_pure ⟨Code.quiet_builtin _ (by decide +kernel), codeAny_builtin F.entry_type_call ?_⟩
  rw [Around.under_plain (weight_type_call_type "set" [.ref l] []) rfl]
  repeat (any_goals (first | assumption | wp_step))
  refine codeAny_mono (code_set_led1 (.ref l) (E := E) (Q₁ := fun v z => v = .ref s.heap.objs.size ∧ z = { s with heap := s.heap.push (zo w) }) ⟨rfl, rfl⟩) fun r z hr => ?_
  rcases r with e | (_ | _ | _ | v)
  all_goals first | exact hr.elim | exact hr | skip
  obtain ⟨rfl, rfl⟩ := hr
  have got : (s.heap.push (zo w)).get? s.heap.objs.size = some (zo w) := Heap.get?_push_size _ rfl
  have isS : Shared.TypeIs { s with heap := s.heap.push (zo w) } (.ref s.heap.objs.size) "set" := ⟨_, got, rfl⟩
  have k6 := F.called_set.init.lookup
  have k7 := F.called_set.init.bind (.ref s.heap.objs.size)
  repeat (any_goals (first | assumption | wp_step))
  refine codeAny_mono (codeAny_call_builtin (R := wants (Filled w s ns) E) F.called_set.init.plain F.entry_set_init (check_set_init_1 isS (init_list ns (by first | exact hh | simp [hh]) hl hi hb fun z q => q))) fun r z hr => ?_
  rcases r with e | (_ | _ | _ | v)
  all_goals first | exact hr.elim | exact hr | skip
  obtain ⟨rfl, g, tk, c, rfl, hS, hk⟩ := hr
  repeat (any_goals (first | assumption | wp_step))
  exact h g tk c hS hk
end
end SC

namespace DL
open PySem PySem.Spec PyProof.Rows L2 SC
/-! ### sets of ints, as they are sorted -/
/-- the set of the ints acc, none of which stands in it twice -/
def setOf (w : World) (acc : List Int) : O := .any fun a => SetO w a (fun k => decide (k ∈ acc)) acc.length
def ins1 (acc : List Int) (z : Int) : List Int := if z ∈ acc then acc else acc ++ [z]
theorem ins1_set {w : World} {a : Addr} {acc : List Int} {z : Int} : SetO w a (fun j => decide (j ∈ acc) || decide (j = z)) (if decide (z ∈ acc) = true then acc.length else acc.length + 1) = SetO w a (fun k => decide (k ∈ ins1 acc z)) (ins1 acc z).length := by
  unfold ins1
  by_cases h : z ∈ acc
  · rw [if_pos h, if_pos (decide_eq_true h)]
    congr 1
    funext j
    by_cases e : j = z
    · subst e; simp [h]
    · simp [e]
  · rw [if_neg h, if_neg (by simp [h])]
    congr 1
    · funext j
      by_cases e : j = z <;> simp [e]
    · simp
abbrev DInn := Ev → Sto → (Sto → Prop) → Prop
def dLev (ds : List D) (ok : Sto → Prop) (G : DTG) (TT : DTT) (TIn : DInn) (vs : List Nat) (env : Ev) (S1 : Sto) (N : Sto → Prop) : Prop := ∃ I : Nat → Sto → Prop, I 0 S1 ∧ (∀ i S', i ≤ ds.length → I i S' → ok S') ∧
  (∀ i x S', ds[i]? = some x → I i S' → G x (wipeE env vs) S' fun env2 S2 => TT env2 S2 fun k S3 => if k = true then TIn env2 S3 (I (i + 1)) else I (i + 1) S3) ∧ ∀ S', I ds.length S' → N S'
def dPut (w : World) (k : Nat) (T : DTE) : DInn := fun env S N => T env S fun d S1 => xInt (fun z => ∃ acc, S1[k]? = some (setOf w acc) ∧ acc.length < 60 ∧ N (S1.set k (setOf w (ins1 acc z)))) d
def dDeep (TI1 : DTI) (G1 : DTG) (TT1 : DTT) (TIn : DInn) (vs1 : List Nat) : DInn := fun env S N => TI1 env S fun ds ok S1 => dLev ds ok G1 TT1 TIn vs1 env S1 N
def xSorted (w : World) (k : Nat) (P : List D → Sto → Prop) (S : Sto) : Prop := ∃ acc, S[k]? = some (setOf w acc) ∧ acc.length < 60 ∧ ∀ ns : List Int, ns.Pairwise (· < ·) → (∀ k, k ∈ ns ↔ k ∈ acc) → P (ns.map .int) S
def dSc2 (w : World) (TI : DTI) (G : DTG) (TT : DTT) (TI1 : DTI) (G1 : DTG) (TT1 : DTT) (T : DTE) (vs vs1 : List Nat) : DTN := fun env S P => TI env S fun ds ok S1 =>
  dLev ds ok G TT (dDeep TI1 G1 TT1 (dPut w S1.length T) vs1) vs env (S1 ++ [setOf w []]) (xSorted w S1.length P)
theorem Gives.mono {K : PySem.W.Frag} {W W2 : Wd} {H H2 : Hp} {ok : Sto → Prop} {ds : List D} {J : It} (g : Gives K W H ok ds J) (l : Stp W H W2 H2) : Gives K W2 H2 ok ds J := by
  obtain ⟨Gd, Y, wk, h1, h2⟩ := g
  exact ⟨Gd, Y, wk, fun W' S' H' l' => h1 W' S' H' (l.trans l'), fun i d W' S' H' x H'' hd l' => h2 i d W' S' H' x H'' hd (l.trans l')⟩
section
variable {X : Cx} {W0 : Bs}
theorem lift_lev {J : It} {ds : List D} {ok : Sto → Prop} {G : DTG} {TT : DTT} {TIn : DInn} {ti : TInn} {ss vs : List Nat} {σ : L2.St} {env : Ev} {W1 : Wd} {S1 : Sto} {H1 : Hp} {N : Sto → Prop} {Qe : Hp → Prop} (hss : ∀ i ∈ ss, i ∈ vs)
    (hW : W0.to W1 H1) (s : Sim X.K W1 S1 H1) (er : EnvR X.K W1 env σ) (gv : Gives X.K W1 H1 ok ds J) (h : dLev ds ok G TT TIn vs env S1 N)
    (hin : ∀ {W : Wd} {S : Sto} {H : Hp} {env : Ev} {σ : L2.St} {M : Sto → Prop} {NH : Hp → Prop}, Stp W1 H1 W H → Sim X.K W S H → EnvR X.K W env σ → TIn env S M → (∀ W' S' H', Stp W H W' H' → Sim X.K W' S' H' → M S' → NH H') → ti σ H NH)
    (fin : ∀ W' S' H', Stp W1 H1 W' H' → Sim X.K W' S' H' → N S' → Qe H') : lev J (liftG X.K W0 ss G) (liftT X.K W0 TT) ti (L2.wipe σ vs) Qe H1 := by
  obtain ⟨I, i0, iok, turn, nd⟩ := h
  obtain ⟨Gd, Y, wk, wok, wy⟩ := gv
  refine ⟨fun i m H => m = ds.length - i ∧ i ≤ ds.length ∧ ∃ W' S', Stp W1 H1 W' H ∧ Sim X.K W' S' H ∧ I i S', ⟨ds.length, by simp, Nat.zero_le _, W1, S1, .refl, s, i0⟩, ?_⟩
  rintro i m H ⟨rfl, hi, W', S', l', s', ii⟩
  have gd := wok W' S' H l' s' (iok i S' hi ii)
  by_cases hlt : i < ds.length
  · refine .inr ⟨wk.goes i H hlt gd, fun H' => ∃ W' S', Stp W1 H1 W' H' ∧ Sim X.K W' S' H' ∧ I (i + 1) S', fun H' p => ⟨ds.length - (i + 1), by omega, rfl, hlt, p⟩, fun x H' y => ?_⟩
    have hd : ds[i]? = some ds[i] := List.getElem?_eq_getElem hlt
    obtain ⟨W2, s2, l2, r2⟩ := wy i _ W' S' H x H' hd l' s' (iok i S' hi ii) (wk.yields i H x H' hlt gd y)
    have lx := l'.trans l2
    refine ⟨W2, wipeE env vs, S', _, _, hW.trans lx, s2, (er.mono lx.le).wipe vs, r2, turn i _ S' hd ii, fun env3 S3 W3 H3 σ3 q3 s3 l3 er3 ag => ⟨⟨ag.len.symm, fun j v e => ?_⟩, ?_⟩⟩
    · rw [ag.out j fun z => (wipe_some e).2 (hss j z)]
      exact e
    · refine lift_if (hW.trans (lx.trans l3)) s3 er3 q3 fun k S4 W4 H4 q4 s4 l4 => ?_
      have ly := lx.trans (l3.trans l4)
      cases k with
      | true => exact hin ly s4 (er3.mono l4.le) q4 fun W' S' H' l s m => ⟨W', S', ly.trans l, s, m⟩
      | false => exact ⟨W4, S4, ly, s4, q4⟩
  · have e : i = ds.length := by omega
    subst e
    exact .inl ⟨wk.stops H gd, fin W' S' H l' s' (nd S' ii)⟩
theorem lift_put {T : DTE} {k : Nat} {Da : Addr} {W : Wd} {S : Sto} {H : Hp} {env : Ev} {σ : L2.St} {M : Sto → Prop} {NH : Hp → Prop} (hW : W0.to W H) (hk : W.m[k]? = some Da) (s : Sim X.K W S H) (er : EnvR X.K W env σ) (h : dPut X.w k T env S M)
    (go : ∀ W' S' H', Stp W H W' H' → Sim X.K W' S' H' → M S' → NH H') : tPut X.w Da (liftE X.K W0 T) σ H NH := by
  refine ⟨W, env, S, _, hW, s, er, h, fun d S1 W1 H1 v ⟨z, ez, acc, e, hl, m⟩ s1 l1 r1 => ?_⟩
  subst ez
  have hk1 := l1.le.pre _ _ hk
  obtain ⟨hB, hH⟩ := s1.obj k Da _ hk1 e
  refine ⟨z, _, _, r1.intV, hH, Nat.lt_trans (Nat.succ_lt_succ hl) (by decide), ?_⟩
  rw [ins1_set]
  exact go W1 _ _ (l1.trans (.setO hk1)) (s1.setO (o' := setOf X.w (ins1 acc z)) hk1 e hB ⟨hB, upd_same⟩) m
theorem lift_sc2 {TI : DTI} {G : DTG} {TT : DTT} {TI1 : DTI} {G1 : DTG} {TT1 : DTT} {T : DTE} {ss ss1 vs vs1 : List Nat} {σ : L2.St} {H : Hp} {Q : VK} (hss : ∀ i ∈ ss, i ∈ vs) (hss1 : ∀ i ∈ ss1, i ∈ vs1) (h : liftN X.K W0 (dSc2 X.w TI G TT TI1 G1 TT1 T vs vs1) σ H Q) :
    tSc2 X.w (liftI X.K W0 TI) (liftG X.K W0 ss G) (liftT X.K W0 TT) (liftI X.K W0 TI1) (liftG X.K W0 ss1 G1) (liftT X.K W0 TT1) (liftE X.K W0 T) vs vs1 σ H fun x H1 => rSortedSet X.w [x] H1 Q := by
  obtain ⟨W, env, S, P, hW, sim, er, ht, post⟩ := h
  refine ⟨W, env, S, _, hW, sim, er, ht, fun ds ok S1 W1 H1 J hq s l gv Da hD => ?_⟩
  have hk : (W1.new Da).m[S1.length]? = some Da := by
    show (W1.m ++ [Da])[S1.length]? = some Da
    rw [← s.len, List.getElem?_append_right (Nat.le_refl _), Nat.sub_self]
    rfl
  have s2 : Sim X.K (W1.new Da) (S1 ++ [setOf X.w []]) (upd H1 Da (SetO X.w Da (fun _ => false) 0)) := s.newO hD ⟨s.free hD, by rw [upd_same]; simp⟩
  have l2 : Stp W1 H1 (W1.new Da) (upd H1 Da (SetO X.w Da (fun _ => false) 0)) := .newO hD
  have lw := l.trans l2
  refine lift_lev hss (hW.trans lw) s2 (er.mono lw.le) (gv.mono l2) hq (fun {W3 S3 H3 env3 σ3 M NH} l3 s3 er3 h3 go => ?_) fun W3 S3 H3 l3 s3 ⟨acc, e, hl, m⟩ => ?_
  · refine ⟨W3, env3, S3, _, hW.trans (lw.trans l3), s3, er3, h3, fun ds1 ok1 S4 W4 H4 J1 q1 s4 l4 gv1 => ?_⟩
    refine lift_lev hss1 (hW.trans (lw.trans (l3.trans l4))) s4 (er3.mono l4.le) gv1 q1 (fun {W5 S5 H5 env5 σ5 M5 N5} l5 s5 er5 h5 go5 => ?_) fun W5 S5 H5 l5 s5 m5 => go W5 S5 H5 (l4.trans l5) s5 m5
    exact lift_put (hW.trans (lw.trans (l3.trans (l4.trans l5)))) ((l3.trans (l4.trans l5)).le.pre _ _ hk) s5 er5 h5 go5
  · obtain ⟨hB, hH⟩ := s3.obj _ Da _ (l3.le.pre _ _ hk) e
    refine ⟨Da, _, _, rfl, hH, by omega, fun ns p hs hm hn hp => ?_⟩
    exact (post.mono (lw.trans l3)).laid (m ns hs fun k => by rw [hm k]; simp) s3 (reps_ints ns) p hp
theorem dn_ssc {elt t0 i0 t1 i1 : Expr} {f0 f1 : List Expr} {scope : Scope} {own : List (Str × Nat)} {vs1 ss ss1 : List Nat} {p pos pos' : Pos} {TI : DTI} {G : DTG} {TT : DTT} {TI1 : DTI} {G1 : DTG} {TT1 : DTT} {T : DTE}
    (hss : ∀ i ∈ ss, i ∈ own.map (·.2)) (hss1 : ∀ i ∈ ss1, i ∈ vs1) (hv : ∀ i ∈ vs1, i ∈ own.map (·.2)) (hc : X.calm = true) (hN : X.N.Nodup) (hi : DI X W0 t0 i0 TI) (ok : BlkOk X.N X.env.scope scope own)
    (hg : InBlk X scope fun Y => PG Y t0 (liftG X.K W0 ss G)) (ht : InBlk X scope fun Y => PTs Y f0 (liftT X.K W0 TT)) (hi1 : InBlk X scope fun Y => PI Y t1 i1 (liftI X.K W0 TI1)) (hg1 : InBlk X scope fun Y => PG Y t1 (liftG X.K W0 ss1 G1))
    (ht1 : InBlk X scope fun Y => PTs Y f1 (liftT X.K W0 TT1)) (he : InBlk X scope fun Y => PE Y elt (liftE X.K W0 T)) (hgl : Gl X "sorted") (hm : X.mg "sorted" = none)
    (hs : ∀ x, foldedSetIterable i0 X.env x = pure x := by intro _; rfl) (hs1 : ∀ env x, foldedSetIterable i1 env x = pure x := by intro _ _; rfl) :
    DN X W0 (.Call (.Name "sorted" p) [two elt t0 i0 f0 t1 i1 f1 scope pos'] [] pos) (dSc2 X.w TI G TT TI1 G1 TT1 T (own.map (·.2)) vs1) :=
  (pe_callB (cr_sortedSet hc) hgl hm (by decide +kernel) (pa_cons (pe_sc2 hc hN hi ok hv hg ht hi1 hg1 ht1 he hs hs1) pa_nil)).imp fun _ _ _ q => lift_sc2 hss hss1 q
/-! ### sorted(set(xs)) -/
theorem len_le : ∀ {l L : List Int}, l.Nodup → (∀ k ∈ l, k ∈ L) → l.length ≤ L.length
  | [], _, _, _ => Nat.zero_le _
  | x :: l, L, nd, h => by
    obtain ⟨h1, h2⟩ := List.nodup_cons.mp nd
    have hx := h x List.mem_cons_self
    have := len_le (L := L.erase x) h2 fun k hk => (List.mem_erase_of_ne fun (e : k = x) => h1 (by rw [← e]; exact hk)).mpr (h k (List.mem_cons_of_mem _ hk))
    rw [List.length_erase_of_mem hx] at this
    have := List.length_pos_of_mem hx
    simp only [List.length_cons]
    omega
theorem SetR_count {w : World} {h : Heap} {a : Addr} {S : Int → Bool} {n : Nat} (R : SetR w h a S n) {L : List Int} (hL : ∀ k, S k = true → k ∈ L) : n ≤ L.length := by
  obtain ⟨o, es, ep, t, _, _, _, _, nd, hm, _, _, hn, _⟩ := R
  have := len_le nd fun k hk => hL k ((hm k).mpr hk)
  rw [List.length_map, Array.length_toList, hn] at this
  exact this
def rSetI (K : PySem.W.Frag) (w : World) : List V → Hp → VK → Prop := fun vs H Q => ∃ (l : Addr) (ns : List Int), vs = [.ref l] ∧ SqL K H l (ns.map V.int) ∧ ns.length + 1 < scanBound ∧
  ∀ p c, H p = none → (∀ L : List Int, (∀ k ∈ ns, k ∈ L) → c ≤ L.length) → Q (.ref p) (upd H p (SetO w p (fun j => decide (j ∈ ns)) c))
theorem cr_setI (hc : X.calm = true) : CallR X (.type "set") (rSetI X.K X.w) := by
  intro pins s σ H xs us Q I r h
  obtain ⟨l, ns, rfl, hs, hb, q⟩ := h
  rw [Vals.ref1 r]
  obtain ⟨its, rv, hl, _⟩ := I.list hs
  refine call_set_ints ns (I.ok.hd hc) (items := its.toArray) ?_ (by simpa using ints_of_vals rv) hb fun g tk c hS hk => ?_
  · obtain ⟨o, n, ho, hc', hdn, hd⟩ := hl
    exact ⟨o, ho, hc', n, hd⟩
  · exact ⟨.ref _, _, I.laid (t' := tk) hk (Nat.le_refl _) (setO_new hS), rfl, q _ c (I.hok.fresh (Nat.le_refl _)) fun L hL => SetR_count hS fun k e => hL k (of_decide_eq_true e)⟩
def xSS (P : List D → Sto → Prop) (d : D) (S : Sto) : Prop := ∃ (ns0 L : List Int), lstOf S d = some (ns0.map .int) ∧ ns0.length < 1000 ∧ L.length < 60 ∧ (∀ k ∈ ns0, k ∈ L) ∧ ∀ ns : List Int, ns.Pairwise (· < ·) → (∀ k, k ∈ ns ↔ k ∈ ns0) → P (ns.map .int) S
def dSS (T : DTE) : DTN := fun env S P => T env S (xSS P)
theorem dn_ss {e : Expr} {T : DTE} {p p1 p2 pos : Pos} (hc : X.calm = true) (h : DE X W0 e T) (hg : Gl X "sorted") (hm : X.mg "sorted" = none) (hg2 : Gl X "set") (hm2 : X.mg "set" = none) (hs : starEach [e] X.env = [(false, eval e X.env)] := by rfl) :
    DN X W0 (.Call (.Name "sorted" p) [.Call (.Name "set" p1) [e] [] p2] [] pos) (dSS T) :=
  (pe_callB (cr_sortedSet hc) hg hm (by decide +kernel) (pa_cons (pe_callTy (cr_setI hc) hg2 hm2 (by decide +kernel) (pa_cons h pa_nil hs) (he := hs)) pa_nil)).imp fun σ H Q ⟨W, env, S, P, hW, sim, er, ht, post⟩ =>
    ⟨W, env, S, _, hW, sim, er, ht, fun d S1 W1 H1 v ⟨ns0, L, e1, h1, h2, h3, q⟩ s1 l1 r1 => by
      obtain ⟨a, vs, rfl, hH, rr⟩ := r1.lst_of s1 e1
      refine ⟨a, ns0, rfl, by rw [← rr.ints]; exact SqL.of hH, Nat.lt_trans (Nat.succ_lt_succ h1) (by decide), fun p c hp hL => ?_⟩
      refine ⟨p, _, c, rfl, upd_same, by have := hL L h3; omega, fun ns z hs hmm hn hz => ?_⟩
      have l2 : Stp W1 H1 W1 (upd H1 p (SetO X.w p (fun j => decide (j ∈ ns0)) c)) := .lay hp
      exact (post.mono (l1.trans l2)).laid (q ns hs fun k => by rw [hmm k]; simp) (s1.lay hp) (reps_ints ns) z hz⟩
end
section
variable {env env2 : Ev} {S S' : Sto} {P : DP} {Q : List D → Sto → Prop} {T : DTE} {w : World} {k : Nat} {d : D} {TIn : DInn} {N : Sto → Prop} {TI TI1 : DTI} {G G1 : DTG} {TT TT1 : DTT} {vs vs1 : List Nat}
theorem i_ssc (q : TI env S fun ds ok S1 => dLev ds ok G TT (dDeep TI1 G1 TT1 (dPut w S1.length T) vs1) vs env (S1 ++ [setOf w []]) (xSorted w S1.length Q)) : dSc2 w TI G TT TI1 G1 TT1 T vs vs1 env S Q := q
theorem i_deep (q : TI1 env S fun ds ok S1 => dLev ds ok G1 TT1 TIn vs1 env S1 N) : dDeep TI1 G1 TT1 TIn vs1 env S N := q
theorem i_put (q : T env S fun d S1 => xInt (fun z => ∃ acc, S1[k]? = some (setOf w acc) ∧ acc.length < 60 ∧ N (S1.set k (setOf w (ins1 acc z)))) d) : dPut w k T env S N := q
theorem i_ss (q : T env S (xSS Q)) : dSS T env S Q := q
end
end DL

namespace DL
open PySem PySem.Spec PyProof.Rows L2
/-! ### what the top has written -/
mutual
inductive KR (K : PySem.W.Frag) : Value → D → Prop where
  | int (n : Int) (t : PySem.Tok) : KR K (.int n t) (.int n)
  | str (x : Str) (t : PySem.Tok) : KR K (.str x t) (.str x)
  | tup {a : Addr} {d : Option Addr} {its : Array Value} {n : Nat} {sl : Array (Option Value)} {ds : List D} : K.lookup a = some ⟨.type "tuple", d, .seq its n, sl⟩ → ds.length ≤ 1000 → KRs K its.toList ds → KR K (.ref a) (.tup ds)
inductive KRs (K : PySem.W.Frag) : List Value → List D → Prop where
  | nil : KRs K [] []
  | cons {u : Value} {d : D} {us : List Value} {ds : List D} : KR K u d → KRs K us ds → KRs K (u :: us) (d :: ds)
end
section
variable {K : PySem.W.Frag}
mutual
theorem KR.rep : ∀ {u : Value} {d : D}, KR K u d → ∃ v, RelV v u ∧ ∀ W, Rep K W v d
  | _, _, .int n t => ⟨.int n, ⟨t, rfl⟩, fun _ => .int n⟩
  | _, _, .str x t => ⟨.str x, ⟨t, rfl⟩, fun _ => .str x⟩
  | _, _, .tup (a := a) l h r => by
    obtain ⟨vs, h1, h2⟩ := KRs.rep r
    refine ⟨.ref a, rfl, fun W => .tup (.inr ⟨_, _, _, l, rfl, rfl, ?_, h1⟩) (h2 W)⟩
    rw [← Array.length_toList, ← h1.length, (h2 W).length]
    exact sz_le (by omega)
theorem KRs.rep : ∀ {us : List Value} {ds : List D}, KRs K us ds → ∃ vs, Vals vs us ∧ ∀ W, Reps K W vs ds
  | _, _, .nil => ⟨[], .nil, fun _ => .nil⟩
  | _, _, .cons r rs => by
    obtain ⟨v, h1, h2⟩ := KR.rep r
    obtain ⟨vs, h3, h4⟩ := KRs.rep rs
    exact ⟨v :: vs, .cons h1 h3, fun W => .cons (h2 W) (h4 W)⟩
end
/-- a written dict's entries -/
inductive KEs (K : PySem.W.Frag) : List DictEntry → List Str → List D → Prop where
  | nil : KEs K [] [] []
  | cons {e : DictEntry} {x : Str} {t : PySem.Tok} {d : D} {es : List DictEntry} {xs : List Str} {ds : List D} : e.key = .str x t → KR K e.val d → KEs K es xs ds → KEs K (e :: es) (x :: xs) (d :: ds)
theorem KEs.out {P : Program} {w : World} : ∀ {es : List DictEntry} {xs : List Str} {ds : List D}, KEs K es xs ds → ∃ (vs : List V) (us : List Value), xs.length = vs.length ∧ (∀ W, Reps K W vs ds) ∧
    KV ((xs.map (Sum.inr : Str → Key)).zip vs) ((xs.map (Sum.inr : Str → Key)).zip us) ∧ Pairs (mixKind P w) es ((xs.map (Sum.inr : Str → Key)).zip us) ∧ xs.length = us.length
  | _, _, _, .nil => ⟨[], [], rfl, fun _ => .nil, .nil, .nil, rfl⟩
  | _, _, _, .cons (t := t) e r rs => by
    obtain ⟨v, h1, h2⟩ := r.rep
    obtain ⟨vs, us, a1, a2, a3, a4, a5⟩ := KEs.out (P := P) (w := w) rs
    exact ⟨v :: vs, _ :: us, congrArg (· + 1) a1, fun W => .cons (h2 W) (a2 W), .cons ⟨rfl, h1⟩ a3, .cons (by rw [e]; exact keyIs_str _ t) rfl a4, congrArg (· + 1) a5⟩
theorem inr_inj {a b : Str} (h : (Sum.inr a : Key) = Sum.inr b) : a = b := by cases h; rfl
theorem KEs.tab {P : Program} {w : World} {a : Addr} {es : Array DictEntry} {n : Nat} {xs : List Str} {ds : List D} (h : KEs K es.toList xs ds) (l : K.lookup a = some ⟨.type "dict", none, .dict es n, #[]⟩) (lit : PySem.W.KeysLit w.params es.toList) (low : (a == sysModules) = false) (nd : xs.Nodup) (few : xs.length ≤ 1000) :
    KTab P w K a (xs.map .inr) ds := by
  obtain ⟨vs, us, a1, a2, a3, a4, a5⟩ := h.out (P := P) (w := w)
  refine ⟨vs, _, by rw [List.length_map]; exact a1, a2, a3, by rw [List.length_map]; exact few, low, fun hp X => ⟨_, es, n, X _ _ l, ⟨rfl, rfl, rfl⟩, rfl, fun e he => ?_, a4, ?_⟩⟩
  · obtain ⟨x, t, e1, e2⟩ := lit.all e (Array.mem_toList_iff.mpr he)
    exact ⟨.inr x, by rw [e1]; exact keyIs_str x t, e2⟩
  · rw [List.map_fst_zip (by rw [List.length_map]; omega)]
    exact (List.pairwise_map.mpr (nd.imp fun hne e => hne (inr_inj e)))
theorem KEs.find {w : World} {z : Str} {d : D} : ∀ {es : List DictEntry} {xs : List Str} {ds : List D}, KEs K es xs ds → dlook (xs.map .inr) ds (.inr z) = some d → ∃ e, es.find? (fun e => e.key.isStr z) = some e ∧ KR K e.val d
  | _, _, _, .nil, h => by cases h
  | _, _, _, .cons (e := e) (x := x) (t := t) ek r rs, h => by
    have h : (if (Sum.inr x : Key) = .inr z then _ else _) = some d := h
    by_cases hx : x = z
    · subst hx
      rw [if_pos rfl] at h
      cases h
      exact ⟨e, by rw [List.find?_cons_of_pos]; rw [ek, PySem.W.isStr_of]; simp [Value.isStrOf], r⟩
    · rw [if_neg fun q => hx (inr_inj q)] at h
      obtain ⟨e', h1, h2⟩ := KEs.find (w := w) rs h
      refine ⟨e', ?_, h2⟩
      rw [List.find?_cons_of_neg]
      · exact h1
      · rw [ek, PySem.W.isStr_of]
        simpa [Value.isStrOf] using hx
theorem KEs.getK {w : World} {a : Addr} {es : Array DictEntry} {n : Nat} {xs : List Str} {ds : List D} (h : KEs K es.toList xs ds) (l : K.lookup a = some ⟨.type "dict", none, .dict es n, #[]⟩) (lit : PySem.W.KeysLit w.params es.toList) : KGet w K a (xs.map .inr) ds := by
  refine ⟨fun z d hd => ?_⟩
  obtain ⟨e, h1, h2⟩ := h.find (w := w) hd
  obtain ⟨v, h3, h4⟩ := h2.rep
  refine ⟨v, ⟨es, n, e.val, l, lit, ?_, h3⟩, h4⟩
  unfold PySem.W.nsIn
  rw [l]
  dsimp only
  rw [h1]
end
section
variable {K : PySem.W.Frag} {h : Heap} {mg : Str → Option Value} {goal : Prop}
theorem at_of (X : K.In h) (G : h.Ns mainGlobals mg) {x : Str} {st : Stmt} {ps : List Str} {f : Addr} {od an : Option Addr} {sl : Array (Option Value)} {oc kV dc pm cd ct : Value}
    (a : PySem.W.nsIn K mainGlobals x = some (some (.ref f))) (l : K.lookup f = some ⟨oc, od, .func (PySem.W.fnOf x x (defArgs st) (defBody st) (defScope st) .none kV dc pm an cd ct), sl⟩) (c : PySem.W.codeIn K cd x = true) (k : PySem.W.keepIn K (.ref f) = true)
    (b : ∀ (kV doc pm : Value) (an : Option Addr) (cdv ct : Value) (us : List Value), us.length = ps.length → bindArgs (PySem.W.fnOf x x (defArgs st) (defBody st) (defScope st) .none kV doc pm an cdv ct) ⟨us, []⟩ = pure (ps.zip us)) : At K mg x st ps := by
  have F := fun_mk (st := st) l c k
  exact ⟨f, _, PySem.W.mg_of X G a, F, F.binds b⟩
theorem with_at (X : K.In h) (G : h.Ns mainGlobals mg) (x : Str) (st : Stmt) (ps : List Str) {f : Addr} {od an : Option Addr} {sl : Array (Option Value)} {oc kV dc pm cd ct : Value}
    (a : PySem.W.nsIn K mainGlobals x = some (some (.ref f))) (l : K.lookup f = some ⟨oc, od, .func (PySem.W.fnOf x x (defArgs st) (defBody st) (defScope st) .none kV dc pm an cd ct), sl⟩) (c : PySem.W.codeIn K cd x = true) (k : PySem.W.keepIn K (.ref f) = true)
    (b : ∀ (kV doc pm : Value) (an : Option Addr) (cdv ct : Value) (us : List Value), us.length = ps.length → bindArgs (PySem.W.fnOf x x (defArgs st) (defBody st) (defScope st) .none kV doc pm an cdv ct) ⟨us, []⟩ = pure (ps.zip us)) (q : At K mg x st ps → goal) : goal := q (at_of X G a l c k b)
theorem with_int (X : K.In h) (G : h.Ns mainGlobals mg) (x : Str) (n : Int) {t : PySem.Tok} (a : PySem.W.nsIn K mainGlobals x = some (some (.int n t))) (q : (∃ t, mg x = some (.int n t)) → goal) : goal := q ⟨t, PySem.W.mg_of X G a⟩
theorem with_none (X : K.In h) (G : h.Ns mainGlobals mg) (x : Str) (a : PySem.W.nsIn K mainGlobals x = some none) (q : mg x = none → goal) : goal := q (PySem.W.mg_none_of X G a)
/-- a name of the top that stands for d -/
def Tops (K : PySem.W.Frag) (mg : Str → Option Value) (x : Str) (d : D) : Prop := ∃ u v, mg x = some u ∧ RelV v u ∧ ∀ W, Rep K W v d
theorem with_val (X : K.In h) (G : h.Ns mainGlobals mg) (x : Str) (d : D) {u : Value} (a : PySem.W.nsIn K mainGlobals x = some (some u)) (r : KR K u d) (q : Tops K mg x d → goal) : goal := by
  obtain ⟨v, h1, h2⟩ := r.rep
  exact q ⟨u, v, PySem.W.mg_of X G a, h1, h2⟩
def TopD (P : Program) (w : World) (K : PySem.W.Frag) (mg : Str → Option Value) (x : Str) (xs : List Str) (ds : List D) : Prop := ∃ a, mg x = some (.ref a) ∧ KTab P w K a (xs.map .inr) ds ∧ KGet w K a (xs.map .inr) ds
theorem with_dict {P : Program} {w : World} (X : K.In h) (G : h.Ns mainGlobals mg) (x : Str) (xs : List Str) (ds : List D) {a : Addr} {es : Array DictEntry} {n : Nat} (e : PySem.W.nsIn K mainGlobals x = some (some (.ref a)))
    (l : K.lookup a = some ⟨.type "dict", none, .dict es n, #[]⟩) (k : KEs K es.toList xs ds) (lit : PySem.W.KeysLit w.params es.toList) (low : (a == sysModules) = false) (nd : xs.Nodup) (few : xs.length ≤ 1000) (q : TopD P w K mg x xs ds → goal) : goal :=
  q ⟨a, PySem.W.mg_of X G e, k.tab l lit low nd few, k.getK l lit⟩
/-- the heap without tables of code objects -/
def noTab (H : Hp) : Hp := fun b => match H b with
  | some (.tbl _) => none
  | x => x
theorem noTab_of {H : Hp} {b : Addr} {o : HO} (h : H b = some o) (n : ∀ ps, o ≠ .tbl ps) : noTab H b = some o := by
  unfold noTab
  rw [h]
  cases o with
  | tbl ps => exact absurd rfl (n ps)
  | _ => rfl
theorem noTab_in {H : Hp} {b : Addr} {o : HO} (h : noTab H b = some o) : H b = some o ∧ ∀ ps, o ≠ .tbl ps := by
  unfold noTab at h
  cases e : H b with
  | none => rw [e] at h; cases h
  | some u =>
    rw [e] at h
    cases u with
    | tbl ps => cases h
    | _ => cases h; exact ⟨rfl, fun _ z => by cases z⟩
theorem noTab_sql {K : PySem.W.Frag} {H : Hp} {a : Addr} {xs : List V} (h : SqL K H a xs) : SqL K (noTab H) a xs := by
  rcases h with (h | ⟨o, h⟩) | h
  · exact .inl (.inl (noTab_of h fun _ z => by cases z))
  · exact .inl (.inr ⟨o, noTab_of h fun _ z => by cases z⟩)
  · exact .inr h
/-- the law, of no world -/
theorem sp_law {sp : DSp} {a : Addr} {ns : List Int} {H : Hp} (hS : SqL K H a (ns.map V.int)) (h : sp [.scr ns] [] fun d _ => d = .bl true) : liftSp K sp [.ref a] H (fun v _ => v = .bl true) fun _ _ _ => False :=
  ⟨⟨[], noTab H⟩, [.scr ns], [], _, ⟨fun b u e => (noTab_in e).1, rfl, List.nodup_nil, fun a ha => absurd ha List.not_mem_nil, fun i a o h1 _ => absurd (show ([] : List Addr)[i]? = some a from h1) (by simp), fun b ps z => (noTab_in z).2 ps rfl⟩, .cons (.scr (noTab_sql hS)) .nil, h, fun d S' W' H' v e _ _ r => by subst e; exact r.bool⟩
/-- the law, its table of code objects the store's first -/
theorem simT {p : Addr} {q : Str} {H : Hp} (hp : H p = some (.tbl #[])) : Sim K ⟨[p], noTab H⟩ [.tab p q] H := by
  refine ⟨fun b u e => (noTab_in e).1, rfl, List.nodup_cons.mpr ⟨List.not_mem_nil, List.nodup_nil⟩, fun a ha => ?_, fun i a o h1 h2 => ?_, fun b ps z => (noTab_in z).2 ps rfl⟩
  · have e : a = p := List.mem_singleton.mp (show a ∈ [p] from ha)
    rw [e, hp]
    exact fun z => nomatch z
  · cases i with
    | zero =>
      have e1 : p = a := by simpa using h1
      have e2 : O.tab p q = o := by simpa using h2
      subst e1 e2
      refine ⟨?_, rfl, #[], hp, trivial, fun pos cv hc => ?_⟩
      · show noTab H p = none
        unfold noTab
        rw [hp]
      · have z : codeAmong pos [] = some cv := hc
        simp [codeAmong] at z
    | succ i => simp at h2
theorem sp_lawT {sp : DSp} {a p : Addr} {q : Str} {ns : List Int} {H : Hp} (hp : H p = some (.tbl #[])) (hS : SqL K H a (ns.map V.int)) (h : sp [.scr ns] [.tab p q] fun d _ => d = .bl true) : liftSp K sp [.ref a] H (fun v _ => v = .bl true) fun _ _ _ => False :=
  ⟨⟨[p], noTab H⟩, [.scr ns], [.tab p q], fun d _ => d = .bl true, simT hp, .cons (.scr (noTab_sql hS)) .nil, h, fun d S' W' H' v e _ _ r => by subst e; exact r.bool⟩
/-- the law stands at fa -/
theorem law_at {P : Program} {w : World} {x : Str} {st : Stmt} {ps : Str} {fa : Addr} {k : Nat} {sp : Sp} (A : At K mg x st [ps]) (hfa : mg x = some (.ref fa)) (ok : ∀ (base : Heap) (f : Addr) (fd : FuncData), Fun K x x st f fd → FnOk P w K mg base CX0 k f fd [ps] sp)
    (b : ∀ (kV doc pm : Value) (an : Option Addr) (cdv ct : Value) (u : Value), bindArgs (PySem.W.fnOf x x (defArgs st) (defBody st) (defScope st) .none kV doc pm an cdv ct) ⟨[u], []⟩ = pure [(ps, u)]) :
    ∃ fd : FuncData, (∀ (s : Shared) (u : Value), BindsTo s fd ⟨[u], []⟩ [(ps, u)]) ∧ ∀ base : Heap, K.In base → base.Ns mainGlobals mg → FnOk P w K mg base CX0 k fa fd [ps] sp := by
  obtain ⟨f, fd, h1, F, _⟩ := A.ex
  have e := hfa.symm.trans h1
  cases e
  refine ⟨fd, fun s u => ?_, fun base _ _ => ok base _ _ F⟩
  obtain ⟨oc, od, kV, doc, pm, an, cdv, ct, osl, rfl, lk, hcd⟩ := F.ex
  exact .of_eq (b kV doc pm an cdv ct u)
end
end DL
namespace DL
open PySem PySem.Spec PyProof.Rows L2
theorem nones {mg : Str → Option Value} {l : List Str} (h : ∀ x ∈ l, mg x = none) : ∀ x, l.contains x = true → mg x = none := fun x hx => h x (by simpa using hx)
theorem ints_of_top {mg : Str → Option Value} : ∀ {l : List (Str × Int)}, (∀ p ∈ l, ∃ t, mg p.1 = some (.int p.2 t)) → ∀ x n, l.lookup x = some n → ∃ t, mg x = some (.int n t)
  | [], _, _, _, h => by cases h
  | (y, m) :: l, a, x, n, h => by
    rw [List.lookup_cons] at h
    cases e : (x == y) with
    | true =>
      rw [e] at h
      cases h
      obtain ⟨t, ht⟩ := a (y, m) List.mem_cons_self
      exact ⟨t, by rw [eq_of_beq e]; exact ht⟩
    | false =>
      rw [e] at h
      exact ints_of_top (fun p hp => a p (List.mem_cons_of_mem _ hp)) x n h
end DL

namespace DL
open PySem PySem.Spec PyProof.Rows L2
section
variable {X : Cx} {W0 : Bs} {a b c : Expr} {Ta Tb Tc : DTE} {pos : Pos}
theorem dt_chain {op op' : CmpOp} {r r' : R2} {R R' : D2} (ho : OpR X (compareOp op) r) (ho' : OpR X (compareOp op') r') (hr : DOp X.K r R) (hr' : DOp X.K r' R') (ha : DE X W0 a Ta) (hb : DE X W0 b Tb) (hc : DE X W0 c Tc)
    (hm : lastMarks [op, op'] [b, c] = false := by with_unfolding_all rfl) : DT X W0 (.Compare a [op, op'] [b, c] pos) (dB (dChain R R' Ta Tb Tc)) := (pt_chain ho ho' ha hb hc hm).imp fun _ _ _ h => lift_chain hr hr' (lift_B h)
/-- try: body / except ..: where the body raises nothing -/
theorem ds_tryNo {body : List Stmt} {h₀ : ExceptHandler} {hs : List ExceptHandler} {T : DTS} (h : DSs X.nox W0 body T) : DS X W0 (.Try body (h₀ :: hs) [] [] pos) T := ps_try_thru0 h
end
/-! ### == of lists of texts -/
theorem allOf_strs {S : Sto} {m : Nat} : ∀ l : List Str, allOf (pyOf S (m + 1)) (l.map .str) = some (l.map .str)
  | [] => rfl
  | x :: l => by
    have ih := allOf_strs (S := S) (m := m) l
    show (match pyOf S (m + 1) (.str x), allOf (pyOf S (m + 1)) (l.map .str) with | some q, some qs => some (q :: qs) | _, _ => none) = _
    rw [ih]
    rfl
theorem canLay_strs : ∀ l : List Str, (∀ x ∈ l, PyData.strOk x = true) → PyData.canLayAll0 (l.map .str) = true
  | [], _ => rfl
  | x :: l, h => by
    have ih := canLay_strs l fun y hy => h y (List.mem_cons_of_mem _ hy)
    simp only [List.map_cons, PyData.canLayAll0, ih, Bool.and_true]
    simpa [PyData.canLay0] using h x List.mem_cons_self
theorem depth_strs : ∀ l : List Str, PyData.depthAll (l.map .str) = 0
  | [] => rfl
  | x :: l => by simp [PyData.depthAll, PyData.depth, depth_strs l]
theorem shaped_strs (l : List Str) (h : ∀ x ∈ l, PyData.strOk x = true) : SeqAt.shaped (.list (l.map .str)) = true := by
  unfold SeqAt.shaped
  rw [show PyData.canLay0 (.list (l.map .str)) = true from canLay_strs l h]
  simp [PyData.depth, depth_strs]
theorem eqv_strs : ∀ l l' : List Str, PyData.eqvAll (l.map .str) (l'.map .str) = decide (l = l')
  | [], [] => rfl
  | [], _ :: _ => rfl
  | _ :: _, [] => rfl
  | x :: l, y :: l' => by
    have ih := eqv_strs l l'
    simp only [List.map_cons, PyData.eqvAll, ih, PyData.eqv]
    by_cases h : x = y
    · subst h; simp
    · simp [h]
theorem i_eqStrs {S : Sto} {P : DP} {g : Bool → Bool} {xs : List D} {l l' : List Str} (e : xs = l.map .str) (h : ∀ x ∈ l, PyData.strOk x = true) (h' : ∀ x ∈ l', PyData.strOk x = true) (q : P (.bl (g (decide (l = l')))) S) : dEqG g (.lst xs) (.lst (l'.map .str)) S P := by
  subst e
  refine ⟨2, .list (l.map .str), .list (l'.map .str), ?_, ?_, shaped_strs l h, shaped_strs l' h', ?_⟩
  · show (allOf (pyOf S 1) (l.map .str)).map PyData.list = _
    rw [allOf_strs]
    rfl
  · show (allOf (pyOf S 1) (l'.map .str)).map PyData.list = _
    rw [allOf_strs]
    rfl
  · rw [show PyData.eqv (.list (l.map .str)) (.list (l'.map .str)) = decide (l = l') by rw [PyData.eqv]; exact eqv_strs l l']
    exact q
end DL

/-! objects -/
namespace DL
open PySem PySem.Spec PyProof.Rows L2
abbrev Fs := List (Str × D)
def putD (f : Str) (d : D) : Fs → Fs
  | [] => [(f, d)]
  | (g, x) :: r => if g = f then (g, d) :: r else (g, x) :: putD f d r
section
variable {K : PySem.W.Frag} {W : Wd}
theorem fld_some {f : Str} {d : D} : ∀ {fs : Fs} {vs : List V}, Reps K W vs (fs.map (·.2)) → fs.lookup f = some d → ∃ v, ((fs.map (·.1)).zip vs).lookup f = some v ∧ Rep K W v d
  | [], _, _, h => by cases h
  | (g, x) :: fs, _, .cons (v := v) (vs := vs) r rs, h => by
    rw [List.lookup_cons] at h
    cases e : (f == g) with
    | true =>
      rw [e] at h
      cases h
      exact ⟨v, by simp only [List.map_cons, List.zip_cons_cons, List.lookup_cons, e], r⟩
    | false =>
      rw [e] at h
      obtain ⟨v', h1, h2⟩ := fld_some rs h
      exact ⟨v', by simp only [List.map_cons, List.zip_cons_cons, List.lookup_cons, e]; exact h1, h2⟩
theorem fld_none {f : Str} : ∀ {fs : Fs} {vs : List V}, fs.lookup f = none → ((fs.map (·.1)).zip vs).lookup f = none
  | [], _, _ => rfl
  | (g, x) :: fs, [], _ => rfl
  | (g, x) :: fs, v :: vs, h => by
    rw [List.lookup_cons] at h
    cases e : (f == g) with
    | true => rw [e] at h; cases h
    | false =>
      rw [e] at h
      simp only [List.map_cons, List.zip_cons_cons, List.lookup_cons, e]
      exact fld_none h
theorem fld_put {f : Str} {v : V} {d : D} (r0 : Rep K W v d) : ∀ {fs : Fs} {vs : List V}, Reps K W vs (fs.map (·.2)) → ∃ vs', putF f v ((fs.map (·.1)).zip vs) = ((putD f d fs).map (·.1)).zip vs' ∧ Reps K W vs' ((putD f d fs).map (·.2))
  | [], _, .nil => ⟨[v], rfl, .cons r0 .nil⟩
  | (g, x) :: fs, _, .cons (v := y) (vs := vs) r rs => by
    by_cases e : g = f
    · exact ⟨v :: vs, by simp [putF, putD, e], by simp only [putD, e, if_true]; exact .cons r0 rs⟩
    · obtain ⟨vs', h1, h2⟩ := fld_put (f := f) r0 rs
      exact ⟨y :: vs', by simp only [List.map_cons, List.zip_cons_cons, putF, putD, if_neg e, h1], by simp only [putD, if_neg e, List.map_cons]; exact .cons r h2⟩
end
/-- an object of the store -/
def isObj (S : Sto) (C : Addr) (x : D) (fs : Fs) : Prop := ∃ i, x = .ref i ∧ S[i]? = some (.ins C fs)
def dFld (C : Addr) (f : Str) (Ta : DTE) : DTE := fun env S P => Ta env S fun x S1 => ∃ i fs d, x = .ref i ∧ S1[i]? = some (.ins C fs) ∧ fs.lookup f = some d ∧ P d S1
def dSetF (C : Addr) (f : Str) (Ta Tv : DTE) : DTS := fun E env S => Tv env S fun y S1 => Ta env S1 fun x S2 => ∃ i fs, x = .ref i ∧ S2[i]? = some (.ins C fs) ∧ fs.length < 1000 ∧ E.nx env (S2.set i (.ins C (putD f y fs)))
def dAugF (C : Addr) (f : Str) (Ta Tv : DTE) (g : Int → Int → Int) : DTS := fun E env S => Ta env S fun x S1 => ∃ i fs a, x = .ref i ∧ S1[i]? = some (.ins C fs) ∧ fs.lookup f = some (.int a) ∧
  Tv env S1 fun y S2 => xInt (fun b => ∃ fs', S2[i]? = some (.ins C fs') ∧ fs'.length < 1000 ∧ E.nx env (S2.set i (.ins C (putD f (.int (g a b)) fs')))) y
def dMeth (C : Addr) (m : Str) (sp : DSp) (Ta : DTE) (TR : DTA) : DTE := fun env S P => Ta env S fun x S1 => (∃ i fs, x = .ref i ∧ S1[i]? = some (.ins C fs) ∧ fs.lookup m = none) ∧ TR env S1 fun ds S2 => sp (x :: ds) S2 P
def dMake (C : Addr) (sp : DSp) (TR : DTA) : DTE := fun env S P => TR env S fun ds S1 => sp (.ref S1.length :: ds) (S1 ++ [.ins C []]) fun v S2 => v = .non ∧ P (.ref S1.length) S2
/-- a method, as it is kept -/
def MFn (P : Program) (w : World) (K : PySem.W.Frag) (mg : Str → Option Value) (base : Heap) (C : Addr) (m : Str) (k : Nat) (ps : List Str) (sp : DSp) : Prop :=
  ∃ (f : Addr) (fd : FuncData), Meth K C m f ∧ Binds K fd ps [] ∧ FnOk P w K mg base CX0 k f fd ps (liftSp K sp)
/-- a class that is made by its __init__ -/
def MkF (P : Program) (w : World) (K : PySem.W.Frag) (mg : Str → Option Value) (base : Heap) (x : Str) (C : Addr) (k : Nat) (ps : List Str) (sp : DSp) : Prop :=
  ∃ (f : Addr) (fd : FuncData), mg x = some (.ref C) ∧ Mk K C f ∧ Binds K fd ps [] ∧ FnOk P w K mg base CX0 k f fd ps (liftSp K sp)
section
variable {X : Cx} {W0 : Bs} {a e : Expr} {es : List Expr} {Ta Tv : DTE} {TR : DTA} {C : Addr} {f m : Str} {pos pos' apos tpos p : Pos}
theorem de_fld (c : Cls X.K C) (n : NoAttr X.K C f) (ha : DE X W0 a Ta) (hb : attributeBase a f X.env (eval a X.env) = eval a X.env := by rfl) : DE X W0 (.Attribute a f pos) (dFld C f Ta) :=
  (pe_fld ha hb).imp fun σ H Q ⟨W, env, S, P, hW, sim, er, ht, post⟩ => ⟨W, env, S, _, hW, sim, er, ht, fun x S1 W1 H1 v ⟨i, fs, d, ex, hi, hf, q⟩ s1 l1 r1 => by
    subst ex
    cases r1 with
    | @ref _ b hb =>
      obtain ⟨_, dx, vs, hH, rr⟩ := s1.obj i b _ hb hi
      obtain ⟨v, h1, h2⟩ := fld_some rr hf
      exact ⟨b, C, dx, _, v, rfl, hH, c, n, h1, post _ _ W1 H1 _ q s1 l1 h2⟩⟩
theorem ds_fld (c : Cls X.K C) (n : NoAttr X.K C f) (ha : DE X W0 a Ta) (hv : DE X W0 e Tv) (hs : swapsWith e (some (.Attribute a f pos')) pos.line X.env = pure false := by rfl) : DS X W0 (.Assign [.Attribute a f pos'] e pos) (dSetF C f Ta Tv) :=
  (ps_fld ha hv hs).imp fun D σ H ⟨W, env, S, E, hW, sim, er, ht, post⟩ => ⟨W, env, S, _, hW, sim, er, ht, fun y S1 W1 H1 v q1 s1 l1 r1 => ⟨W1, env, S1, _, hW.trans l1, s1, er.mono l1.le, q1, fun x S2 W2 H2 u ⟨i, fs, ex, hi, hl, q2⟩ s2 l2 r2 => by
    subst ex
    cases r2 with
    | @ref _ b hb =>
      obtain ⟨hB, dx, vs, hH, rr⟩ := s2.obj i b _ hb hi
      obtain ⟨vs', h1, h2⟩ := fld_put (f := f) (r1.mono l2.le) rr
      refine ⟨b, C, dx, _, rfl, hH, c, n, ?_, ?_⟩
      · rw [List.length_zip, List.length_map]
        omega
      · rw [h1]
        have s3 := s2.setO (o' := .ins C (putD f y fs)) (ho := .ins C dx (((putD f y fs).map (·.1)).zip vs')) hb hi hB ⟨hB, dx, vs', upd_same, h2⟩
        exact post.nx _ _ W2 _ σ q2 s3 ((l1.trans l2).trans (.setO hb)) (er.mono (l1.trans l2).le)⟩⟩
theorem ds_fldaug {op : Operator} {g : Int → Int → Int} (c : Cls X.K C) (n : NoAttr X.K C f) (ho : PIp X op (ipI g)) (ha : DE X W0 a Ta) (hv : DE X W0 e Tv) : DS X W0 (.AugAssign (.Attribute a f tpos) op e pos) (dAugF C f Ta Tv g) :=
  (ps_fldaug (rd := ipI g) ha hv ho).imp fun D σ H ⟨W, env, S, E, hW, sim, er, ht, post⟩ => ⟨W, env, S, _, hW, sim, er, ht, fun x S1 W1 H1 v ⟨i, fs, z, ex, hi, hf, q1⟩ s1 l1 r1 => by
    subst ex
    cases r1 with
    | @ref _ b hb =>
      obtain ⟨_, dx, vs, hH, rr⟩ := s1.obj i b _ hb hi
      obtain ⟨v, h1, h2⟩ := fld_some rr hf
      refine ⟨b, C, dx, _, v, rfl, hH, c, n, h1, W1, env, S1, _, hW.trans l1, s1, er.mono l1.le, q1, fun y S2 W2 H2 u ⟨k, ek, fs', hi2, hl, q2⟩ s2 l2 r2 => ?_⟩
      subst ek
      have hb2 := l2.le.pre _ _ hb
      obtain ⟨hB, dx2, vs2, hH2, rr2⟩ := s2.obj i b _ hb2 hi2
      obtain ⟨vs', h3, h4⟩ := fld_put (f := f) (.int (g z k)) rr2
      refine ⟨z, k, h2.intV, r2.intV, dx2, _, hH2, ?_, ?_⟩
      · rw [List.length_zip, List.length_map]
        omega
      · rw [h3]
        have s3 := s2.setO (o' := .ins C (putD f (.int (g z k)) fs')) (ho := .ins C dx2 (((putD f (.int (g z k)) fs').map (·.1)).zip vs')) hb2 hi2 hB ⟨hB, dx2, vs', upd_same, h4⟩
        exact post.nx _ _ W2 _ σ q2 s3 ((l1.trans l2).trans (.setO hb2)) (er.mono (l1.trans l2).le)⟩
theorem lift_meth {sp : DSp} {σ : L2.St} {H : Hp} {Q : VK} (h : liftE X.K W0 (dMeth C m sp Ta TR) σ H Q) : tMeth C m (liftSp X.K sp) [] E0 (liftE X.K W0 Ta) (liftA X.K W0 TR) σ H Q := by
  obtain ⟨W, env, S, P, hW, sim, er, ht, post⟩ := h
  refine ⟨W, env, S, _, hW, sim, er, ht, fun x S1 W1 H1 v ⟨⟨i, fs, ex, hi, hf⟩, q1⟩ s1 l1 r1 => ?_⟩
  subst ex
  have r1' := r1
  cases r1 with
  | @ref _ b hb =>
    obtain ⟨_, dx, vs, hH, rr⟩ := s1.obj i b _ hb hi
    refine ⟨b, dx, _, rfl, hH, fld_none hf, W1, env, S1, _, hW.trans l1, s1, er.mono l1.le, q1, fun ds S2 W2 H2 us q2 s2 l2 r2 => ?_⟩
    show liftSp X.K sp (V.ref b :: (us ++ [])) H2 Q E0
    rw [List.append_nil]
    exact ⟨W2, _, S2, P, s2, .cons (r1'.mono l2.le) r2, q2, post.mono (l1.trans l2)⟩
theorem de_meth {k : Nat} {ps : List Str} {sp : DSp} (c : Cls X.K C) (h : MFn X.prog X.w X.K X.mg X.base C m k ps sp) (hr : Room k X.A) (ha : DE X W0 a Ta) (hs : DA X W0 (e :: es) TR) (hst : starEach (e :: es) X.env = (false, eval e X.env) :: starEach es X.env := by rfl) (hpl : (backTo pos (starEach es X.env)).any (·.1) = false := by rfl)
    {pl : Sem Bool} (ht : eval (.Call (.Attribute a m apos) (e :: es) [] pos) X.env = (do
      let ov ← eval a X.env
      standAt apos.atName
      let (f, first) ← holding [ov] (getMethod ov m pl)
      callWith pos f first (backTo pos (starEach (e :: es) X.env)) (backToKw pos (keywordEach [] X.env))) := by rfl) : DE X W0 (.Call (.Attribute a m apos) (e :: es) [] pos) (dMeth C m sp Ta TR) := by
  obtain ⟨f, fd, h1, h2, h3⟩ := h
  exact (pe_meth (pl := pl) ha c h1 h3 hr h2 .nil pass0 hs hst hpl ht).imp fun _ _ _ q => lift_meth q
theorem de_meth0 {k : Nat} {ps : List Str} {sp : DSp} (c : Cls X.K C) (h : MFn X.prog X.w X.K X.mg X.base C m k ps sp) (hr : Room k X.A) (ha : DE X W0 a Ta)
    {pl : Sem Bool} (ht : eval (.Call (.Attribute a m apos) [] [] pos) X.env = (do
      let ov ← eval a X.env
      standAt apos.atName
      let (f, first) ← holding [ov] (getMethod ov m pl)
      callWith pos f first (backTo pos (starEach [] X.env)) (backToKw pos (keywordEach [] X.env))) := by rfl) : DE X W0 (.Call (.Attribute a m apos) [] [] pos) (dMeth C m sp Ta dNil) := by
  obtain ⟨f, fd, h1, h2, h3⟩ := h
  refine (pe_meth0 (pl := pl) ha c h1 h3 hr h2 .nil pass0 ht).imp fun σ H Q q => ?_
  obtain ⟨W, env, S, P, hW, sim, er, hh, post⟩ := lift_meth (TR := dNil) q
  refine ⟨W, env, S, P, hW, sim, er, hh, fun d S' W' H' v q' s' l' r' => ?_⟩
  obtain ⟨a', dx, fs, e1, e2, e3, W2, env2, S2, P2, hW2, sim2, er2, hn, post2⟩ := post d S' W' H' v q' s' l' r'
  exact ⟨a', dx, fs, e1, e2, e3, post2 [] S2 W2 H' [] hn sim2 .refl .nil⟩
theorem lift_make {sp : DSp} {σ : L2.St} {H : Hp} {Q : VK} (h : liftE X.K W0 (dMake C sp TR) σ H Q) : tMake C (liftSp X.K sp) [] E0 (liftA X.K W0 TR) σ H Q := by
  obtain ⟨W, env, S, P, hW, sim, er, ht, post⟩ := h
  refine ⟨W, env, S, _, hW, sim, er, ht, fun ds S1 W1 H1 vs q s1 l1 r1 x dx hx hdx hne => ?_⟩
  rw [List.append_nil]
  have hx2 : upd H1 dx (HO.own x) x = none := by rw [upd_ne (Ne.symm hne)]; exact hx
  have s2 : Sim X.K (W1.new x) (S1 ++ [.ins C []]) (upd (upd H1 dx (.own x)) x (.ins C dx [])) := (s1.lay hdx).newO hx2 ⟨s1.free hx, dx, [], upd_same, .nil⟩
  have l2 : Stp W1 H1 (W1.new x) (upd (upd H1 dx (.own x)) x (.ins C dx [])) := (Stp.lay hdx).trans (.newO hx2)
  have hk : (W1.new x).m[S1.length]? = some x := by
    show (W1.m ++ [x])[S1.length]? = some x
    rw [← s1.len, List.getElem?_append_right (Nat.le_refl _), Nat.sub_self]
    rfl
  refine ⟨W1.new x, _, _, _, s2, .cons (.ref hk) (r1.mono l2.le), q, fun d S3 W3 H3 v ⟨e, q3⟩ s3 l3 r3 => ?_⟩
  subst e
  exact ⟨r3.nonV, post _ _ W3 H3 _ q3 s3 (l1.trans (l2.trans l3)) (.ref (l3.le.pre _ _ hk))⟩
theorem de_make {x : Str} {k : Nat} {ps : List Str} {sp : DSp} (h : MkF X.prog X.w X.K X.mg X.base x C k ps sp) (hr : Room (k + 1) X.A) (hg : Gl X x) (ha : DA X W0 (e :: es) TR) (hdb : (x == ("__debug__" : Str)) = false := by decide) (he : starEach (e :: es) X.env = (false, eval e X.env) :: starEach es X.env := by rfl) (hpl : (backTo pos (starEach es X.env)).any (·.1) = false := by rfl) :
    DE X W0 (.Call (.Name x p) (e :: es) [] pos) (dMake C sp TR) := by
  obtain ⟨f, fd, h1, h2, h3, h4⟩ := h
  exact (pe_make h2 h4 hr hg h1 h3 .nil pass0 ha hdb he hpl).imp fun _ _ _ q => lift_make q
theorem de_make0 {x : Str} {k : Nat} {ps : List Str} {sp : DSp} (h : MkF X.prog X.w X.K X.mg X.base x C k ps sp) (hr : Room (k + 1) X.A) (hg : Gl X x) (hdb : (x == ("__debug__" : Str)) = false := by decide) : DE X W0 (.Call (.Name x p) [] [] pos) (dMake C sp dNil) := by
  obtain ⟨f, fd, h1, h2, h3, h4⟩ := h
  refine (pe_make0 h2 h4 hr hg h1 h3 .nil pass0 hdb).imp fun σ H Q q => ?_
  obtain ⟨W, env, S, P, hW, sim, er, hn, post⟩ := lift_make (TR := dNil) q
  exact post [] S W H [] hn sim .refl .nil
end
end DL

namespace DL
open PySem PySem.Spec PyProof.Rows L2
/-! ### xs[i] += e -/
def rGetL (K : PySem.W.Frag) : V → V → Hp → VK → Prop := fun o i H Q => ∃ p xs k v, o = .ref p ∧ i = .int k ∧ 0 ≤ k ∧ SqL K H p xs ∧ L2.atI xs k = some v ∧ Q v H
section
variable {X : Cx} {W0 : Bs} {a b e : Expr} {Ta Tb Te : DTE} {pos tpos : Pos}
theorem get_list : PGet X (rGetL X.K) := by
  intro pins s σ H o i ov iv Q I ro ri h
  obtain ⟨p, xs, k, v, rfl, rfl, h0, hq, he, q⟩ := h
  cases ro
  obtain ⟨t, rfl⟩ := ri
  obtain ⟨its, r, pl, hz⟩ := I.list hq
  obtain ⟨j, h1, h2, h3, h4, h5⟩ := atI_get he
  obtain ⟨w, ew, rw'⟩ := r.get h2
  have hl := r.length
  have hn := line63
  have hj : k.toNat = j := by
    rw [seqIndex_of h0 h5] at h1
    exact Option.some.inj h1
  exact wpAny_getItem_list pl.isList h0 (by omega) (by rw [hj]; simpa using ew) ⟨v, H, I, rw', q⟩
def dAugS (Ta Tb Te : DTE) (g : Int → Int → Int) : DTS := fun E env S => Ta env S fun x S1 => Tb env S1 fun y S2 => ∃ i k xs z, x = .ref i ∧ y = .int k ∧ 0 ≤ k ∧ S2[i]? = some (.lst xs) ∧ L2.atI xs k = some (.int z) ∧
  Te env S2 fun v S3 => xInt (fun u => setAt (.ref i) (.int k) (.int (g z u)) S3 fun S4 => E.nx env S4) v
theorem ds_augS {op : Operator} {g : Int → Int → Int} (ho : PIp X op (ipI g)) (ha : DE X W0 a Ta) (hb : DE X W0 b Tb) (he : DE X W0 e Te)
    (hs : ∀ ov iv new, augStore b ov iv new = (do holding [new, ov, iv] (setItem ov iv new); release [new, ov, iv] []; pure .next) := by intros; rfl) : DS X W0 (.AugAssign (.Subscript a b tpos) op e pos) (dAugS Ta Tb Te g) :=
  (ps_augS ha hb get_list he ho set_list hs).imp fun D σ H ⟨W, env, S, E, hW, sim, er, ht, post⟩ => ⟨W, env, S, _, hW, sim, er, ht, fun x S1 W1 H1 v1 q1 s1 l1 r1 => ⟨W1, env, S1, _, hW.trans l1, s1, er.mono l1.le, q1, fun y S2 W2 H2 v2 ⟨i, k, xs, z, ex, ey, h0, hi, hk, q2⟩ s2 l2 r2 => by
    subst ex ey
    have r1 := r1.mono l2.le
    cases r1 with
    | @ref _ p hp =>
      obtain ⟨_, vs, hH, rr⟩ := s2.obj i p _ hp hi
      obtain ⟨v, h1, h2⟩ := rr.atI hk
      refine ⟨p, vs, k, v, rfl, r2.intV, h0, SqL.of hH, h1, W2, env, S2, _, hW.trans (l1.trans l2), s2, er.mono (l1.trans l2).le, q2, fun d S3 W3 H3 v3 ⟨u, eu, q3⟩ s3 l3 r3 => ?_⟩
      subst eu
      obtain ⟨i', xs', k', j, e1, hS, e2, hj, q4⟩ := q3
      cases e1
      cases e2
      have hp3 := l3.le.pre _ _ hp
      obtain ⟨hB, vs3, hH3, rr3⟩ := s3.obj i p _ hp3 hS
      refine ⟨z, u, h2.intV, r3.intV, p, vs3, k, j, rfl, r2.intV, hH3, by rw [rr3.length]; exact hj, ?_⟩
      have s4 := s3.setO (o' := .lst (xs'.set j (.int (g z u)))) (ho := .lst (vs3.set j (.int (g z u)))) hp3 hS hB ⟨hB, _, upd_same, rr3.set (.int _) j⟩
      exact post.nx _ _ W3 _ σ q4 s4 (((l1.trans l2).trans l3).trans (.setO hp3)) (er.mono ((l1.trans l2).trans l3).le)⟩⟩
/-! ### NAME.get(e, e2), e in NAME: of a written dict -/
def xKget2 (ks : List Key) (ds : List D) (P : D → Prop) (y z : D) : Prop := ∃ k, keyOf y = some k ∧ P ((dlook ks ds k).getD z)
def dKget2 (ks : List Key) (ds : List D) (Tb Tc : DTE) : DTE := fun env S P => Tb env S fun y S1 => Tc env S1 fun z S2 => xKget2 ks ds (fun d => P d S2) y z
theorem de_kget2 {x : Str} {d : Addr} {ks : List Key} {ds : List D} {b c : Expr} {Tb Tc : DTE} {pos' apos cpos : Pos} (tab : KTab X.prog X.w X.K d ks ds) (hx : Gl X x) (hm : X.mg x = some (.ref d)) (hb : DE X W0 b Tb) (hc : DE X W0 c Tc) (m : M2 X (.Name x pos') "get" apos b c cpos) (hdb : (x == ("__debug__" : Str)) = false := by decide) :
    DE X W0 (.Call (.Attribute (.Name x pos') "get" apos) [b, c] [] cpos) (dKget2 ks ds Tb Tc) := by
  obtain ⟨vs, us, hl, hr, kv, hk, hs, hd⟩ := tab.ex
  refine ⟨fun pins s σ H Q I ⟨W, env, S, P, hW, sim, er, ht, post⟩ => ?_⟩
  have ho : PE X (.Name x pos') (tC (.ref d)) := pe_glob (v := .ref d) hx hm rfl hdb
  refine wpAny_Call_method m.base m.few m.line PySem.F.plainAttrs_dict PySem.F.slot_dict_get PySem.F.type_dict_get (thn (ho.run pins s σ H (fun v H' => v = .ref d ∧ H' = H) I ⟨rfl, rfl⟩) fun u s1 ⟨v, H1, I1, rx, ex, eh⟩ => ?_)
  subst ex eh
  obtain rfl : u = Value.ref d := rx
  have dd := hd _ I1.kIn
  refine ⟨dd.typeIs, dd.mapOf.noDict, ?_⟩
  rw [m.trees]
  refine Calls.callWith_builtin rfl (Calls.evalArgs_plain (Calls.spliced_cons (thn (hb.run pins s1 σ H1 _ I1 ⟨W, env, S, _, hW, sim, er, ht, fun y S1 W1 H2 v1 q1 s1' l1 r1 => (⟨W1, env, S1, _, hW.trans l1, s1', er.mono l1.le, q1, fun z S2 W2 H3 v2 q2 s2 l2 r2 => (⟨S2, W2, y, z, q2, s2, l1.trans l2, r1.mono l2.le, r2⟩ : ∃ S2 W2 y z, xKget2 ks ds (fun d => P d S2) y z ∧ Sim X.K W2 S2 H3 ∧ Stp W H1 W2 H3 ∧ Rep X.K W2 v1 y ∧ Rep X.K W2 v2 z)⟩ :
    liftE X.K W0 Tc σ H2 fun v2 H3 => ∃ S2 W2 y z, xKget2 ks ds (fun d => P d S2) y z ∧ Sim X.K W2 S2 H3 ∧ Stp W H1 W2 H3 ∧ Rep X.K W2 v1 y ∧ Rep X.K W2 v2 z)⟩) fun iv s2 ⟨v1, H2, I2, ry, q2⟩ => Calls.spliced_cons (thn (hc.run pins s2 σ H2 _ I2 q2) fun fv s3 ⟨v2, H3, I3, rz, S2, W2, y, z, ⟨k, hkk, q⟩, s2', l2, r1, r2⟩ => Calls.spliced_nil ?_))))
  have dd3 := hd _ I3.kIn
  have ev := r1.key hkk
  subst ev
  refine call_meetsIn PySem.F.slot_dict_get dd3.typeIs PySem.F.entry_dict_get (PySem.F.args_dict_get_3 _ _ _) (meets_dict_get_default (mixKind X.prog X.w) d (kV_is ry) hs fv) ⟨_, dd3.mapOf, ?_⟩
  have rv := (KV.val kv k)
  cases hdl : dlook ks ds k with
  | none =>
    rw [hdl] at q
    rw [(look_rep (hr W2) hl).2 hdl] at rv
    exact ⟨v2, H3, I3.tok _, RelO.getD rv rz, post _ _ W2 H3 _ q s2' l2 r2⟩
  | some dv =>
    rw [hdl] at q
    obtain ⟨v, h1, h2⟩ := (look_rep (hr W2) hl).1 dv hdl
    rw [h1] at rv
    exact ⟨v, H3, I3.tok _, RelO.getD rv rz, post _ _ W2 H3 _ q s2' l2 h2⟩
end
end DL

namespace DL
open PySem PySem.Spec PyProof.Rows L2
section
variable {X : Cx} {W0 : Bs} {a b e : Expr} {Ta Tb Te : DTE} {pos tpos : Pos}
/-! ### e in NAME -/
theorem op_kin {d : Addr} {ks : List Key} {vs : List V} {us : List (Key × Value)} (kv : KV (ks.zip vs) us) (hs : (d == sysModules) = false) (hd : ∀ h : Heap, X.K.In h → h.DictOf (mixKind X.prog X.w) d us) :
    OpR X (compareOp .In) (fun x y H Q => ∃ k, x = kV k ∧ y = .ref d ∧ Q (.bl (valV (ks.zip vs) k).isSome) H) := by
  intro pins s σ H x y v u Q I rx ry h
  obtain ⟨k, rfl, rfl, q⟩ := h
  cases ry
  refine wpAny_in_of (kV_is rx) hs (hd _ I.kIn).mapOf ?_
  rw [← (KV.val kv k).isSome_eq]
  exact ⟨.bl _, H, I.tok _, rfl, q⟩
def dKin (ks : List Key) (ds : List D) (Tb : DTE) : DTE := fun env S P => Tb env S fun y S1 => ∃ k, keyOf y = some k ∧ P (.bl (dlook ks ds k).isSome) S1
theorem lift_kin {d : Addr} {ks : List Key} {ds : List D} {vs : List V} {σ : L2.St} {H : Hp} {Q : VK} (hl : ks.length = vs.length) (hr : ∀ W, Reps X.K W vs ds) (h : liftE X.K W0 (dKin ks ds Tb) σ H Q) :
    tOp (fun x y H Q => ∃ k, x = kV k ∧ y = .ref d ∧ Q (.bl (valV (ks.zip vs) k).isSome) H) (liftE X.K W0 Tb) (tC (.ref d)) σ H Q := by
  obtain ⟨W, env, S, P, hW, sim, er, ht, post⟩ := h
  refine ⟨W, env, S, _, hW, sim, er, ht, fun y S1 W1 H1 v ⟨k, hk, q⟩ s1 l1 r1 => ⟨k, r1.key hk, rfl, ?_⟩⟩
  have e : (valV (ks.zip vs) k).isSome = (dlook ks ds k).isSome := by
    cases hd : dlook ks ds k with
    | none => rw [(look_rep (hr W1) hl).2 hd]; rfl
    | some d' =>
      obtain ⟨v', h1, _⟩ := (look_rep (hr W1) hl).1 d' hd
      rw [h1]
      rfl
  rw [e]
  exact post _ _ W1 H1 _ q s1 l1 (.bl _)
theorem dt_kin {x : Str} {d : Addr} {ks : List Key} {ds : List D} {p : Pos} (tab : KTab X.prog X.w X.K d ks ds) (hx : Gl X x) (hm : X.mg x = some (.ref d)) (hb : DE X W0 b Tb) (hmk : behindInMarks .In (.Name x p) = false := by rfl) (hdb : (x == ("__debug__" : Str)) = false := by decide) :
    DT X W0 (.Compare b [.In] [.Name x p] pos) (dB (dKin ks ds Tb)) := by
  obtain ⟨vs, us, hl, hr, kv, hk, hs, hd⟩ := tab.ex
  exact (pt_cmpR (op_kin kv hs hd) hb (pe_glob (v := .ref d) hx hm rfl hdb) hmk).imp fun _ _ _ h => lift_kin hl hr (lift_B h)
/-! ### e in a tuple of tuples -/
def rInDT (K : PySem.W.Frag) : R2 := fun x y H Q => ∃ d ds, Dp K H x d ∧ Dp K H y (.tuple ds) ∧ SeqAt.shaped d = true ∧ SeqAt.shaped (.tuple ds) = true ∧ Q (.bl (ds.any fun z => PyData.eqv z d)) H
theorem op_inDT (hu : X.A.units + 65 < cLine) : OpR X (compareOp .In) (rInDT X.K) := by
  intro pins s σ H x y v u Q I rx ry h
  obtain ⟨d, ds, hd, he, sd, se, q⟩ := h
  obtain ⟨as, r1⟩ := Dp.reads I d x v hd rx
  obtain ⟨bs, r2⟩ := Dp.reads I (.tuple ds) y u he ry
  exact SeqAt.in_tuple_reads r2 r1 (SeqAt.canLay_of_shaped se) (SeqAt.canLay_of_shaped sd) (room_in_shaped sd hu) ⟨.bl _, H, I, rfl, q⟩
def dInDT : D2 := fun x y S P => ∃ n q qs, pyOf S n x = some q ∧ pyOf S n y = some (.tuple qs) ∧ SeqAt.shaped q = true ∧ SeqAt.shaped (.tuple qs) = true ∧ P (.bl (qs.any fun z => PyData.eqv z q)) S
theorem do_inDT {K : PySem.W.Frag} : DOp K (rInDT K) dInDT := by
  intro W S H x y d1 d2 P Q s r1 r2 ⟨n, q, qs, h1, h2, h3, h4, p⟩ post
  exact ⟨q, qs, r1.dp s n _ _ _ h1, r2.dp s n _ _ _ h2, h3, h4, post _ _ W H _ p s .refl (.bl _)⟩
/-! ### dicts that change -/
theorem Stp.overO {W W' : Wd} {H H' : Hp} {p : Addr} {o : HO} (l : Stp W H W' H') (hp : H p = none) (hn : ∀ ps, o ≠ .tbl ps := by intro _ z; cases z) : Stp W H (W'.new p) (upd H' p o) := by
  have a := l.adoptO (.of hp)
  exact ⟨a.le, fun q u h n t => by rw [upd_ne (ne_of_none h hp)]; exact a.keep q u h n t, fun q h => a.dom q (fre_set hn q h), a.newm, a.newB⟩
def xDispS (P : D → Sto → Prop) (ps : List (D × D)) (S : Sto) : Prop := ∃ ks, ps.map (fun q => keyOf q.1) = ks.map some ∧ ks.Nodup ∧ ks.length ≤ 15 ∧ P (.ref S.length) (S ++ [.dct ks (ps.map (·.2))])
def dDispS (Ts : List (DTE × DTE)) : DTE := fun env S P => dPairs Ts env S (xDispS P)
theorem de_dispS {keys : List (Option Expr)} {values : List Expr} {Ts : List (DTE × DTE)} (h : DPs X W0 pos keys values Ts) (hall : keys.all (·.isSome) = true) (hl : keys.length = values.length) (h0 : keys ≠ []) (h15 : keys.length ≤ 15) : DE X W0 (.Dict keys values pos) (dDispS Ts) :=
  (pe_disp h hall hl h0 h15).imp fun σ H Q ⟨W, env, S, P, hW, sim, er, ht, post⟩ p hp => by
    refine lift_pairs (hW.trans (.lay hp)) (sim.lay hp) er ht fun ps S' W' H' us ⟨ks, e, nd, h15, q⟩ s l ra rb => ?_
    obtain ⟨hB, hm, hH⟩ := l.stays (sim.free hp) (fun z => sim.dom p z hp) upd_same
    have lus : us.length = ps.length := by simpa using ra.length
    have lks : ks.length = ps.length := by simpa using (congrArg List.length e).symm
    have lzip : ks.length = (us.map (·.2)).length := by rw [List.length_map, lus, lks]
    have ek : (ks.zip (us.map (·.2))).map (·.1) = ks := List.map_fst_zip (by omega)
    refine ⟨hH, ks.zip (us.map (·.2)), keys_us ra e, by rw [List.length_zip]; omega, ?_⟩
    rw [merge_new _ [] (by simpa [ek] using nd), List.nil_append]
    have s2 := (s.beside (o := .dK (ks.zip (us.map (·.2)))) hB hm).adoptO (o := .dct ks (ps.map (·.2))) hB hm (by rw [upd_same]; exact fun z => nomatch z) ⟨hB, us.map (·.2), upd_same, lzip, rb.mono Wd.le_new⟩
    exact post _ _ _ _ _ q s2 ((Stp.lay hp).trans l |>.overO hp) (.ref (by show (W'.m ++ [p])[S'.length]? = some p; rw [← s.len, List.getElem?_append_right (Nat.le_refl _), Nat.sub_self]; rfl))
def xSget (P : D → Prop) (x y : D) (S : Sto) : Prop := ∃ i ks ds k d, x = .ref i ∧ S[i]? = some (.dct ks ds) ∧ keyOf y = some k ∧ dlook ks ds k = some d ∧ P d
def dSget (Ta Tb : DTE) : DTE := fun env S P => Ta env S fun x S1 => Tb env S1 fun y S2 => xSget (fun d => P d S2) x y S2
theorem de_sget (hu : X.A.units + 1 < cLine) (ha : DE X W0 a Ta) (hb : DE X W0 b Tb) (hs : NoSl b) : DE X W0 (.Subscript a b pos) (dSget Ta Tb) := (pe_dget hu ha hb hs).imp fun σ H Q ⟨W, env, S, P, hW, sim, er, ht, post⟩ =>
  ⟨W, env, S, _, hW, sim, er, ht, fun x S1 W1 H1 v1 q1 s1 l1 r1 => ⟨W1, env, S1, _, hW.trans l1, s1, er.mono l1.le, q1, fun y S2 W2 H2 v2 q2 s2 l2 r2 => by
    obtain ⟨i, ks, ds, k, d, rfl, hi, hk, hd, q⟩ := q2
    have r1 := r1.mono l2.le
    cases r1 with
    | @ref _ p hp =>
      obtain ⟨hB, vs, hH, hl, rr⟩ := s2.obj i p _ hp hi
      obtain ⟨v, h1, h2⟩ := (look_rep rr hl).1 d hd
      refine ⟨p, v, rfl, ?_, post _ _ W2 H2 _ q s2 (l1.trans l2) h2⟩
      rw [r2.key hk, ← h1]
      exact DGet.k hH⟩⟩
def dput (ks : List Key) (ds : List D) (k : Key) (d : D) : List D := List.zipWith (fun k' x => if k' = k then d else x) ks ds
theorem putK_zip {k : Key} {v : V} {ks : List Key} {vs : List V} (h : k ∈ ks) (hl : ks.length = vs.length) : putK (ks.zip vs) k v = ks.zip (List.zipWith (fun k' x => if k' = k then v else x) ks vs) := by
  unfold putK
  rw [if_pos]
  · clear h
    induction ks generalizing vs with
    | nil => rfl
    | cons k' ks ih =>
      cases vs with
      | nil => cases hl
      | cons u vs =>
        simp only [List.zip_cons_cons, List.map_cons, List.zipWith_cons_cons]
        rw [ih (by simpa using hl)]
        by_cases e : k' = k <;> simp [e]
  · rw [List.any_eq_true]
    obtain ⟨j, hj⟩ := List.getElem?_of_mem h
    have hjl := (List.getElem?_eq_some_iff.mp hj).1
    refine ⟨(k, vs[j]'(by omega)), ?_, by simp⟩
    refine List.mem_of_getElem? (i := j) ?_
    rw [List.getElem?_zip_eq_some]
    exact ⟨hj, List.getElem?_eq_getElem (by omega)⟩
theorem reps_dput {K : PySem.W.Frag} {W : Wd} {k : Key} {v : V} {d : D} (r0 : Rep K W v d) : ∀ {ks : List Key} {vs : List V} {ds : List D}, Reps K W vs ds → Reps K W (List.zipWith (fun k' x => if k' = k then v else x) ks vs) (dput ks ds k d)
  | [], _, _, _ => .nil
  | _ :: _, _, _, .nil => .nil
  | k' :: ks, _, _, .cons r rs => by
    show Reps K W ((if k' = k then v else _) :: _) ((if k' = k then d else _) :: _)
    refine .cons ?_ (reps_dput r0 rs)
    by_cases e : k' = k
    · rw [if_pos e, if_pos e]; exact r0
    · rw [if_neg e, if_neg e]; exact r
def setAtD (x y d : D) (S : Sto) (P : Sto → Prop) : Prop := ∃ i ks ds k, x = .ref i ∧ S[i]? = some (.dct ks ds) ∧ keyOf y = some k ∧ k ∈ ks ∧ ks.length ≤ 1000 ∧ P (S.set i (.dct ks (dput ks ds k d)))
def gSbD (Ta Tb : DTE) : DTG := fun d env S P => Ta env S fun x S1 => Tb env S1 fun y S2 => setAtD x y d S2 fun S3 => P env S3
theorem dg_subD (ha : DE X W0 a Ta) (hb : DE X W0 b Tb) (h : ∀ {to ti : TE}, PE X a to → PE X b ti → PG X (.Subscript a b pos) (gSub to ti rSetD)) : DG X W0 [] (.Subscript a b pos) (gSbD Ta Tb) :=
  (h ha hb).imp fun v σ H Q ⟨W, env, S, P, d, hW, sim, er, r, ht, post⟩ => ⟨W, env, S, _, hW, sim, er, ht, fun x S1 W1 H1 v1 q1 s1 l1 r1 => ⟨W1, env, S1, _, hW.trans l1, s1, er.mono l1.le, q1, fun y S2 W2 H2 v2 ⟨i, ks, ds, k, ex, hi, hk, hm, h3, q2⟩ s2 l2 r2 => by
    subst ex
    have r1 := r1.mono l2.le
    cases r1 with
    | @ref _ p hp =>
      obtain ⟨hB, vs, hH, hl, rr⟩ := s2.obj i p _ hp hi
      have rd := r.mono (l1.trans l2).le
      have hput := DPut.k (k := k) (v := v) hH (Nat.lt_of_le_of_lt (by rw [List.length_zip]; omega) (show 1000 < sizeLine by decide))
      rw [putK_zip hm hl] at hput
      refine ⟨p, _, rfl, by rw [r2.key hk]; exact hput, ?_⟩
      have s3 := s2.setO (o' := .dct ks (dput ks ds k d)) (ho := .dK (ks.zip (List.zipWith (fun k' x => if k' = k then v else x) ks vs))) hp hi hB ⟨hB, _, upd_same, by rw [List.length_zipWith]; omega, reps_dput rd rr⟩
      exact post _ _ W2 _ σ q2 s3 ((l1.trans l2).trans (.setO hp)) (er.mono (l1.trans l2).le) .refl⟩⟩
end
end DL

namespace DL
open PySem PySem.Spec PyProof.Rows L2
theorem room65 {k : Nat} {A : Around} (r : Room k A) : A.units + 65 < cLine := by have := r.un; omega
/-- what a class of the text has: no name of its objects is its own -/
structure ClsF (K : PySem.W.Frag) (C : Addr) (fs : List Str) : Prop where
  cl : Cls K C
  na : ∀ f, fs.contains f = true → NoAttr K C f
structure MAt (K : PySem.W.Frag) (C : Addr) (m qual : Str) (st : Stmt) (ps : List Str) : Prop where
  ex : ∃ f fd, Meth K C m f ∧ Fun K m qual st f fd ∧ Binds K fd ps []
structure IAt (K : PySem.W.Frag) (mg : Str → Option Value) (x : Str) (C : Addr) (qual : Str) (st : Stmt) (ps : List Str) : Prop where
  ex : ∃ f fd, mg x = some (.ref C) ∧ Mk K C f ∧ Fun K "__init__" qual st f fd ∧ Binds K fd ps []
section
variable {P : Program} {w : World} {K : PySem.W.Frag} {mg : Str → Option Value} {base : Heap} {C : Addr} {m x qual : Str} {st : Stmt} {ps : List Str} {k : Nat} {sp : DSp}
theorem mfn_at (h : MAt K C m qual st ps) (ok : ∀ f fd, Fun K m qual st f fd → FnOk P w K mg base CX0 k f fd ps (liftSp K sp)) : MFn P w K mg base C m k ps sp := by
  obtain ⟨f, fd, h1, h2, h3⟩ := h.ex
  exact ⟨f, fd, h1, h3, ok f fd h2⟩
theorem mkf_at (h : IAt K mg x C qual st ps) (ok : ∀ f fd, Fun K "__init__" qual st f fd → FnOk P w K mg base CX0 k f fd ps (liftSp K sp)) : MkF P w K mg base x C k ps sp := by
  obtain ⟨f, fd, h0, h1, h2, h3⟩ := h.ex
  exact ⟨f, fd, h0, h1, h3, ok f fd h2⟩
end
section
variable {K : PySem.W.Frag} {h : Heap} {mg : Str → Option Value} {goal : Prop}
theorem with_cls (X : K.In h) (G : h.Ns mainGlobals mg) (x : Str) {C : Addr} (aC : PySem.W.nsIn K mainGlobals x = some (some (.ref C))) (pg : PySem.W.plainGet K C Str.empty = true) (hd : PySem.W.hasDictIn K C = true) (po : PySem.W.plainOver K C = true)
    (sa : PySem.W.findIn K (.ref C) "__setattr__" = some (some (.builtin "object.__setattr__"))) (mk : PySem.W.makesIn K C = true) (kc : PySem.W.keepIn K (.ref C) = true) (q : ∀ C, Cls K C → mg x = some (.ref C) → PySem.W.nsIn K mainGlobals x = some (some (.ref C)) → PySem.W.makesIn K C = true → PySem.W.keepIn K (.ref C) = true → goal) : goal :=
  q C ⟨pg, hd, po, sa⟩ (PySem.W.mg_of X G aC) aC mk kc
/-- the class stands at a written place -/
theorem with_cls' (X : K.In h) (G : h.Ns mainGlobals mg) (x : Str) {C : Addr} (aC : PySem.W.nsIn K mainGlobals x = some (some (.ref C))) (pg : PySem.W.plainGet K C Str.empty = true) (hd : PySem.W.hasDictIn K C = true) (po : PySem.W.plainOver K C = true)
    (sa : PySem.W.findIn K (.ref C) "__setattr__" = some (some (.builtin "object.__setattr__"))) (q : Cls K C → mg x = some (.ref C) → goal) : goal :=
  q ⟨pg, hd, po, sa⟩ (PySem.W.mg_of X G aC)
theorem with_meth (C : Addr) (m qual : Str) (st : Stmt) (ps : List Str) {f : Addr} {od an : Option Addr} {sl : Array (Option Value)} {oc kV dc pm cd ct : Value}
    (a : PySem.W.findIn K (.ref C) m = some (some (.ref f))) (i : PySem.W.isFn K (.ref f) = true) (l : K.lookup f = some ⟨oc, od, .func (PySem.W.fnOf m qual (defArgs st) (defBody st) (defScope st) .none kV dc pm an cd ct), sl⟩) (c : PySem.W.codeIn K cd qual = true) (k : PySem.W.keepIn K (.ref f) = true)
    (b : ∀ (kV doc pm : Value) (an : Option Addr) (cdv ct : Value) (us : List Value), us.length = ps.length → bindArgs (PySem.W.fnOf m qual (defArgs st) (defBody st) (defScope st) .none kV doc pm an cdv ct) ⟨us, []⟩ = pure (ps.zip us)) (q : MAt K C m qual st ps → goal) : goal := by
  have F := fun_mk (st := st) l c k
  exact q ⟨f, _, ⟨a, i, k⟩, F, F.binds b⟩
theorem with_init (x : Str) (C : Addr) (qual : Str) (st : Stmt) (ps : List Str) (hx : mg x = some (.ref C)) {f : Addr} {od an : Option Addr} {sl : Array (Option Value)} {oc kV dc pm cd ct : Value}
    (mk : PySem.W.makesIn K C = true) (kc : PySem.W.keepIn K (.ref C) = true) (a : PySem.W.findIn K (.ref C) "__init__" = some (some (.ref f))) (i : PySem.W.isFn K (.ref f) = true) (l : K.lookup f = some ⟨oc, od, .func (PySem.W.fnOf "__init__" qual (defArgs st) (defBody st) (defScope st) .none kV dc pm an cd ct), sl⟩) (c : PySem.W.codeIn K cd qual = true) (k : PySem.W.keepIn K (.ref f) = true)
    (b : ∀ (kV doc pm : Value) (an : Option Addr) (cdv ct : Value) (us : List Value), us.length = ps.length → bindArgs (PySem.W.fnOf "__init__" qual (defArgs st) (defBody st) (defScope st) .none kV doc pm an cdv ct) ⟨us, []⟩ = pure (ps.zip us)) (q : IAt K mg x C qual st ps → goal) : goal := by
  have F := fun_mk (st := st) l c k
  exact q ⟨f, _, hx, ⟨mk, a, i, kc⟩, F, F.binds b⟩
theorem clsF_of {C : Addr} {fs : List Str} (c : Cls K C) (h : ∀ f ∈ fs, NoAttr K C f) : ClsF K C fs := ⟨c, fun f hf => h f (by simpa using hf)⟩
end
section
variable {env : Ev} {S : Sto} {P : DP} {E : DEnds} {Ta Tb Tc Tv : DTE} {TR : DTA} {C : Addr} {f m : Str} {i : Nat} {fs fs' : Fs} {d x y : D} {sp : DSp} {g : Int → Int → Int} {G : DTG} {N : Ev → Sto → Prop} {ks : List Key} {ds : List D} {k : Key}
theorem i_fld (q : Ta env S fun x S1 => ∃ i fs d, x = .ref i ∧ S1[i]? = some (.ins C fs) ∧ fs.lookup f = some d ∧ P d S1) : dFld C f Ta env S P := q
theorem i_xfld (h1 : S[i]? = some (.ins C fs)) (h2 : fs.lookup f = some d) (q : P d S) : ∃ j fs' d', D.ref i = .ref j ∧ S[j]? = some (.ins C fs') ∧ fs'.lookup f = some d' ∧ P d' S := ⟨i, fs, d, rfl, h1, h2, q⟩
theorem i_setF (q : Tv env S fun y S1 => Ta env S1 fun x S2 => ∃ i fs, x = .ref i ∧ S2[i]? = some (.ins C fs) ∧ fs.length < 1000 ∧ E.nx env (S2.set i (.ins C (putD f y fs)))) : dSetF C f Ta Tv E env S := q
theorem i_xsetF {F : Sto → Prop} (h1 : S[i]? = some (.ins C fs)) (h2 : fs.length < 1000) (q : F (S.set i (.ins C (putD f y fs)))) : ∃ j fs', D.ref i = .ref j ∧ S[j]? = some (.ins C fs') ∧ fs'.length < 1000 ∧ F (S.set j (.ins C (putD f y fs'))) := ⟨i, fs, rfl, h1, h2, q⟩
theorem i_augF (q : Ta env S fun x S1 => ∃ i fs a, x = .ref i ∧ S1[i]? = some (.ins C fs) ∧ fs.lookup f = some (.int a) ∧
  Tv env S1 fun y S2 => xInt (fun b => ∃ fs', S2[i]? = some (.ins C fs') ∧ fs'.length < 1000 ∧ E.nx env (S2.set i (.ins C (putD f (.int (g a b)) fs')))) y) : dAugF C f Ta Tv g E env S := q
theorem i_meth (q : Ta env S fun x S1 => (∃ i fs, x = .ref i ∧ S1[i]? = some (.ins C fs) ∧ fs.lookup m = none) ∧ TR env S1 fun ds S2 => sp (x :: ds) S2 P) : dMeth C m sp Ta TR env S P := q
theorem i_xmeth {A : Prop} (h1 : S[i]? = some (.ins C fs)) (h2 : fs.lookup m = none) (q : A) : (∃ j fs', D.ref i = .ref j ∧ S[j]? = some (.ins C fs') ∧ fs'.lookup m = none) ∧ A := ⟨⟨i, fs, rfl, h1, h2⟩, q⟩
theorem i_make (q : TR env S fun ds S1 => sp (.ref S1.length :: ds) (S1 ++ [.ins C []]) fun v S2 => v = .non ∧ P (.ref S1.length) S2) : dMake C sp TR env S P := q
theorem i_augS (q : Ta env S fun x S1 => Tb env S1 fun y S2 => ∃ i k xs z, x = .ref i ∧ y = .int k ∧ 0 ≤ k ∧ S2[i]? = some (.lst xs) ∧ L2.atI xs k = some (.int z) ∧
  Tc env S2 fun v S3 => xInt (fun u => setAt (.ref i) (.int k) (.int (g z u)) S3 fun S4 => E.nx env S4) v) : dAugS Ta Tb Tc g E env S := q
theorem i_kget2 (q : Tb env S fun y S1 => Tc env S1 fun z S2 => xKget2 ks ds (fun d => P d S2) y z) : dKget2 ks ds Tb Tc env S P := q
theorem i_kin (q : Tb env S fun y S1 => ∃ k, keyOf y = some k ∧ P (.bl (dlook ks ds k).isSome) S1) : dKin ks ds Tb env S P := q
theorem i_sget (q : Ta env S fun x S1 => Tb env S1 fun y S2 => xSget (fun d => P d S2) x y S2) : dSget Ta Tb env S P := q
theorem i_xsget {F : D → Prop} (h1 : S[i]? = some (.dct ks ds)) (h2 : keyOf y = some k) (h3 : dlook ks ds k = some d) (q : F d) : xSget F (.ref i) y S := ⟨i, ks, ds, k, d, rfl, h1, h2, h3, q⟩
theorem i_dispS {Ts : List (DTE × DTE)} (q : dPairs Ts env S (xDispS P)) : dDispS Ts env S P := q
theorem i_sbD (q : Ta env S fun x S1 => Tb env S1 fun y S2 => setAtD x y d S2 fun S3 => N env S3) : gSbD Ta Tb d env S N := q
theorem i_setD {F : Sto → Prop} (h1 : S[i]? = some (.dct ks ds)) (h2 : keyOf y = some k) (h3 : k ∈ ks) (h4 : ks.length ≤ 1000) (q : F (S.set i (.dct ks (dput ks ds k d)))) : setAtD (.ref i) y d S F := ⟨i, ks, ds, k, rfl, h1, h2, h3, h4, q⟩
theorem i_aug {n : Nat} {z : Int} (h : env[n]? = some (some (.int z))) (q : Ta env S fun y S1 => xInt (fun b => E.nx (env.set n (some (.int (g z b)))) S1) y) : dAug n Ta g E env S := ⟨z, h, q⟩
end
end DL

namespace DL
open PySem PySem.Spec PyProof.Rows L2
/-- a def that may fall off its end, and keeps what the store got -/
def exitKN (P : DP) : DEnds := { nx := fun _ S' => P .non S', rt := P }
theorem fn_dKN {P : Program} {w : World} {K : PySem.W.Frag} {mg : Str → Option Value} {base : Heap} {x qual : Str} {st : Stmt} {f : Addr} {fd : FuncData} {N ps : List Str} {k : Nat} {sp : DSp} (F : Fun K x qual st f fd) (S : FnScope N ps (defScope st))
    (len : ∀ ds S P, sp ds S P → ds.length = ps.length)
    (body : ∀ (X : Cx) (W0 : Bs) (cdv : Value) (A : Around) (outer : List Env) (s : Shared) (H : Hp) (E : XK), X = (cxOf CX0 P w K mg base N qual (defScope st) f cdv A outer s H E).nox → Room k X.A →
      ∃ T : DTS, DSs X W0 (defBody st) T ∧ ∀ ds S P, sp ds S P → T (exitKN P) (startE N ds) S) : FnOk P w K mg base CX0 (k + 1) f fd ps (liftSp K sp) := by
  refine F.ok S (fun vs H Q E ⟨W, ds, S, P, _, r, q, _⟩ => by rw [r.length]; exact len ds S P q) fun cdv A outer s H vs Q E hr h => ?_
  obtain ⟨W, ds, S, P, sim, r, q, post⟩ := h
  obtain ⟨T, hT, hq⟩ := body _ { W := W, H := H } cdv A outer s H E rfl hr
  exact ⟨_, hT, W, startE N ds, S, _, Stp.refl, sim, EnvR.start r, hq ds S P q, ⟨fun _ S' W' H' _ z s' l' _ => post .non S' W' H' .non z s' l' .non, post, fun _ _ _ _ _ z => z.elim, fun _ _ _ _ _ z => z.elim⟩⟩
end DL

namespace DL
open PySem PySem.Spec PyProof.Rows L2
section
variable {K : PySem.W.Frag} {h : Heap} {mg : Str → Option Value} {goal : Prop}
theorem with_meth' {C : Addr} (_ : Cls K C) (m qual : Str) (st : Stmt) (ps : List Str) {f : Addr} {od an : Option Addr} {sl : Array (Option Value)} {oc kV dc pm cd ct : Value}
    (a : PySem.W.findIn K (.ref C) m = some (some (.ref f))) (i : PySem.W.isFn K (.ref f) = true) (l : K.lookup f = some ⟨oc, od, .func (PySem.W.fnOf m qual (defArgs st) (defBody st) (defScope st) .none kV dc pm an cd ct), sl⟩) (c : PySem.W.codeIn K cd qual = true) (k : PySem.W.keepIn K (.ref f) = true)
    (b : ∀ (kV doc pm : Value) (an : Option Addr) (cdv ct : Value) (us : List Value), us.length = ps.length → bindArgs (PySem.W.fnOf m qual (defArgs st) (defBody st) (defScope st) .none kV doc pm an cdv ct) ⟨us, []⟩ = pure (ps.zip us)) (q : MAt K C m qual st ps → goal) : goal := with_meth C m qual st ps a i l c k b q
theorem with_init' {C : Addr} (_ : Cls K C) (x qual : Str) (st : Stmt) (ps : List Str) (hx : mg x = some (.ref C)) {f : Addr} {od an : Option Addr} {sl : Array (Option Value)} {oc kV dc pm cd ct : Value}
    (mk : PySem.W.makesIn K C = true) (kc : PySem.W.keepIn K (.ref C) = true) (a : PySem.W.findIn K (.ref C) "__init__" = some (some (.ref f))) (i : PySem.W.isFn K (.ref f) = true) (l : K.lookup f = some ⟨oc, od, .func (PySem.W.fnOf "__init__" qual (defArgs st) (defBody st) (defScope st) .none kV dc pm an cd ct), sl⟩) (c : PySem.W.codeIn K cd qual = true) (k : PySem.W.keepIn K (.ref f) = true)
    (b : ∀ (kV doc pm : Value) (an : Option Addr) (cdv ct : Value) (us : List Value), us.length = ps.length → bindArgs (PySem.W.fnOf "__init__" qual (defArgs st) (defBody st) (defScope st) .none kV doc pm an cdv ct) ⟨us, []⟩ = pure (ps.zip us)) (q : IAt K mg x C qual st ps → goal) : goal := with_init x C qual st ps hx mk kc a i l c k b q
theorem with_noattr {C : Addr} (_ : Cls K C) (f : Str) (a : PySem.W.findIn K (.ref C) f = some none) (q : NoAttr K C f → goal) : goal := q a
end
end DL

namespace DL
open PySem PySem.Spec PyProof.Rows L2
section
variable {S L : Sto} {k : Nat} {o : O} {xs : List D}
theorem sto_get : (S ++ L)[S.length + k]? = L[k]? := by
  rw [List.getElem?_append_right (by omega), show S.length + k - S.length = k by omega]
theorem sto_get0 : (S ++ L)[S.length]? = L[0]? := by
  rw [List.getElem?_append_right (Nat.le_refl _), Nat.sub_self]
theorem sto_set : (S ++ L).set (S.length + k) o = S ++ L.set k o := by
  rw [List.set_append_right _ _ (by omega), show S.length + k - S.length = k by omega]
theorem sto_set0 : (S ++ L).set S.length o = S ++ L.set 0 o := by
  rw [List.set_append_right _ _ (Nat.le_refl _), Nat.sub_self]
theorem lst_ref {S : Sto} {i : Nat} (h : S[i]? = some (.lst xs)) : lstOf S (.ref i) = some xs := by simp only [lstOf, h]
theorem seq_ref {S : Sto} {i : Nat} (h : S[i]? = some (.lst xs)) : seqOf S (.ref i) = some xs := by simp only [seqOf, lstOf, h]
theorem items_ref {S : Sto} {i : Nat} (h : S[i]? = some (.lst xs)) : itemsOf S (.ref i) = some xs := by simp only [itemsOf, seqOf, lstOf, h]
end
theorem few {n : Nat} (h : n.ble 20 = true) : n < 1000 := Nat.lt_of_le_of_lt (Nat.le_of_ble_eq_true h) (by decide)
/-! ### xs[::-1] -/
section
variable {X : Cx} {W0 : Bs} {a : Expr} {Ta : DTE}
def dRev (Ta : DTE) : DTN := fun env S P => Ta env S fun x S1 => ∃ xs, lstOf S1 x = some xs ∧ P xs.reverse S1
theorem Reps.reverse {K : PySem.W.Frag} {W : Wd} : ∀ {vs : List V} {ds : List D}, Reps K W vs ds → Reps K W vs.reverse ds.reverse
  | _, _, .nil => .nil
  | _, _, .cons h r => by
    rw [List.reverse_cons, List.reverse_cons]
    exact (Reps.reverse r).app (.cons h .nil)
theorem dn_rev (ha : DE X W0 a Ta) (h : ∀ {te : TE}, PE X a te → PE X e (tRevL X.K te)) : DN X W0 e (dRev Ta) := (h ha).imp fun σ H Q ⟨W, env, S, P, hW, sim, er, ht, post⟩ =>
  ⟨W, env, S, _, hW, sim, er, ht, fun x S1 W1 H1 v ⟨xs, hx, q⟩ s l r => by
    obtain ⟨b, vs, rfl, hH, rr⟩ := r.lst_of s hx
    exact ⟨b, vs, rfl, SqL.of hH, (post.mono l).laid q s rr.reverse⟩⟩
theorem i_rev {env : Ev} {S : Sto} {Q : List D → Sto → Prop} (q : Ta env S fun x S1 => ∃ xs, lstOf S1 x = some xs ∧ Q xs.reverse S1) : dRev Ta env S Q := q
end
/-! ### slices -/
section
variable {α β : Type}
theorem c_hi (xs : List α) (k : Nat) : cutD xs none (some (k : Int)) = xs.take k := by
  unfold cutD
  rw [HT.sIx_nat, HT.sIx_none, List.drop_zero, Nat.sub_zero]
  by_cases h : k ≤ xs.length
  · rw [Nat.min_eq_left h]
  · rw [Nat.min_eq_right (by omega), List.take_of_length_le (Nat.le_refl _), List.take_of_length_le (by omega)]
theorem c_lo (xs : List α) (k : Nat) : cutD xs (some (k : Int)) none = xs.drop k := by
  unfold cutD
  rw [HT.sIx_nat, HT.sIx_none]
  by_cases h : k ≤ xs.length
  · rw [Nat.min_eq_left h, List.take_of_length_le (by rw [List.length_drop]; omega)]
  · rw [Nat.min_eq_right (by omega), List.drop_of_length_le (Nat.le_refl _), List.drop_of_length_le (by omega), List.take_nil]
theorem c_mid (xs : List α) (a b : Nat) : cutD xs (some (a : Int)) (some (b : Int)) = (xs.drop a).take (b - a) := by
  unfold cutD
  rw [HT.sIx_nat, HT.sIx_nat]
  by_cases h : a ≤ xs.length
  · rw [Nat.min_eq_left h]
    by_cases h2 : b ≤ xs.length
    · rw [Nat.min_eq_left h2]
    · rw [Nat.min_eq_right (by omega), List.take_of_length_le (by rw [List.length_drop]; omega), List.take_of_length_le (by rw [List.length_drop]; omega)]
  · rw [show min a xs.length = xs.length by omega, List.drop_of_length_le (Nat.le_refl xs.length), List.drop_of_length_le (show xs.length ≤ a by omega), List.take_nil, List.take_nil]
theorem c_last (xs : List α) : cutD xs none (some (-1)) = xs.dropLast := by
  unfold cutD
  rw [HT.sIx_none, List.drop_zero, Nat.sub_zero, List.dropLast_eq_take]
  congr 1
  show (if (-1 : Int) < 0 then ((-1 : Int) + (xs.length : Int)).toNat else min (-1 : Int).toNat xs.length) = _
  rw [if_pos (by decide)]
  omega
theorem c_map (f : α → β) (xs : List α) (l u : Option Int) : cutD (xs.map f) l u = (cutD xs l u).map f := by
  unfold cutD
  rw [List.length_map, ← List.map_drop, ← List.map_take]
end
/-! ### == of lists of whole numbers -/
theorem eqv_ints : ∀ l l' : List Int, PyData.eqvAll (l.map .int) (l'.map .int) = decide (l = l')
  | [], [] => rfl
  | [], _ :: _ => rfl
  | _ :: _, [] => rfl
  | x :: l, y :: l' => by
    have ih := eqv_ints l l'
    simp only [List.map_cons, PyData.eqvAll, ih, PyData.eqv]
    by_cases h : x = y
    · subst h; simp
    · simp [h]
theorem i_eqInts {S : Sto} {P : DP} {g : Bool → Bool} {xs ys : List D} {l l' : List Int} (e : xs = l.map .int) (e' : ys = l'.map .int) (q : P (.bl (g (decide (l = l')))) S) : dEqG g (.lst xs) (.lst ys) S P := by
  subst e e'
  refine ⟨2, .list (l.map .int), .list (l'.map .int), ?_, ?_, shaped_ints l, shaped_ints l', ?_⟩
  · show (allOf (pyOf S 1) (l.map .int)).map PyData.list = _
    rw [allOf_ints]
    rfl
  · show (allOf (pyOf S 1) (l'.map .int)).map PyData.list = _
    rw [allOf_ints]
    rfl
  · rw [show PyData.eqv (.list (l.map .int)) (.list (l'.map .int)) = decide (l = l') by rw [PyData.eqv]; exact eqv_ints l l']
    exact q
end DL

namespace DL
open PySem PySem.Spec PyProof.Rows L2
/-! ### pln data: no object of the store in it -/
mutual
def toPy : D → PyData
  | .bl b => .bool b
  | .int i => .int i
  | .str x => .str x
  | .tup xs => .tuple (toPys xs)
  | .lst xs => .list (toPys xs)
  | _ => .none
def toPys : List D → List PyData
  | [] => []
  | x :: xs => toPy x :: toPys xs
end
mutual
/-- pln, of at most so many levels -/
def pln : Nat → D → Bool
  | 0, _ => false
  | _ + 1, .non => true
  | _ + 1, .bl _ => true
  | _ + 1, .int _ => true
  | _ + 1, .str x => PyData.strOk x
  | n + 1, .tup xs => decide (xs.length ≤ 90000) && plns n xs
  | n + 1, .lst xs => decide (xs.length ≤ 90000) && plns n xs
  | _ + 1, _ => false
def plns : Nat → List D → Bool
  | _, [] => true
  | n, x :: xs => pln n x && plns n xs
end
theorem plns_mem {n : Nat} : ∀ {xs : List D}, plns n xs = true → ∀ x ∈ xs, pln n x = true
  | [], _, _, h => absurd h List.not_mem_nil
  | y :: ys, h, x, hx => by
    rw [plns, Bool.and_eq_true_iff] at h
    rcases List.mem_cons.mp hx with rfl | hx
    · exact h.1
    · exact plns_mem h.2 x hx
theorem plns_of {n : Nat} : ∀ {xs : List D}, (∀ x ∈ xs, pln n x = true) → plns n xs = true
  | [], _ => by rw [plns]
  | y :: ys, h => by rw [plns, h y List.mem_cons_self, plns_of fun x hx => h x (List.mem_cons_of_mem _ hx)]; rfl
theorem pln_py (S : Sto) : ∀ (n : Nat) (d : D), pln n d = true → pyOf S n d = some (toPy d) ∧ (toPy d).canLay0 = true ∧ (toPy d).depth ≤ n
  | 0, _, h => by simp [pln] at h
  | n + 1, d, h => by
    have all : ∀ ds : List D, plns n ds = true → allOf (pyOf S n) ds = some (toPys ds) ∧ PyData.canLayAll0 (toPys ds) = true ∧ PyData.depthAll (toPys ds) ≤ n := fun ds => by
      induction ds with
      | nil => exact fun _ => ⟨by simp [allOf, toPys], by simp [toPys, PyData.canLayAll0], by simp [toPys, PyData.depthAll]⟩
      | cons d ds ih =>
        intro h
        rw [plns, Bool.and_eq_true_iff] at h
        obtain ⟨e1, c1, d1⟩ := pln_py S n d h.1
        obtain ⟨e2, c2, d2⟩ := ih h.2
        refine ⟨by simp only [allOf, e1, e2, toPys], ?_, ?_⟩
        · rw [toPys, PyData.canLayAll0, c1, c2]
          rfl
        · rw [toPys, PyData.depthAll]
          exact Nat.max_le.mpr ⟨d1, d2⟩
    cases d with
    | non => simp [pyOf, toPy, PyData.canLay0, PyData.depth]
    | bl b => simp [pyOf, toPy, PyData.canLay0, PyData.depth]
    | int b => simp [pyOf, toPy, PyData.canLay0, PyData.depth]
    | str b =>
      rw [pln] at h
      simp [pyOf, toPy, PyData.canLay0, PyData.depth, h]
    | tup xs =>
      rw [pln, Bool.and_eq_true_iff] at h
      obtain ⟨e, c, dp⟩ := all xs h.2
      exact ⟨by simp only [pyOf, e, toPy]; rfl, by rw [toPy, PyData.canLay0]; exact c, by rw [toPy, PyData.depth]; exact Nat.succ_le_succ dp⟩
    | lst xs =>
      rw [pln, Bool.and_eq_true_iff] at h
      obtain ⟨e, c, dp⟩ := all xs h.2
      exact ⟨by simp only [pyOf, e, toPy]; rfl, by rw [toPy, PyData.canLay0]; exact c, by rw [toPy, PyData.depth]; exact Nat.succ_le_succ dp⟩
    | _ => simp [pln] at h
theorem pln_shaped {n : Nat} {d : D} (h : pln n d = true) (hn : n ≤ 64) : SeqAt.shaped (toPy d) = true := by
  obtain ⟨_, c, dp⟩ := pln_py [] n d h
  unfold SeqAt.shaped
  rw [c, decide_eq_true (Nat.le_trans dp hn)]
  rfl
/-- == of pln data -/
theorem i_eqP {g : Bool → Bool} {S : Sto} {P : DP} {x y : D} (n : Nat) (hx : pln n x = true) (hy : pln n y = true) (q : P (.bl (g (PyData.eqv (toPy x) (toPy y)))) S) (hn : n ≤ 64 := by decide) : dEqG g x y S P := by
  have e1 := (pln_py S n x hx).1
  have e2 := (pln_py S n y hy).1
  have fin : ∃ n q r, pyOf S n x = some q ∧ pyOf S n y = some r ∧ SeqAt.shaped q = true ∧ SeqAt.shaped r = true ∧ P (.bl (g (PyData.eqv q r))) S := ⟨n, _, _, e1, e2, pln_shaped hx hn, pln_shaped hy hn, q⟩
  clear e1 e2
  unfold dEqG
  split
  · rename_i i j
    have : PyData.eqv (toPy (.int i)) (toPy (.int j)) = decide (i = j) := by simp only [toPy, PyData.eqv]; by_cases h : i = j <;> simp [h]
    rw [this] at q
    exact q
  · rename_i i j
    have : PyData.eqv (toPy (.str i)) (toPy (.str j)) = decide (i = j) := by simp only [toPy, PyData.eqv]; by_cases h : i = j <;> simp [h]
    rw [this] at q
    exact q
  · rename_i i j
    have : PyData.eqv (toPy (.bl i)) (toPy (.bl j)) = decide (i = j) := by simp only [toPy, PyData.eqv]; cases i <;> cases j <;> rfl
    rw [this] at q
    exact q
  · exact fin
theorem i_eqPs {g : Bool → Bool} {S : Sto} {P : DP} {x : D} (n : Nat) (hx : pln n x = true) (q : P (.bl (g true)) S) (hn : n ≤ 64 := by decide) : dEqG g x x S P :=
  i_eqP n hx hx (by rw [SeqAt.eqv_refl _ (pln_py [] n x hx).2.1]; exact q) hn
theorem toPys_map {α : Type} (f : α → D) : ∀ xs : List α, toPys (xs.map f) = xs.map fun x => toPy (f x)
  | [] => by simp [toPys]
  | x :: xs => by simp [toPys, toPys_map f xs]
theorem plns_map {α : Type} {f : α → D} {n : Nat} {xs : List α} (h : ∀ x ∈ xs, pln n (f x) = true) : plns n (xs.map f) = true := plns_of fun d hd => by
  obtain ⟨x, hx, rfl⟩ := List.mem_map.mp hd
  exact h x hx
theorem pln_lst {n : Nat} {xs : List D} (hl : xs.length ≤ 90000) (h : ∀ x ∈ xs, pln n x = true) : pln (n + 1) (.lst xs) = true := by
  rw [pln, decide_eq_true hl, plns_of h]
  rfl
theorem pln_tup {n : Nat} {xs : List D} (hl : xs.length ≤ 90000) (h : ∀ x ∈ xs, pln n x = true) : pln (n + 1) (.tup xs) = true := by
  rw [pln, decide_eq_true hl, plns_of h]
  rfl
theorem under_pln : ∀ (n : Nat) (d : D), pln n d = true → ∀ k, d.under k = true
  | 0, _, h, _ => by simp [pln] at h
  | n + 1, d, h, k => by
    have all : ∀ ds : List D, plns n ds = true → unders k ds = true := fun ds => by
      induction ds with
      | nil => exact fun _ => rfl
      | cons d ds ih =>
        intro h
        rw [plns, Bool.and_eq_true_iff] at h
        rw [unders, under_pln n d h.1 k, ih h.2]
        rfl
    cases d with
    | tup xs =>
      rw [pln, Bool.and_eq_true_iff] at h
      exact all xs h.2
    | lst xs =>
      rw [pln, Bool.and_eq_true_iff] at h
      exact all xs h.2
    | ref i => simp [pln] at h
    | dct a b => simp [pln] at h
    | _ => rfl
end DL

namespace DL
open PySem PySem.Spec PyProof.Rows L2
/-! ### a block in two parts -/
theorem wp_execs_split {M : Model} {A : Around} {env : Env} {Q : Flow → Shared → Prop} {E : Value → Shared → Prop} (Γ : PySem.Ctx) (hΓ : Γ.In A) (B : List Stmt) : ∀ (L : List Stmt) (p : Pos) (s : Shared),
    Sem.wp M Γ (execs L env) (fun f _ s' => match f with | .next => wpAny M A (execs B env) Q E s' | f => Q f s') (fun e _ s' => E e s') p s → Sem.wp M Γ (execs (L ++ B) env) (fun a _ s' => Q a s') (fun e _ s' => E e s') p s
  | [], p, s, h => by
    have h : wpAny M A (execs B env) Q E s := h
    exact h Γ p hΓ
  | st :: L, p, s, h => by
    rw [execs_cons, Sem.wp_bind'] at h
    show Sem.wp M Γ (execs (st :: (L ++ B)) env) _ _ p s
    rw [execs_cons, Sem.wp_bind']
    refine Sem.wp_mono M Γ _ (fun f p' s' h' => ?_) (fun _ _ _ h' => h') _ _ h
    cases f with
    | next => exact wp_execs_split Γ hΓ B L p' s' h'
    | _ => exact h'
theorem dss_split {X : Cx} {W0 : Bs} {L : List Stmt} {TS TU : DTS} (n : Nat) (h1 : DSs X W0 (L.take n) TS) (h2 : DSs X W0 (L.drop n) TU) : DSs X W0 L (dCut TS TU) := by
  refine ⟨fun pins s σ H D I ⟨W, env, S, E, hW, sim, er, ⟨M, ht, hm⟩, post⟩ => ?_⟩
  have r1 := h1.run pins s σ H { D with nx := fun σ' H' => ∃ W' env' S', Stp W H W' H' ∧ Sim X.K W' S' H' ∧ EnvR X.K W' env' σ' ∧ M env' S' } I ⟨W, env, S, { E with nx := M }, hW, sim, er, ht, ⟨fun env1 S1 W1 H1 σ1 q s l er1 => ⟨W1, env1, S1, l, s, er1, q⟩, post.rt, post.bk, post.ct⟩⟩
  refine fun Γ p hΓ => ?_
  rw [← List.take_append_drop n L]
  refine wp_execs_split Γ hΓ _ _ p s ?_
  refine Sem.wp_mono _ Γ _ (fun f p' s' h' => ?_) (fun _ _ _ h' => h') _ _ (r1 Γ p hΓ)
  cases f with
  | next =>
    obtain ⟨σ', H', I', W', env', S', l, s2, er', q⟩ := h'
    exact h2.run pins s' σ' H' D I' ⟨W', env', S', E, hW.trans l, s2, er', hm env' S' q, post.mono l⟩
  | _ => exact h'
end DL

/-! exceptions as answers -/
namespace DL
open PySem PySem.Spec PyProof.Rows L2
/-- what an exception bears -/
def ExR (K : PySem.W.Frag) (W : Wd) (d : Option Addr) (fs : Fs) : Prop := (fs = [] ∧ d = none) ∨ ∃ dd vs, d = some dd ∧ W.B dd = some (.xd ((fs.map (·.1)).zip vs)) ∧ Reps K W vs (fs.map (·.2))
abbrev EX := Addr → Fs → Sto → Prop
def PostX (K : PySem.W.Frag) (W : Wd) (H : Hp) (R : EX) (E : XK) : Prop := ∀ C fs S' W' H' d, R C fs S' → Sim K W' S' H' → Stp W H W' H' → ExR K W' d fs → E (.ref C) d H'
theorem PostX.mono {K : PySem.W.Frag} {W W' : Wd} {H H' : Hp} {R : EX} {E : XK} (h : PostX K W H R E) (l : Stp W H W' H') : PostX K W' H' R E := fun C fs S' W2 H2 d q s l2 r => h C fs S' W2 H2 d q s (l.trans l2) r
abbrev DSpX := List D → Sto → DP → EX → Prop
def liftSpX (K : PySem.W.Frag) (sp : DSpX) : Sp := fun vs H Q E => ∃ W ds S P R, Sim K W S H ∧ Reps K W vs ds ∧ sp ds S P R ∧ Post K W H P Q ∧ PostX K W H R E
/-- a def that may raise -/
def FnX (P : Program) (w : World) (K : PySem.W.Frag) (mg : Str → Option Value) (base : Heap) (x : Str) (k : Nat) (ps : List Str) (sp : DSpX) : Prop :=
  ∃ (f : Addr) (fd : FuncData), mg x = some (.ref f) ∧ PySem.W.keepIn K (.ref f) = true ∧ Binds K fd ps [] ∧ FnOk P w K mg base (L2.CX P w) k f fd ps (liftSpX K sp)
theorem fnX_at {P : Program} {w : World} {K : PySem.W.Frag} {mg : Str → Option Value} {base : Heap} {x : Str} {st : Stmt} {ps : List Str} {k : Nat} {sp : DSpX} (h : At K mg x st ps) (ok : ∀ f fd, Fun K x x st f fd → FnOk P w K mg base (L2.CX P w) k f fd ps (liftSpX K sp)) : FnX P w K mg base x k ps sp := by
  obtain ⟨f, fd, h1, h2, h3⟩ := h.ex
  exact ⟨f, fd, h1, h2.kp, h3, ok f fd h2⟩
/-- what leaves the def by an exception is what W0 tells -/
def Rz (X : Cx) (W0 : Bs) : Prop := ∃ E : XK, Takes X (fun cls d _ H => E cls d H) ∧ PostX X.K W0.W W0.H W0.R E
def dCallX (sp : DSpX) (R : EX) (TR : DTA) : DTE := fun env S P => TR env S fun ds S1 => sp ds S1 P R
section
variable {X : Cx} {W0 : Bs} {e : Expr} {es : List Expr} {TR : DTA} {pos p : Pos}
theorem de_fnX {x : Str} {k : Nat} {ps : List Str} {sp : DSpX} (h : FnX X.prog X.w X.K X.mg X.base x k ps sp) (hR : Rz X W0) (hr : Room k X.A) (hg : Gl X x) (ha : DA X W0 (e :: es) TR) (hdb : (x == ("__debug__" : Str)) = false := by decide) (he : starEach (e :: es) X.env = (false, eval e X.env) :: starEach es X.env := by rfl) (hpl : (backTo pos (starEach es X.env)).any (·.1) = false := by rfl) :
    DE X W0 (.Call (.Name x p) (e :: es) [] pos) (dCallX sp W0.R TR) := by
  obtain ⟨f, fd, h1, h2, h3, h4⟩ := h
  obtain ⟨E, tk, px⟩ := hR
  refine (pe_callS (E := fun _ => E) h4 hr hg h1 h2 h3 (fun σ => passAt tk σ) ha hdb he hpl).imp fun σ H Q ⟨W, env, S, P, hW, sim, er, ht, post⟩ => ⟨W, env, S, _, hW, sim, er, ht, fun ds S1 W1 H1 vs q s l r => ?_⟩
  exact ⟨W1, ds, S1, P, W0.R, s, r, q, post.mono l, px.mono ((hW.trans l).stp)⟩
/-- raise X('..') -/
structure XcF (K : PySem.W.Frag) (mg : Str → Option Value) (x : Str) (C : Addr) : Prop where
  ex : PySem.W.excIn K C PySem.HandSPX.veTail "ValueError.__new__" = true
  gC : mg x = some (.ref C)
  kC : PySem.W.keepIn K (.ref C) = true
  su : PySem.W.subIn K (.ref C) (.type "BaseException") = some true
  ty : PySem.W.typeIn K (.ref C) = some (.type "type")
def dRz0 (R : EX) (C : Addr) : DTS := fun _ _ S => R C [] S
theorem ds_raise0 {x m : Str} {C : Addr} {j : Nat} {p2 pos' : Pos} (hc : X.calm = true) (hR : Rz X W0) (T : XcF X.K X.mg x C) (hg : Gl X x) (hdb : (x == ("__debug__" : Str)) = false := by decide) :
    DS X W0 (.Raise (some (.Call (.Name x p) [.Constant (.str m) j p2] [] pos)) none pos') (dRz0 W0.R C) := by
  obtain ⟨E, tk, px⟩ := hR
  exact (ps_raise hc tk (pmk_own F.excBase_ValueError T.ex T.gC T.kC (raises_own T.su T.ty) hg hdb)).imp fun D σ H ⟨W, env, S, E', hW, sim, er, ht, post⟩ => px C [] S W H none ht sim hW.stp (.inl ⟨rfl, rfl⟩)
end
/-- an exception leaves a def: what the store got there is dropped -/
def atExitX (S0 : Sto) (R : EX) : EX := fun C fs S' => ∃ S1 T, S' = S1 ++ T ∧ S1.length = S0.length ∧ (∀ o ∈ S1, o ∈ S0 ∨ o.under S1.length = true) ∧ unders S1.length (fs.map (·.2)) = true ∧ R C fs S1
theorem PostX.exit {K : PySem.W.Frag} {W : Wd} {S : Sto} {H : Hp} {R : EX} {E : XK} (s : Sim K W S H) (post : PostX K W H R E) : PostX K W H (atExitX S R) E := fun C fs S' W' H' d ⟨S1, T, e, hl, ho, hd, q⟩ s' l r => by
  subst e
  have hb : ∀ o ∈ S1, o.under S1.length = true := fun o h => (ho o h).elim (fun z => by rw [hl]; exact s.under o z) id
  refine post C fs S1 (W'.cut S1.length) H' d q (s'.cut hb) (l.cut (by rw [s.len, hl]; exact Nat.le_refl _)) ?_
  rcases r with r | ⟨dd, vs, h1, h2, h3⟩
  · exact .inl r
  · exact .inr ⟨dd, vs, h1, h2, h3.cutW hd⟩
theorem i_exitX {S S' S1 T : Sto} {R : EX} {C : Addr} {fs : Fs} (e : S' = S1 ++ T) (hl : S1.length = S.length) (ho : ∀ o ∈ S1, o ∈ S ∨ o.under S1.length = true) (hd : unders S1.length (fs.map (·.2)) = true) (q : R C fs S1) : atExitX S R C fs S' := ⟨S1, T, e, hl, ho, hd, q⟩
theorem exitX_same {S T : Sto} {R : EX} {C : Addr} {fs : Fs} (hd : unders S.length (fs.map (·.2)) = true) (q : R C fs S) : atExitX S R C fs (S ++ T) := ⟨S, T, rfl, rfl, fun _ h => .inl h, hd, q⟩
theorem exitX_id {S : Sto} {R : EX} {C : Addr} {fs : Fs} (hd : unders S.length (fs.map (·.2)) = true) (q : R C fs S) : atExitX S R C fs S := ⟨S, [], (List.append_nil S).symm, rfl, fun _ h => .inl h, hd, q⟩
theorem i_callX {sp : DSpX} {R : EX} {TR : DTA} {env : Ev} {S : Sto} {P : DP} (q : TR env S fun ds S1 => sp ds S1 P R) : dCallX sp R TR env S P := q
theorem i_rz0 {R : EX} {C : Addr} {E : DEnds} {env : Ev} {S : Sto} (q : R C [] S) : dRz0 R C E env S := q
/-- a def that may raise, by its body over data -/
theorem fn_dX {P : Program} {w : World} {K : PySem.W.Frag} {mg : Str → Option Value} {base : Heap} {x qual : Str} {st : Stmt} {f : Addr} {fd : FuncData} {N ps : List Str} {k : Nat} {sp : DSpX} (F : Fun K x qual st f fd) (S : FnScope N ps (defScope st))
    (len : ∀ ds S P R, sp ds S P R → ds.length = ps.length)
    (body : ∀ (X : Cx) (W0 : Bs) (cdv : Value) (A : Around) (outer : List Env) (s : Shared) (H : Hp) (E : XK), X = cxOf (L2.CX P w) P w K mg base N qual (defScope st) f cdv A outer s H E → Room k X.A → Rz X W0 →
      ∃ T : DTS, DSs X W0 (defBody st) T ∧ ∀ ds S P R, sp ds S P R → W0.R = atExitX S R → T (exitE S P) (startE N ds) S) : FnOk P w K mg base (L2.CX P w) (k + 1) f fd ps (liftSpX K sp) := by
  refine F.okX S (fun vs H Q E h => ?_) fun cdv A outer s H vs Q E hr h => ?_
  · obtain ⟨W, ds, S, P, R, _, r, q, _⟩ := h
    rw [r.length]
    exact len ds S P R q
  · obtain ⟨W, ds, S, P, R, sim, r, q, post, px⟩ := h
    obtain ⟨T, hT, hq⟩ := body _ { W := W, H := H, R := atExitX S R } cdv A outer s H E rfl hr ⟨E, takes_of rfl rfl rfl rfl, px.exit sim⟩
    exact ⟨_, hT, W, startE N ds, S, _, Stp.refl, sim, EnvR.start r, hq ds S P R q rfl, ⟨fun env S' W' H' σ q' s' l _ => post.exit sim _ _ W' H' _ q' s' l .non, post.exit sim, fun _ _ _ _ _ z => z.elim, fun _ _ _ _ _ z => z.elim⟩⟩
end DL

/-! what an except suite does with its exception -/
namespace DL
open PySem PySem.Spec PyProof.Rows L2
section
variable {X : Cx} {W0 : Bs} {a e : Expr} {Ta : DTE} {pos p apos : Pos}
/-! ### xs.count(y), flat items -/
def rCntF (K : PySem.W.Frag) : V → List V → Hp → VK → Prop := fun x xs H Q => ∃ (p : Addr) (ys : List V) (y : V), x = .ref p ∧ xs = [y] ∧ SqL K H p ys ∧ flatV y = true ∧ ys.all flatV = true ∧ Q (.int (ys.countP (fun z => eqV z y) : Nat)) H
theorem countU {y : V} : ∀ {ys : List V} {us : List Value}, Vals ys us → ys.all flatV = true → us.countP (eqU y) = ys.countP fun z => eqV z y
  | _, _, .nil, _ => rfl
  | z :: ys, u :: us, .cons r t, f => by
    rw [List.all_cons, Bool.and_eq_true] at f
    rw [List.countP_cons, List.countP_cons, countU t f.2, eqU_of r f.1]
theorem mt_cntF : MtR X "list.count" (rCntF X.K) := by
  intro pins s σ H x xs v us Q I rx rxs h
  obtain ⟨p, ys, y, rfl, rfl, hs, fy, fys, q⟩ := h
  cases rx
  cases rxs with
  | cons ry rt =>
    rename_i uy ut
    cases rt
    obtain ⟨its, rv, ⟨⟨cls, dd, data, sl⟩, n, ho, hc, hdn, hd⟩, hlen⟩ := I.list hs
    simp only at hc hd
    subst hc hd
    refine call_meets PySem.F.slot_list_count ⟨_, ho, rfl⟩ PySem.F.entry_list_count (PySem.F.args_list_count_2 _ _)
      (SeqAt.list_countAt p its.toArray n dd sl uy (eqU y)) ⟨ho, fun u' hu' => mem_eqAt ry fy rv fys u' (by simpa using hu'), ?_⟩
    have ec : its.toArray.toList.countP (eqU y) = ys.countP fun z => eqV z y := countU rv fys
    refine ⟨.int (ys.countP (fun z => eqV z y) : Nat), H, I.tok _, ⟨s.toks, ?_⟩, q⟩
    show Value.int ((its.toArray.toList.countP (eqU y) : Nat) : Int) s.toks = _
    rw [ec]
theorem bools_flat (bs : List Bool) : (bs.map V.bl).all flatV = true := List.all_eq_true.mpr fun x hx => by
  obtain ⟨b, _, rfl⟩ := List.mem_map.mp hx
  rfl
theorem bools_count (bs : List Bool) : (bs.map V.bl).countP (fun z => eqV z (.bl true)) = bs.count true := by
  induction bs with
  | nil => rfl
  | cons b bs ih =>
    rw [List.map_cons, List.countP_cons, ih, List.count_cons]
    cases b <;> rfl
def dCntB (Ta : DTE) : DTE := fun env S P => Ta env S fun x S1 => ∃ bs : List Bool, lstOf S1 x = some (bs.map .bl) ∧ P (.int (bs.count true : Nat)) S1
theorem de_cntB {j : Nat} (h : ∀ {to : TE} {ta : L2.TA}, PE X a to → PA X [.Constant (.bool true) j p] ta → PE X e (tBM X.K "list" (rCntF X.K) to ta)) (ha : DE X W0 a Ta) : DE X W0 e (dCntB Ta) :=
  (h ha (pa_cons pe_bl pa_nil)).imp fun σ H Q ⟨W, env, S, P, hW, sim, er, ht, post⟩ => ⟨W, env, S, _, hW, sim, er, ht, fun x S1 W1 H1 v ⟨bs, hb, q⟩ s l r => by
    obtain ⟨a1, vs, rfl, hq, rr⟩ := r.lst_of s hb
    have ev := rr.bools
    refine ⟨.inl ⟨rfl, vs, SqL.of hq⟩, ⟨a1, vs, .bl true, rfl, rfl, SqL.of hq, rfl, by rw [ev]; exact bools_flat bs, ?_⟩⟩
    rw [ev, bools_count]
    exact post _ _ W1 H1 _ q s l (.int _)⟩
def dIdxB (Ta : DTE) : DTE := fun env S P => Ta env S fun x S1 => ∃ (bs : List Bool) (j : Nat), lstOf S1 x = some (bs.map .bl) ∧ bs[j]? = some true ∧ (∀ m, m < j → bs[m]? = some false) ∧ P (.int j) S1
theorem de_idxB {j : Nat} (h : ∀ {to : TE} {ta : L2.TA}, PE X a to → PA X [.Constant (.bool true) j p] ta → PE X e (tBM X.K "list" (rIndex X.K) to ta)) (ha : DE X W0 a Ta) : DE X W0 e (dIdxB Ta) :=
  (h ha (pa_cons pe_bl pa_nil)).imp fun σ H Q ⟨W, env, S, P, hW, sim, er, ht, post⟩ => ⟨W, env, S, _, hW, sim, er, ht, fun x S1 W1 H1 v ⟨bs, k, hb, hk, hno, q⟩ s l r => by
    obtain ⟨a1, vs, rfl, hq, rr⟩ := r.lst_of s hb
    have ev := rr.bools
    refine ⟨.inl ⟨rfl, vs, SqL.of hq⟩, ⟨a1, vs, .bl true, k, .bl true, rfl, rfl, SqL.of hq, rfl, by rw [ev]; exact bools_flat bs, by rw [ev, List.getElem?_map, hk]; rfl, rfl, fun m z' hm hz => ?_, post _ _ W1 H1 _ q s l (.int _)⟩⟩
    rw [ev, List.getElem?_map, hno m hm] at hz
    cases hz
    rfl⟩
theorem i_cntB {env : Ev} {S : Sto} {P : DP} (q : Ta env S fun x S1 => ∃ bs : List Bool, lstOf S1 x = some (bs.map .bl) ∧ P (.int (bs.count true : Nat)) S1) : dCntB Ta env S P := q
theorem i_idxB {env : Ev} {S : Sto} {P : DP} (q : Ta env S fun x S1 => ∃ (bs : List Bool) (j : Nat), lstOf S1 x = some (bs.map .bl) ∧ bs[j]? = some true ∧ (∀ m, m < j → bs[m]? = some false) ∧ P (.int j) S1) : dIdxB Ta env S P := q
end
/-! ### isinstance(e, C), e.f: e is what the suite holds -/
def cvOf : D → Option Value
  | .adr k => some (.ref k)
  | .ty n => some (.type n)
  | _ => none
theorem Rep.cv {K : PySem.W.Frag} {W : Wd} {v : V} {d : D} {cv u : Value} (r : Rep K W v d) (h : cvOf d = some cv) (ru : RelV v u) : u = cv := by
  cases r with
  | adr a => cases h; exact ru
  | ty n => cases h; exact ru
  | _ => cases h
/-- what the exception bears, as the suite finds it -/
def Held (W : Wd) (d : Option Addr) : Prop := d = none ∨ ∃ dd fs, d = some dd ∧ W.B dd = some (.xd fs)
theorem ExR.held {K : PySem.W.Frag} {W : Wd} {d : Option Addr} {fs : Fs} (h : ExR K W d fs) : Held W d := by
  rcases h with ⟨_, h⟩ | ⟨dd, vs, h1, h2, _⟩
  · exact .inl h
  · exact .inr ⟨dd, _, h1, h2⟩
def rIsE2 (K : PySem.W.Frag) (D a : Addr) (d : Option Addr) : List V → Hp → VK → Prop := fun xs H Q => ∃ (c : V) (cv : Value) (b : Bool), xs = [.ref a, c] ∧ (∀ u, RelV c u → u = cv) ∧ (d = none ∨ ∃ dd fs, d = some dd ∧ H dd = some (.xd fs)) ∧ PySem.W.kitOne K (.ref D) cv = some b ∧ Q (.bl b) H
theorem call_isE2 {X : Cx} {a D : Addr} {oe : Obj} {d : Option Addr} {pn : List (Addr × Obj)} (C : ExcC X.K D) (hz : Zc (.ref D) d oe) (hf : ∃ vs, oe.data = .fields vs) : CallR (X.suite a ((a, oe) :: pn)) (.builtin "isinstance") (rIsE2 X.K D a d) := by
  intro pins s σ H xs us Q I r h
  obtain ⟨c, cv, b, rfl, hcv, hd, e, q⟩ := h
  cases r with
  | cons rx rr =>
    cases rr with
    | cons rt rr =>
      cases rr
      cases rx
      have ec := hcv _ rt
      subst ec
      obtain ⟨hget, _⟩ := I.pin (a, oe) (List.mem_append.mpr (.inl List.mem_cons_self))
      obtain ⟨vs, hv⟩ := hf
      have hcl : (PySem.W.clsIn X.K D).isSome = true := by
        obtain ⟨cd, hc, _⟩ := PySem.W.any_some C.hd
        rw [hc]
        rfl
      have J : ∃ od, PySem.W.InstAt s.heap a oe D od := by
        rcases hd with hd | ⟨dd, fs, hd, hH⟩
        · exact ⟨none, hget, hz.1, by unfold PySem.W.notCls; rw [hv] <;> rfl, by rw [hz.2, hd]; trivial⟩
        · have hx : ObjOk X.prog X.w H s.heap dd (.xd fs) := I.hok dd _ hH
          obtain ⟨mA, ⟨o, es, ep, ho, _⟩, _⟩ := hx
          exact ⟨some o, hget, hz.1, by unfold PySem.W.notCls; rw [hv] <;> rfl, by rw [hz.2, hd]; exact ho⟩
      obtain ⟨od, J⟩ := J
      exact PySem.W.kia_one (PySem.W.kitx_exc hcl C.hg C.hk C.hs C.ha C.hn C.ht C.hm) I.kIn J e (fun z => nomatch z) fun tk => ⟨.bl b, H, I.kept (t' := tk) fun _ _ z => z, rfl, q⟩
section
variable {X : Cx} {W0 : Bs} {a D : Addr} {oe : Obj} {d : Option Addr} {pn : List (Addr × Obj)} {e1 e2 : Expr} {TR : DTA} {p pos : Pos}
def bIsE (K : PySem.W.Frag) (C a : Addr) : List DL.D → Sto → DP → Prop := fun ds S P => ∃ c cv b, ds = [.adr a, c] ∧ cvOf c = some cv ∧ PySem.W.kitOne K (.ref C) cv = some b ∧ P (.bl b) S
theorem de_isE (C : ExcC X.K D) (hz : Zc (.ref D) d oe) (hf : ∃ vs, oe.data = .fields vs) (hd : Held W0.W d) (hg : Gl X "isinstance") (hm : X.mg "isinstance" = none) (ha : DA (X.suite a ((a, oe) :: pn)) W0 [e1, e2] TR)
    (he : starEach (e1 :: [e2]) X.env = (false, eval e1 X.env) :: starEach [e2] X.env := by rfl) (hpl : (backTo pos (starEach [e2] X.env)).any (·.1) = false := by rfl) : DE (X.suite a ((a, oe) :: pn)) W0 (.Call (.Name "isinstance" p) [e1, e2] [] pos) (dCall (bIsE X.K D a) TR) :=
  (pe_callB (X := X.suite a ((a, oe) :: pn)) (call_isE2 C hz hf) hg hm (by decide +kernel) ha (he := he) (hpl := hpl)).imp fun σ H Q ⟨W, env, S, P, hW, sim, er, ht, post⟩ => ⟨W, env, S, _, hW, sim, er, ht, fun ds S1 W1 H1 vs ⟨c, cv, b, e, h1, h2, q⟩ s l r => by
    subst e
    obtain ⟨v, w, rfl, rv, rw'⟩ := r.two
    cases rv
    refine ⟨w, cv, b, rfl, fun u ru => rw'.cv h1 ru, ?_, h2, post _ _ W1 H1 _ q s l (.bl b)⟩
    rcases hd with hd | ⟨dd, fs, hd, hB⟩
    · exact .inl hd
    · exact .inr ⟨dd, fs, hd, s.same _ _ (l.le.same _ _ (hW.stp.le.same _ _ hB))⟩⟩
theorem i_isE {K : PySem.W.Frag} {D a : Addr} {c : DL.D} {cv : Value} {b : Bool} {S : Sto} {P : DP} (h1 : cvOf c = some cv) (h2 : PySem.W.kitOne K (.ref D) cv = some b) (q : P (.bl b) S) : bIsE K D a [.adr a, c] S P := ⟨c, cv, b, rfl, h1, h2, q⟩
def dXf (i : Nat) (a : Addr) (y : DL.D) : DTE := fun env S P => env[i]? = some (some (.adr a)) ∧ P y S
theorem de_xf {i : Nat} {n x : Str} {y : DL.D} {fs : Fs} (T : XfC X.K D) (hno : PySem.W.findIn X.K (.ref D) n = some none) (hz : Zc (.ref D) d oe) (hf : ∃ vs, oe.data = .fields vs) (hx : ExR X.K W0.W d fs) (hy : fs.lookup n = some y)
    (hv : PE (X.suite a ((a, oe) :: pn)) (.Name x p) (tVar i)) (hb : attributeBase (.Name x p) n X.env (eval (.Name x p) X.env) = eval (.Name x p) X.env := by rfl) :
    DE (X.suite a ((a, oe) :: pn)) W0 (.Attribute (.Name x p) n pos) (dXf i a y) :=
  (pe_xf (X := X) T hno hz hf hv hb).imp fun σ H Q ⟨W, env, S, P, hW, sim, er, ⟨he, ht⟩, post⟩ => by
    obtain ⟨v, h1, h2⟩ := er.get i _ he
    cases h2
    rcases hx with ⟨hx, _⟩ | ⟨dd, vs, hd, hB, rr⟩
    · rw [hx] at hy
      cases hy
    · obtain ⟨u, g1, g2⟩ := fld_some rr hy
      exact ⟨.ref a, h1, rfl, rfl, dd, _, u, hd, sim.same _ _ (hW.stp.le.same _ _ hB), g1, post _ _ W H _ ht sim .refl (g2.mono hW.stp.le)⟩
end
end DL

/-! a lambda handed to a def: its table of code objects grows -/
namespace DL
open PySem PySem.Spec PyProof.Rows L2 LamX
def plainO : O → Bool
  | .dead => false
  | .any _ => false
  | .tab _ _ => false
  | _ => true
def tabO (p : Addr × Str) : O := .tab p.1 p.2
section
variable {K : PySem.W.Frag} {W : Wd} {S : Sto} {H H1 : Hp} {T : List (Addr × Str)}
open Classical in
/-- the world behind the making of a lambda -/
noncomputable def Wd.lam (W : Wd) (H1 : Hp) (T : List (Addr × Str)) : Wd := ⟨W.m, fun b => if W.B b = none ∧ ∃ p ∈ T, H1 b = some (CodeO b p.2) then H1 b else W.B b⟩
theorem lam_new {b : Addr} {p : Addr × Str} (h1 : W.B b = none) (hp : p ∈ T) (h2 : H1 b = some (CodeO b p.2)) : (W.lam H1 T).B b = some (CodeO b p.2) := (if_pos ⟨h1, p, hp, h2⟩).trans h2
theorem lam_old {b : Addr} (h : ¬ (W.B b = none ∧ ∃ p ∈ T, H1 b = some (CodeO b p.2))) : (W.lam H1 T).B b = W.B b := if_neg h
theorem lam_cases {b : Addr} {o : HO} (h : (W.lam H1 T).B b = some o) : W.B b = some o ∨ (W.B b = none ∧ H1 b = some o ∧ ∃ p ∈ T, o = CodeO b p.2) := by
  by_cases c : W.B b = none ∧ ∃ p ∈ T, H1 b = some (CodeO b p.2)
  · obtain ⟨c1, p, hp, c2⟩ := c
    rw [lam_new c1 hp c2] at h
    cases h
    exact .inr ⟨c1, c2, p, hp, rfl⟩
  · rw [lam_old c] at h
    exact .inl h
theorem codeO_lst {c : Addr} {q : Str} {vs : List V} : CodeO c q ≠ .lst vs := fun z => by unfold CodeO at z; cases z
theorem codeO_ins {c C dx : Addr} {q : Str} {fs : List (Str × V)} : CodeO c q ≠ .ins C dx fs := fun z => by unfold CodeO at z; cases z
theorem codeO_dK {c : Addr} {q : Str} {vs : List (Key × V)} : CodeO c q ≠ .dK vs := fun z => by unfold CodeO at z; cases z
theorem Sim.lam (s : Sim K W (T.map tabO ++ S) H) (hS : S.all plainO = true) (ex : ExtN H H1) (tb : Tabs T H1) : Sim K (W.lam H1 T) (T.map tabO ++ S) H1 ∧ Stp W H (W.lam H1 T) H1 := by
  have keepB : ∀ b o, W.B b = some o → H1 b = some o := fun b o e => ex b o (s.same b o e) fun ps z => s.ntb b ps (by rw [e, z])
  have le : W.le (W.lam H1 T) := ⟨fun _ _ h => h, fun b o e => by rw [lam_old fun z => by rw [e] at z; cases z.1]; exact e⟩
  have kp : ∀ b o, H b = some o → (∀ ps, o ≠ .tbl ps) → H1 b = some o := fun b o e n => ex b o e n
  have live : ∀ {a : Addr} {o : HO}, H1 a = some o → (∀ q, o ≠ CodeO a q) → W.B a = none → (W.lam H1 T).B a = none := fun {a o} e n h => by
    rw [lam_old fun ⟨_, p, _, z⟩ => n p.2 (Option.some.inj (e.symm.trans z))]
    exact h
  -- an object of the store: a table of T, or plain
  have two : ∀ (i : Nat) o, (T.map tabO ++ S)[i]? = some o → (∃ p ∈ T, o = tabO p) ∨ plainO o = true := fun i o h => by
    rcases List.mem_append.mp (List.mem_of_getElem? h) with z | z
    · obtain ⟨p, hp, e⟩ := List.mem_map.mp z
      exact .inl ⟨p, hp, e.symm⟩
    · exact .inr (List.all_eq_true.mp hS o z)
  refine ⟨⟨fun b o e => ?_, s.len, s.nd, fun a ha => ?_, fun i a o h1 h2 => ?_, fun b ps' z => ?_⟩, ⟨le, fun b o e _ n => kp b o e n, fun b h u e => ?_, fun b h => .inl h, fun b o e => ?_⟩⟩
  · rcases lam_cases e with z | ⟨_, z, _⟩
    · exact keepB b o z
    · exact z
  · obtain ⟨i, hi⟩ := List.getElem?_of_mem (show a ∈ W.m from ha)
    have hl : i < (T.map tabO ++ S).length := by rw [← s.len]; exact (List.getElem?_eq_some_iff.mp hi).1
    have hs : (T.map tabO ++ S)[i]? = some (T.map tabO ++ S)[i] := List.getElem?_eq_getElem hl
    have ob := s.obj i a _ hi hs
    rcases Fre.two (H := H) (p := a) with z | ⟨u, e, n⟩
    · cases hH : H a with
      | none => exact absurd hH (s.dom a ha)
      | some u =>
        obtain ⟨ps', rfl⟩ := z u hH
        generalize (T.map tabO ++ S)[i] = o at *
        rcases two i o hs with ⟨p, hp, rfl⟩ | hp
        · have e0 : a = p.1 := ob.2.1
          obtain ⟨ps, t1, _⟩ := tb p hp
          rw [e0, t1]
          exact fun z => nomatch z
        · cases o with
          | dead => cases hp
          | lst ds => obtain ⟨_, vs, e, _⟩ := ob; rw [hH] at e; cases e
          | ins C fs => obtain ⟨_, dx, vs, e, _⟩ := ob; rw [hH] at e; cases e
          | dct ks ds => obtain ⟨_, vs, e, _⟩ := ob; rw [hH] at e; cases e
          | any ho' => cases hp
          | tab p' q' => cases hp
    · rw [kp a u e n]
      exact fun z => nomatch z
  · have h1 : W.m[i]? = some a := h1
    have ob := s.obj i a o h1 h2
    rcases two i o h2 with ⟨p, hp, rfl⟩ | hp
    · obtain ⟨b, ea, _⟩ := ob
      have ea : a = p.1 := ea
      subst ea
      obtain ⟨ps, t1, t2, t3⟩ := tb p hp
      refine ⟨live t1 (fun q z => codeO_ne _ z.symm) b, rfl, ps, t1, t2, fun pos cv hc => ?_⟩
      obtain ⟨c, e1, e2⟩ := t3 pos cv hc
      refine ⟨c, e1, ?_⟩
      cases hb : W.B c with
      | none => exact lam_new hb hp e2
      | some u =>
        have e3 := lam_old (W := W) (H1 := H1) (T := T) (b := c) (fun z => by rw [hb] at z; cases z.1)
        rw [e3, hb]
        exact (keepB c u hb).symm.trans e2
    · cases o with
      | dead => cases hp
      | lst ds =>
        obtain ⟨b, vs, e, r⟩ := ob
        have e' := kp a _ e (fun _ z => by cases z)
        exact ⟨live e' (fun q z => codeO_lst z.symm) b, vs, e', r.mono le⟩
      | ins C fs =>
        obtain ⟨b, dx, vs, e, r⟩ := ob
        have e' := kp a _ e (fun _ z => by cases z)
        exact ⟨live e' (fun q z => codeO_ins z.symm) b, dx, vs, e', r.mono le⟩
      | dct ks ds =>
        obtain ⟨b, vs, e, l, r⟩ := ob
        have e' := kp a _ e (fun _ z => by cases z)
        exact ⟨live e' (fun q z => codeO_dK z.symm) b, vs, e', l, r.mono le⟩
      | any ho => cases hp
      | tab p' q' => cases hp
  · rcases lam_cases z with z | ⟨_, _, p, _, z⟩
    · exact s.ntb b ps' z
    · exact codeO_ne ps' z.symm
  · rcases Fre.two (H := H) (p := b) with z | ⟨v, e', n⟩
    · exact z u e
    · exact (h.not (kp b v e' n) n).elim
  · rcases lam_cases e with z | ⟨_, z, p, _, rfl⟩
    · exact .inl z
    · rcases Fre.two (H := H) (p := b) with z' | ⟨v, e', n⟩
      · exact .inr (.inl z')
      · rw [kp b v e' n] at z
        exact .inr (.inr (.inr ⟨_, by rw [e', Option.some.inj z]; rfl⟩))
end
end DL

/-! _law_word(lambda: ..) -/
namespace DL
open PySem PySem.Spec PyProof.Rows L2 LamX
def kindsW : List Str := ["BadProgram", "BadCode", "BadHands", "BadOrder", "BadTrace", "BadPlan", "BadLog", "BadText", "BadRound", "BadRule", "BadCost", "NoHand", "NotMade", "NoRound", "Long"]
def formW (j : Nat) (x : Str) (fs : Fs) : Option D :=
  if j < 2 then (match fs.lookup ("function" : Str), fs.lookup ("row" : Str) with
    | some a, some b => some (.tup [.str x, a, b])
    | _, _ => none)
  else if j < 7 then (match fs.lookup ("at" : Str) with
    | some a => some (.tup [.str x, a])
    | none => none)
  else if j = 7 then (match fs.lookup ("row" : Str) with
    | some a => some (.tup [.str x, a])
    | none => none)
  else some (.tup [.str x])
/-- what is told of an exception of the j-th kind that bears fs -/
def wordOf (j : Nat) (fs : Fs) : Option D := match kindsW[j]? with
  | some x => formW j x fs
  | none => none
/-- what the written part says of a class that is raised: the j-th of cs, caught by CS -/
structure WdC (K : PySem.W.Frag) (cs : List Addr) (CS C : Addr) (j : Nat) : Prop where
  ex : ExcC K C
  jl : j < 15
  sl : PySem.W.exmOne K (.ref C) (.ref CS) = some true
  is : ∀ (k : Nat) c, cs[k]? = some c → PySem.W.kitOne K (.ref C) (.ref c) = some (decide (k = j))
  ve : PySem.W.kitOne K (.ref C) (.type "ValueError") = some true
  nf : PySem.W.findIn K (.ref C) "function" = some none
  nr : PySem.W.findIn K (.ref C) "row" = some none
  na : PySem.W.findIn K (.ref C) "at" = some none
theorem WdC.xf {K : PySem.W.Frag} {cs : List Addr} {CS C : Addr} {j : Nat} (h : WdC K cs CS C j) : XfC K C := ⟨h.ex.hg, h.ex.hk, h.ex.hs, h.ex.hd⟩
def SuOk (K : PySem.W.Frag) (cs : List Addr) (CS : Addr) (cls : Value) (d : Option Addr) (H' : Hp) (Q : VK) : Prop :=
  ∃ C j fs y W' S' P', cls = .ref C ∧ WdC K cs CS C j ∧ Sim K W' S' H' ∧ ExR K W' d fs ∧ wordOf j fs = some y ∧ P' y S' ∧ Post K W' H' P' Q
def TTw (K : PySem.W.Frag) (cs : List Addr) (CS : Addr) : (XK → Hp → VK → Prop) → Hp → VK → Prop := fun tl H Q => ∃ E : XK, (∀ cls d H', E cls d H' → SuOk K cs CS cls d H' Q) ∧ tl E H Q
/-- the exceptions that are told as words -/
def wishW (K : PySem.W.Frag) (cs : List Addr) (CS : Addr) (P : DP) : EX := fun C fs S => ∃ j y, WdC K cs CS C j ∧ wordOf j fs = some y ∧ P y S
def dWord (K : PySem.W.Frag) (cs : List Addr) (CS : Addr) (Tb : List (Addr × Str)) (T : EX → DTE) : DTE := fun env S P => ∃ S', S = Tb.map tabO ++ S' ∧ S'.all plainO = true ∧ T (wishW K cs CS P) env S P
theorem i_word {K : PySem.W.Frag} {cs : List Addr} {CS : Addr} {Tb : List (Addr × Str)} {T : EX → DTE} {env : Ev} {S S' : Sto} {P : DP} (e : S = Tb.map tabO ++ S') (h : S'.all plainO = true) (t : T (wishW K cs CS P) env S P) : dWord K cs CS Tb T env S P := ⟨S', e, h, t⟩
section
variable {X : Cx} {W0 : Bs}
theorem de_word {T : EX → DTE} {Tb : List (Addr × Str)} {cs : List Addr} {CS : Addr} {x a : Str} {g c P : Addr} {k : Nat} {pg : Arguments} {bg : List Stmt} {sg : Scope} {dV kV doc pm cdv ct oc : Value} {an od : Option Addr} {osl : Array (Option Value)} {Ng : List Str}
    {params : Arguments} {body : Expr} {scope : Scope} {p lpos pos : Pos} (hg : Gl X x) (hm : X.mg x = some (.ref g)) (hk : PySem.W.keepIn X.K (.ref g) = true)
    (lk : X.K.lookup g = some ⟨oc, od, .func (PySem.W.fnOf x x pg bg sg dV kV doc pm an cdv ct), osl⟩) (hcg : PySem.W.codeIn X.K cdv x = true) (hb : L2.Binds X.K (PySem.W.fnOf x x pg bg sg dV kV doc pm an cdv ct) [a] []) (Sg : FnScope Ng [a] sg) (hNg : Ng[0]? = some a) (hva : Vis sg a)
    (hG : GivesTo X Ng x sg g cdv bg a (X.env.qual ++ "<lambda>") (TTw X.K cs CS))
    (TB : TabB X.base X.mg c P) (hTb : (P, X.env.qual ++ "<lambda>") ∈ Tb) (hTu : ∀ p ∈ Tb, p.1 = P → p.2 = X.env.qual ++ "<lambda>") (hcode : X.env.code = .ref c) (hr : Room (k + 2) X.A) (L : LamS X.env.scope scope) (hdef : defaultsOf params X.env = ([], []))
    (hbind : ∀ (q : Str) (cl : List (Str × Addr)) (pm cv ctv : Value), bindArgs (PySem.W.kla_fn "<lambda>" q params body scope cl pm cv ctv) ⟨[], []⟩ = pure [])
    (hbody : ∀ (A : Around) (outer : List Env) (s : Shared) (H : Hp) (E : XK) (f c' : Addr) (B : Bs), Room k (A.deeper (lamEnv X scope s.heap.objs.size f c')) → Rz (lamCx X A outer s H E scope f c') B → DE (lamCx X A outer s H E scope f c') B body (T B.R))
    (hdb : (x == ("__debug__" : Str)) = false := by decide) (hd : (a == ("__debug__" : Str)) = false := by decide) (hcd : (a == ("__classdict__" : Str)) = false := by decide) :
    DE X W0 (.Call (.Name x p) [.Lambda params body scope lpos] [] pos) (dWord X.K cs CS Tb T) := by
  refine (pe_lamcall (T := Tb) (t := fun E σ H Q => ∃ W env S P R, Sim X.K W S H ∧ EnvR X.K W env σ ∧ T R env S P ∧ Post X.K W H P Q ∧ PostX X.K W H R E) hg hm hk lk hcg hb Sg hNg hva hG TB hcode hTb hTu hr L hdef hbind
    (fun A outer s H E f c' hr' => ⟨fun pins s' σ H' Q I ⟨W, env, S, P, R, sim, er, ht, post, px⟩ => (hbody A outer s H E f c' { W := W, H := H', R := R } hr' ⟨E, takes_of rfl rfl rfl rfl, px⟩).run pins s' σ H' Q I ⟨W, env, S, P, Stp.refl, sim, er, ht, post⟩⟩) hdb hd hcd).imp fun σ H Q ⟨W, env, S, Pq, hW, sim, er, ⟨S', eS, hS, ht⟩, post⟩ => ?_
  subst eS
  refine ⟨fun p hp => ?_, fun H1 ex tb => ?_⟩
  · obtain ⟨i, hi⟩ := List.getElem?_of_mem hp
    obtain ⟨a0, h1, _, e0, ps, h2, h3, h4⟩ := sim.at (i := i) (o := tabO p) (by rw [List.getElem?_append_left (by rw [List.length_map]; exact (List.getElem?_eq_some_iff.mp hi).1), List.getElem?_map, hi]; rfl)
    have e0 : a0 = p.1 := e0
    subst e0
    exact ⟨ps, h2, h3, fun pos cv hc => let ⟨c, e1, e2⟩ := h4 pos cv hc; ⟨c, e1, sim.same _ _ e2⟩⟩
  · obtain ⟨s1, l1⟩ := sim.lam hS ex tb
    refine ⟨fun cls d H' => SuOk X.K cs CS cls d H' Q, fun _ _ _ h => h, ?_⟩
    exact ⟨_, env, _, Pq, wishW X.K cs CS Pq, s1, er.mono l1.le, ht, post.mono l1, fun C fs S'' W'' H'' d ⟨j, y, wf, hy, hp⟩ s'' l'' ex => ⟨C, j, fs, y, W'', S'', Pq, rfl, wf, s'', ex, hy, hp, post.mono (l1.trans l'')⟩⟩
end
/-- a def whose code object is known: it makes lambdas -/
theorem fn_dT {P : Program} {w : World} {K : PySem.W.Frag} {mg : Str → Option Value} {base : Heap} {x qual : Str} {st : Stmt} {f : Addr} {N ps : List Str} {k : Nat} {sp : DSp} {oc kV doc pm ct : Value} {od an : Option Addr} {c : Addr} {osl : Array (Option Value)}
    (lk : K.lookup f = some ⟨oc, od, .func (PySem.W.fnOf x qual (defArgs st) (defBody st) (defScope st) .none kV doc pm an (.ref c) ct), osl⟩) (hcd : PySem.W.codeIn K (.ref c) qual = true) (S : FnScope N ps (defScope st))
    (len : ∀ ds S P, sp ds S P → ds.length = ps.length)
    (body : ∀ (X : Cx) (W0 : Bs) (A : Around) (outer : List Env) (s : Shared) (H : Hp) (E : XK), X = (cxOf CX0 P w K mg base N qual (defScope st) f (.ref c) A outer s H E).nox → Room k X.A →
      ∃ T : DTS, DSs X W0 (defBody st) T ∧ ∀ ds S P, sp ds S P → T (exitE S P) (startE N ds) S) : FnOk P w K mg base CX0 (k + 1) f (PySem.W.fnOf x qual (defArgs st) (defBody st) (defScope st) .none kV doc pm an (.ref c) ct) ps (liftSp K sp) := by
  refine fn_of lk hcd S (fun vs H Q E h => ?_) fun A outer s H vs Q E hr h => ?_
  · obtain ⟨W, ds, S, P, _, r, q, _⟩ := h
    rw [r.length]
    exact len ds S P q
  · obtain ⟨W, ds, S, P, sim, r, q, post⟩ := h
    obtain ⟨T, hT, hq⟩ := body _ { W := W, H := H } A outer s H E rfl hr
    exact ⟨_, L2.PSs.nox hT, W, startE N ds, S, _, Stp.refl, sim, EnvR.start r, hq ds S P q, ⟨fun env S' W' H' σ q' s' l _ => post.exit sim _ _ W' H' _ q' s' l .non, post.exit sim, fun _ _ _ _ _ z => z.elim, fun _ _ _ _ _ z => z.elim⟩⟩
end DL

/-! raise X(e, ..): an own exception whose __init__ says super().__init__(f'..') and keeps what it was handed -/
namespace DL
open PySem PySem.Spec PyProof.Rows L2
/-- the parts of the text that it is made with -/
inductive Fp (ns : List Str) : List Expr → Prop where
  | nil : Fp ns []
  | txt {y : Str} {k : Nat} {p : Pos} {es : List Expr} : y.length ≤ 1000 → Fp ns es → Fp ns (.Constant (.str y) k p :: es)
  | nam {x : Str} {p p' : Pos} {es : List Expr} : x ∈ ns → Fp ns es → Fp ns (.FormattedValue (.Name x p) (-1) none p' :: es)
/-- self.f = f, one behind the other -/
inductive Sts : List Str → List Stmt → Prop where
  | nil : Sts [] []
  | cons {f : Str} {fs : List Str} {p1 p2 p3 p4 : Pos} {es : List Stmt} : Sts fs es → Sts (f :: fs) (.Assign [.Attribute (.Name "self" p1) f p2] (.Name f p3) p4 :: es)
def IntB (u : Value) (i : Int) : Prop := (∃ t, u = .int i t) ∧ i.natAbs.log2 < 1920
section
variable {prog : Program} {w : World} {A : Around} {E : Value → Shared → Prop} {env : Env} {m : Str → Option Value} {ns : List Str}
theorem joins_fp (hk : env.scope.kind = .function) (hl : ∀ x ∈ ns, env.kindOf x = some .local) (hm : ∀ x ∈ ns, ∃ u i, m x = some u ∧ IntB u i) (hd : ∀ x ∈ ns, (x == ("__debug__" : Str)) = false) :
    ∀ {es : List Expr} (h : Fp ns es) (acc : Str) (s : Shared) (R : Str → Shared → Prop), s.heap.Ns env.locals m → acc.length + 3000 * es.length ≤ 1000000 →
      (∀ out tk, out.length ≤ sizeLine → R out { s with toks := tk }) → Joins (model prog w) A E (evalEach es env) acc R s
  | _, .nil, acc, s, R, hn, hz, k => by
    have e0 : evalEach [] env = [] := by first | rfl | simp [evalEach]
    rw [e0]
    exact k acc s.toks (by rw [sizeLine_eq]; simp at hz; omega)
  | _, @Fp.txt _ y j p es hy r, acc, s, R, hn, hz, k => by
    have e0 : evalEach (.Constant (.str y) j p :: es) env = eval (.Constant (.str y) j p) env :: evalEach es env := by first | rfl | simp [evalEach]
    rw [e0]
    have hb : (acc ++ y).length + 3000 * es.length ≤ 1000000 := by rw [Str.length_append]; simp at hz; omega
    exact wpAny_Constant_str ⟨y, _, rfl, by rw [sizeLine_eq]; omega, joins_fp hk hl hm hd r (acc ++ y) _ R hn hb fun out tk ho => k out tk ho⟩
  | _, @Fp.nam _ x p p' es hx r, acc, s, R, hn, hz, k => by
    have e0 : evalEach (.FormattedValue (.Name x p) (-1) none p' :: es) env = eval (.FormattedValue (.Name x p) (-1) none p') env :: evalEach es env := by first | rfl | simp [evalEach]
    rw [e0]
    obtain ⟨u, i, hu, ⟨t, rfl⟩, hi⟩ := hm x hx
    have hlen : (Str.ofString (toString i)).length ≤ 1920 + 1 := by
      have e := int_text_length_le (k := 1920) (by decide) hi
      rw [PySem.ofString_length]
      omega
    have hb : (acc ++ Str.ofString (toString i)).length + 3000 * es.length ≤ 1000000 := by rw [Str.length_append]; simp at hz; omega
    refine wpAny_FormattedValue_plain (wpAny_Name (wpAny_loadName_local hk (hl x hx) hn hu ?_) (hd x hx))
    exact wpAny_formatField_int hi ⟨_, _, rfl, by rw [sizeLine_eq]; omega, joins_fp hk hl hm hd r _ _ R hn hb fun out tk ho => k out tk ho⟩
end
section
variable {prog : Program} {w : World} {A : Around} {E : Value → Shared → Prop} {env : Env} {m : Str → Option Value} {K : PySem.W.Frag} {C e : Addr}
/-- what is kept but at e -/
def KeepB (e : Addr) (h h' : Heap) : Prop := ∀ b o, b ≠ e → h.get? b = some o → h'.get? b = some o
theorem KeepB.refl {e : Addr} {h : Heap} : KeepB e h h := fun _ _ _ z => z
theorem KeepB.trans {e : Addr} {h h1 h2 : Heap} (a : KeepB e h h1) (b : KeepB e h1 h2) : KeepB e h h2 := fun x o n z => b x o n (a x o n z)
theorem KeepB.ns {e : Addr} {h h1 : Heap} {L : Addr} {m : Str → Option Value} (k : KeepB e h h1) (n : L ≠ e) (hn : h.Ns L m) : h1.Ns L m := let ⟨o, es, ep, ho, r⟩ := hn; ⟨o, es, ep, k _ _ n ho, r⟩
abbrev exO2 (C t dx : Addr) : Obj := { cls := .ref C, dict := some dx, data := .fields #[.ref t, .none, .none, .none, .bool false, .none] }
/-- further fields -/
theorem sts_more (T : OexC K C) (hk : env.scope.kind = .function) (hse : env.kindOf "self" = some .local) (hms : m "self" = some (.ref e)) {dx t1 : Addr} (hde : dx ≠ e) :
    ∀ {fs : List Str} {es : List Stmt} (r : Sts fs es) (vs : List V) (us : List Value) (acc : List (Str × V)) (mA : Str → Option Value) (s : Shared) (Q : Flow → Shared → Prop), vs.length = fs.length → Vals vs us → (∀ f ∈ fs, env.kindOf f = some .local ∧ PySem.W.findIn K (.ref C) f = some none ∧ (f == ("__debug__" : Str)) = false) →
      (∀ (i : Nat) f u, fs[i]? = some f → us[i]? = some u → m f = some u) → acc.length + fs.length ≤ 900 → K.In s.heap → (∀ b o, K.lookup b = some o → b ≠ dx) → s.heap.Ns env.locals m → env.locals ≠ dx → s.heap.get? e = some (exO2 C t1 dx) → s.heap.Ns1 dx mA → (∀ f, RelO (acc.lookup f) (mA f)) →
      (∀ h' tk mA', (∀ b o, b ≠ dx → s.heap.get? b = some o → h'.get? b = some o) → h'.Ns1 dx mA' → (∀ f, RelO (((fs.zip vs).reverse ++ acc).lookup f) (mA' f)) → Q .next { s with heap := h', toks := tk }) →
      wpAny (model prog w) A (execs es env) Q E s
  | _, _, .nil, vs, us, acc, mA, s, Q, hl, rv, hf, hu, hz, KX, hkd, hn, hLd, he, hd, rel, k => by
    refine wpAny_execs_nil (k s.heap s.toks mA (fun _ _ _ z => z) hd fun f => ?_)
    simpa using rel f
  | _, _, @Sts.cons f fs p1 p2 p3 p4 es r, v :: vs, u :: us, acc, mA, s, Q, hl, .cons r1 rv, hf, hu, hz, KX, hkd, hn, hLd, he, hd, rel, k => by
    obtain ⟨nm, q, N, bs, bm, sn, sub, ab, col, dd, k0, k1, k2, k3, k5, hC, hbm⟩ := T.cls
    have hcl : PySem.W.clsIn K C = some { name := nm, bases := bs, mro := .ref C :: bm, ns := N, qualname := q, hasDict := true, slotNames := sn, subclasses := sub, abstract := ab, collection := col, hasDel := false } := by unfold PySem.W.clsIn; rw [hC] <;> rfl
    obtain ⟨f1, f2, f3⟩ := hf f List.mem_cons_self
    have hw := within_of rel
    obtain ⟨oD, _, _, hoD, _, _⟩ := hd.count hw
    obtain ⟨hp, g, d, t, os⟩ := s
    refine wpAny_execs_cons (plainObj_wpAny_Assign_Attribute (wpAny_Name (wpAny_loadName_local hk f1 hn (hu 0 f u rfl rfl) (wpAny_Name (wpAny_loadName_local hk hse hn hms ?_) (by decide))) f3) (by rfl))
    refine PySem.W.set_plain KX (ox := exO2 C t1 dx) (od := some oD) ⟨he, rfl, rfl, hoD⟩ T.sa ?_
    refine PySem.OEX.osa_old KX he hd hw (by rw [List.length_map]; simp at hz; omega) hcl (show PySem.HandSPX.refsVE (.ref C :: bm) = true from hbm) rfl f2 (fun h' tk' kp hn' => ?_)
    show wpAny _ _ (execs es env) Q E _
    refine sts_more T hk hse hms hde r vs us ((f, v) :: acc) _ ⟨h', g, d, tk', os⟩ Q (by simpa using hl) rv (fun f' z => hf f' (List.mem_cons_of_mem _ z)) (fun i f' u' z1 z2 => hu (i + 1) f' u' (by simpa using z1) (by simpa using z2)) (by simp at hz ⊢; omega)
      (fun b o z => kp b o (hkd b o z) (KX b o z)) hkd (let ⟨o, es', ep, ho, r'⟩ := hn; ⟨o, es', ep, kp _ _ hLd ho, r'⟩) hLd (kp _ _ (Ne.symm hde) he) hn' (relO_put r1 rel) (fun h2 tk2 mA2 kp2 hd2 rel2 => ?_)
    exact k h2 tk2 mA2 (fun b o z1 z2 => kp2 b o z1 (kp b o z1 z2)) hd2 fun f' => by simpa using rel2 f'
/-- all fields: the first one makes the dict -/
theorem sts_all (T : OexC K C) (hk : env.scope.kind = .function) (hse : env.kindOf "self" = some .local) (hms : m "self" = some (.ref e)) {t1 : Addr}
    {f : Str} {fs : List Str} {es : List Stmt} (r : Sts (f :: fs) es) (vs : List V) (us : List Value) (s : Shared) (Q : Flow → Shared → Prop) (hl : vs.length = (f :: fs).length) (rv : Vals vs us) (hf : ∀ f' ∈ f :: fs, env.kindOf f' = some .local ∧ PySem.W.findIn K (.ref C) f' = some none ∧ (f' == ("__debug__" : Str)) = false)
    (hu : ∀ (i : Nat) f' u, (f :: fs)[i]? = some f' → us[i]? = some u → m f' = some u) (hz : fs.length ≤ 800) (KX : K.In s.heap) (hke : ∀ b o, K.lookup b = some o → b ≠ e) (hn : s.heap.Ns env.locals m) (hLe : env.locals ≠ e) (he : s.heap.get? e = some (PySem.HandSPX.excO C t1))
    (k : ∀ h' tk dx mA', KeepB e s.heap h' → s.heap.objs.size ≤ dx → dx ≠ e → h'.get? e = some (exO2 C t1 dx) → h'.Ns1 dx mA' → (∀ g, RelO ((((f :: fs).zip vs).reverse).lookup g) (mA' g)) → Q .next { s with heap := h', toks := tk }) :
    wpAny (model prog w) A (execs es env) Q E s := by
  cases r with
  | @cons _ _ p1 p2 p3 p4 es r =>
    obtain ⟨nm, q, N, bs, bm, sn, sub, ab, col, dd, k0, k1, k2, k3, k5, hC, hbm⟩ := T.cls
    have hcl : PySem.W.clsIn K C = some { name := nm, bases := bs, mro := .ref C :: bm, ns := N, qualname := q, hasDict := true, slotNames := sn, subclasses := sub, abstract := ab, collection := col, hasDel := false } := by unfold PySem.W.clsIn; rw [hC] <;> rfl
    obtain ⟨f1, f2, f3⟩ := hf f List.mem_cons_self
    cases rv with
    | nil => simp at hl
    | @cons v u vs us r1 rv =>
      obtain ⟨hp, g, d, t, os⟩ := s
      refine wpAny_execs_cons (plainObj_wpAny_Assign_Attribute (wpAny_Name (wpAny_loadName_local hk f1 hn (hu 0 f u rfl rfl) (wpAny_Name (wpAny_loadName_local hk hse hn hms ?_) (by decide))) f3) (by rfl))
      refine PySem.W.set_plain KX (ox := PySem.HandSPX.excO C t1) (od := none) ⟨he, rfl, rfl, trivial⟩ T.sa ?_
      refine PySem.HandSPX.exc_osa KX he hcl (show PySem.HandSPX.refsVE (.ref C :: bm) = true from hbm) rfl f2 (fun h' tk' dx kp dn dne hx hn' => ?_)
      show wpAny _ _ (execs es env) Q E _
      have old : ∀ {b : Addr} {o : Obj}, hp.get? b = some o → b ≠ dx := fun {b o} z y => by
        rw [y] at z
        exact absurd (Heap.lt_size z) (Nat.not_lt.mpr dn)
      have hLo : env.locals ≠ dx := let ⟨o, _, _, ho, _⟩ := hn; old ho
      refine sts_more T hk hse hms dne r vs us [(f, v)] _ ⟨h', g, d, tk', os⟩ Q (by simpa using hl) rv (fun f' z => hf f' (List.mem_cons_of_mem _ z)) (fun i f' u' z1 z2 => hu (i + 1) f' u' (by simpa using z1) (by simpa using z2)) (by simp; omega)
        (fun b o z => kp b o (hke b o z) (KX b o z)) (fun b o z => old (KX b o z)) (KeepB.ns kp hLe hn) hLo hx hn' (relO_put (fs := []) r1 fun g => True.intro) (fun h2 tk2 mA2 kp2 hd2 rel2 => ?_)
      refine k h2 tk2 dx mA2 (fun b o z1 z2 => kp2 b o (old z2) (kp b o z1 z2)) dn dne (kp2 _ _ (Ne.symm dne) hx) hd2 fun f' => ?_
      simpa using rel2 f'
end
end DL

namespace DL
open PySem PySem.Spec PyProof.Rows L2
abbrev iniEnv (qual : Str) (st : Stmt) (kV doc pm : Value) (an : Option Addr) (cdv ct : Value) (cc L f : Addr) : Env := callEnv (PySem.W.ksFn "__init__" qual (defArgs st) (defBody st) (defScope st) .none kV doc pm an cdv ct cc) L f
/-- what the written part says of such a class and its __init__ -/
structure XiC (P : Program) (K : PySem.W.Frag) (C : Addr) (qual : Str) (st : Stmt) (fs : List Str) : Prop where
  oc : OexC K C
  ex : ∃ (fI cda cc : Addr) (oc : Value) (od an : Option Addr) (osl : Array (Option Value)) (kV doc pm ct : Value) (ccl cl : Value) (cdd cld : Option Addr) (vs : Array Value) (ccs csl : Array (Option Value)) (file : Str) (tf : Tok),
    PySem.W.findIn K (.ref C) "__init__" = some (some (.ref fI)) ∧ PySem.W.typeIn K (.ref fI) = some (.type "function") ∧
    K.lookup fI = some ⟨oc, od, .func (PySem.W.ksFn "__init__" qual (defArgs st) (defBody st) (defScope st) .none kV doc pm an (.ref cda) ct cc), osl⟩ ∧ PySem.W.codeIn K (.ref cda) qual = true ∧
    K.lookup cda = some ⟨ccl, cdd, .fields vs, ccs⟩ ∧ vs[2]? = some (.str file tf) ∧ ((P.main.file : Str) == file) = true ∧ K.lookup cc = some ⟨cl, cld, .cell (some (.ref C)), csl⟩
  bind : ∀ (kV doc pm : Value) (an : Option Addr) (cdv ct : Value) (cc : Addr) (us : List Value), us.length = fs.length + 1 → bindArgs (PySem.W.ksFn "__init__" qual (defArgs st) (defBody st) (defScope st) .none kV doc pm an cdv ct cc) ⟨us, []⟩ = pure ((("self" : Str) :: fs).zip us)
  hp : ∃ ar, ((defArgs st).posonlyargs ++ (defArgs st).args).head? = some ar ∧ ar.arg = "self"
  mro : PySem.W.mroIn K C (.ref C) = some true
  sup : PySem.W.ks_superIn K C C "__init__" = some (some (.builtin "ValueError.__init__"))
  sub : PySem.W.subIn K (.ref C) (.type "ValueError") = some true
  opq : PySem.W.nsIn K cStatics "thirdparty.any" = some none
  top : (P.main.scope.names.lookup ("super" : Str)).isSome = false
  ks : (defScope st).names.lookup ("super" : Str) = some .globalImplicit
  kc : (defScope st).names.lookup ("__class__" : Str) = some .free
  kl : ∀ x ∈ ("self" : Str) :: fs, (defScope st).names.lookup x = some .local ∧ (x == ("__debug__" : Str)) = false
  nc : ∀ x ∈ (defScope st).names, x.2 ≠ .cell
  co : (defScope st).isCoroutine = false
  gen : (defScope st).isGenerator = false
  kd : (defScope st).kind = .function
  nf : ∀ f ∈ fs, PySem.W.findIn K (.ref C) f = some none
  few : fs.length ≤ 100
  nd : (("self" : Str) :: fs).Nodup
  body : ∃ (es : List Expr) (v1 v2 : Expr) (rest : List Stmt) (p0 p1 p2 p6 p7 p8 : Pos), defBody st = .Expr (.Call (.Attribute (.Call (.Name "super" p0) [] [] p1) "__init__" p2) [.JoinedStr (v1 :: v2 :: es) p6] [] p7) p8 :: rest ∧ Fp fs (v1 :: v2 :: es) ∧ es.length ≤ 100 ∧ Sts fs rest ∧
    ∀ (kV doc pm : Value) (an : Option Addr) (cdv ct : Value) (cc L f : Addr), interactive (iniEnv qual st kV doc pm an cdv ct cc L f) = false ∧ ∃ pl : Sem Bool, eval (.Call (.Attribute (.Call (.Name "super" p0) [] [] p1) "__init__" p2) [.JoinedStr (v1 :: v2 :: es) p6] [] p7) (iniEnv qual st kV doc pm an cdv ct cc L f) = (do
      let ov ← attributeBase (.Call (.Name "super" p0) [] [] p1) "__init__" (iniEnv qual st kV doc pm an cdv ct cc L f) (eval (.Call (.Name "super" p0) [] [] p1) (iniEnv qual st kV doc pm an cdv ct cc L f))
      standAt p2.atName
      let (f', first) ← holding [ov] (getMethod ov "__init__" pl)
      callWith p7 f' first (backTo p7 (starEach [.JoinedStr (v1 :: v2 :: es) p6] (iniEnv qual st kV doc pm an cdv ct cc L f))) [])
theorem map_fst_zip_sub {α β : Type} : ∀ (l : List α) (r : List β), ((l.zip r).map (·.1)).Sublist l
  | [], _ => by simp
  | _ :: _, [] => by simp
  | x :: l, y :: r => by simpa using map_fst_zip_sub l r
theorem map_fst_zip_all {α β : Type} : ∀ (l : List α) (r : List β), l.length = r.length → (l.zip r).map (·.1) = l
  | [], _, _ => by simp
  | _ :: _, [], h => by simp at h
  | x :: l, y :: r, h => by
    have h' : l.length = r.length := by simpa using h
    simpa using map_fst_zip_all l r h'
theorem map_snd_zip_all {α β : Type} : ∀ (l : List α) (r : List β), l.length = r.length → (l.zip r).map (·.2) = r
  | [], [], _ => rfl
  | [], _ :: _, h => by simp at h
  | _ :: _, [], h => by simp at h
  | x :: l, y :: r, h => by
    have h' : l.length = r.length := by simpa using h
    simpa using map_snd_zip_all l r h'
theorem zip_rev {α β : Type} (l : List α) (r : List β) (h : l.length = r.length) : (l.zip r).reverse = l.reverse.zip r.reverse := by
  refine List.ext_getElem? fun i => ?_
  by_cases hi : i < (l.zip r).length
  · have h1 : i < l.length := by rw [List.length_zip] at hi; omega
    have h2 : i < r.length := by omega
    rw [List.getElem?_reverse hi, List.zip_eq_zipWith, List.zip_eq_zipWith, List.getElem?_zipWith, List.getElem?_zipWith, List.getElem?_reverse h1, List.getElem?_reverse h2, List.length_zipWith]
    rw [show min l.length r.length = l.length by omega, ← h]
  · rw [List.getElem?_eq_none (by simpa using hi), List.getElem?_eq_none (by simp [List.length_zip] at hi ⊢; omega)]
theorem zip_lookup : ∀ {ns : List Str} {us : List Value} {i : Nat} {x : Str} {u : Value}, ns.Nodup → ns[i]? = some x → us[i]? = some u → (ns.zip us).reverse.lookup x = some u := by
  intro ns us i x u nd h1 h2
  have key : ∀ {l : List (Str × Value)}, (l.map (·.1)).Nodup → (x, u) ∈ l → l.lookup x = some u := by
    intro l
    induction l with
    | nil => intro _ h; cases h
    | cons p l ih =>
      intro nd h
      obtain ⟨y, v⟩ := p
      rw [List.lookup_cons]
      rcases List.mem_cons.mp h with e | h
      · cases e
        simp
      · have hne : (x == y) = false := by
          simp only [beq_eq_false_iff_ne]
          intro z
          have nd2 := (List.nodup_cons.mp nd).1
          rw [← z] at nd2
          exact nd2 (List.mem_map.mpr ⟨(x, u), h, rfl⟩)
        rw [hne]
        exact ih (List.nodup_cons.mp nd).2 h
  refine key ?_ ?_
  · rw [List.map_reverse]
    refine (List.reverse_perm _).nodup_iff.mpr (List.Sublist.nodup ?_ nd)
    exact map_fst_zip_sub ns us
  · rw [List.mem_reverse]
    exact List.mem_of_getElem? (i := i) (by rw [List.getElem?_zip_eq_some]; exact ⟨h1, h2⟩)
section
variable {P : Program} {w : World} {K : PySem.W.Frag} {mg : Str → Option Value} {A : Around} {C e t0 : Addr} {qual : Str} {st : Stmt} {f : Str} {fs : List Str} {R : Result → Shared → Prop}
/-- its __init__, called -/
theorem ini_run (T : XiC P K C qual st (f :: fs)) (fI : Addr) (hI : PySem.W.findIn K (.ref C) "__init__" = some (some (.ref fI))) (s : Shared) (KX : K.In s.heap) (hg : s.heap.Ns mainGlobals mg) (hmg : mg "super" = none) (hb : ∃ mb, s.heap.Ns builtinsNs mb ∧ ∀ x : Str, x ≠ "__name__" → mb x = bootBuiltins x) (lim : s.heap.NoLimit)
    (hr : A.depth < recursionLimit) (he : s.heap.get? e = some (PySem.HandSPX.excO C t0)) (hke : ∀ b o, K.lookup b = some o → b ≠ e) (vs : List V) (us : List Value) (hl : vs.length = (f :: fs).length) (rv : Vals vs us) (hi : ∀ u ∈ us, ∃ i, IntB u i)
    (k : ∀ h' tk dx t1 mA', KeepB e s.heap h' → s.heap.objs.size ≤ dx → dx ≠ e → h'.get? e = some (exO2 C t1 dx) → h'.Ns1 dx mA' → (∀ g, RelO ((((f :: fs).zip vs).reverse).lookup g) (mA' g)) → R (.ok (.ret .none)) { s with heap := h', toks := tk }) :
    codeAny (model P w) A (.call (.ref fI) ⟨.ref e :: us, []⟩) R s := by
  obtain ⟨fI', cda, cc, oc, od, an, osl, kV, doc, pm, ct, ccl, cl, cdd, cld, vsC, ccs, csl, file, tf, h1, h2, lk, hcd, hcode, hvs, hfile, hcell⟩ := T.ex
  have e0 := hI.symm.trans h1
  cases e0
  obtain ⟨es, v1, v2, rest, p0, p1, p2, p6, p7, p8, hbody, hfp, hes, hsts, hev⟩ := T.body
  obtain ⟨ar, har, harn⟩ := T.hp
  have hul : us.length = (f :: fs).length := by rw [← hl]; exact rv.length.symm
  obtain ⟨nm, q, N, bs, bm, sn, sub, ab, col, dd, k0, k1, k2, k3, k5, hC, hbm⟩ := T.oc.cls
  have hcl : PySem.W.clsIn K C = some { name := nm, bases := bs, mro := .ref C :: bm, ns := N, qualname := q, hasDict := true, slotNames := sn, subclasses := sub, abstract := ab, collection := col, hasDel := false } := by unfold PySem.W.clsIn; rw [hC] <;> rfl
  refine PySem.ks_codeAny_call_defAt (fd := PySem.W.ksFn "__init__" qual (defArgs st) (defBody st) (defScope st) .none kV doc pm an (.ref cda) ct cc) (body := defBody st) (binds := (("self" : Str) :: f :: fs).zip (.ref e :: us)) hr (KX _ _ lk) rfl lim (PySem.W.codeRec_of KX hcd) rfl
    (.of_eq (T.bind kV doc pm an (.ref cda) ct cc (.ref e :: us) (by simp [hul]))) T.nc (fun x hx => (T.kl x.1 (List.of_mem_zip hx).1).1) (fun h₁ hns hk₁ => ?_) T.co T.gen T.kd
  obtain ⟨hp, g, d, t, os⟩ := s
  obtain ⟨hint, pl, hev⟩ := hev kV doc pm an (.ref cda) ct cc hp.objs.size fI
  have eb : ∀ (c : Code) (Q : Flow → Shared → Prop) (E : Value → Shared → Prop) (s : Shared), _root_.PySem.wpAt (model P w) (A.deeper (iniEnv qual st kV doc pm an (.ref cda) ct cc hp.objs.size fI)) c (execs (.Expr (.Call (.Attribute (.Call (.Name "super" p0) [] [] p1) "__init__" p2) [.JoinedStr (v1 :: v2 :: es) p6] [] p7) p8 :: rest) (iniEnv qual st kV doc pm an (.ref cda) ct cc hp.objs.size fI)) Q E s → _root_.PySem.wpAt (model P w) (A.deeper (iniEnv qual st kV doc pm an (.ref cda) ct cc hp.objs.size fI)) c (execs (defBody st) (iniEnv qual st kV doc pm an (.ref cda) ct cc hp.objs.size fI)) Q E s := fun c Q E s z => by
    have z' := z
    rw [← hbody] at z'
    exact z'
  refine eb _ _ _ _ ?_
  dsimp only at hns hk₁ he KX hg hb lim k ⊢
  have X1 : K.In h₁ := fun b o z => hk₁ b o (KX b o z)
  have mget : ∀ (i : Nat) x u, (("self" : Str) :: f :: fs)[i]? = some x → (Value.ref e :: us)[i]? = some u → ((("self" : Str) :: f :: fs).zip (Value.ref e :: us)).reverse.lookup x = some u := fun i x u z1 z2 => zip_lookup T.nd z1 z2
  have he1 := hk₁ _ _ he
  have hLe : hp.objs.size ≠ e := fun z => absurd (Heap.lt_size he) (by rw [← z]; exact Nat.lt_irrefl _)
  refine PySem.ks_wpAt_execs_cons (PySem.ks_wpAt_Expr_any (PySem.ks_wpAt_MethodCall (pl := pl) ?_ hev) hint)
  refine PySem.ks_wpAt_super_base (env := callEnv (PySem.W.ksFn "__init__" qual (defArgs st) (defBody st) (defScope st) .none kV doc pm an (.ref cda) ct cc) hp.objs.size fI) T.ks T.kc (by decide) rfl (X1 _ _ lk) rfl har rfl (X1 _ _ hcode) rfl hvs hfile T.top ?_
  obtain ⟨mb, hb1, hb2⟩ := hb
  have nsk : ∀ {L : Addr} {mm : Str → Option Value}, hp.Ns L mm → h₁.Ns L mm := fun ⟨o, es', ep, ho, r'⟩ => ⟨o, es', ep, hk₁ _ _ ho, r'⟩
  refine PySem.W.ks_loadName_global T.kd T.ks (Calls.loadGlobal_builtin (env := callEnv (PySem.W.ksFn "__init__" qual (defArgs st) (defBody st) (defScope st) .none kV doc pm an (.ref cda) ct cc) hp.objs.size fI) (nsk hg) hmg (nsk hb1) ((hb2 "super" (by decide)).trans (by first | boot_by_name | rfl | kernel_rfl)) ⟨rfl, ?_⟩)
  refine wpAny_loadName_free T.kd T.kc rfl ⟨_, X1 _ _ hcell, rfl⟩ ?_
  rw [harn]
  refine wpAny_loadName_local T.kd (T.kl "self" List.mem_cons_self).1 hns (mget 0 _ _ rfl rfl) ?_
  refine PySem.ks_wpAny_isType_cls (X1 _ _ hC) rfl ⟨rfl, ?_⟩
  refine PySem.ks_wpAny_call_super (X1 _ _ hC) rfl he1 rfl (fun c z => by cases z) (PySem.W.looks_mroIn X1 T.mro) (fun h2' hso k2' => ?_)
  have X2 : K.In h2' := fun b o z => k2' b o (X1 b o z)
  have he2 := k2' _ _ he1
  have I2 : PySem.W.InstAt h2' e (PySem.HandSPX.excO C t0) C none := ⟨he2, rfl, rfl, trivial⟩
  have hsup := T.sup
  unfold PySem.W.ks_superIn at hsup
  rw [hcl, Option.bind_some] at hsup
  refine PySem.W.kxs_getMethod PySem.W.kxs_ValueError hso (PySem.W.looks_opaque X2 T.opq) (l₀ := .ref C :: bm) ((PySem.W.looks_clsIn X2 hcl).andThen .now) rfl X2 hsup (I2.type.andThen (PySem.W.looks_subIn X2 T.sub)) (PySem.W.ks_ne X2 I2 hcl) (by decide) ?_
  have k3 : ∀ b o, h2'.get? b = some o → (h2'.push (PySem.W.kxs_mw "ValueError.__init__" e)).get? b = some o := fun b o z => Heap.get?_push_of_some _ z
  have n3 : (h2'.push (PySem.W.kxs_mw "ValueError.__init__" e)).Ns hp.objs.size (fun x => ((("self" : Str) :: f :: fs).zip (Value.ref e :: us)).reverse.lookup x) := let ⟨o, es', ep, ho, r'⟩ := hns; ⟨o, es', ep, k3 _ _ (k2' _ _ ho), r'⟩
  refine PySem.W.kxs_callWith (i := "ValueError.__init__") (x := e) (by rfl) (Calls.evalArgs_plain (Calls.spliced_cons ?_))
  refine wpAny_JoinedStr (pos := p6) (joins_fp (env := iniEnv qual st kV doc pm an (.ref cda) ct cc hp.objs.size fI) (ns := f :: fs) (m := fun x => ((("self" : Str) :: f :: fs).zip (Value.ref e :: us)).reverse.lookup x) T.kd (fun x hx => (T.kl x (List.mem_cons_of_mem _ hx)).1) (fun x hx => ?_) (fun x hx => (T.kl x (List.mem_cons_of_mem _ hx)).2) hfp Str.empty _ _ n3 (by show 0 + 3000 * (es.length + 1 + 1) ≤ 1000000; omega) fun out tk ho => ⟨ho, ?_⟩)
  · obtain ⟨i, hi'⟩ := List.getElem?_of_mem hx
    have hlt : i < us.length := by rw [hul]; exact (List.getElem?_eq_some_iff.mp hi').1
    obtain ⟨z, hz⟩ := hi us[i] (List.getElem_mem hlt)
    exact ⟨us[i], z, mget (i + 1) x us[i] (by simpa using hi') (by simpa using List.getElem?_eq_getElem hlt), hz⟩
  refine Calls.spliced_nil ⟨Heap.get?_push_at rfl rfl, ?_⟩
  have X3 : K.In (h2'.push (PySem.W.kxs_mw "ValueError.__init__" e)) := fun b o z => k3 b o (X2 b o z)
  have he3 := k3 _ _ he2
  refine wpAny_call (codeAny_of_tree ?_)
  show wpAny _ (A.deeper (iniEnv qual st kV doc pm an (.ref cda) ct cc hp.objs.size fI)).in1 (callAny (.ref h2'.objs.size) ⟨[.str out tk], []⟩) _ _ ⟨h2'.push (PySem.W.kxs_mw "ValueError.__init__" e), g, d, tk + 1, os⟩
  simp only [callAny]
  refine wpAny_bind (wpAny_load (Heap.get?_push_at rfl rfl) ?_)
  simp only [PySem.W.kxs_mw, show (Value.type "method-wrapper" == Value.type "method" || Value.type "method-wrapper" == Value.type "builtin_function_or_method" || Value.type "method-wrapper" == Value.type "method-wrapper") = true by decide, if_true]
  refine PySem.W.KFB.if_so (by decide) ?_
  refine wpAny_bind (PySem.W.check_bound_init PySem.F.excBase_ValueError.toExcCallFacts (X3 _ _ hC) he3 rfl ?_)
  refine wpAny_bind (wpAny_pure (wpAny_pure ?_))
  refine ⟨plainId_quiet PySem.F.excBase_ValueError.init.plain _, codeAny_builtin PySem.F.excBase_ValueError.initEntry ?_⟩
  refine PySem.W.exc_init_tree (cls := .ref C) (t0 := t0) (dv := none) (c2 := .none) (c3 := .none) (b4 := .bool false) he3 (by show 1 ≤ sizeLine; decide) (fun h4 k4 he4 _ => ?_)
  have kAll : KeepB e h₁ h4 := fun b o n z => k4 b o n (k3 b o (k2' b o z))
  refine wpAt_of_wpAny ?_
  refine sts_all (env := iniEnv qual st kV doc pm an (.ref cda) ct cc hp.objs.size fI) (e := e) T.oc T.kd (T.kl "self" List.mem_cons_self).1 (m := fun x => ((("self" : Str) :: f :: fs).zip (Value.ref e :: us)).reverse.lookup x) (mget 0 _ _ rfl rfl) hsts vs us _ _ hl rv (fun f' z => ⟨(T.kl f' (List.mem_cons_of_mem _ z)).1, T.nf f' z, (T.kl f' (List.mem_cons_of_mem _ z)).2⟩) (fun i f' u z1 z2 => mget (i + 1) f' u (by simpa using z1) (by simpa using z2)) (by have := T.few; simp at this; omega) (fun b o z => kAll b o (hke b o z) (X1 b o z)) hke (kAll.ns hLe hns) hLe he4 (fun h5 tk5 dx mA5 k5 hd1 hd2 he5 hn5 rel5 => ?_)
  have sz4 : hp.objs.size ≤ h4.objs.size := by
    obtain ⟨o, es', ep, ho, r'⟩ := kAll.ns hLe hns
    exact Nat.le_of_lt (Heap.lt_size ho)
  exact k h5 tk5 dx _ mA5 (fun b o n z => k5 b o n (kAll b o n (hk₁ b o z))) (Nat.le_trans sz4 hd1) hd2 he5 hn5 rel5
end
/-- C(e, ..) -/
def tXi (C : Addr) (fs : List Str) (ta : L2.TA) : L2.St → Hp → XK → Prop := fun σ H Q => ta σ H fun vs H1 => vs.length = fs.length ∧ (∀ v ∈ vs, ∃ i : Int, v = .int i ∧ i.natAbs.log2 < 1920) ∧ ∀ d, H1 d = none → Q (.ref C) (some d) (upd H1 d (.xd (fs.zip vs).reverse))
theorem vals_ints : ∀ {vs : List V} {us : List Value}, Vals vs us → (∀ v ∈ vs, ∃ i : Int, v = .int i ∧ i.natAbs.log2 < 1920) → ∀ u ∈ us, ∃ i, IntB u i
  | _, _, .nil, _, u, hu => by cases hu
  | _, _, .cons r t, h, u, hu => by
    rcases List.mem_cons.mp hu with rfl | hu
    · obtain ⟨i, rfl, hi⟩ := h _ List.mem_cons_self
      exact ⟨i, r, hi⟩
    · exact vals_ints t (fun v hv => h v (List.mem_cons_of_mem _ hv)) u hu
section
variable {X : Cx} {W0 : Bs} {e : Expr} {es : List Expr} {ta : L2.TA} {p pos : Pos} {C : Addr} {qual x : Str} {st : Stmt} {f : Str} {fs : List Str}
theorem pmk_xi (T : XiC X.prog X.K C qual st (f :: fs)) (hr : Room 2 X.A) (hsu : X.mg "super" = none) (hg : Gl X x) (hm : X.mg x = some (.ref C)) (ha : PA X (e :: es) ta)
    (hdb : (x == ("__debug__" : Str)) = false := by decide) (he : starEach (e :: es) X.env = (false, eval e X.env) :: starEach es X.env := by rfl) (hpl : (backTo pos (starEach es X.env)).any (·.1) = false := by rfl) :
    PMk X (.Call (.Name x p) (e :: es) [] pos) (tXi C (f :: fs) ta) := by
  intro pins s σ H Q I h
  obtain ⟨nm, q, N, bs, bm, sn, sub, ab, col, dd, k0, k1, k2, k3, k5, hC, hbm⟩ := T.oc.cls
  refine wpAny_Call_Name_kw (ld_glob I hg hm ?_ hdb)
  refine PySem.W.callWith_K (h₀ := X.base) I.ok.mod.kin T.oc.kC (thn (ha.run pos pins s σ H _ I h) fun us s1 ⟨vs, H1, I1, r1, hz, hi, q1⟩ => ⟨I1.kIn, ?_⟩) he hpl
  show wpAny _ _ (call (.ref C) us) _ _ _
  obtain ⟨fI, _, _, _, _, _, _, _, _, _, _, _, _, _, _, _, _, _, _, _, iC, tI, _⟩ := T.ex
  obtain ⟨hp, g, dr, tk, os⟩ := s1
  have hsz : hp.objs.size ≤ hp.objs.size + 1 := Nat.le_succ _
  have kk : ∀ b o, hp.get? b = some o → ((hp.push (PySem.W.kdv_tup us)).push (PySem.HandSPX.excO C hp.objs.size)).get? b = some o := fun b o e => Heap.get?_push_of_some _ (Heap.get?_push_of_some _ e)
  have hget : ((hp.push (PySem.W.kdv_tup us)).push (PySem.HandSPX.excO C hp.objs.size)).get? (hp.objs.size + 1) = some (PySem.HandSPX.excO C hp.objs.size) := by heap_get
  have hul : us.length = (f :: fs).length := by rw [← hz]; exact r1.length.symm
  have hus : us.length ≤ sizeLine := by
    have := T.few
    rw [hul, sizeLine_eq]
    exact Nat.le_trans this (by decide)
  have old : ∀ {b : Addr} {o : Obj}, hp.get? b = some o → b ≠ hp.objs.size + 1 := fun {b o} z y => by
    rw [y] at z
    have z' := Heap.lt_size z
    exact absurd z' (Nat.not_lt.mpr (Nat.le_succ _))
  have kb : ∀ b o, X.base.get? b = some o → ((hp.push (PySem.W.kdv_tup us)).push (PySem.HandSPX.excO C hp.objs.size)).get? b = some o := fun b o z => kk b o (I1.bk b o z)
  have nsb : ∀ {L : Addr} {mm : Str → Option Value}, X.base.Ns L mm → ((hp.push (PySem.W.kdv_tup us)).push (PySem.HandSPX.excO C hp.objs.size)).Ns L mm := fun ⟨o, es', ep, ho, r'⟩ => ⟨o, es', ep, kb _ _ ho, r'⟩
  refine wpAny_call (PySem.HandSPX.call_own PySem.F.excBase_ValueError (fun Y => PySem.HandSPX.refsVE_contains Y bm hbm) (I1.kIn _ _ hC) (PySem.W.looks_findIn I1.kIn iC) (fun self => PySem.W.bind_fn I1.kIn self tI) hus
    (ini_run (w := X.w) (mg := X.mg) T fI iC ⟨(hp.push (PySem.W.kdv_tup us)).push (PySem.HandSPX.excO C hp.objs.size), g, dr, tk, os⟩ (fun b o z => kk b o (I1.kIn b o z)) (nsb I1.ok.mod.glob) hsu (let ⟨mb, b1, b2⟩ := I1.ok.mod.blt; ⟨mb, nsb b1, b2⟩) (I1.ok.mod.nolimit.keeps kb) (hr.make C us []).depth hget (fun b o z => old (I1.kIn b o z)) vs us hz r1 (vals_ints r1 hi)
      fun h' tk' dx t1 mA' kp hd1 hd2 he' hn' rel' => ?_))
  show Value.none = Value.none ∧ _
  refine ⟨rfl, ?_⟩
  obtain ⟨G, g1', g2'⟩ := restrict h' fun b => decide (b ≠ hp.objs.size + 1)
  have gk : ∀ b, b ≠ hp.objs.size + 1 → G.get? b = h'.get? b := fun b hb => g1' b (decide_eq_true hb)
  have ge : G.get? (hp.objs.size + 1) = none := g2' _ (by simp)
  have hds : hp.objs.size ≤ dx := Nat.le_trans (by simp [Heap.push]; omega) hd1
  have J : Inv X pins σ (upd H1 dx (.xd ((f :: fs).zip vs).reverse)) ⟨G, g, dr, tk', os⟩ := I1.laid (t' := tk') (h' := G) (fun b o z => by rw [gk b (old z)]; exact kp b o (old z) (kk b o z)) hds ⟨mA', hn'.at fun o y => (gk dx hd2).trans y, rel'⟩
  have na : upd H1 dx (.xd ((f :: fs).zip vs).reverse) (hp.objs.size + 1) = none := by
    rw [upd_ne (Ne.symm hd2)]
    exact I1.hok.fresh hsz
  exact ⟨hp.objs.size + 1, _, _, ⟨G, g, dr, tk', os⟩, _, .ref C, some dx, rfl, J, fun b o z => by
    by_cases hb : b = hp.objs.size + 1
    · rw [hb, ge] at z
      cases z
    · exact (gk b hb).symm.trans z, ge, he', ⟨rfl, rfl⟩, rfl, rfl, na, rfl, I1.bare, raises_own T.oc.exC T.oc.tyC, q1 dx (I1.hok.fresh hds)⟩
/-- raise C(e, ..), at the level of data -/
def dXi (R : EX) (C : Addr) (fs : List Str) (TR : DTA) : DTS := fun _ env S => TR env S fun ds S1 => ∃ is : List Int, ds = is.map .int ∧ is.length = fs.length ∧ (∀ i ∈ is, i.natAbs.log2 < 1920) ∧ R C (fs.zip (is.map D.int)).reverse S1
theorem Reps.intsV {K : PySem.W.Frag} {W : Wd} : ∀ {vs : List V} {is : List Int}, Reps K W vs (is.map D.int) → vs = is.map V.int
  | _, [], .nil => rfl
  | _, i :: is, .cons r t => by rw [r.intV, Reps.intsV t]; rfl
theorem ds_raiseX {TR : DTA} {pos' : Pos} (hc : X.calm = true) (hR : Rz X W0) (T : XiC X.prog X.K C qual st (f :: fs)) (hr : Room 2 X.A) (hsu : X.mg "super" = none) (hm : X.mg x = some (.ref C)) (hg : Gl X x) (ha : DA X W0 (e :: es) TR)
    (hdb : (x == ("__debug__" : Str)) = false := by decide) (he : starEach (e :: es) X.env = (false, eval e X.env) :: starEach es X.env := by rfl) (hpl : (backTo pos (starEach es X.env)).any (·.1) = false := by rfl) :
    DS X W0 (.Raise (some (.Call (.Name x p) (e :: es) [] pos)) none pos') (dXi W0.R C (f :: fs) TR) := by
  obtain ⟨E, tk, px⟩ := hR
  refine (ps_raise hc tk (pmk_xi T hr hsu hg hm ha hdb he hpl)).imp fun D σ H ⟨W, env, S, E', hW, sim, er, ht, post⟩ => ⟨W, env, S, _, hW, sim, er, ht, fun ds S1 W1 H1 vs ⟨is, hds, hl, hb, hq⟩ s l r => ?_⟩
  subst hds
  have ev := r.intsV
  subst ev
  refine ⟨by rw [List.length_map]; exact hl, fun v hv => ?_, fun d hd => ?_⟩
  · obtain ⟨i, hi, rfl⟩ := List.mem_map.mp hv
    exact ⟨i, rfl, hb i hi⟩
  · refine px C _ S1 (W1.put d (.xd ((f :: fs).zip (is.map V.int)).reverse)) _ (some d) hq (s.put hd) ((hW.trans l).stp.trans (.put s hd)) (.inr ⟨d, (is.map V.int).reverse, rfl, ?_, ?_⟩)
    · show upd W1.B d _ d = _
      rw [upd_same]
      rw [List.map_reverse, map_fst_zip_all _ _ (by simpa using hl.symm), zip_rev _ _ (by simpa using hl.symm)]
    · rw [List.map_reverse, map_snd_zip_all _ _ (by simpa using hl.symm), ← List.map_reverse, ← List.map_reverse]
      exact reps_ints _
theorem i_rzX {R : EX} {C : Addr} {fs : List Str} {TR : DTA} {E : DEnds} {env : Ev} {S : Sto} (q : TR env S fun ds S1 => ∃ is : List Int, ds = is.map .int ∧ is.length = fs.length ∧ (∀ i ∈ is, i.natAbs.log2 < 1920) ∧ R C (fs.zip (is.map D.int)).reverse S1) : dXi R C fs TR E env S := q
end
end DL

/-! defs that may raise where they don't; the end of a law that makes lambdas -/
namespace DL
open PySem PySem.Spec PyProof.Rows L2 LamX
/-- a def that may raise, called so that it doesn't -/
theorem FnX.fn {P : Program} {w : World} {K : PySem.W.Frag} {mg : Str → Option Value} {base : Heap} {x : Str} {k : Nat} {ps : List Str} {sp : DSpX} (h : FnX P w K mg base x k ps sp) : Fn P w K mg base x k ps (fun ds S P => sp ds S P fun _ _ _ => False) := by
  obtain ⟨f, fd, h1, h2, h3, h4⟩ := h
  refine ⟨f, fd, h1, h2, h3, ⟨fun vs H Q E ⟨W, ds, S, P, s, r, q, post⟩ => h4.len vs H Q (fun _ _ _ => False) ⟨W, ds, S, P, _, s, r, q, post, fun C fs S' W' H' d z => z.elim⟩, fun A outer s H args us vs Q E hr e0 hb rv ⟨W, ds, S, P, sm, r, q, post⟩ => ?_⟩⟩
  refine codeAny_mono (h4.run A outer s H args us vs Q (fun _ _ _ => False) hr e0 hb rv ⟨W, ds, S, P, _, sm, r, q, post, fun C fs S' W' H' d z => z.elim⟩) fun rr s' hq => ?_
  cases rr with
  | error e =>
    obtain ⟨a, B, H', cls, d, _, _, _, _, _, _, _, z⟩ := hq
    exact z.elim
  | ok fl =>
    cases fl with
    | ret u => exact hq
    | next => exact hq
    | brk => exact hq
    | cont => exact hq
/-- the code object c of the def x, and its table P, which the written part leaves out -/
structure TabF (K : PySem.W.Frag) (mg : Str → Option Value) (x : Str) (c P : Addr) : Prop where
  ex : ∃ (f : Addr) (o oc : Obj) (fd : FuncData) (vs : Array Value), mg x = some (.ref f) ∧ K.lookup f = some o ∧ o.data = .func fd ∧ fd.code = .ref c ∧ K.lookup c = some oc ∧ oc.data = .fields vs ∧ vs[11]? = some (.ref P)
  no : K.lookup P = none
theorem with_tab {K : PySem.W.Frag} {h : Heap} {mg : Str → Option Value} {goal : Prop} (X : K.In h) (G : h.Ns mainGlobals mg) (x : Str) {f c P : Addr} {oc cc : Value} {od cd : Option Addr} {fd : FuncData} {vs : Array Value} {osl csl : Array (Option Value)}
    (a : PySem.W.nsIn K mainGlobals x = some (some (.ref f))) (l : K.lookup f = some ⟨oc, od, .func fd, osl⟩) (hc : fd.code = .ref c) (lc : K.lookup c = some ⟨cc, cd, .fields vs, csl⟩) (hv : vs[11]? = some (.ref P)) (no : K.lookup P = none) (q : TabF K mg x c P → goal) : goal :=
  q ⟨⟨f, _, _, fd, vs, PySem.W.mg_of X G a, l, rfl, hc, lc, rfl, hv⟩, no⟩
/-- what the top's facts say of such a table -/
theorem TabF.tab {K : PySem.W.Frag} {mg mb : Str → Option Value} {q : Program} {loose : List Str} {mean : ExcName → Option Value} {h : Heap} {x : Str} {c P : Addr} (t : TabF K mg x c P) (T : Top q loose mean mg mb h) (X : K.In h) (hx : (recsOf q).any (fun d => d.name == x) = true) : h.get? P = some { cls := .none, data := .fields #[] } ∧ PySem.W.CodeHd h c P := by
  obtain ⟨f, o, oc, fd, vs, h1, h2, h3, h4, h5, h6, h7⟩ := t.ex
  obtain ⟨d, hd, he⟩ := List.any_eq_true.mp hx
  obtain ⟨a, o', fd', c', P', g1, g2, g3, g4, g5, g6⟩ := T.tab d hd
  rw [eq_of_beq he, h1] at g1
  cases g1
  rw [X _ _ h2] at g2
  cases g2
  rw [h3] at g3
  cases g3
  rw [h4] at g4
  cases g4
  have g6' := g6
  obtain ⟨⟨o2, us, e1, e2, e3, e4⟩, e5⟩ := g6'
  rw [X _ _ h5] at e1
  cases e1
  rw [h6] at e3
  cases e3
  rw [h7] at e4
  cases e4
  exact ⟨e5, PySem.W.CodeHd.of g5 g6⟩
/-- the tables of the defs ts: (name, code object, table) -/
theorem walk_tabs {l : PySem.W.OpenLaw} {n k : Nat} {q : Program} {loose : List Str} {XP : (Str → Option Value) → Heap → Prop} {YP : World → Heap → Prop} {d : DefRec} {K : Params → PySem.W.Frag} {x : Str} {sp : DSp} (ts : List (Str × Addr × Addr)) (qs : List (Addr × Str))
    (hn : l.most = some n) (hn2 : n ≤ sizeLine) (hdf : d.params.defaults = []) (hr : Room k callerA) (hY : ∀ (w : World) (h : Heap), YP w h → (K w.params).In h)
    (hrec : ts.all (fun t => (recsOf q).any (fun d => d.name == t.1)) = true) (hqs : qs.map (·.1) = ts.map (·.2.2)) (hnd : (qs.map (·.1)).Nodup)
    (F : ∀ (w : World) (mg : Str → Option Value) (fa : Addr) (h : Heap), (K w.params).In h → h.Ns mainGlobals mg → mg d.name = some (.ref fa) → (∀ t ∈ ts, TabF (K w.params) mg t.1 t.2.1 t.2.2) ∧
      ∃ fd : FuncData, (∀ (s : Shared) (u : Value), BindsTo s fd ⟨[u], []⟩ [(x, u)]) ∧ ∀ base : Heap, (K w.params).In base → base.Ns mainGlobals mg → (∀ t ∈ ts, TabB base mg t.2.1 t.2.2) → FnOk l.prog w (K w.params) mg base CX0 k fa fd [x] (liftSp (K w.params) sp))
    (hsp : ∀ ns : List Int, sp [.scr ns] (qs.map tabO) fun d _ => d = .bl true) :
    PySem.W.WalkO q loose XP YP l.row.toRowW d [] (fun f vs => PySem.call f vs) := by
  refine Att.attach_callB hn hdf fun w s₀ s₁ mg mb fa o pm cd doc a vs ns G Y ho hd hcd hmg hobj hints hlen hbits hg => ?_
  have KX := hY w _ Y
  obtain ⟨tf, fd, hb, hF⟩ := F w mg fa _ KX G.T.g hmg
  have hrec' : ∀ t ∈ ts, (recsOf q).any (fun d => d.name == t.1) = true := List.all_eq_true.mp hrec
  have tt : ∀ t ∈ ts, s₁.heap.get? t.2.2 = some { cls := .none, data := .fields #[] } ∧ PySem.W.CodeHd s₁.heap t.2.1 t.2.2 := fun t ht => (tf t ht).tab G.T KX (hrec' t ht)
  refine law_callTs (cs := ts.map (·.2)) (sp := liftSp (K w.params) sp) KX G.T.g G.T.b G.T.builtins G.T.nolimit hg (fun p hp => ?_) (fun p hp => ?_) (fun p hp => ?_) G.T.bmain hobj hints (Nat.le_trans hlen hn2) hr (fun base b1 b2 b3 => hF base b1 b2 fun t ht => b3 t.2 (List.mem_map.mpr ⟨t, ht, rfl⟩)) hb (fun H hH hS => ?_) fun H e s' z => z
  · obtain ⟨t, ht, rfl⟩ := List.mem_map.mp hp
    exact (tt t ht).1
  · obtain ⟨t, ht, rfl⟩ := List.mem_map.mp hp
    exact (tf t ht).no
  · obtain ⟨t, ht, rfl⟩ := List.mem_map.mp hp
    exact (tt t ht).2
  · have hq : ∀ p ∈ qs, H p.1 = some (.tbl #[]) := fun p hp => by
      have : p.1 ∈ ts.map (·.2.2) := by rw [← hqs]; exact List.mem_map.mpr ⟨p, hp, rfl⟩
      obtain ⟨t, ht, e⟩ := List.mem_map.mp this
      rw [← e]
      exact hH t.2 (List.mem_map.mpr ⟨t, ht, rfl⟩)
    refine ⟨⟨qs.map (·.1), noTab H⟩, [.scr ns], qs.map tabO, fun d _ => d = .bl true, ⟨fun b u e => (noTab_in e).1, by simp, hnd, fun a ha => ?_, fun i a o h1 h2 => ?_, fun b ps z => (noTab_in z).2 ps rfl⟩, .cons (.scr (noTab_sql hS)) .nil, hsp ns, fun d S' W' H' v e _ _ r => by subst e; exact r.bool⟩
    · obtain ⟨p, hp, rfl⟩ := List.mem_map.mp (show a ∈ qs.map (·.1) from ha)
      rw [hq p hp]
      exact fun z => nomatch z
    · have h1 : (qs.map (·.1))[i]? = some a := h1
      rw [List.getElem?_map] at h1 h2
      cases e : qs[i]? with
      | none => rw [e] at h1; cases h1
      | some p =>
        rw [e] at h1 h2
        cases h1
        cases h2
        have hp := hq p (List.mem_of_getElem? e)
        refine ⟨?_, rfl, #[], hp, trivial, fun pos cv hc => ?_⟩
        · show noTab H p.1 = none
          unfold noTab
          rw [hp]
        · have z : codeAmong pos [] = some cv := hc
          simp [codeAmong] at z
/-- the def x, its code object known -/
theorem Fun.code {K : PySem.W.Frag} {mg : Str → Option Value} {x : Str} {st : Stmt} {ps : List Str} {c P : Addr} (A : At K mg x st ps) (t : TabF K mg x c P) : ∃ (f : Addr) (oc kV doc pm ct : Value) (od an : Option Addr) (osl : Array (Option Value)), mg x = some (.ref f) ∧ K.lookup f = some ⟨oc, od, .func (PySem.W.fnOf x x (defArgs st) (defBody st) (defScope st) .none kV doc pm an (.ref c) ct), osl⟩ ∧ PySem.W.codeIn K (.ref c) x = true ∧ PySem.W.keepIn K (.ref f) = true ∧ Binds K (PySem.W.fnOf x x (defArgs st) (defBody st) (defScope st) .none kV doc pm an (.ref c) ct) ps [] := by
  obtain ⟨f, fd, h1, F, hb⟩ := A.ex
  obtain ⟨oc, od, kV, doc, pm, an, cdv, ct, osl, rfl, lk, hcd⟩ := F.ex
  obtain ⟨f', o, oc', fd', vs, g1, g2, g3, g4, _⟩ := t.ex
  rw [h1] at g1
  cases g1
  rw [lk] at g2
  cases g2
  cases g3
  have e : cdv = .ref c := g4
  subst e
  exact ⟨f, oc, kV, doc, pm, ct, od, an, osl, h1, lk, hcd, F.kp, hb⟩
end DL

/-! the ends for exception classes -/
namespace DL
open PySem PySem.Spec PyProof.Rows L2 LamX
section
variable {K : PySem.W.Frag} {h : Heap} {mg : Str → Option Value} {goal : Prop}
/-- a class of the top -/
theorem with_clsA (X : K.In h) (G : h.Ns mainGlobals mg) (x : Str) {C : Addr} (aC : PySem.W.nsIn K mainGlobals x = some (some (.ref C))) (q : mg x = some (.ref C) → goal) : goal := q (PySem.W.mg_of X G aC)
/-- an exception class without own __init__ -/
theorem with_xc (x : Str) {C : Addr} (gC : mg x = some (.ref C)) (ex : PySem.W.excIn K C PySem.HandSPX.veTail "ValueError.__new__" = true) (kC : PySem.W.keepIn K (.ref C) = true) (su : PySem.W.subIn K (.ref C) (.type "BaseException") = some true) (ty : PySem.W.typeIn K (.ref C) = some (.type "type")) (q : XcF K mg x C → goal) : goal := q ⟨ex, gC, kC, su, ty⟩
theorem with_wd {cs : List Addr} {CS C : Addr} (j : Nat) (ex : ExcC K C) (jl : j < 15) (sl : PySem.W.exmOne K (.ref C) (.ref CS) = some true)
    (is : cs.zipIdx.all (fun p => decide (PySem.W.kitOne K (.ref C) (.ref p.1) = some (decide (p.2 = j)))) = true) (ve : PySem.W.kitOne K (.ref C) (.type "ValueError") = some true)
    (nf : PySem.W.findIn K (.ref C) "function" = some none) (nr : PySem.W.findIn K (.ref C) "row" = some none) (na : PySem.W.findIn K (.ref C) "at" = some none) (q : WdC K cs CS C j → goal) : goal := by
  refine q ⟨ex, jl, sl, fun k c hk => ?_, ve, nf, nr, na⟩
  have := List.all_eq_true.mp is (c, k) (by rw [List.mem_zipIdx_iff_getElem?]; exact hk)
  exact of_decide_eq_true this
theorem with_xi {P : Program} {C : Addr} (qual : Str) (st : Stmt) (fs : List Str) {nm q : Str} {N : Addr} {bs bm : List Value} {sn : List Str} {sub : List Value} {ab : Bool} {col : Option Bool} {dd : Option Addr} {k0 k1 k2 k3 k5 : Option Value}
    {fI cda cc : Addr} {oc : Value} {od an : Option Addr} {osl : Array (Option Value)} {kV doc pm ct : Value} {ccl cl : Value} {cdd cld : Option Addr} {vs : Array Value} {ccs csl : Array (Option Value)} {file : Str} {tf : Tok}
    (lC : K.lookup C = some (excClassObj nm q C N bs bm true sn sub ab col dd k0 k1 k2 k3 k5 "ValueError.__new__")) (vb : PySem.HandSPX.refsVE bm = true)
    (sa : PySem.W.findIn K (.ref C) "__setattr__" = some (some (.builtin "object.__setattr__"))) (exC : PySem.W.subIn K (.ref C) (.type "BaseException") = some true) (tyC : PySem.W.typeIn K (.ref C) = some (.type "type")) (kC : PySem.W.keepIn K (.ref C) = true)
    (iC : PySem.W.findIn K (.ref C) "__init__" = some (some (.ref fI))) (tI : PySem.W.typeIn K (.ref fI) = some (.type "function"))
    (lI : K.lookup fI = some ⟨oc, od, .func (PySem.W.ksFn "__init__" qual (defArgs st) (defBody st) (defScope st) .none kV doc pm an (.ref cda) ct cc), osl⟩) (cI : PySem.W.codeIn K (.ref cda) qual = true)
    (lc : K.lookup cda = some ⟨ccl, cdd, .fields vs, ccs⟩) (hv : vs[2]? = some (.str file tf)) (hf : ((P.main.file : Str) == file) = true) (lcc : K.lookup cc = some ⟨cl, cld, .cell (some (.ref C)), csl⟩)
    (mro : PySem.W.mroIn K C (.ref C) = some true) (sub' : PySem.W.subIn K (.ref C) (.type "ValueError") = some true) (opq : PySem.W.nsIn K cStatics "thirdparty.any" = some none)
    (sup : PySem.W.ks_superIn K C C "__init__" = some (some (.builtin "ValueError.__init__")))
    (nf : ∀ f ∈ fs, PySem.W.findIn K (.ref C) f = some none)
    (bind : ∀ (kV doc pm : Value) (an : Option Addr) (cdv ct : Value) (cc : Addr) (us : List Value), us.length = fs.length + 1 → bindArgs (PySem.W.ksFn "__init__" qual (defArgs st) (defBody st) (defScope st) .none kV doc pm an cdv ct cc) ⟨us, []⟩ = pure ((("self" : Str) :: fs).zip us))
    (hp : ∃ ar, ((defArgs st).posonlyargs ++ (defArgs st).args).head? = some ar ∧ ar.arg = "self")
    (top : (P.main.scope.names.lookup ("super" : Str)).isSome = false)
    (ks : (defScope st).names.lookup ("super" : Str) = some .globalImplicit) (kc : (defScope st).names.lookup ("__class__" : Str) = some .free) (kl : ∀ x ∈ ("self" : Str) :: fs, (defScope st).names.lookup x = some .local ∧ (x == ("__debug__" : Str)) = false)
    (nc : ∀ x ∈ (defScope st).names, x.2 ≠ .cell) (co : (defScope st).isCoroutine = false) (gen : (defScope st).isGenerator = false) (kd : (defScope st).kind = .function) (few : fs.length ≤ 100) (nd : (("self" : Str) :: fs).Nodup)
    (body : ∃ (es : List Expr) (v1 v2 : Expr) (rest : List Stmt) (p0 p1 p2 p6 p7 p8 : Pos), defBody st = .Expr (.Call (.Attribute (.Call (.Name "super" p0) [] [] p1) "__init__" p2) [.JoinedStr (v1 :: v2 :: es) p6] [] p7) p8 :: rest ∧ Fp fs (v1 :: v2 :: es) ∧ es.length ≤ 100 ∧ Sts fs rest ∧
      ∀ (kV doc pm : Value) (an : Option Addr) (cdv ct : Value) (cc L f : Addr), interactive (iniEnv qual st kV doc pm an cdv ct cc L f) = false ∧ ∃ pl : Sem Bool, eval (.Call (.Attribute (.Call (.Name "super" p0) [] [] p1) "__init__" p2) [.JoinedStr (v1 :: v2 :: es) p6] [] p7) (iniEnv qual st kV doc pm an cdv ct cc L f) = (do
        let ov ← attributeBase (.Call (.Name "super" p0) [] [] p1) "__init__" (iniEnv qual st kV doc pm an cdv ct cc L f) (eval (.Call (.Name "super" p0) [] [] p1) (iniEnv qual st kV doc pm an cdv ct cc L f))
        standAt p2.atName
        let (f', first) ← holding [ov] (getMethod ov "__init__" pl)
        callWith p7 f' first (backTo p7 (starEach [.JoinedStr (v1 :: v2 :: es) p6] (iniEnv qual st kV doc pm an cdv ct cc L f))) []))
    (g : XiC P K C qual st fs → goal) : goal :=
  g ⟨⟨⟨nm, q, N, bs, bm, sn, sub, ab, col, dd, k0, k1, k2, k3, k5, lC, vb⟩, sa, exC, tyC, kC⟩, ⟨fI, cda, cc, oc, od, an, osl, kV, doc, pm, ct, ccl, cl, cdd, cld, vs, ccs, csl, file, tf, iC, tI, lI, cI, lc, hv, hf, lcc⟩, bind, hp, mro, sup, sub', opq, top, ks, kc, kl, nc, co, gen, kd, nf, few, nd, body⟩
end
end DL

/-! _law_word(lambda: f(..)) -/
namespace DL
open PySem PySem.Spec PyProof.Rows L2 LamX
theorem tabIn_of {T : List (Addr × Str)} {P : Addr} {q q' : Str} (e : q' = q) (h : (P, q) ∈ T) : (P, q') ∈ T := by rw [e]; exact h
theorem tabUn_of {T : List (Addr × Str)} {P : Addr} {q q' : Str} (e : q' = q) (h : ∀ p ∈ T, p.1 = P → p.2 = q) : ∀ p ∈ T, p.1 = P → p.2 = q' := by rw [e]; exact h
section
variable {X : Cx} {W0 : Bs}
theorem de_wordX {sp : DSpX} {TR : DTA} {ps : List Str} {j : Nat} {y : Str} {e : Expr} {es : List Expr} {p' pos' : Pos} {Tb : List (Addr × Str)} {cs : List Addr} {CS : Addr} {x a : Str} {g c P : Addr} {k : Nat} {pg : Arguments} {bg : List Stmt} {sg : Scope} {dV kV doc pm cdv ct oc : Value} {an od : Option Addr} {osl : Array (Option Value)} {Ng : List Str}
    {params : Arguments} {scope : Scope} {p lpos pos : Pos} (hg : Gl X x) (hm : X.mg x = some (.ref g)) (hk : PySem.W.keepIn X.K (.ref g) = true)
    (lk : X.K.lookup g = some ⟨oc, od, .func (PySem.W.fnOf x x pg bg sg dV kV doc pm an cdv ct), osl⟩) (hcg : PySem.W.codeIn X.K cdv x = true) (hb : L2.Binds X.K (PySem.W.fnOf x x pg bg sg dV kV doc pm an cdv ct) [a] []) (Sg : FnScope Ng [a] sg) (hNg : Ng[0]? = some a) (hva : Vis sg a)
    (hG : GivesTo X Ng x sg g cdv bg a (X.env.qual ++ "<lambda>") (TTw X.K cs CS))
    (TB : TabB X.base X.mg c P) (hTb : (P, X.env.qual ++ "<lambda>") ∈ Tb) (hTu : ∀ p ∈ Tb, p.1 = P → p.2 = X.env.qual ++ "<lambda>") (hcode : X.env.code = .ref c) (hr : Room (k + 2) X.A) (L : LamS X.env.scope scope) (hdef : defaultsOf params X.env = ([], []))
    (hbind : ∀ (q : Str) (cl : List (Str × Addr)) (pm cv ctv : Value), bindArgs (PySem.W.kla_fn "<lambda>" q params (.Call (.Name y p') (e :: es) [] pos') scope cl pm cv ctv) ⟨[], []⟩ = pure [])
    (G : FnX X.prog X.w X.K X.mg X.base y j ps sp) (hj : j ≤ k)
    (hgy : ∀ (A : Around) (outer : List Env) (s : Shared) (H : Hp) (E : XK) (f c' : Addr), Gl (lamCx X A outer s H E scope f c') y)
    (hbody : ∀ (A : Around) (outer : List Env) (s : Shared) (H : Hp) (E : XK) (f c' : Addr) (B : Bs), Room k (A.deeper (lamEnv X scope s.heap.objs.size f c')) → DA (lamCx X A outer s H E scope f c') B (e :: es) TR)
    (he : ∀ (A : Around) (outer : List Env) (s : Shared) (H : Hp) (E : XK) (f c' : Addr), starEach (e :: es) (lamCx X A outer s H E scope f c').env = (false, eval e (lamCx X A outer s H E scope f c').env) :: starEach es (lamCx X A outer s H E scope f c').env)
    (hpl : ∀ (A : Around) (outer : List Env) (s : Shared) (H : Hp) (E : XK) (f c' : Addr), (backTo pos' (starEach es (lamCx X A outer s H E scope f c').env)).any (·.1) = false)
    (hdy : (y == ("__debug__" : Str)) = false := by decide) (hdb : (x == ("__debug__" : Str)) = false := by decide) (hd : (a == ("__debug__" : Str)) = false := by decide) (hcd : (a == ("__classdict__" : Str)) = false := by decide) :
    DE X W0 (.Call (.Name x p) [.Lambda params (.Call (.Name y p') (e :: es) [] pos') scope lpos] [] pos) (dWord X.K cs CS Tb fun R => dCallX sp R TR) :=
  de_word (T := fun R => dCallX sp R TR) hg hm hk lk hcg hb Sg hNg hva hG TB hTb hTu hcode hr L hdef hbind
    (fun A outer s H E f c' B hr' hR => de_fnX (X := lamCx X A outer s H E scope f c') G hR (hr'.mono hj) (hgy A outer s H E f c') (hbody A outer s H E f c' B hr') hdy (he A outer s H E f c') (hpl A outer s H E f c')) hdb hd hcd
end
/-- what the text says of such a class's __init__ -/
structure XiS (P : Program) (qual : Str) (st : Stmt) (fs : List Str) : Prop where
  bind : ∀ (kV doc pm : Value) (an : Option Addr) (cdv ct : Value) (cc : Addr) (us : List Value), us.length = fs.length + 1 → bindArgs (PySem.W.ksFn "__init__" qual (defArgs st) (defBody st) (defScope st) .none kV doc pm an cdv ct cc) ⟨us, []⟩ = pure ((("self" : Str) :: fs).zip us)
  hp : ∃ ar, ((defArgs st).posonlyargs ++ (defArgs st).args).head? = some ar ∧ ar.arg = "self"
  top : (P.main.scope.names.lookup ("super" : Str)).isSome = false
  ks : (defScope st).names.lookup ("super" : Str) = some .globalImplicit
  kc : (defScope st).names.lookup ("__class__" : Str) = some .free
  kl : ∀ x ∈ ("self" : Str) :: fs, (defScope st).names.lookup x = some .local ∧ (x == ("__debug__" : Str)) = false
  nc : ∀ x ∈ (defScope st).names, x.2 ≠ .cell
  co : (defScope st).isCoroutine = false
  gen : (defScope st).isGenerator = false
  kd : (defScope st).kind = .function
  few : fs.length ≤ 100
  nd : (("self" : Str) :: fs).Nodup
  body : ∃ (es : List Expr) (v1 v2 : Expr) (rest : List Stmt) (p0 p1 p2 p6 p7 p8 : Pos), defBody st = .Expr (.Call (.Attribute (.Call (.Name "super" p0) [] [] p1) "__init__" p2) [.JoinedStr (v1 :: v2 :: es) p6] [] p7) p8 :: rest ∧ Fp fs (v1 :: v2 :: es) ∧ es.length ≤ 100 ∧ Sts fs rest ∧
    ∀ (kV doc pm : Value) (an : Option Addr) (cdv ct : Value) (cc L f : Addr), interactive (iniEnv qual st kV doc pm an cdv ct cc L f) = false ∧ ∃ pl : Sem Bool, eval (.Call (.Attribute (.Call (.Name "super" p0) [] [] p1) "__init__" p2) [.JoinedStr (v1 :: v2 :: es) p6] [] p7) (iniEnv qual st kV doc pm an cdv ct cc L f) = (do
      let ov ← attributeBase (.Call (.Name "super" p0) [] [] p1) "__init__" (iniEnv qual st kV doc pm an cdv ct cc L f) (eval (.Call (.Name "super" p0) [] [] p1) (iniEnv qual st kV doc pm an cdv ct cc L f))
      standAt p2.atName
      let (f', first) ← holding [ov] (getMethod ov "__init__" pl)
      callWith p7 f' first (backTo p7 (starEach [.JoinedStr (v1 :: v2 :: es) p6] (iniEnv qual st kV doc pm an cdv ct cc L f))) [])
theorem with_xiS {K : PySem.W.Frag} {goal : Prop} {P : Program} (C : Addr) {qual : Str} {st : Stmt} {fs : List Str} (S : XiS P qual st fs) {nm q : Str} {N : Addr} {bs bm : List Value} {sn : List Str} {sub : List Value} {ab : Bool} {col : Option Bool} {dd : Option Addr} {k0 k1 k2 k3 k5 : Option Value}
    {fI cda cc : Addr} {oc : Value} {od an : Option Addr} {osl : Array (Option Value)} {kV doc pm ct : Value} {ccl cl : Value} {cdd cld : Option Addr} {vs : Array Value} {ccs csl : Array (Option Value)} {file : Str} {tf : Tok}
    (lC : K.lookup C = some (excClassObj nm q C N bs bm true sn sub ab col dd k0 k1 k2 k3 k5 "ValueError.__new__")) (vb : PySem.HandSPX.refsVE bm = true)
    (sa : PySem.W.findIn K (.ref C) "__setattr__" = some (some (.builtin "object.__setattr__"))) (exC : PySem.W.subIn K (.ref C) (.type "BaseException") = some true) (tyC : PySem.W.typeIn K (.ref C) = some (.type "type")) (kC : PySem.W.keepIn K (.ref C) = true)
    (iC : PySem.W.findIn K (.ref C) "__init__" = some (some (.ref fI))) (tI : PySem.W.typeIn K (.ref fI) = some (.type "function"))
    (lI : K.lookup fI = some ⟨oc, od, .func (PySem.W.ksFn "__init__" qual (defArgs st) (defBody st) (defScope st) .none kV doc pm an (.ref cda) ct cc), osl⟩) (cI : PySem.W.codeIn K (.ref cda) qual = true)
    (lc : K.lookup cda = some ⟨ccl, cdd, .fields vs, ccs⟩) (hv : vs[2]? = some (.str file tf)) (hf : ((P.main.file : Str) == file) = true) (lcc : K.lookup cc = some ⟨cl, cld, .cell (some (.ref C)), csl⟩)
    (mro : PySem.W.mroIn K C (.ref C) = some true) (sub' : PySem.W.subIn K (.ref C) (.type "ValueError") = some true) (opq : PySem.W.nsIn K cStatics "thirdparty.any" = some none)
    (sup : PySem.W.ks_superIn K C C "__init__" = some (some (.builtin "ValueError.__init__"))) (nf : ∀ f ∈ fs, PySem.W.findIn K (.ref C) f = some none) (g : XiC P K C qual st fs → goal) : goal :=
  with_xi qual st fs lC vb sa exC tyC kC iC tI lI cI lc hv hf lcc mro sub' opq sup nf S.bind S.hp S.top S.ks S.kc S.kl S.nc S.co S.gen S.kd S.few S.nd S.body g
end DL

/-! match of a tuple: patterns of texts and names -/
namespace DL
open PySem PySem.Spec PyProof.Rows L2
inductive Pt where
  | con (x : Str) | cap (i : Nat)
inductive PatR (X : Cx) : Pattern → Pt → Prop where
  | con {x : Str} {k : Nat} {p p' : Pos} : PatR X (.MatchValue (.Constant (.str x) k p) p') (.con x)
  | cap {i : Nat} {n : Str} {p : Pos} : X.N.Nodup → X.N[i]? = some n → Loc X.env.scope n → (X.fn n = true ∨ X.env.scope.names.lookup n = some .local) → PatR X (.MatchAs none (some n) p) (.cap i)
inductive PatsR (X : Cx) : List Pattern → List Pt → Prop where
  | nil : PatsR X [] []
  | cons {p : Pattern} {t : Pt} {ps : List Pattern} {ts : List Pt} : PatR X p t → PatsR X ps ts → PatsR X (p :: ps) (t :: ts)
theorem PatsR.length {X : Cx} : ∀ {ps : List Pattern} {ts : List Pt}, PatsR X ps ts → ps.length = ts.length
  | _, _, .nil => rfl
  | _, _, .cons _ r => congrArg (· + 1) r.length
/-- texts where texts are asked for -/
def okV : List Pt → List V → Prop
  | .con _ :: ps, v :: vs => (∃ y, v = .str y) ∧ okV ps vs
  | .cap _ :: ps, _ :: vs => okV ps vs
  | _, _ => True
def bindV : List Pt → List V → Option (List (Nat × V))
  | [], [] => some []
  | .con x :: ps, .str y :: vs => if y = x then bindV ps vs else none
  | .cap i :: ps, v :: vs => (bindV ps vs).map ((i, v) :: ·)
  | _, _ => none
def setsV (σ : L2.St) : List (Nat × V) → L2.St
  | [] => σ
  | b :: bs => setsV (σ.set b.1 (some b.2)) bs
def tCases (xs : List V) : List (List Pt × TS) → TS
  | [] => fun D σ H => D.nx σ H
  | (ps, t) :: r => fun D σ H => okV ps xs ∧ match bindV ps xs with
    | some bs => t D (setsV σ bs) H
    | none => tCases xs r D σ H
def tMat (K : PySem.W.Frag) (ts : TE) (cs : List (List Pt × TS)) : TS := fun D σ H => ts σ H fun v H1 => ∃ a xs, v = .ref a ∧ SqT K H1 a xs ∧ tCases xs cs D σ H1
inductive MCs (X : Cx) : List MatchCase → List (List Pt × TS) → Prop where
  | nil : MCs X [] []
  | cons {ps : List Pattern} {pts : List Pt} {pos : Pos} {body : List Stmt} {t : TS} {rest : List MatchCase} {r : List (List Pt × TS)} : PatsR X ps pts → PSs X body t → MCs X rest r → ps.findIdx? (·.isStar) = none → (ps.all fun p => p.isWildcard || (p.isStar && p.names.isEmpty)) = false → MCs X (⟨.MatchSequence ps pos, none, body⟩ :: rest) ((pts, t) :: r)
section
variable {X : Cx}
theorem bindV_len : ∀ {ps : List Pt} {xs : List V} {bs : List (Nat × V)}, bindV ps xs = some bs → ps.length = xs.length
  | [], [], _, _ => rfl
  | .con x :: ps, v :: vs, bs, h => by
    cases v with
    | str y =>
      simp only [bindV] at h
      split at h
      · exact congrArg (· + 1) (bindV_len h)
      · cases h
    | _ => simp [bindV] at h
  | .cap i :: ps, v :: vs, bs, h => by
    simp only [bindV, Option.map_eq_some_iff] at h
    obtain ⟨b, h, _⟩ := h
    exact congrArg (· + 1) (bindV_len h)
  | [], _ :: _, _, h => by simp [bindV] at h
  | .con _ :: _, [], _, h => by simp [bindV] at h
  | .cap _ :: _, [], _, h => by simp [bindV] at h
/-- what a pattern's items are bound to: names with values -/
inductive BndR (X : Cx) : List (Str × Value) → List (Nat × V) → Prop where
  | nil : BndR X [] []
  | cons {n : Str} {u : Value} {i : Nat} {v : V} {bs : List (Str × Value)} {vs : List (Nat × V)} : X.N.Nodup → X.N[i]? = some n → Loc X.env.scope n → (X.fn n = true ∨ X.env.scope.names.lookup n = some .local) → RelV v u → BndR X bs vs → BndR X ((n, u) :: bs) ((i, v) :: vs)
theorem each_run {pins : List (Addr × Obj)} {σ : L2.St} {H : Hp} {ps : List Pattern} {pts : List Pt} (hp : PatsR X ps pts) : ∀ {xs : List V} {us : List Value}, Vals xs us → xs.length = ps.length → okV pts xs → ∀ (s : Shared) (Q : Option (List (Str × Value)) → Shared → Prop), Inv X pins σ H s →
    (∀ s', Inv X pins σ H s' → (bindV pts xs = none → Q none s') ∧ ∀ vs, bindV pts xs = some vs → ∀ bs, BndR X bs vs → Q (some bs) s') → wpAny (model X.prog X.w) X.A (matchEach ps X.env us) Q X.xe s := by
  induction hp with
  | nil =>
    intro xs us rv hl ok s Q I k
    cases rv with
    | nil => exact wpAny_matchEach_nil ((k s I).2 [] rfl [] .nil)
    | cons _ _ => simp at hl
  | cons h1 r ih =>
    intro xs us rv hl ok s Q I k
    cases rv with
    | nil => simp at hl
    | cons rv t =>
      rename_i v u xs us
      cases h1 with
      | con =>
        rename_i x kk p p'
        obtain ⟨⟨y, rfl⟩, ok⟩ := ok
        obtain ⟨tk, rfl⟩ := rv
        refine wpAny_matchEach_cons (wpAny_matchPattern_Value (Calls.Constant_str (PyProof.Rows.eq_str (wpAny_truthy_bool ?_))))
        by_cases h : y = x
        · have hb : (y == x) = true := by simpa using h
          rw [hb, if_pos rfl]
          refine ih t (by simpa using hl) ok _ _ (I.tok _) fun s' I' => ⟨fun e => ?_, fun vs e bs hb => ?_⟩
          · exact (k s' I').1 (by simp only [bindV, if_pos h]; exact e)
          · exact (k s' I').2 vs (by simp only [bindV, if_pos h]; exact e) bs hb
        · have hb : (y == x) = false := by simpa using h
          rw [hb, if_neg Bool.false_ne_true]
          exact (k _ (I.tok _)).1 (by simp only [bindV, if_neg h])
      | cap h1 h2 h3 h4 =>
        rename_i i n p
        refine wpAny_matchEach_cons (wpAny_matchPattern_Capture ?_)
        refine ih t (by simpa using hl) ok s _ I fun s' I' => ⟨fun e => ?_, fun vs e bs hb => ?_⟩
        · exact (k s' I').1 (by simp only [bindV, e, Option.map_none])
        · exact (k s' I').2 ((i, v) :: vs) (by simp only [bindV, e, Option.map_some]) _ (.cons h1 h2 h3 h4 rv hb)
theorem bind_run {pins : List (Addr × Obj)} {H : Hp} : ∀ {bs : List (Str × Value)} {vs : List (Nat × V)}, BndR X bs vs → ∀ (s : Shared) (σ : L2.St) (Q : Unit → Shared → Prop), Inv X pins σ H s → (∀ s', Inv X pins (setsV σ vs) H s' → Q () s') →
    wpAny (model X.prog X.w) X.A (assignInOrder (bs.map fun (n, _) => bindName X.env n) (bs.map (·.2))) Q X.xe s
  | _, _, .nil, s, σ, Q, I, k => wpAny_assignInOrder_none (k s I)
  | _, _, @BndR.cons _ n u i v bs vs h1 h2 h3 h4 rv r, s, σ, Q, I, k => by
    refine wpAny_assignInOrder_more (wpAny_bindName (store_ok I h1 h2 h3 rv (fun s' I' => ?_) h4))
    exact bind_run r s' _ Q I' k
theorem cases_run {pins : List (Addr × Obj)} {σ : L2.St} {H : Hp} {a : Addr} {xs : List V} {D : Ends} (hc : X.calm = true) (hq : SqT X.K H a xs) : ∀ {cases : List MatchCase} {cs : List (List Pt × TS)}, MCs X cases cs → ∀ (s : Shared) (first : Bool), Inv X pins σ H s → tCases xs cs D σ H →
    wpAny (model X.prog X.w) X.A (matchCases cases X.env (.ref a) first) (SP X pins D) X.xe s
  | _, _, .nil, s, _, I, h => wpAny_matchCases_nil ⟨σ, H, I, h⟩
  | _, _, @MCs.cons _ ps pts pos body t rest r hp hb hr hstar hwild, s, first, I, h => by
    obtain ⟨ok, h⟩ := h
    obtain ⟨its, rv, ht, hz⟩ := I.tuple hq
    have hfit : ((its.toArray.size : Nat) : Int) < 2 ^ 63 := by
      have := rv.length
      rw [sizeLine_eq] at hz
      simp
      omega
    refine wpAny_matchCases_cons ?_
    by_cases hl : its.toArray.size = ps.length
    · refine matchSeq_tuple_hit ht hfit hl ?_ hstar hwild
      rw [← hl]
      refine unpackItems_tuple (I.ok.hd hc) (by exact ht) fun h' hx => ?_
      have I1 : Inv X pins σ H ⟨h', s.gens, s.drawn, s.toks + 1 + 1, s.os⟩ := I.kept (t' := s.toks + 1 + 1) fun b o e => hx b o (Nat.ne_of_lt (Heap.lt_size e)) e
      refine each_run hp (by simpa using rv) (by rw [rv.length]; simpa using hl) ok _ _ I1 fun s' I' => ⟨fun e => ?_, fun vs e bs hbs => ?_⟩
      · rw [e] at h
        exact cases_run hc hq hr s' false I' h
      · rw [e] at h
        exact bind_run hbs s' σ _ I' fun s2 I2 => hb.run pins s2 _ H D I2 h
    · refine matchSeq_tuple_miss ht hfit hl ?_ hstar hwild
      have e : bindV pts xs = none := by
        cases hz2 : bindV pts xs with
        | none => rfl
        | some bs =>
          have := bindV_len hz2
          rw [← hp.length, rv.length] at this
          exact absurd (by simpa using this.symm) hl
      rw [e] at h
      exact cases_run hc hq hr _ false (I.tok _) h
theorem ps_match {subj : Expr} {ts : TE} {cases : List MatchCase} {cs : List (List Pt × TS)} {pos : Pos} (hc : X.calm = true) (hs : PE X subj ts) (hr : MCs X cases cs) : PS X (.Match subj cases pos) (tMat X.K ts cs) := by
  refine ⟨fun pins s σ H D I h => wpAny_Match (thn (hs.run pins s σ H _ I h) fun u s1 ⟨v, H1, I1, r1, a, xs, ev, hq, h1⟩ => ?_)⟩
  subst ev
  obtain rfl : u = .ref a := r1
  exact cases_run hc hq hr s1 true I1 h1
end
/-! ### at the level of data -/
def okD : List Pt → List D → Prop
  | .con _ :: ps, v :: vs => (∃ y, v = .str y) ∧ okD ps vs
  | .cap _ :: ps, _ :: vs => okD ps vs
  | _, _ => True
def bindD : List Pt → List D → Option (List (Nat × D))
  | [], [] => some []
  | .con x :: ps, .str y :: vs => if y = x then bindD ps vs else none
  | .cap i :: ps, v :: vs => (bindD ps vs).map ((i, v) :: ·)
  | _, _ => none
def setsD (env : Ev) : List (Nat × D) → Ev
  | [] => env
  | b :: bs => setsD (env.set b.1 (some b.2)) bs
def dCases (xs : List D) : List (List Pt × DTS) → DTS
  | [] => fun E env S => E.nx env S
  | (ps, T) :: r => fun E env S => okD ps xs ∧ match bindD ps xs with
    | some bs => T E (setsD env bs) S
    | none => dCases xs r E env S
def dMatch (Ts : DTE) (cs : List (List Pt × DTS)) : DTS := fun E env S => Ts env S fun d S1 => ∃ xs, d = .tup xs ∧ dCases xs cs E env S1
inductive MDs (X : Cx) (W0 : Bs) : List MatchCase → List (List Pt × DTS) → Prop where
  | nil : MDs X W0 [] []
  | cons {ps : List Pattern} {pts : List Pt} {pos : Pos} {body : List Stmt} {T : DTS} {rest : List MatchCase} {r : List (List Pt × DTS)} : PatsR X ps pts → DSs X W0 body T → MDs X W0 rest r → ps.findIdx? (·.isStar) = none → (ps.all fun p => p.isWildcard || (p.isStar && p.names.isEmpty)) = false → MDs X W0 (⟨.MatchSequence ps pos, none, body⟩ :: rest) ((pts, T) :: r)
section
variable {X : Cx} {W0 : Bs}
theorem MDs.mcs : ∀ {cases : List MatchCase} {cs : List (List Pt × DTS)}, MDs X W0 cases cs → MCs X cases (cs.map fun p => (p.1, liftS X.K W0 p.2))
  | _, _, .nil => .nil
  | _, _, .cons h1 h2 h3 h4 h5 => .cons h1 h2 h3.mcs h4 h5
theorem ok_lift {K : PySem.W.Frag} {W : Wd} : ∀ (ps : List Pt) {vs : List V} {ds : List D}, Reps K W vs ds → okD ps ds → okV ps vs
  | [], _, _, _, _ => by simp [okV]
  | .con _ :: ps, _, _, h, o => by
    cases h with
    | nil => simp [okV]
    | cons r t =>
      obtain ⟨⟨y, e⟩, o⟩ := o
      subst e
      exact ⟨⟨y, r.strV⟩, ok_lift ps t o⟩
  | .cap _ :: ps, _, _, h, o => by
    cases h with
    | nil => simp [okV]
    | cons r t => exact ok_lift ps t o
theorem bind_lift {K : PySem.W.Frag} {W : Wd} : ∀ (ps : List Pt) {vs : List V} {ds : List D}, Reps K W vs ds → okD ps ds → (bindD ps ds = none → bindV ps vs = none) ∧ ∀ bs, bindD ps ds = some bs → ∃ cs, bindV ps vs = some cs ∧ ∀ (env : Ev) (σ : L2.St), EnvR K W env σ → EnvR K W (setsD env bs) (setsV σ cs)
  | [], _, _, h, _ => by
    cases h with
    | nil => exact ⟨fun h => by simp [bindD] at h, fun bs h => by simp [bindD] at h; subst h; exact ⟨[], rfl, fun _ _ e => e⟩⟩
    | cons r t => exact ⟨fun _ => by simp [bindV], fun bs h => by simp [bindD] at h⟩
  | .con x :: ps, _, _, h, o => by
    cases h with
    | nil => exact ⟨fun _ => by simp [bindV], fun bs h => by simp [bindD] at h⟩
    | cons r t =>
      obtain ⟨⟨y, e⟩, o⟩ := o
      subst e
      obtain rfl := r.strV
      by_cases hx : y = x
      · simp only [bindD, bindV, if_pos hx]
        exact bind_lift ps t o
      · simp only [bindD, bindV, if_neg hx]
        exact ⟨fun _ => trivial, fun bs h => by cases h⟩
  | .cap i :: ps, _, _, h, o => by
    cases h with
    | nil => exact ⟨fun _ => by simp [bindV], fun bs h => by simp [bindD] at h⟩
    | cons r t =>
      rename_i v d vs ds
      obtain ⟨a, b⟩ := bind_lift ps t o
      refine ⟨fun z => ?_, fun bs z => ?_⟩
      · simp only [bindD, Option.map_eq_none_iff] at z
        simp only [bindV, a z, Option.map_none]
      · simp only [bindD, Option.map_eq_some_iff] at z
        obtain ⟨bs', z1, rfl⟩ := z
        obtain ⟨cs, c1, c2⟩ := b bs' z1
        exact ⟨(i, v) :: cs, by simp only [bindV, c1, Option.map_some], fun env σ e => c2 _ _ (e.set r)⟩
theorem cases_lift {W : Wd} {S : Sto} {H : Hp} {σ : L2.St} {env : Ev} {E : DEnds} {D' : Ends} {xs : List V} {ds : List D} (hW : W0.to W H) (sim : Sim X.K W S H) (er : EnvR X.K W env σ) (post : PostS X.K W H E D') (r : Reps X.K W xs ds) : ∀ {cs : List (List Pt × DTS)}, dCases ds cs E env S → tCases xs (cs.map fun p => (p.1, liftS X.K W0 p.2)) D' σ H
  | [], h => post.nx env S W H σ h sim .refl er
  | (ps, T) :: cs, ⟨ok, h⟩ => by
    refine ⟨ok_lift ps r ok, ?_⟩
    obtain ⟨a, b⟩ := bind_lift ps r ok
    cases e : bindD ps ds with
    | none =>
      rw [e] at h
      rw [a e]
      exact cases_lift hW sim er post r h
    | some bs =>
      rw [e] at h
      obtain ⟨cs', c1, c2⟩ := b bs e
      rw [c1]
      exact ⟨W, setsD env bs, S, E, hW, sim, c2 _ _ er, h, post⟩
theorem ds_match {subj : Expr} {Ts : DTE} {cases : List MatchCase} {cs : List (List Pt × DTS)} {pos : Pos} (hc : X.calm = true) (hs : DE X W0 subj Ts) (hr : MDs X W0 cases cs) : DS X W0 (.Match subj cases pos) (dMatch Ts cs) :=
  (ps_match hc hs hr.mcs).imp fun D' σ H ⟨W, env, S, E, hW, sim, er, ht, post⟩ => ⟨W, env, S, _, hW, sim, er, ht, fun d S1 W1 H1 v ⟨xs, e, q⟩ s l r => by
    subst e
    cases r with
    | tup h1 h2 => exact ⟨_, _, rfl, same_sqt s.same h1, cases_lift (hW.trans l) s (er.mono l.le) (post.mono l) h2 q⟩⟩
end
section
variable {E : DEnds} {env : Ev} {S : Sto} {Ts : DTE} {cs : List (List Pt × DTS)} {xs : List D} {ps : List Pt} {T : DTS} {bs : List (Nat × D)}
theorem i_match (q : Ts env S fun d S1 => ∃ xs, d = .tup xs ∧ dCases xs cs E env S1) : dMatch Ts cs E env S := q
theorem i_hit (ok : okD ps xs) (h : bindD ps xs = some bs) (q : T E (setsD env bs) S) : dCases xs ((ps, T) :: cs) E env S := ⟨ok, by rw [h]; exact q⟩
theorem i_miss (ok : okD ps xs) (h : bindD ps xs = none) (q : dCases xs cs E env S) : dCases xs ((ps, T) :: cs) E env S := ⟨ok, by rw [h]; exact q⟩
end
end DL

/-! methods that may raise; truth of lists; xs.pop() -/
namespace DL
open PySem PySem.Spec PyProof.Rows L2
/-- a method that may raise -/
def MFnX (P : Program) (w : World) (K : PySem.W.Frag) (mg : Str → Option Value) (base : Heap) (C : Addr) (m : Str) (k : Nat) (ps : List Str) (sp : DSpX) : Prop :=
  ∃ (f : Addr) (fd : FuncData), Meth K C m f ∧ Binds K fd ps [] ∧ FnOk P w K mg base (L2.CX P w) k f fd ps (liftSpX K sp)
theorem mfnX_at {P : Program} {w : World} {K : PySem.W.Frag} {mg : Str → Option Value} {base : Heap} {C : Addr} {m qual : Str} {st : Stmt} {ps : List Str} {k : Nat} {sp : DSpX} (h : MAt K C m qual st ps) (ok : ∀ f fd, Fun K m qual st f fd → FnOk P w K mg base (L2.CX P w) k f fd ps (liftSpX K sp)) : MFnX P w K mg base C m k ps sp := by
  obtain ⟨f, fd, h1, h2, h3⟩ := h.ex
  exact ⟨f, fd, h1, h3, ok f fd h2⟩
def dMethX (C : Addr) (m : Str) (sp : DSpX) (R : EX) (Ta : DTE) (TR : DTA) : DTE := fun env S P => Ta env S fun x S1 => (∃ i fs, x = .ref i ∧ S1[i]? = some (.ins C fs) ∧ fs.lookup m = none) ∧ TR env S1 fun ds S2 => sp (x :: ds) S2 P R
section
variable {X : Cx} {W0 : Bs} {a e : Expr} {es : List Expr} {Ta : DTE} {TR : DTA} {C : Addr} {m : Str} {pos apos : Pos}
theorem lift_methX {E : XK} {sp : DSpX} (px : PostX X.K W0.W W0.H W0.R E) {σ : L2.St} {H : Hp} {Q : VK} (h : liftE X.K W0 (dMethX C m sp W0.R Ta TR) σ H Q) : tMeth C m (liftSpX X.K sp) [] E (liftE X.K W0 Ta) (liftA X.K W0 TR) σ H Q := by
  obtain ⟨W, env, S, P, hW, sim, er, ht, post⟩ := h
  refine ⟨W, env, S, _, hW, sim, er, ht, fun x S1 W1 H1 v ⟨⟨i, fs, ex, hi, hf⟩, q1⟩ s1 l1 r1 => ?_⟩
  subst ex
  have r1' := r1
  cases r1 with
  | @ref _ b hb =>
    obtain ⟨_, dx, vs, hH, rr⟩ := s1.obj i b _ hb hi
    refine ⟨b, dx, _, rfl, hH, fld_none hf, W1, env, S1, _, hW.trans l1, s1, er.mono l1.le, q1, fun ds S2 W2 H2 us q2 s2 l2 r2 => ?_⟩
    show liftSpX X.K sp (V.ref b :: (us ++ [])) H2 Q E
    rw [List.append_nil]
    exact ⟨W2, _, S2, P, W0.R, s2, .cons (r1'.mono l2.le) r2, q2, post.mono (l1.trans l2), px.mono (((hW.trans l1).trans l2).stp)⟩
theorem pass_of {E : XK} (tk : Takes X (fun cls d _ H => E cls d H)) : Passes (L2.CX X.prog X.w) X E := fun _ _ _ _ e s' I c => tk e s' (XE.of_call I (fun _ _ _ h => h) c)
theorem de_methX {k : Nat} {ps : List Str} {sp : DSpX} (c : Cls X.K C) (h : MFnX X.prog X.w X.K X.mg X.base C m k ps sp) (hR : Rz X W0) (hr : Room k X.A) (ha : DE X W0 a Ta) (hs : DA X W0 (e :: es) TR) (hst : starEach (e :: es) X.env = (false, eval e X.env) :: starEach es X.env := by rfl) (hpl : (backTo pos (starEach es X.env)).any (·.1) = false := by rfl)
    {pl : Sem Bool} (ht : eval (.Call (.Attribute a m apos) (e :: es) [] pos) X.env = (do
      let ov ← eval a X.env
      standAt apos.atName
      let (f, first) ← holding [ov] (getMethod ov m pl)
      callWith pos f first (backTo pos (starEach (e :: es) X.env)) (backToKw pos (keywordEach [] X.env))) := by rfl) : DE X W0 (.Call (.Attribute a m apos) (e :: es) [] pos) (dMethX C m sp W0.R Ta TR) := by
  obtain ⟨f, fd, h1, h2, h3⟩ := h
  obtain ⟨E, tk, px⟩ := hR
  exact (pe_meth (pl := pl) ha c h1 h3 hr h2 .nil (pass_of tk) hs hst hpl ht).imp fun _ _ _ q => lift_methX px q
theorem de_methX0 {k : Nat} {ps : List Str} {sp : DSpX} (c : Cls X.K C) (h : MFnX X.prog X.w X.K X.mg X.base C m k ps sp) (hR : Rz X W0) (hr : Room k X.A) (ha : DE X W0 a Ta)
    {pl : Sem Bool} (ht : eval (.Call (.Attribute a m apos) [] [] pos) X.env = (do
      let ov ← eval a X.env
      standAt apos.atName
      let (f, first) ← holding [ov] (getMethod ov m pl)
      callWith pos f first (backTo pos (starEach [] X.env)) (backToKw pos (keywordEach [] X.env))) := by rfl) : DE X W0 (.Call (.Attribute a m apos) [] [] pos) (dMethX C m sp W0.R Ta dNil) := by
  obtain ⟨f, fd, h1, h2, h3⟩ := h
  obtain ⟨E, tk, px⟩ := hR
  refine (pe_meth0 (pl := pl) ha c h1 h3 hr h2 .nil (pass_of tk) ht).imp fun σ H Q q => ?_
  obtain ⟨W, env, S, P, hW, sim, er, hh, post⟩ := lift_methX (TR := dNil) px q
  refine ⟨W, env, S, P, hW, sim, er, hh, fun d S' W' H' v q' s' l' r' => ?_⟩
  obtain ⟨a', dx, fs, e1, e2, e3, W2, env2, S2, P2, hW2, sim2, er2, hn, post2⟩ := post d S' W' H' v q' s' l' r'
  exact ⟨a', dx, fs, e1, e2, e3, post2 [] S2 W2 H' [] hn sim2 .refl .nil⟩
theorem i_methX {sp : DSpX} {R : EX} {env : Ev} {S : Sto} {P : DP} (q : Ta env S fun x S1 => (∃ i fs, x = .ref i ∧ S1[i]? = some (.ins C fs) ∧ fs.lookup m = none) ∧ TR env S1 fun ds S2 => sp (x :: ds) S2 P R) : dMethX C m sp R Ta TR env S P := q
/-! ### truth of a list or a tuple -/
def dTru (Ta : DTE) : DTT := fun env S B => Ta env S fun x S1 => ∃ xs, seqOf S1 x = some xs ∧ B (!xs.isEmpty) S1
theorem dt_tru (ha : DE X W0 a Ta) (he : ∀ whole, isTrue a X.env whole = (do let v ← whole; standAt a.pos; holding [v] (truthy v)) := by intro _; rfl) : DT X W0 a (dTru Ta) :=
  (pt_truth ha he).imp fun σ H Q ⟨W, env, S, P, hW, sim, er, ht, post⟩ => ⟨W, env, S, _, hW, sim, er, ht, fun x S1 W1 H1 v ⟨xs, hx, q⟩ s l r => by
    obtain ⟨b, vs, rfl, hq, rr⟩ := r.seq_of s hx
    refine ⟨!xs.isEmpty, ?_, post _ _ W1 H1 q s l⟩
    have e : vs.isEmpty = xs.isEmpty := by
      have := rr.length
      cases vs <;> cases xs <;> simp_all
    rcases hq with hq | hq
    · exact .inl ⟨vs, hq, by rw [e]⟩
    · exact .inr (.inl ⟨vs, hq, by rw [e]⟩)⟩
theorem i_tru {env : Ev} {S : Sto} {B : Bool → Sto → Prop} (q : Ta env S fun x S1 => ∃ xs, seqOf S1 x = some xs ∧ B (!xs.isEmpty) S1) : dTru Ta env S B := q
/-! ### xs.pop() -/
def dPop (Ta : DTE) : DTE := fun env S P => Ta env S fun x S1 => ∃ i xs y, x = .ref i ∧ S1[i]? = some (.lst xs) ∧ xs[xs.length - 1]? = some y ∧ P y (S1.set i (.lst xs.dropLast))
theorem de_pop (ha : DE X W0 a Ta) (h : ∀ {to : TE}, PE X a to → PE X e (tBM0 X.K "list" rPop to)) : DE X W0 e (dPop Ta) :=
  (h ha).imp fun σ H Q ⟨W, env, S, P, hW, sim, er, ht, post⟩ => ⟨W, env, S, _, hW, sim, er, ht, fun x S1 W1 H1 v ⟨i, xs, y, ex, hi, hy, q⟩ s l r => by
    subst ex
    cases r with
    | @ref _ b hb =>
      obtain ⟨hB, vs, hH, rr⟩ := s.obj i b _ hb hi
      have el := rr.length
      obtain ⟨u, hu, ru⟩ := rr.get (i := xs.length - 1) hy
      refine ⟨.inl ⟨rfl, vs, SqL.of hH⟩, b, vs, u, rfl, rfl, hH, by rw [el]; exact hu, ?_⟩
      exact post y _ W1 _ u q (s.setO hb hi hB ⟨hB, vs.dropLast, upd_same, rr.dropLast⟩) (l.trans (.setO hb)) ru⟩
theorem i_pop {env : Ev} {S : Sto} {P : DP} (q : Ta env S fun x S1 => ∃ i xs y, x = .ref i ∧ S1[i]? = some (.lst xs) ∧ xs[xs.length - 1]? = some y ∧ P y (S1.set i (.lst xs.dropLast))) : dPop Ta env S P := q
end
end DL

/-! trees of objects that nobody else holds -/
namespace DL
open PySem PySem.Spec PyProof.Rows L2
inductive Kd where
  | lst | ins (C : Addr) (ns : List Str) | dct (ks : List Key)
inductive Tree where
  | leaf (d : D) | node (k : Kd) (ts : List Tree)
def Kd.obj : Kd → List D → O
  | .lst, ds => .lst ds
  | .ins C ns, ds => .ins C (ns.zip ds)
  | .dct ks, ds => .dct ks ds
def Kd.okN : Kd → Nat → Prop
  | .lst, _ => True
  | .ins _ ns, n => ns.length = n
  | .dct ks, n => ks.length = n
mutual
/-- d stands for the tree t; its objects are those at the places A, and no others' -/
inductive Own (S : Sto) : D → Tree → List Nat → Prop where
  | leaf {d : D} : Own S d (.leaf d) []
  | node {i : Nat} {k : Kd} {ds : List D} {ts : List Tree} {A : List Nat} : S[i]? = some (k.obj ds) → k.okN ds.length → Owns S ds ts A → i ∉ A → Own S (.ref i) (.node k ts) (i :: A)
inductive Owns (S : Sto) : List D → List Tree → List Nat → Prop where
  | nil : Owns S [] [] []
  | cons {d : D} {t : Tree} {A : List Nat} {ds : List D} {ts : List Tree} {B : List Nat} : Own S d t A → Owns S ds ts B → (∀ a ∈ A, a ∉ B) → Owns S (d :: ds) (t :: ts) (A ++ B)
end
section
variable {S S' : Sto}
mutual
/-- what isn't touched stays -/
theorem Own.frame : ∀ {d : D} {t : Tree} {A : List Nat}, Own S d t A → (∀ a ∈ A, S'[a]? = S[a]?) → Own S' d t A
  | _, _, _, .leaf, _ => .leaf
  | _, _, _, .node h1 h2 h3 h4, f => .node (by rw [f _ List.mem_cons_self]; exact h1) h2 (Owns.frame h3 fun a ha => f a (List.mem_cons_of_mem _ ha)) h4
theorem Owns.frame : ∀ {ds : List D} {ts : List Tree} {A : List Nat}, Owns S ds ts A → (∀ a ∈ A, S'[a]? = S[a]?) → Owns S' ds ts A
  | _, _, _, .nil, _ => .nil
  | _, _, _, .cons h1 h2 h3, f => .cons (Own.frame h1 fun a ha => f a (List.mem_append_left _ ha)) (Owns.frame h2 fun a ha => f a (List.mem_append_right _ ha)) h3
end
mutual
theorem Own.lt : ∀ {d : D} {t : Tree} {A : List Nat}, Own S d t A → ∀ a ∈ A, a < S.length
  | _, _, _, .leaf, a, h => by cases h
  | _, _, _, .node h1 _ h3 _, a, h => by
    rcases List.mem_cons.mp h with rfl | h
    · exact (List.getElem?_eq_some_iff.mp h1).1
    · exact Owns.lt h3 a h
theorem Owns.lt : ∀ {ds : List D} {ts : List Tree} {A : List Nat}, Owns S ds ts A → ∀ a ∈ A, a < S.length
  | _, _, _, .nil, a, h => by cases h
  | _, _, _, .cons h1 h2 _, a, h => by
    rcases List.mem_append.mp h with h | h
    · exact Own.lt h1 a h
    · exact Owns.lt h2 a h
end
/-- the store grows -/
theorem Own.grow {d : D} {t : Tree} {A : List Nat} (h : Own S d t A) (T : Sto) : Own (S ++ T) d t A := h.frame fun a ha => List.getElem?_append_left (h.lt a ha)
theorem Owns.grow {ds : List D} {ts : List Tree} {A : List Nat} (h : Owns S ds ts A) (T : Sto) : Owns (S ++ T) ds ts A := h.frame fun a ha => List.getElem?_append_left (h.lt a ha)
theorem Owns.length : ∀ {ds : List D} {ts : List Tree} {A : List Nat}, Owns S ds ts A → ds.length = ts.length
  | _, _, _, .nil => rfl
  | _, _, _, .cons _ h _ => congrArg (· + 1) h.length
theorem Own.leaf_eq {d d' : D} {A : List Nat} (h : Own S d (.leaf d') A) : d = d' ∧ A = [] := by cases h; exact ⟨rfl, rfl⟩
theorem Owns.app : ∀ {ds : List D} {ts : List Tree} {A : List Nat}, Owns S ds ts A → ∀ {es : List D} {us : List Tree} {B : List Nat}, Owns S es us B → (∀ a ∈ A, a ∉ B) → Owns S (ds ++ es) (ts ++ us) (A ++ B)
  | _, _, _, .nil, _, _, _, h, _ => h
  | _, _, _, .cons h1 h2 h3, es, us, B, h, n => by
    rw [List.append_assoc]
    refine .cons h1 (h2.app h fun a ha => n a (List.mem_append_right _ ha)) fun a ha z => ?_
    rcases List.mem_append.mp z with z | z
    · exact h3 a ha z
    · exact n a (List.mem_append_left _ ha) z
theorem Owns.one {d : D} {t : Tree} {A : List Nat} (h : Own S d t A) : Owns S [d] [t] A := by
  have := Owns.cons h Owns.nil (fun a _ z => by cases z)
  rwa [List.append_nil] at this
/-- leaves -/
theorem Owns.leaves : ∀ (ds : List D), Owns S ds (ds.map .leaf) []
  | [] => .nil
  | d :: ds => .cons .leaf (Owns.leaves ds) (fun a h => by cases h)
theorem Owns.leaves_eq : ∀ {es : List D} {ds : List D} {A : List Nat}, Owns S ds (es.map .leaf) A → ds = es ∧ A = []
  | [], _, _, h => by cases h; exact ⟨rfl, rfl⟩
  | e :: es, _, _, h => by
    cases h with
    | cons h1 h2 _ =>
      obtain ⟨rfl, rfl⟩ := h1.leaf_eq
      obtain ⟨rfl, rfl⟩ := Owns.leaves_eq h2
      exact ⟨rfl, rfl⟩
/-- one of several, looked at and put back -/
theorem Owns.at : ∀ {ds : List D} {ts : List Tree} {A : List Nat}, Owns S ds ts A → ∀ {j : Nat} {t : Tree}, ts[j]? = some t → ∃ d Aj, ds[j]? = some d ∧ Own S d t Aj ∧ (∀ a ∈ Aj, a ∈ A) ∧
    ∀ (S' : Sto) (d' : D) (t' : Tree) (A' : List Nat), Own S' d' t' A' → (∀ a ∈ A, a ∉ Aj → S'[a]? = S[a]?) → (∀ a ∈ A', a ∈ Aj ∨ a ∉ A) → ∃ B, Owns S' (ds.set j d') (ts.set j t') B ∧ ∀ b ∈ B, (b ∈ A ∧ b ∉ Aj) ∨ b ∈ A'
  | _, _, _, .nil, j, t, e => by simp at e
  | _, _, _, @Owns.cons _ d t0 A0 ds ts B h1 h2 h3, 0, t, e => by
    have e : t0 = t := by simpa using e
    subst e
    refine ⟨d, A0, rfl, h1, fun a ha => List.mem_append_left _ ha, fun S' d' t' A' h f n => ?_⟩
    have hd : ∀ a ∈ A', a ∉ B := fun a ha z => by
      rcases n a ha with q | q
      · exact h3 a q z
      · exact q (List.mem_append_right _ z)
    refine ⟨A' ++ B, .cons h (h2.frame fun a ha => f a (List.mem_append_right _ ha) fun z => h3 a z ha) hd, fun b hb => ?_⟩
    rcases List.mem_append.mp hb with hb | hb
    · exact .inr hb
    · exact .inl ⟨List.mem_append_right _ hb, fun z => h3 b z hb⟩
  | _, _, _, @Owns.cons _ d t0 A0 ds ts B h1 h2 h3, j + 1, t, e => by
    obtain ⟨dj, Aj, e1, o1, s1, p1⟩ := Owns.at h2 (j := j) (t := t) (by simpa using e)
    refine ⟨dj, Aj, by simpa using e1, o1, fun a ha => List.mem_append_right _ (s1 a ha), fun S' d' t' A' h f n => ?_⟩
    obtain ⟨B', o2, s2⟩ := p1 S' d' t' A' h (fun a ha => f a (List.mem_append_right _ ha)) (fun a ha => (n a ha).imp id fun q z => q (List.mem_append_right _ z))
    have hd : ∀ a ∈ A0, a ∉ B' := fun a ha z => by
      rcases s2 a z with ⟨q, _⟩ | q
      · exact h3 a ha q
      · rcases n a q with r | r
        · exact h3 a ha (s1 a r)
        · exact r (List.mem_append_left _ ha)
    refine ⟨A0 ++ B', .cons (h1.frame fun a ha => f a (List.mem_append_left _ ha) fun z => h3 a ha (s1 a z)) o2 hd, fun b hb => ?_⟩
    rcases List.mem_append.mp hb with hb | hb
    · exact .inl ⟨List.mem_append_left _ hb, fun z => h3 b hb (s1 b z)⟩
    · rcases s2 b hb with ⟨q1, q2⟩ | q
      · exact .inl ⟨List.mem_append_right _ q1, q2⟩
      · exact .inr q
end
/-! ### paths -/
def Tree.kid (t : Tree) (j : Nat) : Option Tree := match t with
  | .node _ ts => ts[j]?
  | .leaf _ => none
def Tree.get : Tree → List Nat → Option Tree
  | t, [] => some t
  | .node _ ts, j :: π => match ts[j]? with
    | some t => t.get π
    | none => none
  | .leaf _, _ :: _ => none
def Tree.put : Tree → List Nat → Tree → Tree
  | _, [], u => u
  | .node k ts, j :: π, u => match ts[j]? with
    | some t => .node k (ts.set j (t.put π u))
    | none => .node k ts
  | .leaf d, _ :: _, _ => .leaf d
/-- from d by the places π to e -/
inductive Way (S : Sto) : D → List Nat → D → Prop where
  | here {d : D} : Way S d [] d
  | step {i j : Nat} {k : Kd} {ds : List D} {d e : D} {π : List Nat} : S[i]? = some (k.obj ds) → ds[j]? = some d → Way S d π e → Way S (.ref i) (j :: π) e
theorem Own.focus {S : Sto} : ∀ (π : List Nat) {d : D} {t t1 : Tree} {A : List Nat}, Own S d t A → t.get π = some t1 → ∃ d1 A1, Way S d π d1 ∧ Own S d1 t1 A1 ∧ (∀ a ∈ A1, a ∈ A) ∧
    ∀ (S' : Sto) (t1' : Tree) (A1' : List Nat), Own S' d1 t1' A1' → (∀ a ∈ A, a ∉ A1 → S'[a]? = S[a]?) → (∀ a ∈ A1', a ∈ A1 ∨ a ∉ A) → ∃ A', Own S' d (t.put π t1') A' ∧ ∀ b ∈ A', b ∈ A ∨ b ∈ A1'
  | [], d, t, t1, A, h, e => by
    have e : t = t1 := by simpa [Tree.get] using e
    subst e
    exact ⟨d, A, .here, h, fun _ z => z, fun S' t1' A1' h' _ _ => ⟨A1', by simpa [Tree.put] using h', fun b hb => .inr hb⟩⟩
  | j :: π, _, _, t1, _, .leaf, e => by simp [Tree.get] at e
  | j :: π, _, _, t1, _, @Own.node _ i k ds ts A h1 h2 h3 h4, e => by
    cases ej : ts[j]? with
    | none => simp [Tree.get, ej] at e
    | some tj =>
      have e : tj.get π = some t1 := by simpa [Tree.get, ej] using e
      obtain ⟨dj, Aj, e1, o1, s1, p1⟩ := Owns.at h3 ej
      obtain ⟨d1, A1, w, o2, s2, p2⟩ := Own.focus π o1 e
      refine ⟨d1, A1, .step h1 e1 w, o2, fun a ha => List.mem_cons_of_mem _ (s1 a (s2 a ha)), fun S' t1' A1' h' f n => ?_⟩
      obtain ⟨Aj', o3, s3⟩ := p2 S' t1' A1' h' (fun a ha => f a (List.mem_cons_of_mem _ (s1 a ha))) (fun a ha => (n a ha).imp id fun q z => q (List.mem_cons_of_mem _ (s1 a z)))
      have hnot : ∀ a ∈ Aj', a ∈ Aj ∨ a ∉ A := fun a ha => by
        rcases s3 a ha with q | q
        · exact .inl q
        · rcases n a q with r | r
          · exact .inl (s2 a r)
          · exact .inr fun z => r (List.mem_cons_of_mem _ z)
      obtain ⟨B, o4, s4⟩ := p1 S' dj (tj.put π t1') Aj' o3 (fun a ha hn => f a (List.mem_cons_of_mem _ ha) fun z => hn (s2 a z)) hnot
      have hset : ds.set j dj = ds := by
        obtain ⟨q1, q2⟩ := List.getElem?_eq_some_iff.mp e1
        rw [← q2]
        exact List.set_getElem_self q1
      rw [hset] at o4
      have hi : i ∉ B := fun z => by
        rcases s4 i z with ⟨q, _⟩ | q
        · exact h4 q
        · rcases s3 i q with r | r
          · exact h4 (s1 i r)
          · rcases n i r with u | u
            · exact h4 (s1 i (s2 i u))
            · exact u List.mem_cons_self
      refine ⟨i :: B, ?_, fun b hb => ?_⟩
      · have : Tree.put (.node k ts) (j :: π) t1' = .node k (ts.set j (tj.put π t1')) := by simp [Tree.put, ej]
        rw [this]
        exact .node (by rw [f i List.mem_cons_self fun z => h4 (s1 i (s2 i z))]; exact h1) h2 o4 hi
      · rcases List.mem_cons.mp hb with rfl | hb
        · exact .inl List.mem_cons_self
        · rcases s4 b hb with ⟨q, _⟩ | q
          · exact .inl (List.mem_cons_of_mem _ q)
          · rcases s3 b q with r | r
            · exact .inl (List.mem_cons_of_mem _ (s1 b r))
            · exact .inr r
end DL
namespace DL
open PySem PySem.Spec PyProof.Rows L2
/-- the object at the end of a path, changed -/
theorem Own.change {S : Sto} {d : D} {t : Tree} {A : List Nat} (h : Own S d t A) {π : List Nat} {k : Kd} {ts : List Tree} (e : t.get π = some (.node k ts)) : ∃ l ds A0, Way S d π (.ref l) ∧ S[l]? = some (k.obj ds) ∧ k.okN ds.length ∧ Owns S ds ts A0 ∧ l ∉ A0 ∧ l ∈ A ∧ (∀ a ∈ A0, a ∈ A) ∧
    ∀ (k' : Kd) (ds' : List D) (ts' : List Tree) (B : List Nat) (T : Sto), Owns (S ++ T) ds' ts' B → k'.okN ds'.length → l ∉ B → (∀ b ∈ B, b ∈ A0 ∨ b ∉ A) → ∃ A', Own ((S ++ T).set l (k'.obj ds')) d (t.put π (.node k' ts')) A' ∧ ∀ b ∈ A', b ∈ A ∨ b ∈ B := by
  obtain ⟨d1, A1, w, o, s1, p⟩ := h.focus π e
  cases o with
  | @node l _ ds _ A0 h1 h2 h3 h4 =>
    have hl := (List.getElem?_eq_some_iff.mp h1).1
    refine ⟨l, ds, A0, w, h1, h2, h3, h4, s1 l List.mem_cons_self, fun a ha => s1 a (List.mem_cons_of_mem _ ha), fun k' ds' ts' B T h' ok' hb hs => ?_⟩
    have o' : Own ((S ++ T).set l (k'.obj ds')) (.ref l) (.node k' ts') (l :: B) :=
      .node (List.getElem?_set_self (by rw [List.length_append]; omega)) ok' (h'.frame fun a ha => List.getElem?_set_ne fun z => hb (by rw [z]; exact ha)) hb
    obtain ⟨A', q1, q2⟩ := p _ _ _ o' (fun a ha hn => by
      rw [List.getElem?_set_ne fun z => hn (by rw [← z]; exact List.mem_cons_self)]
      exact List.getElem?_append_left (h.lt a ha)) (fun a ha => by
      rcases List.mem_cons.mp ha with rfl | ha
      · exact .inl List.mem_cons_self
      · exact (hs a ha).imp (List.mem_cons_of_mem _) id)
    refine ⟨A', q1, fun b hb' => ?_⟩
    rcases q2 b hb' with z | z
    · exact .inl z
    · rcases List.mem_cons.mp z with rfl | z
      · exact .inl (s1 _ List.mem_cons_self)
      · exact .inr z
/-- a leaf below it, another one -/
theorem Owns.setLeaf {S : Sto} {ds : List D} {ts : List Tree} {A : List Nat} (h : Owns S ds ts A) {j : Nat} {v : D} (e : ts[j]? = some (.leaf v)) (y : D) : Owns S (ds.set j y) (ts.set j (.leaf y)) A := by
  induction j generalizing ds ts A with
  | zero =>
    cases h with
    | nil => simp at e
    | cons h1 h2 h3 =>
      have e := Option.some.inj (by simpa using e)
      subst e
      obtain ⟨rfl, rfl⟩ := h1.leaf_eq
      exact .cons .leaf h2 h3
  | succ j ih =>
    cases h with
    | nil => simp at e
    | cons h1 h2 h3 => exact .cons h1 (ih h2 (by simpa using e)) h3
/-- the last one taken off -/
theorem Owns.last {S : Sto} : ∀ {ds : List D} {ts : List Tree} {A : List Nat}, Owns S ds ts A → ∀ {t : Tree}, ts[ts.length - 1]? = some t → ∃ d A1 A2, ds[ds.length - 1]? = some d ∧ Own S d t A1 ∧ Owns S ds.dropLast ts.dropLast A2 ∧ (∀ a ∈ A1, a ∈ A ∧ a ∉ A2) ∧ ∀ a ∈ A2, a ∈ A
  | _, _, _, .nil, t, e => by simp at e
  | _, _, _, @Owns.cons _ d t0 A0 [] _ _ h1 h2 h3, t, e => by
    cases h2
    have e := Option.some.inj (by simpa using e)
    subst e
    exact ⟨d, A0, [], rfl, h1, .nil, fun a ha => ⟨List.mem_append_left _ ha, fun z => by cases z⟩, fun a z => by cases z⟩
  | _, _, _, @Owns.cons _ d t0 A0 (d1 :: ds) (t1 :: ts) B h1 h2 h3, t, e => by
    obtain ⟨dl, A1, A2, e1, o1, o2, s1, s2⟩ := Owns.last h2 (t := t) (by simpa using e)
    refine ⟨dl, A1, A0 ++ A2, by simpa using e1, o1, ?_, fun a ha => ⟨List.mem_append_right _ (s1 a ha).1, fun z => ?_⟩, fun a ha => ?_⟩
    · exact .cons h1 o2 fun a ha z => h3 a ha (s2 a z)
    · rcases List.mem_append.mp z with z | z
      · exact h3 a z (s1 a ha).1
      · exact (s1 a ha).2 z
    · rcases List.mem_append.mp ha with ha | ha
      · exact List.mem_append_left _ ha
      · exact List.mem_append_right _ (s2 a ha)
/-- new objects -/
theorem Own.new {S : Sto} {k : Kd} {ds : List D} {ts : List Tree} {A : List Nat} (h : Owns S ds ts A) (ok : k.okN ds.length) : Own (S ++ [k.obj ds]) (.ref S.length) (.node k ts) (S.length :: A) :=
  .node (by rw [List.getElem?_append_right (Nat.le_refl _), Nat.sub_self]; rfl) ok (h.grow _) fun z => absurd (h.lt _ z) (Nat.lt_irrefl _)
/-- a raising def, keeping what the store got -/
theorem fn_dXK {P : Program} {w : World} {K : PySem.W.Frag} {mg : Str → Option Value} {base : Heap} {x qual : Str} {st : Stmt} {f : Addr} {fd : FuncData} {N ps : List Str} {k : Nat} {sp : DSpX} (F : Fun K x qual st f fd) (S : FnScope N ps (defScope st))
    (len : ∀ ds S P R, sp ds S P R → ds.length = ps.length)
    (body : ∀ (X : Cx) (W0 : Bs) (cdv : Value) (A : Around) (outer : List Env) (s : Shared) (H : Hp) (E : XK), X = cxOf (L2.CX P w) P w K mg base N qual (defScope st) f cdv A outer s H E → Room k X.A → Rz X W0 →
      ∃ T : DTS, DSs X W0 (defBody st) T ∧ ∀ ds S P R, sp ds S P R → W0.R = R → T (exitKN P) (startE N ds) S) : FnOk P w K mg base (L2.CX P w) (k + 1) f fd ps (liftSpX K sp) := by
  refine F.okX S (fun vs H Q E h => ?_) fun cdv A outer s H vs Q E hr h => ?_
  · obtain ⟨W, ds, S, P, R, _, r, q, _⟩ := h
    rw [r.length]
    exact len ds S P R q
  · obtain ⟨W, ds, S, P, R, sim, r, q, post, px⟩ := h
    obtain ⟨T, hT, hq⟩ := body _ { W := W, H := H, R := R } cdv A outer s H E rfl hr ⟨E, takes_of rfl rfl rfl rfl, px⟩
    exact ⟨_, hT, W, startE N ds, S, _, Stp.refl, sim, EnvR.start r, hq ds S P R q rfl, ⟨fun env S' W' H' σ q' s' l _ => post .non S' W' H' .non q' s' l .non, post, fun _ _ _ _ _ z => z.elim, fun _ _ _ _ _ z => z.elim⟩⟩
end DL

/-! sum of a tuple, min of lists, reversed, dicts of numbers -/
namespace DL
open PySem PySem.Spec PyProof.Rows L2
/-! ### sum of a tuple of whole numbers -/
theorem sum_tup {prog : Program} {w : World} {A : Around} {E : Value → Shared → Prop} {s : Shared} {l : Addr} {its : List Value} {ns : List Int} {Q : Value → Shared → Prop} (hh : A.handled = none) (hl : s.heap.IsTuple l its.toArray) (hi : IntsAre its ns)
    (h : ∀ h' tk t', (∀ b o, s.heap.get? b = some o → h'.get? b = some o) → Q (.int ns.sum t') { s with heap := h', toks := tk }) : wpAny (model prog w) A (call (.builtin "sum") [.ref l]) Q E s := by
  obtain ⟨xs, e⟩ := hi.allInts.items
  have hn : numsOf (intItems xs).toList = ns := by rw [← e]; exact hi.numsOf
  rw [nums_intItems] at hn
  rw [e] at hl
  refine call_sum_walkAnyS (PySem.W.iter_tupleW (A := A.in1) hh hl fun s₂ e W st hfp _ _ => ⟨_, _, _, _, _, _, _, numAt xs, rfl, W, st, hfp, (fun _ _ => intItems_at), fun s' t' m => ?_⟩)
  obtain ⟨h', tk, rfl, hk⟩ := PySem.W.moved_old e rfl m
  have := h h' tk t' hk
  have hz : (intItems xs).size = xs.size := by simp [intItems]
  rw [hz, preSum_eq, List.take_of_length_le (by simp), hn]
  exact this
section
variable {X : Cx}
def rSumT (K : PySem.W.Frag) : List V → Hp → VK → Prop := fun vs H Q => ∃ (a : Addr) (ns : List Int), vs = [V.ref a] ∧ SqT K H a (ns.map V.int) ∧ Q (.int ns.sum) H
theorem cr_sumT (hc : X.calm = true) : CallR X (.builtin "sum") (rSumT X.K) := by
  intro pins s σ H vs us Q I r h
  obtain ⟨a, ns, rfl, hs, q⟩ := h
  obtain ⟨its, rv, hl, _⟩ := I.tuple hs
  rw [Vals.ref1 r]
  exact sum_tup (I.ok.hd hc) hl rv.ints fun h' tk t' hk => ⟨.int _, H, I.kept hk, ⟨_, rfl⟩, q⟩
def bSumT : List D → Sto → DP → Prop := fun ds S P => ∃ (ns : List Int), ds = [.tup (ns.map .int)] ∧ P (.int ns.sum) S
theorem dc_sumT {K : PySem.W.Frag} : DCl K (rSumT K) bSumT := by
  intro W S H vs ds P Q s r ⟨ns, e, q⟩ post
  subst e
  obtain ⟨v, rfl, rv⟩ := r.one
  obtain ⟨a, us, rfl, hq, rr⟩ := rv.tupV
  exact ⟨a, ns, rfl, by rw [← rr.ints]; exact same_sqt s.same hq, post _ _ W H _ q s .refl (.int _)⟩
/-! ### min of a list of whole numbers -/
def bMinL : List D → Sto → DP → Prop := fun ds S P => ∃ (d : D) (ns : List Int), ds = [d] ∧ lstOf S d = some (ns.map .int) ∧ 0 < ns.length ∧ ∀ m, m ∈ ns → (∀ y, y ∈ ns → m ≤ y) → P (.int m) S
theorem dc_minL {K : PySem.W.Frag} : DCl K (rMin K) bMinL := by
  intro W S H vs ds P Q s r ⟨d, ns, e, h, h0, q⟩ post
  subst e
  obtain ⟨v, rfl, rv⟩ := r.one
  obtain ⟨a, us, rfl, hq, rr⟩ := rv.lst_of s h
  exact ⟨a, ns, rfl, by rw [← rr.ints]; exact SqL.of hq, h0, fun m h1 h2 => post _ _ W H _ (q m h1 h2) s .refl (.int _)⟩
/-! ### min of a list of pairs (number, list of numbers) -/
abbrev NL := Int × List Int
def pD (p : NL) : D := .tup [.int p.1, .lst (p.2.map .int)]
theorem toD_inj {a b : NL} (h : PySem.W.Datum.toD a = PySem.W.Datum.toD b) : a = b := by
  have e := PySem.W.Datum.eqv a b
  rw [← h, PySem.W.Datum.eqv a a, decide_eq_true rfl] at e
  exact of_decide_eq_true e.symm
theorem pD_py {S : Sto} (p : NL) : pyOf S 4 (pD p) = some (PySem.W.Datum.toD p) := by
  show (allOf (pyOf S 3) [.int p.1, .lst (p.2.map .int)]).map PyData.tuple = _
  have e : pyOf S 3 (.lst (p.2.map .int)) = some (.list (p.2.map .int)) := by
    show (allOf (pyOf S 2) (p.2.map .int)).map PyData.list = _
    rw [allOf_ints]
    rfl
  simp only [allOf, e]
  rfl
theorem pDs_py {S : Sto} : ∀ ps : List NL, allOf (pyOf S 4) (ps.map pD) = some (ps.map PySem.W.Datum.toD)
  | [] => rfl
  | p :: ps => by
    rw [List.map_cons, List.map_cons]
    unfold allOf
    rw [pD_py, pDs_py ps]
def rMinP (K : PySem.W.Frag) : List V → Hp → VK → Prop := fun vs H Q => ∃ (a : Addr) (xs : List V) (p : NL) (ps : List NL), vs = [V.ref a] ∧ SqL K H a xs ∧ DpAll K H xs ((p :: ps).map PySem.W.Datum.toD) ∧ ∀ (i : Nat) (x : V), xs[i]? = some x → (p :: ps)[i]? = some (PySem.W.minOf p ps) → Q x H
theorem cr_minP (hc : X.calm = true) (hu : X.A.units + 64 < cLine) : CallR X (.builtin "min") (rMinP X.K) := by
  intro pins s σ H vs us Q I r h
  obtain ⟨a, xs, p, ps, rfl, hs, hd, q⟩ := h
  obtain ⟨its, rv, hl, _⟩ := I.list hs
  rw [Vals.ref1 r]
  obtain ⟨as, ra⟩ := Dp.readsAll I _ xs its hd rv
  have hold : PySem.W.HoldAll s.heap its (p :: ps) := ⟨as, ra⟩
  refine PySem.W.min_list_datum (I.ok.hd hc) hl.isList hold ?_ fun i v h' tk hi hv hk => ?_
  · have : PySem.W.Datum.depth NL = 2 := rfl
    omega
  · have hi : its[i]? = some v := by simpa using hi
    obtain ⟨y, hy, hyv⟩ := hold.at hi
    obtain ⟨bs, r1⟩ := hyv.keeps hk
    obtain ⟨cs, r2⟩ := hv
    have e := (reads_det (fun _ _ z _ => z) r1 r2).1
    have e2 := toD_inj e
    subst e2
    have hil : i < xs.length := by rw [rv.length]; exact (List.getElem?_eq_some_iff.mp hi).1
    have hx : xs[i]? = some xs[i] := List.getElem?_eq_getElem hil
    obtain ⟨w', ew, rx⟩ := rv.get hx
    rw [hi] at ew
    cases ew
    exact ⟨_, H, I.kept hk, rx, q i _ hx hy⟩
def bMinP : List D → Sto → DP → Prop := fun ds S P => ∃ (d : D) (p : NL) (ps : List NL), ds = [d] ∧ lstOf S d = some ((p :: ps).map pD) ∧ P (pD (PySem.W.minOf p ps)) S
theorem dc_minP {K : PySem.W.Frag} : DCl K (rMinP K) bMinP := by
  intro W S H vs ds P Q s r ⟨d, p, ps, e, h, q⟩ post
  subst e
  obtain ⟨v, rfl, rv⟩ := r.one
  obtain ⟨a, us, rfl, hq, rr⟩ := rv.lst_of s h
  refine ⟨a, us, p, ps, rfl, SqL.of hq, rr.dp (fun v d q => Rep.dp s 4 v d q) (pDs_py _), fun i x hx hm => ?_⟩
  obtain ⟨d', h1, h2⟩ := rr.getV hx
  rw [List.getElem?_map, hm] at h1
  cases h1
  exact post _ _ W H _ q s .refl h2
end
/-! ### reversed(xs), xs.reverse() -/
section
variable {X : Cx} {W0 : Bs} {a b c e tg : Expr} {es : List Expr} {Ta Tb Tc T : DTE} {TA : DTT} {TR : DTA} {pos p apos cpos : Pos}
def xRv (P : IP) (ds : List D) (S : Sto) : Prop := ∃ xs, ds = [.lst xs] ∧ P xs.reverse (fun _ => True) S
def iRv (TR : DTA) : DTI := fun env S P => TR env S (xRv P)
theorem di_rev (hg : Gl X "reversed") (hm : X.mg "reversed" = none) (ha : DA X W0 [a] TR) (hs : starEach [a] X.env = [(false, eval a X.env)] := by rfl) : DI X W0 tg (.Call (.Name "reversed" p) [a] [] pos) (iRv TR) :=
  (pi_reversed hg hm ha hs).imp fun σ H R ⟨W, env, S, P, hW, sim, er, ht, post⟩ => ⟨W, env, S, _, hW, sim, er, ht, fun ds S1 W1 H1 vs ⟨xs, e, q⟩ s l r => by
    subst e
    obtain ⟨v, rfl, rv⟩ := r.one
    obtain ⟨a1, vs, rfl, hB, rr⟩ := rv.lstV
    have hl := rr.length
    refine ⟨a1, vs, rfl, pure_lst hB .refl s, post _ _ S1 W1 H1 _ q s l ⟨_, _, by rw [List.length_reverse, ← hl]; exact walk_rev (xs := vs), fun W' S' H' l' s' _ => pure_lst hB l' s', ?_⟩⟩
    rintro i d W' S' H' x H'' hd l' s' _ ⟨rfl, hx⟩
    have hi : i < xs.length := by
      have := (List.getElem?_eq_some_iff.mp hd).1
      rwa [List.length_reverse] at this
    rw [List.getElem?_reverse hi, ← hl] at hd
    obtain ⟨v, h1, h2⟩ := rr.get hd
    rw [hx] at h1
    cases h1
    exact ⟨W', s', .refl, h2.mono l'.le⟩⟩
def dRvM (Ta : DTE) : DTE := fun env S P => Ta env S fun x S1 => ∃ i xs, x = .ref i ∧ S1[i]? = some (.lst xs) ∧ P .non (S1.set i (.lst xs.reverse))
theorem de_rvm (ha : DE X W0 a Ta) (h : ∀ {to : TE}, PE X a to → PE X e (tBM0 X.K "list" rReverse to)) : DE X W0 e (dRvM Ta) :=
  (h ha).imp fun σ H Q ⟨W, env, S, P, hW, sim, er, ht, post⟩ => ⟨W, env, S, _, hW, sim, er, ht, fun x S1 W1 H1 v ⟨i, xs, ex, hi, q⟩ s l r => by
    subst ex
    cases r with
    | @ref _ b hb =>
      obtain ⟨hB, vs, hH, rr⟩ := s.obj i b _ hb hi
      exact ⟨.inl ⟨rfl, vs, SqL.of hH⟩, b, vs, rfl, rfl, hH, post _ _ W1 _ _ q (s.setO hb hi hB ⟨hB, vs.reverse, upd_same, rr.reverse⟩) (l.trans (.setO hb)) .non⟩⟩
theorem i_rvm {env : Ev} {S : Sto} {P : DP} (q : Ta env S fun x S1 => ∃ i xs, x = .ref i ∧ S1[i]? = some (.lst xs) ∧ P .non (S1.set i (.lst xs.reverse))) : dRvM Ta env S P := q
/-! ### range(i, j, -1) -/
def rangeN (lo : Int) (n : Nat) : List D := (List.range n).map fun (k : Nat) => D.int (lo + (k : Int) * (-1))
theorem rangeN_get {lo : Int} {n i : Nat} {d : D} (h : (rangeN lo n)[i]? = some d) : i < n ∧ d = .int (lo - i) := by
  unfold rangeN at h
  rw [List.getElem?_map] at h
  by_cases hi : i < n
  · rw [List.getElem?_range hi] at h
    cases h
    exact ⟨hi, by show D.int (lo + (i : Int) * (-1)) = _; rw [show lo + (i : Int) * (-1) = lo - i by omega]⟩
  · rw [List.getElem?_eq_none (by rw [List.length_range]; omega)] at h
    cases h
theorem rangeN_len {lo : Int} {n : Nat} : (rangeN lo n).length = n := by unfold rangeN; rw [List.length_map, List.length_range]
def xRg3 (P : IP) (ds : List D) (S : Sto) : Prop := ∃ i j, ds = [.int i, .int j, .int (-1)] ∧ (-(2 ^ 62) ≤ i ∧ i < 2 ^ 62 ∧ -(2 ^ 62) ≤ j ∧ j < 2 ^ 62) ∧ P (rangeN i (i - j).toNat) (fun _ => True) S
def iRg3 (TR : DTA) : DTI := fun env S P => TR env S (xRg3 P)
theorem Reps.three {K : PySem.W.Frag} {W : Wd} {vs : List V} {d d2 d3 : D} (r : Reps K W vs [d, d2, d3]) : ∃ v w u, vs = [v, w, u] ∧ Rep K W v d ∧ Rep K W w d2 ∧ Rep K W u d3 := by
  cases r with
  | cons h t =>
    obtain ⟨w, u, rfl, h2, h3⟩ := t.two
    exact ⟨_, _, _, rfl, h, h2, h3⟩
theorem di_range3 (hg : Gl X "range") (hm : X.mg "range" = none) (ha : DA X W0 [a, b, c] TR) (hs : starEach [a, b, c] X.env = (false, eval a X.env) :: starEach [b, c] X.env := by rfl) (hpl : (backTo pos (starEach [b, c] X.env)).any (·.1) = false := by rfl) : DI X W0 tg (.Call (.Name "range" p) [a, b, c] [] pos) (iRg3 TR) :=
  (pi_range3 hg hm ha hs hpl).imp fun σ H R ⟨W, env, S, P, hW, sim, er, ht, post⟩ => ⟨W, env, S, _, hW, sim, er, ht, fun ds S1 W1 H1 vs ⟨i, j, e, ⟨h1, h2, h3, h4⟩, q⟩ s l r => by
    subst e
    obtain ⟨v, w, u, rfl, rv, rw', ru⟩ := r.three
    refine ⟨i, j, -1, (i - j).toNat, by rw [rv.intV, rw'.intV, ru.intV], RgC.neg h1 h2 h3 h4, post _ _ S1 W1 H1 _ q s l ⟨_, _, by rw [rangeN_len]; exact walk_rangeC, fun _ _ _ _ _ _ => trivial, ?_⟩⟩
    rintro k d W' S' H' x H'' hd l' s' _ ⟨rfl, rfl⟩
    obtain ⟨_, rfl⟩ := rangeN_get hd
    refine ⟨W', s', .refl, ?_⟩
    rw [show i - (k : Int) = i + (k : Int) * (-1) by omega]
    exact .int _⟩
/-! ### d.get(k, x) of a pure dict -/
def xDget2 (P : D → Prop) (x y z : D) : Prop := ∃ ks ds k, x = .dct ks ds ∧ keyOf y = some k ∧ P ((dlook ks ds k).getD z)
def dDget2 (Ta Tb Tc : DTE) : DTE := fun env S P => Ta env S fun x S1 => (∃ ks ds, x = .dct ks ds) ∧ Tb env S1 fun y S2 => Tc env S2 fun z S3 => xDget2 (fun d => P d S3) x y z
theorem de_dget2 {o f : Expr} (hu : X.A.units + 1 < cLine) (ha : DE X W0 o Ta) (hb : DE X W0 e Tb) (hf : DE X W0 f Tc) (m : M2 X o "get" apos e f cpos) : DE X W0 (.Call (.Attribute o "get" apos) [e, f] [] cpos) (dDget2 Ta Tb Tc) := (pe_dget2 hu ha hb hf m).imp fun σ H Q ⟨W, env, S, P, hW, sim, er, ht, post⟩ =>
  ⟨W, env, S, _, hW, sim, er, ht, fun x S1 W1 H1 v1 ⟨⟨ks0, ds0, e0⟩, q1⟩ s1 l1 r1 => by
    subst e0
    obtain ⟨a1, vs, rfl, hB, hl, rr⟩ := r1.dctV
    refine ⟨a1, rfl, .inl ⟨_, same_rd s1.same hB⟩, W1, env, S1, _, hW.trans l1, s1, er.mono l1.le, q1, fun y S2 W2 H2 v2 q2 s2 l2 r2 => ⟨W2, env, S2, _, hW.trans (l1.trans l2), s2, er.mono (l1.trans l2).le, q2, fun z S3 W3 H3 v3 q3 s3 l3 r3 => ?_⟩⟩
    obtain ⟨ks, ds, k, e1, hk, q⟩ := q3
    cases e1
    have rr2 := rr.mono (l2.trans l3).le
    refine ⟨valV (ks0.zip vs) k, ?_, ?_⟩
    · rw [(r2.mono l3.le).key hk]
      exact dget_rd (same_rd s3.same (same_rd (l2.trans l3).le.same hB))
    · cases hd : dlook ks0 ds0 k with
      | none =>
        rw [hd] at q
        rw [(look_rep rr2 hl).2 hd]
        exact post _ _ W3 H3 _ q s3 (l1.trans (l2.trans l3)) r3
      | some dv =>
        rw [hd] at q
        obtain ⟨v, h1, h2⟩ := (look_rep rr2 hl).1 dv hd
        rw [h1]
        exact post _ _ W3 H3 _ q s3 (l1.trans (l2.trans l3)) h2⟩
theorem i_dget2 {env : Ev} {S : Sto} {P : DP} (q : Ta env S fun x S1 => (∃ ks ds, x = .dct ks ds) ∧ Tb env S1 fun y S2 => Tc env S2 fun z S3 => xDget2 (fun d => P d S3) x y z) : dDget2 Ta Tb Tc env S P := q
theorem i_isdct {ks : List Key} {ds : List D} {A : Prop} (q : A) : (∃ ks' ds', D.dct ks ds = .dct ks' ds') ∧ A := ⟨⟨ks, ds, rfl⟩, q⟩
theorem i_xdget2 {ks : List Key} {ds : List D} {y z : D} {k : Key} {F : D → Prop} (hk : keyOf y = some k) (q : F ((dlook ks ds k).getD z)) : xDget2 F (.dct ks ds) y z := ⟨ks, ds, k, rfl, hk, q⟩
/-! ### {}, d[k] = v for a new key -/
def dEmpD : DTE := fun _ S P => P (.ref S.length) (S ++ [.dct [] []])
theorem de_new0 : DE X W0 (.Dict [] [] pos) dEmpD := pe_dnewK.imp fun σ H Q ⟨W, env, S, P, hW, sim, er, ht, post⟩ p hp => by
  have s2 := sim.newO (o := .dct [] []) (ho := .dK []) hp ⟨sim.free hp, [], upd_same, rfl, .nil⟩
  exact post _ _ _ _ _ ht s2 (.newO hp) (.ref (by show (W.m ++ [p])[S.length]? = some p; rw [← sim.len, List.getElem?_append_right (Nat.le_refl _), Nat.sub_self]; rfl))
theorem i_irg2 {env : Ev} {S : Sto} {F : IP} (q : TR env S (xRg2 F)) : iRg2 TR env S F := q
theorem i_irg3 {env : Ev} {S : Sto} {F : IP} (q : TR env S (xRg3 F)) : iRg3 TR env S F := q
theorem i_irv {env : Ev} {S : Sto} {F : IP} (q : TR env S (xRv F)) : iRv TR env S F := q
theorem i_new0 {env : Ev} {S : Sto} {P : DP} (q : P (.ref S.length) (S ++ [.dct [] []])) : dEmpD env S P := q
def setNewD (x y d : D) (S : Sto) (P : Sto → Prop) : Prop := ∃ i ks ds k, x = .ref i ∧ S[i]? = some (.dct ks ds) ∧ keyOf y = some k ∧ k ∉ ks ∧ ks.length ≤ 1000 ∧ P (S.set i (.dct (ks ++ [k]) (ds ++ [d])))
def gSbN (Ta Tb : DTE) : DTG := fun d env S P => Ta env S fun x S1 => Tb env S1 fun y S2 => setNewD x y d S2 fun S3 => P env S3
theorem putK_zip_new {k : Key} {v : V} {ks : List Key} {vs : List V} (h : k ∉ ks) (hl : ks.length = vs.length) : putK (ks.zip vs) k v = (ks ++ [k]).zip (vs ++ [v]) := by
  unfold putK
  rw [if_neg]
  · rw [List.zip_append hl]
    rfl
  · rw [List.any_eq_true]
    rintro ⟨p, hp, hk⟩
    exact h (by rw [← of_decide_eq_true hk]; exact (List.of_mem_zip hp).1)
theorem dg_subN (ha : DE X W0 a Ta) (hb : DE X W0 b Tb) (h : ∀ {to ti : TE}, PE X a to → PE X b ti → PG X (.Subscript a b pos) (gSub to ti rSetD)) : DG X W0 [] (.Subscript a b pos) (gSbN Ta Tb) :=
  (h ha hb).imp fun v σ H Q ⟨W, env, S, P, d, hW, sim, er, r, ht, post⟩ => ⟨W, env, S, _, hW, sim, er, ht, fun x S1 W1 H1 v1 q1 s1 l1 r1 => ⟨W1, env, S1, _, hW.trans l1, s1, er.mono l1.le, q1, fun y S2 W2 H2 v2 ⟨i, ks, ds, k, ex, hi, hk, hm, h3, q2⟩ s2 l2 r2 => by
    subst ex
    have r1 := r1.mono l2.le
    cases r1 with
    | @ref _ p hp =>
      obtain ⟨hB, vs, hH, hl, rr⟩ := s2.obj i p _ hp hi
      have rd := r.mono (l1.trans l2).le
      have hput := DPut.k (k := k) (v := v) hH (Nat.lt_of_le_of_lt (by rw [List.length_zip]; omega) (show 1000 < sizeLine by decide))
      rw [putK_zip_new hm hl] at hput
      refine ⟨p, _, rfl, by rw [r2.key hk]; exact hput, ?_⟩
      have s3 := s2.setO (o' := .dct (ks ++ [k]) (ds ++ [d])) (ho := .dK ((ks ++ [k]).zip (vs ++ [v]))) hp hi hB ⟨hB, _, upd_same, by rw [List.length_append, List.length_append, hl]; rfl, rr.app (.cons rd .nil)⟩
      exact post _ _ W2 _ σ q2 s3 ((l1.trans l2).trans (.setO hp)) (er.mono (l1.trans l2).le) .refl⟩⟩
theorem i_sbN {d : D} {env : Ev} {S : Sto} {N : Ev → Sto → Prop} (q : Ta env S fun x S1 => Tb env S1 fun y S2 => setNewD x y d S2 fun S3 => N env S3) : gSbN Ta Tb d env S N := q
end
/-! ### the end: a dict that the store got here is handed back as a pure one -/
def atExitD (S0 : Sto) (P : DP) : DP := fun d S' => ∃ S1 T ks ds i, S' = S1 ++ T ∧ S1.length = S0.length ∧ (∀ o ∈ S1, o ∈ S0 ∨ o.under S1.length = true) ∧ d = .ref i ∧ S1.length ≤ i ∧ S'[i]? = some (.dct ks ds) ∧ unders S1.length ds = true ∧ P (.dct ks ds) S1
theorem Post.exitD {K : PySem.W.Frag} {W : Wd} {S : Sto} {H : Hp} {P : DP} {Q : VK} (s : Sim K W S H) (post : Post K W H P Q) : Post K W H (atExitD S P) Q := by
  rintro d S' W' H' v ⟨S1, T, ks, ds, i, rfl, hl, ho, rfl, hi, hS, hd, q⟩ s' l r
  have hb : ∀ o ∈ S1, o.under S1.length = true := fun o h => (ho o h).elim (fun z => by rw [hl]; exact s.under o z) id
  cases r with
  | @ref _ a ha =>
    obtain ⟨hB, vs, hH, hkl, rr⟩ := s'.obj i a _ ha hS
    have away : a ∉ W'.m.take S1.length := fun z => by
      obtain ⟨j, hj⟩ := List.getElem?_of_mem z
      have hjl : j < S1.length := by
        have := (List.getElem?_eq_some_iff.mp hj).1
        rw [List.length_take] at this
        omega
      rw [List.getElem?_take_of_lt hjl] at hj
      have := one_place _ s'.nd _ _ _ hj ha
      omega
    have lc := l.cut (k := S1.length) (by rw [s.len, hl]; exact Nat.le_refl _)
    have fresh : Fre H a := by
      rcases l.newm a (List.mem_of_getElem? ha) with z | z
      · obtain ⟨j, hj⟩ := List.getElem?_of_mem z
        exact absurd (List.mem_of_getElem? (lc.le.pre j a hj)) away
      · exact z
    exact post _ _ ((W'.cut S1.length).put a (.dK (ks.zip vs))) H' _ q ((s'.cut hb).adopt hB away hH) (lc.adopt fresh hB) (.dct (.inl upd_same) hkl ((rr.cutW hd).mono (Wd.le_put (W := W'.cut S1.length) hB)))
def exitED (S0 : Sto) (P : DP) : DEnds := { nx := fun _ _ => False, rt := atExitD S0 P }
theorem fn_dD {P : Program} {w : World} {K : PySem.W.Frag} {mg : Str → Option Value} {base : Heap} {x qual : Str} {st : Stmt} {f : Addr} {fd : FuncData} {N ps : List Str} {k : Nat} {sp : DSp} (F : Fun K x qual st f fd) (S : FnScope N ps (defScope st))
    (len : ∀ ds S P, sp ds S P → ds.length = ps.length)
    (body : ∀ (X : Cx) (W0 : Bs) (cdv : Value) (A : Around) (outer : List Env) (s : Shared) (H : Hp) (E : XK), X = (cxOf CX0 P w K mg base N qual (defScope st) f cdv A outer s H E).nox → Room k X.A →
      ∃ T : DTS, DSs X W0 (defBody st) T ∧ ∀ ds S P, sp ds S P → T (exitED S P) (startE N ds) S) : FnOk P w K mg base CX0 (k + 1) f fd ps (liftSp K sp) := by
  refine F.ok S (fun vs H Q E ⟨W, ds, S, P, _, r, q, _⟩ => by rw [r.length]; exact len ds S P q) fun cdv A outer s H vs Q E hr h => ?_
  obtain ⟨W, ds, S, P, sim, r, q, post⟩ := h
  obtain ⟨T, hT, hq⟩ := body _ { W := W, H := H } cdv A outer s H E rfl hr
  exact ⟨_, hT, W, startE N ds, S, _, Stp.refl, sim, EnvR.start r, hq ds S P q, ⟨fun _ _ _ _ _ z => z.elim, post.exitD sim, fun _ _ _ _ _ z => z.elim, fun _ _ _ _ _ z => z.elim⟩⟩
/-- a def that hands back a list of its own, which is kept as a pure one -/
theorem FnN.pure {P : Program} {w : World} {K : PySem.W.Frag} {mg : Str → Option Value} {base : Heap} {x : Str} {k : Nat} {ps : List Str} {sp : DSpN} (h : FnN P w K mg base x k ps sp) : Fn P w K mg base x k ps (fun ds S P => sp ds S fun l S' => P (.lst l) S') := by
  obtain ⟨f, fd, h1, h2, h3, h4⟩ := h
  exact ⟨f, fd, h1, h2, h3, h4.imp fun vs H Q E ⟨W, ds, S, P, s, r, q, post⟩ => ⟨W, ds, S, _, s, r, q, PostL.ofPure post⟩⟩
end DL

/-! dict comprehensions, new keys only, kept as pure dicts -/
namespace DL
open PySem PySem.Spec PyProof.Rows L2
theorem dc_it {J : It} {n : Nat} {G : Hp → Prop} {Y : Nat → Hp → V → Hp → Prop} (w : Walk J n G Y) {g : TG} {tt : TT} {tk tv : TE} {vs : List Nat} {σ : L2.St} {H1 : Hp} {D : Addr} {Qd : Hp → Prop} (Pv : Nat → Hp → Prop) (h0 : Pv 0 (upd H1 D (.dK []))) (hG : ∀ i H, i ≤ n → Pv i H → G H)
    (hs : ∀ i x H H', i < n → Pv i H → Y i H x H' → g x (L2.wipe σ vs) H' fun σ2 H2 => L2.wipe σ2 vs = L2.wipe σ vs ∧ tt σ2 H2 fun b H3 =>
      if b = true then tk σ2 H3 fun y H4 => tv σ2 H4 fun z H5 => ∃ kvs k, y = kV k ∧ H5 D = some (.dK kvs) ∧ kvs.length < sizeLine ∧ Pv (i + 1) (upd H5 D (.dK (putK kvs k z))) else Pv (i + 1) H3) (hd : ∀ H, Pv n H → Qd H) :
    ∃ W : Nat → Nat → Hp → Prop, (∃ m, W 0 m (upd H1 D (.dK []))) ∧ ∀ i m H, W i m H →
      (J.stop i H ∧ Qd H) ∨ (J.go i H ∧ ∃ Nx : Hp → Prop, (∀ H', Nx H' → ∃ m', m' < m ∧ W (i + 1) m' H') ∧ ∀ x H', J.yld i H x H' → g x (L2.wipe σ vs) H' fun σ2 H2 => L2.wipe σ2 vs = L2.wipe σ vs ∧ tt σ2 H2 fun b H3 =>
        if b = true then tk σ2 H3 fun y H4 => tv σ2 H4 fun z H5 => ∃ kvs k, y = kV k ∧ H5 D = some (.dK kvs) ∧ kvs.length < sizeLine ∧ Nx (upd H5 D (.dK (putK kvs k z))) else Nx H3) := by
  refine ⟨fun i m H => m = n - i ∧ i ≤ n ∧ Pv i H, ⟨n, by simp, Nat.zero_le _, h0⟩, ?_⟩
  rintro i m H ⟨rfl, hi, p⟩
  have q := hG i H hi p
  by_cases hlt : i < n
  · refine .inr ⟨w.goes i H hlt q, Pv (i + 1), fun H' p' => ⟨n - (i + 1), by omega, rfl, hlt, p'⟩, fun x H' y => hs i x H H' hlt p (w.yields i H x H' hlt q y)⟩
  · have e : i = n := by omega
    subst e
    exact .inl ⟨w.stops H q, hd H p⟩
section
variable {X : Cx} {W0 : Bs} {tg : Expr} {TI : DTI} {G : DTG} {TK TV : DTE} {ss : List Nat} {pos : Pos}
def xDc (ds : List D) (ok : Sto → Prop) (S1 : Sto) (G : DTG) (TT : DTT) (TK TV : DTE) (vs : List Nat) (env : Ev) (P : DP) : Prop := ∃ I : Nat → List Key → List D → Sto → Prop, I 0 [] [] S1 ∧ (∀ i ks acc S', i ≤ ds.length → I i ks acc S' → ok S' ∧ ks.length < sizeLine ∧ ks.length = acc.length) ∧
  (∀ i x ks acc S', ds[i]? = some x → I i ks acc S' → G x (wipeE env vs) S' fun env2 S2 => TT env2 S2 fun k S3 => if k = true then TK env2 S3 fun y S4 => TV env2 S4 fun z S5 => ∃ q, keyOf y = some q ∧ q ∉ ks ∧ I (i + 1) (ks ++ [q]) (acc ++ [z]) S5 else I (i + 1) ks acc S3) ∧ ∀ ks acc S', I ds.length ks acc S' → P (.dct ks acc) S'
def dDc (TI : DTI) (G : DTG) (TT : DTT) (TK TV : DTE) (vs : List Nat) : DTE := fun env S P => TI env S fun ds ok S1 => xDc ds ok S1 G TT TK TV vs env P
theorem lift_dc {TT : DTT} {vs : List Nat} (hss : ∀ i ∈ ss, i ∈ vs) {σ : L2.St} {H : Hp} {Q : VK} (h : liftE X.K W0 (dDc TI G TT TK TV vs) σ H Q) : tDc (liftI X.K W0 TI) (liftG X.K W0 ss G) (liftT X.K W0 TT) (liftE X.K W0 TK) (liftE X.K W0 TV) vs σ H Q := by
  obtain ⟨W, env, S, P, hW, sim, er, ht, post⟩ := h
  refine ⟨W, env, S, _, hW, sim, er, ht, fun ds ok S1 W1 H1 J ⟨I, i0, iok, turn, fin⟩ s l ⟨Gd, Y, wk, wok, wy⟩ Dl hD => ?_⟩
  have key : ∀ {W2 : Wd} {S2 : Sto} {H2 : Hp} {W3 : Wd} {S3 : Sto} {H3 : Hp} {us : List (Key × V)}, Sim X.K W2 S2 H2 → Stp W2 H2 W3 H3 → W2.B Dl = none → Dl ∉ W2.m → H2 Dl = some (.dK us) → W3.B Dl = none ∧ Dl ∉ W3.m ∧ H3 Dl = some (.dK us) := fun {W2 S2 H2 W3 S3 H3 us} s2 l2 hB hm hH => by
    refine ⟨?_, fun z => ?_, l2.keep _ _ hH hm (fun _ z => by cases z)⟩
    · cases e : W3.B Dl with
      | none => rfl
      | some o =>
        rcases l2.newB Dl o e with q | q | q | ⟨φ, q⟩
        · rw [hB] at q; cases q
        · exact (q.not hH fun _ z => by cases z).elim
        · exact absurd q hm
        · rw [hH] at q; cases q
    · rcases l2.newm Dl z with q | q
      · exact hm q
      · exact (q.not hH fun _ z => by cases z).elim
  refine dc_it wk (fun i H' => ∃ W' S' ks acc us, Stp W1 H1 W' H' ∧ Sim X.K W' S' H' ∧ W'.B Dl = none ∧ Dl ∉ W'.m ∧ H' Dl = some (.dK (ks.zip us)) ∧ Reps X.K W' us acc ∧ I i ks acc S') ⟨W1, S1, [], [], [], .lay hD, s.lay hD, s.free hD, fun z => s.dom Dl z hD, upd_same, .nil, i0⟩ ?_ ?_ ?_
  · rintro i H' hi ⟨W', S', ks, acc, us, l', s', _, _, _, _, ii⟩
    exact wok W' S' H' l' s' (iok i ks acc S' hi ii).1
  · rintro i x H' H'' hi ⟨W', S', ks, acc, us, l', s', hB, hm, hH, rr, ii⟩ y
    have hd : ds[i]? = some ds[i] := List.getElem?_eq_getElem hi
    obtain ⟨ok1, okz, okl⟩ := iok i ks acc S' (Nat.le_of_lt hi) ii
    obtain ⟨W2, s2, l2, r2⟩ := wy i _ W' S' H' x H'' hd l' s' ok1 y
    obtain ⟨hB2, hm2, hH2⟩ := key (S3 := S') s' l2 hB hm hH
    have lx := l'.trans l2
    have hkl : ks.length = us.length := by rw [okl, rr.length]
    refine ⟨W2, wipeE env vs, S', _, _, hW.trans (l.trans lx), s2, (er.mono (l.trans lx).le).wipe vs, r2, turn i _ ks acc S' hd ii, fun env3 S3 W3 H3 σ3 q3 s3 l3 er3 ag => ⟨?_, ?_⟩⟩
    · rw [ag.wipe hss, wipe_wipe]
    · obtain ⟨hB3, hm3, hH3⟩ := key (S3 := S3) s2 l3 hB2 hm2 hH2
      refine lift_if (hW.trans (l.trans (lx.trans l3))) s3 er3 q3 fun k S4 W4 H4 q4 s4 l4 => ?_
      obtain ⟨hB4, hm4, hH4⟩ := key (S3 := S4) s3 l4 hB3 hm3 hH3
      have l34 := l2.trans (l3.trans l4)
      cases k with
      | true =>
        refine ⟨W4, env3, S4, _, hW.trans ((l.trans lx).trans (l3.trans l4)), s4, er3.mono l4.le, q4, fun d5 S5 W5 H5 v5 q5 s5 l5 r5 => ?_⟩
        obtain ⟨hB5, hm5, hH5⟩ := key (S3 := S5) s4 l5 hB4 hm4 hH4
        refine ⟨W5, env3, S5, _, hW.trans ((l.trans lx).trans (l3.trans (l4.trans l5))), s5, er3.mono (l4.trans l5).le, q5, fun d6 S6 W6 H6 v6 q6 s6 l6 r6 => ?_⟩
        obtain ⟨hB6, hm6, hH6⟩ := key (S3 := S6) s5 l6 hB5 hm5 hH5
        obtain ⟨q, hq, hqn, hI⟩ := q6
        have l56 := l5.trans l6
        refine ⟨_, q, r5.key hq, hH6, by rw [List.length_zip]; omega, W6, S6, ks ++ [q], acc ++ [d6], us ++ [v6], ?_, ?_, hB6, hm6, by rw [upd_same, putK_zip_new hqn hkl], (rr.mono (l34.trans l56).le).app (.cons r6 .nil), hI⟩
        · have lz := l'.trans (l34.trans l56)
          refine ⟨lz.le, fun q o hq hn ht => ?_, fun q hq => lz.dom q (fre_set (fun _ z => by cases z) q hq), lz.newm, lz.newB⟩
          have hne : q ≠ Dl := fun z => by rw [z, hD] at hq; cases hq
          rw [upd_ne hne]
          exact lz.keep q o hq hn ht
        · refine ⟨fun b u e => ?_, s6.len, s6.nd, fun b hb => upd_dom b (s6.dom b hb), fun j b ob g1 g2 => ?_, s6.ntb⟩
          · rw [upd_ne (ne_of_none e hB6)]
            exact s6.same b u e
          · refine (s6.obj j b ob g1 g2).mono (Wd.le.refl _) ?_ (upd_ne fun z => hm6 (z ▸ List.mem_of_getElem? g1))
            by_cases hb : W6.B b = none
            · exact .inl hb
            · exact .inr hb
      | false => exact ⟨W4, S4, ks, acc, us, l'.trans l34, s4, hB4, hm4, hH4, rr.mono l34.le, q4⟩
  · rintro H' ⟨W', S', ks, acc, us, l', s', hB, hm, hH, rr, ii⟩
    have hkl : ks.length = us.length := by rw [(iok _ ks acc S' (Nat.le_refl _) ii).2.2, rr.length]
    exact post _ S' (W'.put Dl (.dK (ks.zip us))) H' _ (fin ks acc S' ii) (s'.adopt hB hm hH) ((l.trans l').adopt (l.free (.of hD)) hB) (.dct (.inl upd_same) hkl (rr.mono (Wd.le_put hB)))
theorem de_dc {TT : DTT} {kx vx iter : Expr} {ifs : List Expr} {scope : Scope} {own : List (Str × Nat)} (hss : ∀ i ∈ ss, i ∈ own.map (·.2)) (hc : X.calm = true) (hN : X.N.Nodup) (hi : DI X W0 tg iter TI) (ok : BlkOk X.N X.env.scope scope own)
    (hg : ∀ (s : Shared) (H : Hp) (C : Addr) (cl : List (Str × Addr)) (fp : List Addr), PG (X.blk s H scope (compEnvC scope cl C X.env) fp) tg (liftG X.K W0 ss G)) (ht : ∀ (s : Shared) (H : Hp) (C : Addr) (cl : List (Str × Addr)) (fp : List Addr), PTs (X.blk s H scope (compEnvC scope cl C X.env) fp) ifs (liftT X.K W0 TT))
    (hk : ∀ (s : Shared) (H : Hp) (C : Addr) (cl : List (Str × Addr)) (fp : List Addr), PE (X.blk s H scope (compEnvC scope cl C X.env) fp) kx (liftE X.K W0 TK))
    (he : ∀ (s : Shared) (H : Hp) (C : Addr) (cl : List (Str × Addr)) (fp : List Addr), PE (X.blk s H scope (compEnvC scope cl C X.env) fp) vx (liftE X.K W0 TV)) (hs : ∀ x, foldedSetIterable iter X.env x = pure x := by intro _; rfl) :
    DE X W0 (.DictComp kx vx [⟨tg, iter, ifs, 0⟩] scope pos) (dDc TI G TT TK TV (own.map (·.2))) := (pe_dc hc hN hi ok hg ht hk he hs).imp fun _ _ _ q => lift_dc hss q
theorem i_dc {TT : DTT} {vs : List Nat} {env : Ev} {S : Sto} {P : DP} (q : TI env S fun ds ok S1 => xDc ds ok S1 G TT TK TV vs env P) : dDc TI G TT TK TV vs env S P := q
end
end DL

namespace DL
open PySem PySem.Spec PyProof.Rows L2
section
variable {X : Cx} {W0 : Bs} {es : List Expr} {TR : DTA}
/-- a, b, c = x, y, z -/
def xPar3 (F : D → D → D → Prop) (ds : List D) : Prop := ∃ d1 d2 d3, ds = [d1, d2, d3] ∧ F d1 d2 d3
def dPar3 (i j l : Nat) (TR : DTA) : DTS := fun E env S => TR env S fun ds S1 => xPar3 (fun d1 d2 d3 => E.nx (((env.set i (some d1)).set j (some d2)).set l (some d3)) S1) ds
theorem ds_par3 {st : Stmt} {i j l : Nat} (ha : DA X W0 es TR) (h : ∀ {ta : L2.TA}, PA X es ta → PS X st (tPar3 i j l ta)) : DS X W0 st (dPar3 i j l TR) := (h ha).imp fun D σ H ⟨W, env, S, E, hW, sim, er, ht, post⟩ =>
  ⟨W, env, S, _, hW, sim, er, ht, fun ds S1 W1 H1 vs ⟨d1, d2, d3, e, q⟩ s l r => by
    subst e
    obtain ⟨v, w, u, rfl, rv, rw', ru⟩ := r.three
    exact ⟨v, w, u, rfl, post.nx _ S1 W1 H1 _ q s l ((((er.mono l.le).set rv).set rw').set ru)⟩⟩
theorem i_par3 {E : DEnds} {env : Ev} {S : Sto} {i j l : Nat} (q : TR env S fun ds S1 => xPar3 (fun d1 d2 d3 => E.nx (((env.set i (some d1)).set j (some d2)).set l (some d3)) S1) ds) : dPar3 i j l TR E env S := q
theorem i_xpar3 {F : D → D → D → Prop} {d1 d2 d3 : D} (q : F d1 d2 d3) : xPar3 F [d1, d2, d3] := ⟨d1, d2, d3, rfl, q⟩
end
end DL

/-! objects of the store, told as a list of places: no two the same -/
namespace DL
open PySem PySem.Spec PyProof.Rows L2
abbrev Pl := List (Nat × O)
structure Hd (S : Sto) (L : Pl) : Prop where
  nd : (L.map (·.1)).Nodup
  at_ : ∀ p ∈ L, S[p.1]? = some p.2
  pl : ∀ i o, S[i]? = some o → plainO o = true ∨ (i, o) ∈ L
section
variable {S : Sto} {L A B : Pl} {i : Nat} {o o' : O}
theorem Hd.get (h : Hd S L) (hm : (i, o) ∈ L) : S[i]? = some o := h.at_ _ hm
theorem Hd.lt (h : Hd S L) {p : Nat × O} (hm : p ∈ L) : p.1 < S.length := (List.getElem?_eq_some_iff.mp (h.at_ p hm)).1
theorem Hd.perm {L' : Pl} (h : Hd S L) (p : L.Perm L') : Hd S L' := ⟨(p.map _).nodup_iff.mp h.nd, fun q hq => h.at_ q (p.mem_iff.mpr hq), fun i o z => (h.pl i o z).imp id fun m => p.mem_iff.mp m⟩
theorem Hd.mid (h : Hd S (A ++ (i, o) :: B)) : S[i]? = some o := h.get (List.mem_append_right _ List.mem_cons_self)
theorem Hd.set (h : Hd S (A ++ (i, o) :: B)) (o' : O) : Hd (S.set i o') (A ++ (i, o') :: B) := by
  have e : ∀ o : O, ((A ++ (i, o) :: B).map (·.1)) = A.map (·.1) ++ i :: B.map (·.1) := fun o => by rw [List.map_append, List.map_cons]
  have nd := h.nd
  rw [e] at nd
  obtain ⟨n1, n2, n3⟩ := List.nodup_append.mp nd
  have hA : ∀ p ∈ A, p.1 ≠ i := fun p hp => n3 _ (List.mem_map.mpr ⟨p, hp, rfl⟩) _ List.mem_cons_self
  have hB : ∀ p ∈ B, p.1 ≠ i := fun p hp z => (List.nodup_cons.mp n2).1 (z ▸ List.mem_map.mpr ⟨p, hp, rfl⟩)
  have hi := h.lt (p := (i, o)) (List.mem_append_right _ List.mem_cons_self)
  refine ⟨by rw [e]; exact nd, fun p hp => ?_, fun j x z => ?_⟩
  rotate_left
  · by_cases hj : j = i
    · subst hj
      rw [List.getElem?_set_self hi] at z
      cases z
      exact .inr (List.mem_append_right _ List.mem_cons_self)
    · rw [List.getElem?_set_ne (Ne.symm hj)] at z
      refine (h.pl j x z).imp id fun m => ?_
      rcases List.mem_append.mp m with m | m
      · exact List.mem_append_left _ m
      · rcases List.mem_cons.mp m with m | m
        · cases m
          exact absurd rfl hj
        · exact List.mem_append_right _ (List.mem_cons_of_mem _ m)
  rcases List.mem_append.mp hp with hp | hp
  · rw [List.getElem?_set_ne (Ne.symm (hA p hp))]
    exact h.at_ p (List.mem_append_left _ hp)
  · rcases List.mem_cons.mp hp with rfl | hp
    · exact List.getElem?_set_self hi
    · rw [List.getElem?_set_ne (Ne.symm (hB p hp))]
      exact h.at_ p (List.mem_append_right _ (List.mem_cons_of_mem _ hp))
theorem Hd.new (h : Hd S (A ++ B)) (o : O) : Hd (S ++ [o]) (A ++ (S.length, o) :: B) := by
  have hl : ∀ p ∈ A ++ B, p.1 < S.length := fun p hp => h.lt hp
  refine ⟨?_, fun p hp => ?_, fun j x z => ?_⟩
  rotate_left 2
  · by_cases hj : j < S.length
    · rw [List.getElem?_append_left hj] at z
      refine (h.pl j x z).imp id fun m => ?_
      rcases List.mem_append.mp m with m | m
      · exact List.mem_append_left _ m
      · exact List.mem_append_right _ (List.mem_cons_of_mem _ m)
    · have hl := (List.getElem?_eq_some_iff.mp z).1
      rw [List.length_append, List.length_singleton] at hl
      obtain rfl : j = S.length := by omega
      rw [List.getElem?_append_right (Nat.le_refl _), Nat.sub_self] at z
      cases z
      exact .inr (List.mem_append_right _ List.mem_cons_self)
  · rw [List.map_append, List.map_cons]
    have nd := h.nd
    rw [List.map_append] at nd
    obtain ⟨n1, n2, n3⟩ := List.nodup_append.mp nd
    refine List.nodup_append.mpr ⟨n1, List.nodup_cons.mpr ⟨fun z => ?_, n2⟩, fun a ha b hb => ?_⟩
    · obtain ⟨q, hq, e⟩ := List.mem_map.mp z
      have := hl q (List.mem_append_right _ hq)
      omega
    · rcases List.mem_cons.mp hb with rfl | hb
      · obtain ⟨q, hq, rfl⟩ := List.mem_map.mp ha
        exact Nat.ne_of_lt (hl q (List.mem_append_left _ hq))
      · exact n3 a ha b hb
  · rcases List.mem_append.mp hp with hp | hp
    · rw [List.getElem?_append_left (hl p (List.mem_append_left _ hp))]
      exact h.at_ p (List.mem_append_left _ hp)
    · rcases List.mem_cons.mp hp with rfl | hp
      · rw [List.getElem?_append_right (Nat.le_refl _), Nat.sub_self]
        rfl
      · rw [List.getElem?_append_left (hl p (List.mem_append_right _ hp))]
        exact h.at_ p (List.mem_append_right _ hp)
theorem Hd.sub {L' : Pl} (h : Hd S L) (s : L'.Sublist L) (g : ∀ p ∈ L, p ∈ L' ∨ plainO p.2 = true) : Hd S L' := ⟨(s.map _).nodup h.nd, fun p hp => h.at_ p (s.subset hp), fun i o z => (h.pl i o z).elim .inl fun m => (g _ m).symm⟩
/-- the whole of a store -/
def allPl (S : Sto) : Pl := S.zipIdx.map fun p => (p.2, p.1)
theorem mem_allPl {S : Sto} {i : Nat} {o : O} : (i, o) ∈ allPl S ↔ S[i]? = some o := by
  unfold allPl
  rw [List.mem_map]
  constructor
  · rintro ⟨⟨x, k⟩, h, e⟩
    cases e
    exact List.mem_zipIdx_iff_getElem?.mp h
  · intro h
    exact ⟨(o, i), List.mem_zipIdx_iff_getElem?.mpr h, rfl⟩
theorem allPl_hd (S : Sto) : Hd S (allPl S) := by
  refine ⟨?_, fun p hp => mem_allPl.mp hp, fun i o z => .inr (mem_allPl.mpr z)⟩
  unfold allPl
  rw [List.map_map]
  have : (S.zipIdx.map ((fun p : Nat × O => p.1) ∘ fun p : O × Nat => (p.2, p.1))) = S.zipIdx.map Prod.snd := rfl
  rw [this, List.zipIdx_map_snd]
  exact List.nodup_range'
theorem Hd.junk {S S' : Sto} {L : Pl} (h : Hd S' (L ++ allPl S)) (g : ∀ p ∈ L, plainO p.2 = true) : (S'.drop S.length).all plainO = true := by
  rw [List.all_eq_true]
  intro o ho
  obtain ⟨i, hi⟩ := List.getElem?_of_mem ho
  rw [List.getElem?_drop] at hi
  rcases h.pl _ _ hi with z | z
  · exact z
  · rcases List.mem_append.mp z with z | z
    · exact g _ z
    · have := (List.getElem?_eq_some_iff.mp (mem_allPl.mp z)).1
      omega
theorem Hd.prefix {S S' : Sto} {L : Pl} (h : Hd S' (L ++ allPl S)) : S' = S ++ S'.drop S.length := by
  have e : ∀ i, i < S.length → S'[i]? = S[i]? := fun i hi => by
    have hs : S[i]? = some S[i] := List.getElem?_eq_getElem hi
    rw [hs]
    exact h.get (List.mem_append_right _ (mem_allPl.mpr hs))
  refine List.ext_getElem? fun k => ?_
  by_cases hk : k < S.length
  · rw [e k hk, List.getElem?_append_left hk]
  · rw [List.getElem?_append_right (by omega), List.getElem?_drop, show S.length + (k - S.length) = k by omega]
end
end DL

/-! a hand's calls in the store: what it told, said, its events, and its calls, the innermost first -/
namespace DL
open PySem PySem.Spec PyProof.Rows L2
/-- a call: the function, the place among its rows, its boxes, the caller's box for what it tells -/
structure CS where
  f : Nat
  pl : Nat
  cells : List Int
  into : Option Int
structure Hs where
  told : List D
  said : List D
  evs : List D
  done : Int
  st : List CS
structure Loc where
  r : Nat
  rs : Nat
  sd : Nat
  ev : Nat
  hl : Nat
def stkL (mk : CS → Nat → O) : List (Nat × Nat) → List CS → Pl
  | q :: cs, c :: st => (q.1, mk c q.2) :: (q.2, .lst (c.cells.map .int)) :: stkL mk cs st
  | _, _ => []
theorem stkL_plain {mk : CS → Nat → O} (hmk : ∀ c b, plainO (mk c b) = true) : ∀ (cs : List (Nat × Nat)) (st : List CS), ∀ p ∈ stkL mk cs st, plainO p.2 = true
  | [], _, p, h => by cases h
  | _ :: _, [], p, h => by cases h
  | q :: cs, c :: st, p, h => by
    rcases List.mem_cons.mp h with rfl | h
    · exact hmk _ _
    · rcases List.mem_cons.mp h with rfl | h
      · rfl
      · exact stkL_plain hmk cs st p h
def refsL (cs : List (Nat × Nat)) : List D := (cs.map fun q => D.ref q.1).reverse
def coreL (top : Int → O) (mk : CS → Nat → O) (L : Loc) (cs : List (Nat × Nat)) (s : Hs) : Pl :=
  (L.r, top s.done) :: (L.rs, .lst s.told) :: (L.sd, .lst s.said) :: (L.ev, .lst s.evs) :: (L.hl, .lst (refsL cs)) :: stkL mk cs s.st
structure Core (top : Int → O) (mk : CS → Nat → O) (F : Pl) (L : Loc) (S : Sto) (cs : List (Nat × Nat)) (s : Hs) : Prop where
  hd : Hd S (coreL top mk L cs s ++ F)
  len : cs.length = s.st.length
section
variable {tp : Int → O} {mk : CS → Nat → O} {F : Pl} {L : Loc} {S : Sto} {cs : List (Nat × Nat)} {s : Hs} {c c' : CS} {st : List CS} {q : Nat × Nat}
theorem Core.top (h : Core tp mk F L S cs s) : S[L.r]? = some (tp s.done) := h.hd.get (by simp [coreL])
theorem Core.told (h : Core tp mk F L S cs s) : S[L.rs]? = some (.lst s.told) := h.hd.get (by simp [coreL])
theorem Core.said (h : Core tp mk F L S cs s) : S[L.sd]? = some (.lst s.said) := h.hd.get (by simp [coreL])
theorem Core.ev (h : Core tp mk F L S cs s) : S[L.ev]? = some (.lst s.evs) := h.hd.get (by simp [coreL])
theorem Core.hl (h : Core tp mk F L S cs s) : S[L.hl]? = some (.lst (refsL cs)) := h.hd.get (by simp [coreL])
theorem Core.fr (h : Core tp mk F L S cs s) {p : Nat × O} (hp : p ∈ F) : S[p.1]? = some p.2 := h.hd.at_ p (List.mem_append_right _ hp)
theorem Core.call (h : Core tp mk F L S (q :: cs) s) (e : s.st = c :: st) : S[q.1]? = some (mk c q.2) ∧ S[q.2]? = some (.lst (c.cells.map .int)) := by
  have : coreL tp mk L (q :: cs) s = (L.r, tp s.done) :: (L.rs, .lst s.told) :: (L.sd, .lst s.said) :: (L.ev, .lst s.evs) :: (L.hl, .lst (refsL (q :: cs))) :: (q.1, mk c q.2) :: (q.2, .lst (c.cells.map .int)) :: stkL mk cs st := by
    unfold coreL
    rw [e]
    rfl
  have hd := h.hd
  rw [this] at hd
  exact ⟨hd.get (by simp), hd.get (by simp)⟩
theorem Core.setTop (h : Core tp mk F L S cs s) (d : Int) : Core tp mk F L (S.set L.r (tp d)) cs { s with done := d } :=
  ⟨Hd.set (A := []) (B := (L.rs, .lst s.told) :: (L.sd, .lst s.said) :: (L.ev, .lst s.evs) :: (L.hl, .lst (refsL cs)) :: stkL mk cs s.st ++ F) h.hd (tp d), h.len⟩
theorem Core.setTold (h : Core tp mk F L S cs s) (v : List D) : Core tp mk F L (S.set L.rs (.lst v)) cs { s with told := v } :=
  ⟨Hd.set (A := [(L.r, tp s.done)]) (B := (L.sd, .lst s.said) :: (L.ev, .lst s.evs) :: (L.hl, .lst (refsL cs)) :: stkL mk cs s.st ++ F) h.hd (.lst v), h.len⟩
theorem Core.setSaid (h : Core tp mk F L S cs s) (v : List D) : Core tp mk F L (S.set L.sd (.lst v)) cs { s with said := v } :=
  ⟨Hd.set (A := [(L.r, tp s.done), (L.rs, .lst s.told)]) (B := (L.ev, .lst s.evs) :: (L.hl, .lst (refsL cs)) :: stkL mk cs s.st ++ F) h.hd (.lst v), h.len⟩
theorem Core.setEv (h : Core tp mk F L S cs s) (v : List D) : Core tp mk F L (S.set L.ev (.lst v)) cs { s with evs := v } :=
  ⟨Hd.set (A := [(L.r, tp s.done), (L.rs, .lst s.told), (L.sd, .lst s.said)]) (B := (L.hl, .lst (refsL cs)) :: stkL mk cs s.st ++ F) h.hd (.lst v), h.len⟩
/-- the innermost call's object, its boxes as they were -/
theorem Core.setCall (h : Core tp mk F L S (q :: cs) s) (e : s.st = c :: st) (c' : CS) (ec : c'.cells = c.cells) : Core tp mk F L (S.set q.1 (mk c' q.2)) (q :: cs) { s with st := c' :: st } := by
  refine ⟨?_, by rw [h.len, e]; rfl⟩
  have hd := h.hd
  unfold coreL at hd ⊢
  rw [e] at hd
  have := Hd.set (A := [(L.r, tp s.done), (L.rs, .lst s.told), (L.sd, .lst s.said), (L.ev, .lst s.evs), (L.hl, .lst (refsL (q :: cs)))]) (B := (q.2, .lst (c.cells.map .int)) :: stkL mk cs st ++ F) (i := q.1) (o := mk c q.2) hd (mk c' q.2)
  show Hd _ (_ :: _ :: _ :: _ :: _ :: (q.1, mk c' q.2) :: (q.2, .lst (c'.cells.map .int)) :: stkL mk cs st ++ F)
  rw [ec]
  exact this
/-- its boxes -/
theorem Core.setCells (h : Core tp mk F L S (q :: cs) s) (e : s.st = c :: st) (v : List Int) (ec : ∀ b, mk { c with cells := v } b = mk c b) : Core tp mk F L (S.set q.2 (.lst (v.map .int))) (q :: cs) { s with st := { c with cells := v } :: st } := by
  refine ⟨?_, by rw [h.len, e]; rfl⟩
  have hd := h.hd
  unfold coreL at hd ⊢
  rw [e] at hd
  have := Hd.set (A := [(L.r, tp s.done), (L.rs, .lst s.told), (L.sd, .lst s.said), (L.ev, .lst s.evs), (L.hl, .lst (refsL (q :: cs))), (q.1, mk c q.2)]) (B := stkL mk cs st ++ F) (i := q.2) (o := .lst (c.cells.map .int)) hd (.lst (v.map .int))
  show Hd _ (_ :: _ :: _ :: _ :: _ :: (q.1, mk { c with cells := v } q.2) :: (q.2, .lst (v.map .int)) :: stkL mk cs st ++ F)
  rw [ec]
  exact this
theorem refsL_cons (q : Nat × Nat) (cs : List (Nat × Nat)) : refsL (q :: cs) = refsL cs ++ [.ref q.1] := by unfold refsL; rw [List.map_cons, List.reverse_cons]
theorem refsL_len (cs : List (Nat × Nat)) : (refsL cs).length = cs.length := by unfold refsL; rw [List.length_reverse, List.length_map]
theorem refsL_last (q : Nat × Nat) (cs : List (Nat × Nat)) : L2.atI (refsL (q :: cs)) (-1) = some (.ref q.1) := by rw [refsL_cons]; exact L2.atI_last _ _
theorem Core.frame (h : Core tp mk F L S cs s) (htp : ∀ d, plainO (tp d) = true) (hmk : ∀ c b, plainO (mk c b) = true) : Hd S F := by
  refine h.hd.sub (List.sublist_append_right _ _) fun p hp => ?_
  rcases List.mem_append.mp hp with hp | hp
  · unfold coreL at hp
    simp only [List.mem_cons] at hp
    rcases hp with h | h | h | h | h | h
    · exact .inr (by rw [h]; exact htp _)
    · exact .inr (by rw [h]; rfl)
    · exact .inr (by rw [h]; rfl)
    · exact .inr (by rw [h]; rfl)
    · exact .inr (by rw [h]; rfl)
    · exact .inr (stkL_plain hmk _ _ _ h)
  · exact .inl hp
/-- a call is over -/
theorem Core.pop (h : Core tp mk F L S (q :: cs) s) (e : s.st = c :: st) (hmk : ∀ c b, plainO (mk c b) = true := by intros; rfl) : Core tp mk F L (S.set L.hl (.lst (refsL cs))) cs { s with st := st } := by
  refine ⟨?_, by have := h.len; rw [e] at this; simpa using this⟩
  have hd := h.hd
  unfold coreL at hd ⊢
  rw [e] at hd
  have h2 := Hd.set (A := [(L.r, tp s.done), (L.rs, .lst s.told), (L.sd, .lst s.said), (L.ev, .lst s.evs)]) (B := (q.1, mk c q.2) :: (q.2, .lst (c.cells.map .int)) :: stkL mk cs st ++ F) (i := L.hl) (o := .lst (refsL (q :: cs))) hd (.lst (refsL cs))
  refine h2.sub ?_ ?_
  rotate_left
  · intro p hp
    have hp : p ∈ (L.r, tp s.done) :: (L.rs, O.lst s.told) :: (L.sd, O.lst s.said) :: (L.ev, O.lst s.evs) :: (L.hl, O.lst (refsL cs)) :: (q.1, mk c q.2) :: (q.2, O.lst (c.cells.map .int)) :: (stkL mk cs st ++ F) := hp
    show p ∈ (L.r, tp s.done) :: (L.rs, O.lst s.told) :: (L.sd, O.lst s.said) :: (L.ev, O.lst s.evs) :: (L.hl, O.lst (refsL cs)) :: (stkL mk cs st ++ F) ∨ _
    simp only [List.mem_cons] at hp ⊢
    rcases hp with h | h | h | h | h | h | h | h
    · exact .inl (.inl h)
    · exact .inl (.inr (.inl h))
    · exact .inl (.inr (.inr (.inl h)))
    · exact .inl (.inr (.inr (.inr (.inl h))))
    · exact .inl (.inr (.inr (.inr (.inr (.inl h)))))
    · exact .inr (by rw [h]; exact hmk _ _)
    · exact .inr (by rw [h]; rfl)
    · exact .inl (.inr (.inr (.inr (.inr (.inr h)))))
  show List.Sublist ((L.r, tp s.done) :: (L.rs, O.lst s.told) :: (L.sd, O.lst s.said) :: (L.ev, O.lst s.evs) :: (L.hl, O.lst (refsL cs)) :: (stkL mk cs st ++ F)) ((L.r, tp s.done) :: (L.rs, O.lst s.told) :: (L.sd, O.lst s.said) :: (L.ev, O.lst s.evs) :: (L.hl, O.lst (refsL cs)) :: (q.1, mk c q.2) :: (q.2, O.lst (c.cells.map .int)) :: (stkL mk cs st ++ F))
  exact .cons₂ _ (.cons₂ _ (.cons₂ _ (.cons₂ _ (.cons₂ _ (.cons _ (.cons _ (List.Sublist.refl _)))))))
/-- the store grows by a call's two objects, in the one order or the other -/
theorem Core.push (h : Core tp mk F L S cs s) (c : CS) : Core tp mk F L ((S ++ [mk c (S.length + 1), .lst (c.cells.map .int)]).set L.hl (.lst (refsL cs ++ [.ref S.length]))) ((S.length, S.length + 1) :: cs) { s with st := c :: s.st } := by
  refine ⟨?_, by simp [h.len]⟩
  have h1 := Hd.new (A := [(L.r, tp s.done), (L.rs, .lst s.told), (L.sd, .lst s.said), (L.ev, .lst s.evs), (L.hl, .lst (refsL cs))]) (B := stkL mk cs s.st ++ F) h.hd (mk c (S.length + 1))
  have h2 := Hd.new (A := [(L.r, tp s.done), (L.rs, .lst s.told), (L.sd, .lst s.said), (L.ev, .lst s.evs), (L.hl, .lst (refsL cs)), (S.length, mk c (S.length + 1))]) (B := stkL mk cs s.st ++ F) h1 (.lst (c.cells.map .int))
  rw [List.length_append, List.length_singleton, List.append_assoc] at h2
  have h3 := Hd.set (A := [(L.r, tp s.done), (L.rs, .lst s.told), (L.sd, .lst s.said), (L.ev, .lst s.evs)]) (B := (S.length, mk c (S.length + 1)) :: (S.length + 1, .lst (c.cells.map .int)) :: stkL mk cs s.st ++ F) (i := L.hl) (o := .lst (refsL cs)) h2 (.lst (refsL cs ++ [.ref S.length]))
  unfold coreL
  rw [refsL_cons]
  exact h3
theorem Core.push' (h : Core tp mk F L S cs s) (c : CS) : Core tp mk F L ((S ++ [.lst (c.cells.map .int), mk c S.length]).set L.hl (.lst (refsL cs ++ [.ref (S.length + 1)]))) ((S.length + 1, S.length) :: cs) { s with st := c :: s.st } := by
  refine ⟨?_, by simp [h.len]⟩
  have h1 := Hd.new (A := [(L.r, tp s.done), (L.rs, .lst s.told), (L.sd, .lst s.said), (L.ev, .lst s.evs), (L.hl, .lst (refsL cs))]) (B := stkL mk cs s.st ++ F) h.hd (.lst (c.cells.map .int))
  have h2 := Hd.new (A := [(L.r, tp s.done), (L.rs, .lst s.told), (L.sd, .lst s.said), (L.ev, .lst s.evs), (L.hl, .lst (refsL cs))]) (B := (S.length, .lst (c.cells.map .int)) :: stkL mk cs s.st ++ F) h1 (mk c S.length)
  rw [List.length_append, List.length_singleton, List.append_assoc] at h2
  have h3 := Hd.set (A := [(L.r, tp s.done), (L.rs, .lst s.told), (L.sd, .lst s.said), (L.ev, .lst s.evs)]) (B := (S.length + 1, mk c S.length) :: (S.length, .lst (c.cells.map .int)) :: stkL mk cs s.st ++ F) (i := L.hl) (o := .lst (refsL cs)) h2 (.lst (refsL cs ++ [.ref (S.length + 1)]))
  unfold coreL
  rw [refsL_cons]
  exact h3
end
end DL

/-! int(b), truth of None or a bool, a list of the store against [] -/
namespace DL
open PySem PySem.Spec PyProof.Rows L2
def bInt : List D → Sto → DP → Prop := fun ds S P => (∃ i, ds = [.int i] ∧ P (.int i) S) ∨ ∃ b, ds = [.bl b] ∧ P (.int (if b then 1 else 0)) S
theorem dc_int1 {K : PySem.W.Frag} : DCl K (fun xs H Q => (∃ i, xs = [.int i] ∧ Q (.int i) H) ∨ ∃ k, xs = [.bl k] ∧ Q (.int (if k then 1 else 0)) H) bInt := by
  intro W S H vs ds P Q s r h post
  rcases h with ⟨i, rfl, q⟩ | ⟨b, rfl, q⟩
  · obtain ⟨v, rfl, rv⟩ := r.one
    exact .inl ⟨i, by rw [rv.intV], post _ _ W H _ q s .refl (.int _)⟩
  · obtain ⟨v, rfl, rv⟩ := r.one
    exact .inr ⟨b, by rw [rv.bool], post _ _ W H _ q s .refl (.int _)⟩
theorem i_intB {b : Bool} {S : Sto} {P : DP} (q : P (.int (if b then 1 else 0)) S) : bInt [.bl b] S P := .inr ⟨b, rfl, q⟩
section
variable {X : Cx} {W0 : Bs} {a e : Expr} {Ta : DTE}
/-- the truth of None or of a bool -/
def xTruN (B : Bool → Prop) : D → Prop
  | .non => B false
  | .bl b => B b
  | _ => False
def dTruN (Ta : DTE) : DTT := fun env S B => Ta env S fun d S' => xTruN (fun k => B k S') d
theorem dt_valN (ha : DE X W0 a Ta) (he : ∀ whole, isTrue a X.env whole = (do let v ← whole; standAt a.pos; holding [v] (truthy v)) := by intro _; rfl) : DT X W0 a (dTruN Ta) :=
  (pt_truth ha he).imp fun σ H Q ⟨W, env, S, P, hW, sim, er, ht, post⟩ => ⟨W, env, S, _, hW, sim, er, ht, fun d S' W' H' v q s l r => by
    cases d with
    | non =>
      rw [r.nonV]
      exact ⟨false, by simp [TruV], post _ _ W' H' q s l⟩
    | bl b =>
      rw [r.bool]
      exact ⟨b, by simp [TruV], post _ _ W' H' q s l⟩
    | _ => exact q.elim⟩
theorem i_truN {env : Ev} {S : Sto} {B : Bool → Sto → Prop} (q : Ta env S fun d S' => xTruN (fun k => B k S') d) : dTruN Ta env S B := q
end
/-! ### a list of the store against [] -/
theorem allOf_some {f : D → Option PyData} {n : Nat} : ∀ {ds : List D}, (∀ d ∈ ds, ∃ q, f d = some q ∧ q.canLay0 = true ∧ q.depth ≤ n) → ∃ qs, allOf f ds = some qs ∧ qs.length = ds.length ∧ PyData.canLayAll0 qs = true ∧ PyData.depthAll qs ≤ n
  | [], _ => ⟨[], rfl, rfl, by simp [PyData.canLayAll0], by simp [PyData.depthAll]⟩
  | d :: ds, h => by
    obtain ⟨q, e, c, dp⟩ := h d List.mem_cons_self
    obtain ⟨qs, e2, l2, c2, d2⟩ := allOf_some (ds := ds) fun d hd => h d (List.mem_cons_of_mem _ hd)
    refine ⟨q :: qs, by simp only [allOf, e, e2], by simp [l2], ?_, ?_⟩
    · rw [PyData.canLayAll0, c, c2]
      rfl
    · rw [PyData.depthAll]
      exact Nat.max_le.mpr ⟨dp, d2⟩
theorem i_eqL0 {g : Bool → Bool} {S : Sto} {P : DP} {i : Nat} {xs : List D} (n : Nat) (hi : S[i]? = some (.lst xs)) (h : ∀ d ∈ xs, ∃ q, pyOf S (n + 1) d = some q ∧ q.canLay0 = true ∧ q.depth ≤ n + 1) (q : P (.bl (g xs.isEmpty)) S) (hn : n ≤ 60 := by decide) : dEqG g (.ref i) (.lst []) S P := by
  obtain ⟨qs, e, l, c, d⟩ := allOf_some h
  have s1 : SeqAt.shaped (.list qs) = true := by
    unfold SeqAt.shaped
    rw [PyData.canLay0, c, PyData.depth, decide_eq_true (by omega)]
    rfl
  have s2 : SeqAt.shaped (.list []) = true := shaped_ints []
  refine ⟨n + 2, .list qs, .list [], ?_, rfl, s1, s2, ?_⟩
  · show (match S[i]? with | some (.lst xs) => (allOf (pyOf S (n + 1)) xs).map PyData.list | _ => none) = _
    rw [hi]
    dsimp only
    rw [e]
    rfl
  · rw [eqv_nil]
    have : qs.isEmpty = xs.isEmpty := by cases qs <;> cases xs <;> simp_all
    rw [this]
    exact q
end DL

/-! xs.clear() -/
namespace DL
open PySem PySem.Spec PyProof.Rows L2
section
variable {X : Cx} {W0 : Bs} {a e : Expr} {Ta : DTE}
def dClr (Ta : DTE) : DTE := fun env S P => Ta env S fun x S1 => ∃ i xs, x = .ref i ∧ S1[i]? = some (.lst xs) ∧ P .non (S1.set i (.lst []))
theorem de_clr (ha : DE X W0 a Ta) (h : ∀ {to : TE}, PE X a to → PE X e (tBM0 X.K "list" rClear to)) : DE X W0 e (dClr Ta) :=
  (h ha).imp fun σ H Q ⟨W, env, S, P, hW, sim, er, ht, post⟩ => ⟨W, env, S, _, hW, sim, er, ht, fun x S1 W1 H1 v ⟨i, xs, ex, hi, q⟩ s l r => by
    subst ex
    cases r with
    | @ref _ b hb =>
      obtain ⟨hB, vs, hH, rr⟩ := s.obj i b _ hb hi
      exact ⟨.inl ⟨rfl, vs, SqL.of hH⟩, b, vs, rfl, rfl, hH, post _ _ W1 _ _ q (s.setO hb hi hB ⟨hB, [], upd_same, .nil⟩) (l.trans (.setO hb)) .non⟩⟩
theorem i_clr {env : Ev} {S : Sto} {P : DP} (q : Ta env S fun x S1 => ∃ i xs, x = .ref i ∧ S1[i]? = some (.lst xs) ∧ P .non (S1.set i (.lst []))) : dClr Ta env S P := q
end
end DL

/-! x, *ys = a list -/
namespace DL
open PySem PySem.Spec PyProof.Rows L2
section
variable {prog : Program} {w : World} {A : Around} {E : Value → Shared → Prop} {s : Shared}
theorem walks_listFrom (hh : A.handled = none) (I ax : Addr) (hne : ax ≠ I) (items : Array Value) (k : Nat) (hk : k ≤ items.size) :
    Walks prog w A I [I, ax] [I] (items.size - k) (fun i v => items[i + k]? = some v) (fun i h => h.IsListIter I ax (i + k) ∧ h.IsList ax items) where
  sub := fun b hb => by simp at hb; simp [hb]
  frame := fun _ _ _ st hk => ⟨st.1.at fun o e => hk I (by simp) o e, st.2.at fun o e => hk ax (by simp) o e⟩
  item := fun i s Q E hi st hQ => by
    have hi' : i + k < items.size := by omega
    refine wpAny_pyNext_list_item st.1 st.2 (x := items[i + k]) (by simp [hi']) fun h' hit' hs' => ?_
    refine hQ _ h' s.toks (by simp [hi']) ⟨?_, st.2.extBut hs'.extBut hne⟩ fun b o hb e => hs'.extBut b o (fun h => hb (by simp [h])) e
    rw [show i + 1 + k = i + k + 1 by omega]
    exact hit'
  done := fun s Q E st hQ => wpAny_pyNext_list_end hh (by have := st.1; rw [show items.size - k + k = items.size by omega] at this; exact this) st.2 (by simp) fun h' he' => hQ h' s.toks fun b o hb e => he' b o (fun h => hb (by simp [h])) e
  self := fun _ _ _ _ st hQ => wpAny_pyIter_listiter st.1 hQ
theorem unpack_star1 {l : Addr} {items : Array Value} {Q : List Value → Shared → Prop} (hh : A.handled = none) (hl : s.heap.IsList l items) (h1 : 1 ≤ items.size) (hz : items.size ≤ sizeLine)
    (hQ : ∀ (h2 : Heap) (t2 : Nat), (∀ b o, s.heap.get? b = some o → h2.get? b = some o) → s.toks ≤ t2 → Q [items[0]'(by omega), .ref h2.objs.size] { s with heap := h2.push { cls := .type "list", data := .seq (items.toList.drop 1).toArray }, toks := t2 }) :
    wpAny (model prog w) A (unpackItems (.ref l) 2 (some 1)) Q E s := by
  have hlt : l ≠ s.heap.objs.size := by obtain ⟨o, ho, _⟩ := hl; exact Nat.ne_of_lt (Heap.lt_size ho)
  unfold unpackItems
  refine wpAny_bind ?_
  unfold notIterableAtAll
  refine wpAny_bind (wpAny_specialOf hl.typeIs slot_list_iter.lookup ?_)
  refine wpAny_pure ?_
  simp only [Bool.false_eq_true, if_false]
  refine wpAny_bind (wpAny_holding (wpAny_pyIter_list hl ?_))
  refine wpAny_bind (wpAny_holding (PySem.W.kun_draw hlt 1 0 _ _ ⟨_, Heap.get?_push_size _ rfl, rfl, rfl⟩ (hl.push _) (by show 0 + 1 ≤ items.size; omega) fun h₁ hit₁ hs₁ => ?_))
  have e1 : List.take 1 (List.drop 0 items.toList) = [items[0]] := by
    rw [List.drop_zero]
    cases hx : items.toList with
    | nil =>
      have := congrArg List.length hx
      rw [Array.length_toList] at this
      exact absurd h1 (by rw [this]; decide)
    | cons x xs =>
      have : items[0] = x := by
        have h0 : items.toList[0]? = some x := by rw [hx]; rfl
        rw [Array.getElem?_toList, Array.getElem?_eq_getElem h1] at h0
        exact Option.some.inj h0
      rw [this]
      rfl
  rw [e1, if_neg (by simp)]
  have hl₁ : h₁.IsList l items := (hl.push _).extBut hs₁.extBut hlt
  have hbut : ∀ b o, s.heap.get? b = some o → h₁.get? b = some o := fun b o e => hs₁.extBut b o (Nat.ne_of_lt (Heap.lt_size e)) (Heap.get?_push_of_some _ e)
  have W := (walks_listFrom (prog := prog) (w := w) (A := A.in1) (by first | exact hh | (rw [← hh]; rfl)) s.heap.objs.size l hlt items 1 h1).toS
  have hT : ∀ i (s' : Shared), (s'.heap.IsListIter s.heap.objs.size l (i + 1) ∧ s'.heap.IsList l items) → s'.TypeIs (.ref s.heap.objs.size) "list_iterator" := fun i s' h => h.1.typeIs
  have hsz : s.heap.objs.size < h₁.objs.size := by
    obtain ⟨o, ho, _⟩ := hit₁
    exact Heap.lt_size ho
  refine wpAny_bind (wpAny_holding (wpAny_collect_iter (T := "list_iterator") (.inr (.inr (.inl rfl))) W hT ⟨hit₁, hl₁⟩ (fun b hb => ?_) (by simp) (fun s' acc hm hacc => ?_) (by omega)))
  · simp only [List.mem_cons, List.not_mem_nil, or_false] at hb
    rcases hb with rfl | rfl
    · exact hsz
    · obtain ⟨o, ho, _⟩ := hl₁
      exact Heap.lt_size ho
  have ea : acc.toList = items.toList.drop 1 := by
    obtain ⟨hs, hx⟩ := hacc
    refine List.ext_getElem? fun j => ?_
    rw [List.getElem?_drop, Array.getElem?_toList, Array.getElem?_toList, Nat.add_comm 1 j]
    cases ej : acc[j]? with
    | some v => exact (hx j v ej).symm
    | none =>
      have := Array.getElem?_eq_none_iff.mp ej
      exact (Array.getElem?_eq_none_iff.mpr (by omega)).symm
  rw [ea]
  rw [if_neg (by omega)]
  rw [show (List.drop 1 items.toList).length - (2 - 1 - 1) = (List.drop 1 items.toList).length by omega, List.take_length, List.drop_length]
  refine wpAny_bind (wpAny_newList ?_)
  refine wpAny_pure ?_
  obtain ⟨h2, g2, d2, t2, os2⟩ := s'
  have e2 : g2 = s.gens := hm.gens
  have e3 : d2 = s.drawn := hm.drawn
  have e4 : os2 = s.os := hm.os
  have e5 : s.toks ≤ t2 := hm.toks
  subst e2 e3 e4
  have keep : ∀ b o, s.heap.get? b = some o → h2.get? b = some o := fun b o e => hm.heap b o (fun z => Nat.lt_irrefl _ (by have := Heap.lt_size e; rw [List.mem_singleton.mp z] at this; exact this)) (hbut b o e)
  exact hQ h2 t2 keep e5
end
section
variable {X : Cx}
def gStar1 (K : PySem.W.Frag) (ts : TGs) : TG := fun v σ H Q => ∃ a x xs, v = .ref a ∧ SqL K H a (x :: xs) ∧ ∀ p, H p = none → ts [x, .ref p] σ (upd H p (.lst xs)) Q
theorem pg_star1 {e1 e2 : Expr} {k : Nat} {p2 pos : Pos} {ts : TGs} (hc : X.calm = true) (h : PGs X [e1, e2] ts) (h1 : assignEach [e1, .Starred e2 p2] X.env = [(false, assign e1 X.env), (true, assign e2 X.env)] := by rfl)
    (h2 : (assignEach [e1, e2] X.env).map (·.2) = [assign e1 X.env, assign e2 X.env] := by rfl) : PG X (.Tuple [e1, .Starred e2 p2] k pos) (gStar1 X.K ts) := by
  refine ⟨fun pins s σ H v u Q I r hw => ?_⟩
  obtain ⟨a, x, xs, rfl, hq, hw⟩ := hw
  cases r
  obtain ⟨its, rv, pl, hz⟩ := I.list hq
  have hlen := rv.length
  rw [PySem.arm_assign_Tuple]
  refine wpAny_bind (wpAny_standAt ?_)
  unfold unpack
  rw [h1]
  refine wpAny_bind (wpAny_holding (unpack_star1 (I.ok.hd hc) pl.isList (by simp; simp at hlen; omega) (by simp; omega) fun h' t' keep ht => ?_))
  have I1 : L2.Inv X pins σ H { s with heap := h', toks := t' } := I.kept (t' := t') keep
  cases rv with
  | @cons _ v0 _ vs0 r0 rs =>
  have I2 := I1.laid (t' := t') (o := .lst xs) (h' := h'.push { cls := .type "list", data := .seq vs0.toArray }) (fun b o e => Heap.get?_push_of_some _ e) (Nat.le_refl _) ⟨by simp at hz; omega, vs0, 0, rs, Heap.get?_push_size _ rfl⟩
  have := h.run pins _ σ _ [x, .ref h'.objs.size] [v0, .ref h'.objs.size] Q I2 (.cons r0 (.cons rfl .nil)) (hw _ (I1.hok.fresh (Nat.le_refl _)))
  rw [h2] at this
  exact this
end
end DL

/-! texts -/
namespace DL
open PySem PySem.Spec PyProof.Rows L2
/-- the text of a whole number -/
def numS (i : Int) : Str := toString i
theorem Reps.strs {K : PySem.W.Frag} {W : Wd} : ∀ {ys : List Str} {vs : List V}, Reps K W vs (ys.map D.str) → vs = ys.map V.str
  | [], _, r => by cases r; rfl
  | n :: ns, _, r => by
    cases r with
    | cons h t => rw [h.strV, Reps.strs t]; rfl
theorem Reps.ofStrs {K : PySem.W.Frag} {W : Wd} : ∀ ys : List Str, Reps K W (ys.map V.str) (ys.map D.str)
  | [] => .nil
  | y :: ys => .cons (.str y) (Reps.ofStrs ys)
section
variable {X : Cx} {W0 : Bs} {a b e o : Expr} {Ta Tb : DTE} {pos apos : Pos}
/-! ### + -/
def dAddS : D2 := fun x y S P => ∃ i j, x = .str i ∧ y = .str j ∧ i.length + j.length ≤ sizeLine ∧ P (.str (i ++ j)) S
theorem do_adds {K : PySem.W.Frag} : DOp K (fun x y H Q => ∃ i j, x = .str i ∧ y = .str j ∧ i.length + j.length ≤ sizeLine ∧ Q (.str (i ++ j)) H) dAddS := by
  intro W S H x y d1 d2 P Q s r1 r2 ⟨i, j, e1, e2, hl, p⟩ post
  subst e1 e2
  exact ⟨i, j, r1.strV, r2.strV, hl, post _ _ W H _ p s .refl (.str _)⟩
theorem de_adds (ha : DE X W0 a Ta) (hb : DE X W0 b Tb) : DE X W0 (.BinOp a .Add b pos) (dOp dAddS Ta Tb) := de_op op_add_str do_adds ha hb
theorem i_adds {i j : Str} {S : Sto} {P : DP} (hl : i.length + j.length ≤ sizeLine) (q : P (.str (i ++ j)) S) : dAddS (.str i) (.str j) S P := ⟨i, j, rfl, rfl, hl, q⟩
/-! ### str, int, len -/
theorem call_strX : CallR X (.type "str") (fun xs H Q => (∃ i, xs = [.int i] ∧ i.natAbs.log2 < 1920 ∧ Q (.str (numS i)) H) ∨ ∃ a, xs = [.str a] ∧ Q (.str a) H) := by
  intro pins s σ H xs us Q I r h
  rcases h with h | h
  · exact call_str_int pins s σ H xs us Q I r h
  · exact SkE.call_str_str pins s σ H xs us Q I r h
def bStr : List D → Sto → DP → Prop := fun ds S P => (∃ i, ds = [.int i] ∧ i.natAbs.log2 < 1920 ∧ P (.str (numS i)) S) ∨ ∃ a, ds = [.str a] ∧ P (.str a) S
theorem dc_str {K : PySem.W.Frag} : DCl K (fun xs H Q => (∃ i, xs = [.int i] ∧ i.natAbs.log2 < 1920 ∧ Q (.str (numS i)) H) ∨ ∃ a, xs = [.str a] ∧ Q (.str a) H) bStr := by
  intro W S H vs ds P Q s r h post
  rcases h with ⟨i, rfl, hl, q⟩ | ⟨b, rfl, q⟩
  · obtain ⟨v, rfl, rv⟩ := r.one
    exact .inl ⟨i, by rw [rv.intV], hl, post _ _ W H _ q s .refl (.str _)⟩
  · obtain ⟨v, rfl, rv⟩ := r.one
    exact .inr ⟨b, by rw [rv.strV], post _ _ W H _ q s .refl (.str _)⟩
theorem i_strI {i : Int} {S : Sto} {P : DP} (h : i.natAbs.log2 < 1920) (q : P (.str (numS i)) S) : bStr [.int i] S P := .inl ⟨i, rfl, h, q⟩
theorem i_strS {z : Str} {S : Sto} {P : DP} (q : P (.str z) S) : bStr [.str z] S P := .inr ⟨z, rfl, q⟩
def bIntS : List D → Sto → DP → Prop := fun ds S P => ∃ z n, ds = [.str z] ∧ PySem.intText? z = some n ∧ z.length ≤ 640 ∧ P (.int n) S
theorem dc_intS {K : PySem.W.Frag} : DCl K (fun xs H Q => ∃ a n, xs = [.str a] ∧ PySem.intText? a = some n ∧ a.length ≤ 640 ∧ Q (.int n) H) bIntS := by
  intro W S H vs ds P Q s r ⟨z, n, e, hn, hl, q⟩ post
  subst e
  obtain ⟨v, rfl, rv⟩ := r.one
  exact ⟨z, n, by rw [rv.strV], hn, hl, post _ _ W H _ q s .refl (.int _)⟩
def bLenS : List D → Sto → DP → Prop := fun ds S P => ∃ z : Str, ds = [.str z] ∧ z.length ≤ sizeLine ∧ P (.int z.length) S
theorem dc_lenS {K : PySem.W.Frag} : DCl K (fun xs H Q => ∃ z, xs = [.str z] ∧ z.length ≤ sizeLine ∧ Q (.int z.length) H) bLenS := by
  intro W S H vs ds P Q s r ⟨z, e, hl, q⟩ post
  subst e
  obtain ⟨v, rfl, rv⟩ := r.one
  exact ⟨z, by rw [rv.strV], hl, post _ _ W H _ q s .refl (.int _)⟩
/-! ### methods of texts -/
def dStrB (g : Str → Bool) (Ta : DTE) : DTE := fun env S P => Ta env S fun x S1 => ∃ z, x = .str z ∧ P (.bl (g z)) S1
theorem lift_strB {g : Str → Bool} {σ : L2.St} {H : Hp} {Q : VK} (h : liftE X.K W0 (dStrB g Ta) σ H Q) : tM0 (fun x xs H Q => ∃ a, x = .str a ∧ xs = [] ∧ True ∧ Q (.bl (g a)) H) (liftE X.K W0 Ta) σ H Q := by
  obtain ⟨W, env, S, P, hW, sim, er, ht, post⟩ := h
  refine ⟨W, env, S, _, hW, sim, er, ht, fun x S1 W1 H1 v ⟨z, ex, q⟩ s l r => ?_⟩
  subst ex
  exact ⟨⟨z, r.strV⟩, z, r.strV, rfl, trivial, post _ _ W1 H1 _ q s l (.bl _)⟩
theorem de_isascii (ho : DE X W0 o Ta) (hbase : attributeBase o "isascii" X.env (eval o X.env) = eval o X.env := by rfl) (hline : (apos.endLine == pos.line) = true := by rfl) : DE X W0 (.Call (.Attribute o "isascii" apos) [] [] pos) (dStrB Txt.isascii Ta) :=
  (pe_m0 F.slot_str_isascii F.type_str_isascii mt_isascii ho hbase hline).imp fun _ _ _ h => lift_strB h
theorem de_isdigit (ho : DE X W0 o Ta) (hbase : attributeBase o "isdigit" X.env (eval o X.env) = eval o X.env := by rfl) (hline : (apos.endLine == pos.line) = true := by rfl) : DE X W0 (.Call (.Attribute o "isdigit" apos) [] [] pos) (dStrB Txt.isdigit Ta) :=
  (pe_m0 F.slot_str_isdigit F.type_str_isdigit mt_isdigit ho hbase hline).imp fun _ _ _ h => lift_strB h
theorem i_strB {g : Str → Bool} {env : Ev} {S : Sto} {P : DP} (q : Ta env S fun x S1 => ∃ z, x = .str z ∧ P (.bl (g z)) S1) : dStrB g Ta env S P := q
def dStarts (Ta Tb : DTE) : DTE := fun env S P => Ta env S fun x S1 => Tb env S1 fun y S2 => ∃ z t, x = .str z ∧ y = .str t ∧ P (.bl (Txt.startswith z t)) S2
def isStrD : D → Prop := fun x => ∃ z, x = .str z
def dM1 (R : Str → D → Sto → DP → Prop) (Ta Tb : DTE) : DTE := fun env S P => Ta env S fun x S1 => ∃ z, x = .str z ∧ Tb env S1 fun y S2 => R z y S2 P
theorem lift_m1 {r : V → List V → Hp → VK → Prop} {R : Str → D → Sto → DP → Prop} (hr : ∀ W S H z u y P Q, Sim X.K W S H → Rep X.K W u y → R z y S P → Post X.K W H P Q → r (.str z) [u] H Q) {σ : L2.St} {H : Hp} {Q : VK} (h : liftE X.K W0 (dM1 R Ta Tb) σ H Q) : tM1 r (liftE X.K W0 Ta) (liftE X.K W0 Tb) σ H Q := by
  obtain ⟨W, env, S, P, hW, sim, er, ht, post⟩ := h
  refine ⟨W, env, S, _, hW, sim, er, ht, fun x S1 W1 H1 v ⟨z, ex, q⟩ s l rv => ?_⟩
  subst ex
  refine ⟨⟨z, rv.strV⟩, W1, env, S1, _, hW.trans l, s, er.mono l.le, q, fun y S2 W2 H2 u q2 s2 l2 r2 => ?_⟩
  rw [rv.strV]
  exact hr W2 S2 H2 z u y P Q s2 r2 q2 (post.mono (l.trans l2))
theorem i_m1 {R : Str → D → Sto → DP → Prop} {env : Ev} {S : Sto} {P : DP} (q : Ta env S fun x S1 => ∃ z, x = .str z ∧ Tb env S1 fun y S2 => R z y S2 P) : dM1 R Ta Tb env S P := q
def mStarts : Str → D → Sto → DP → Prop := fun z y S P => ∃ t, y = .str t ∧ P (.bl (Txt.startswith z t)) S
theorem de_startswith (ho : DE X W0 o Ta) (he : DE X W0 e Tb) (hs : starEach [e] X.env = [(false, eval e X.env)] := by rfl) (hbase : attributeBase o "startswith" X.env (eval o X.env) = eval o X.env := by rfl) (hline : (apos.endLine == pos.line) = true := by rfl) :
    DE X W0 (.Call (.Attribute o "startswith" apos) [e] [] pos) (dM1 mStarts Ta Tb) :=
  (pe_m1 F.slot_str_startswith F.type_str_startswith mt_startswith ho he hs hbase hline).imp fun _ _ _ h => lift_m1 (fun W S H z u y P Q s r ⟨t, e, q⟩ post => by subst e; exact ⟨z, t, rfl, by rw [r.strV], post _ _ W H _ q s .refl (.bl _)⟩) h
def mJoin : Str → D → Sto → DP → Prop := fun z y S P => ∃ ys : List Str, seqOf S y = some (ys.map .str) ∧ (ys.map (·.length)).sum + ys.length * z.length ≤ 16777216 ∧ P (.str (Txt.join z ys)) S
theorem de_join (ho : DE X W0 o Ta) (he : DE X W0 e Tb) (hs : starEach [e] X.env = [(false, eval e X.env)] := by rfl) (hbase : attributeBase o "join" X.env (eval o X.env) = eval o X.env := by rfl) (hline : (apos.endLine == pos.line) = true := by rfl) :
    DE X W0 (.Call (.Attribute o "join" apos) [e] [] pos) (dM1 mJoin Ta Tb) :=
  (pe_join ho he hs hbase hline).imp fun _ _ _ h => lift_m1 (fun W S H z u y P Q s r ⟨ys, hy, hl, q⟩ post => by
    obtain ⟨p, vs, rfl, hq, rr⟩ := r.seq_of s hy
    have ev := rr.strs
    subst ev
    exact ⟨z, p, ys, rfl, rfl, hq, hl, post _ _ W H _ q s .refl (.str _)⟩) h
/-- a.split(b) -/
def dSplit (Ta Tb : DTE) : DTN := fun env S Q => Ta env S fun x S1 => ∃ z, x = .str z ∧ Tb env S1 fun y S2 => ∃ t : Str, y = .str t ∧ (t.length == 0) = false ∧ z.length + 2 ≤ sizeLine ∧ Q ((Txt.split z t).map .str) S2
theorem dn_split (ho : DE X W0 o Ta) (he : DE X W0 e Tb) (hs : starEach [e] X.env = [(false, eval e X.env)] := by rfl) (hbase : attributeBase o "split" X.env (eval o X.env) = eval o X.env := by rfl) (hline : (apos.endLine == pos.line) = true := by rfl) :
    DN X W0 (.Call (.Attribute o "split" apos) [e] [] pos) (dSplit Ta Tb) :=
  (pe_split ho he hs hbase hline).imp fun σ H Q ⟨W, env, S, P, hW, sim, er, ht, post⟩ => ⟨W, env, S, _, hW, sim, er, ht, fun x S1 W1 H1 v ⟨z, ex, q⟩ s l rv => by
    subst ex
    refine ⟨⟨z, rv.strV⟩, W1, env, S1, _, hW.trans l, s, er.mono l.le, q, fun y S2 W2 H2 u ⟨t, ey, h0, hl, q2⟩ s2 l2 r2 => ?_⟩
    subst ey
    refine ⟨z, t, rv.strV, by rw [r2.strV], h0, hl, ?_⟩
    exact (post.mono (l.trans l2)).laid q2 s2 (Reps.ofStrs _)⟩
/-! ### f"..{x}" -/
def dFs2 (z : Str) (Ta : DTE) : DTE := fun env S P => Ta env S fun x S1 => ∃ i, x = .int i ∧ i.natAbs.log2 < 1920 ∧ z.length + (numS i).length ≤ 1000 ∧ P (.str (z ++ numS i)) S1
theorem str_empty_app (z : Str) : Str.empty ++ z = z := by
  cases z with
  | mk c =>
    show (⟨#[] ++ c⟩ : Str) = ⟨c⟩
    simp
theorem str_app_len (a b : Str) : (a ++ b).length = a.length + b.length := by
  cases a; cases b
  show (_ ++ _ : Array Nat).size = _
  rw [Array.size_append]
  rfl
theorem de_fs2 {z : Str} {j : Nat} {p1 p2 : Pos} (hz : z.length ≤ 1000) (he : DE X W0 e Ta) : DE X W0 (.JoinedStr [.Constant (.str z) j p1, .FormattedValue e (-1) none p2] pos) (dFs2 z Ta) :=
  (pe_joined (.cons pe_str (.cons (pe_fmt he) .nil))).imp fun σ H Q ⟨W, env, S, P, hW, sim, er, ht, post⟩ => by
    refine ⟨z, rfl, ?_, W, env, S, _, hW, sim, er, ht, fun x S1 W1 H1 v ⟨i, ex, hi, hl, q⟩ s l rv => ?_⟩
    · rw [str_empty_app]; exact Nat.le_trans hz (by decide)
    · subst ex
      refine .inr ⟨i, rv.intV, hi, numS i, rfl, ?_, ?_⟩
      · rw [str_empty_app]
        have : (z ++ numS i).length = z.length + (numS i).length := str_app_len _ _
        rw [this]
        exact Nat.le_trans hl (by decide)
      · show Q (.str (Str.empty ++ z ++ numS i)) H1
        rw [str_empty_app]
        exact post _ _ W1 H1 _ q s l (.str _)
end
end DL
namespace DL
open PySem PySem.Spec PyProof.Rows L2
section
variable {X : Cx} {W0 : Bs} {a b e o : Expr} {Ta Tb : DTE} {pos apos : Pos} {ss : List Nat} {Gs : DTGs}
/-! ### x, *ys = a list -/
def gStD (Gs : DTGs) : DTG := fun d env S N => ∃ x xs, lstOf S d = some (x :: xs) ∧ Gs [x, .lst xs] env S N
theorem dg_star {e1 e2 : Expr} {k : Nat} {p2 : Pos} (hc : X.calm = true) (h : DGs X W0 ss [e1, e2] Gs) (h1 : assignEach [e1, .Starred e2 p2] X.env = [(false, assign e1 X.env), (true, assign e2 X.env)] := by rfl)
    (h2 : (assignEach [e1, e2] X.env).map (·.2) = [assign e1 X.env, assign e2 X.env] := by rfl) : DG X W0 ss (.Tuple [e1, .Starred e2 p2] k pos) (gStD Gs) :=
  (pg_star1 hc h h1 h2).imp fun v σ H Q ⟨W, env, S, P, d, hW, sim, er, r, ⟨x, xs, hx, ht⟩, post⟩ => by
    obtain ⟨a0, vs, rfl, hl, rr⟩ := r.lst_of sim hx
    cases rr with
    | @cons v0 _ vs0 _ r0 rs =>
      refine ⟨a0, v0, vs0, rfl, SqL.of hl, fun p hp => ?_⟩
      have le := Wd.le_put (o := .lst vs0) (sim.free hp)
      exact ⟨W.put p (.lst vs0), env, S, P, [x, .lst xs], hW.trans (.put sim hp), sim.put hp, er.mono le, .cons (r0.mono le) (.cons (.lst upd_same (rs.mono le)) .nil), ht, fun env' S' W' H' σ' q s l er' ag => post env' S' W' H' σ' q s ((Stp.put sim hp).trans l) er' ag⟩
theorem i_std {d : D} {x : D} {xs : List D} {env : Ev} {S : Sto} {N : Ev → Sto → Prop} (h : lstOf S d = some (x :: xs)) (q : Gs [x, .lst xs] env S N) : gStD Gs d env S N := ⟨x, xs, h, q⟩
/-! ### e in NAME, as a value -/
theorem de_kin {x : Str} {d : Addr} {ks : List Key} {ds : List D} {p : Pos} (tab : KTab X.prog X.w X.K d ks ds) (hx : Gl X x) (hm : X.mg x = some (.ref d)) (hb : DE X W0 b Tb) (hmk : behindInMarks .In (.Name x p) = false := by rfl) (hdb : (x == ("__debug__" : Str)) = false := by decide) :
    DE X W0 (.Compare b [.In] [.Name x p] pos) (dKin ks ds Tb) := by
  obtain ⟨vs, us, hl, hr, kv, hk, hs, hd⟩ := tab.ex
  exact (pe_cmpR (op_kin kv hs hd) hb (pe_glob (v := .ref d) hx hm rfl hdb) hmk).imp fun _ _ _ h => lift_kin hl hr h
end
end DL

/-! a tuple 0 times, once, and some times -/
namespace DL
open PySem PySem.Spec PyProof.Rows L2
theorem tuple_mul1 (l : Addr) (items : Array Value) (n : Nat) (dd : Option Addr) (sl : Array (Option Value)) (u : Tok) :
    Meets (Builtin.«tuple.__mul__» ⟨[.ref l, .int 1 u], []⟩) (fun _ R s => s.heap.get? l = some { cls := .type "tuple", dict := dd, data := .seq items n, slots := sl } ∧ R (.ok (.ret (Value.ref l))) s) :=
  .of_wp fun prog w A R s h => by
    obtain ⟨hp, g, d, tk, os⟩ := s
    obtain ⟨hl, h⟩ := h
    have f1 := AutoSeq1.idx_int
    wp_walk using wpAny_loadPart' hl
    exact ⟨_, rfl, h⟩
theorem tuple_mul0 (l : Addr) (items : Array Value) (n : Nat) (dd : Option Addr) (sl : Array (Option Value)) (u : Tok) (hi : items.isEmpty = false) :
    Meets (Builtin.«tuple.__mul__» ⟨[.ref l, .int 0 u], []⟩) (fun _ R s => s.heap.get? l = some { cls := .type "tuple", dict := dd, data := .seq items n, slots := sl } ∧ R (.ok (.ret (Value.ref s.heap.objs.size))) { s with heap := s.heap.push { cls := Value.type "tuple", data := Data.seq #[] }, toks := s.toks }) :=
  .of_wp fun prog w A R s h => by
    obtain ⟨hp, g, d, tk, os⟩ := s
    obtain ⟨hl, h⟩ := h
    have f1 := AutoSeq1.idx_int
    wp_walk using wpAny_loadPart' hl
    exact ⟨_, rfl, h⟩
def rRepA (K : PySem.W.Frag) : R2 := fun x y H Q => ∃ l k xs, x = .ref l ∧ y = .int k ∧ SqT K H l xs ∧ xs ≠ [] ∧ 0 ≤ k ∧ k ≤ 1000 ∧ xs.length ≤ 1000 ∧ (k = 1 → Q (.ref l) H) ∧ (k ≠ 1 → ∀ p, H p = none → Q (.ref p) (upd H p (.tup (List.replicate k.toNat xs).flatten)))
theorem op_repA {X : Cx} : OpR X (binaryOp .Mult) (rRepA X.K) := by
  intro pins s σ H x y v u Q I rx ry h
  obtain ⟨l, k, xs, rfl, rfl, hT, hne, h0, h2, hz, q1, q⟩ := h
  by_cases hk : 2 ≤ k
  · exact op_repT pins s σ H _ _ v u Q I rx ry ⟨l, k, xs, rfl, rfl, hT, hne, hk, h2, hz, q (by omega)⟩
  · cases rx
    obtain ⟨t, rfl⟩ := ry
    obtain ⟨its, r, ⟨⟨cls, dd, data, sl⟩, ho, hc, n, hd⟩, hs⟩ := I.tuple hT
    simp only at hc hd
    subst hc hd
    have hi : its.toArray.isEmpty = false := by
      cases its with
      | nil => exact absurd (List.eq_nil_of_length_eq_zero r.length) hne
      | cons a b => rfl
    rcases (show k = 0 ∨ k = 1 by omega) with rfl | rfl
    · refine wpAny_binaryOp_repeat_ref (T := "tuple") (U := "int") (by decide) ⟨_, ho, rfl⟩ (fun s' => typeIs_int s' 0 t) noFill_tuple_mul F.fills_int_mul F.slot_int_rmul repeat_tuple F.slot_int_index.lookup
        (call_meets F.slot_int_rmul (typeIs_int s 0 t) F.entry_int_rmul (F.args_int_rmul_2 _ _) (int_rmul_tuple 0 t l its.toArray n dd sl)
          ⟨ho, rfl, ⟨_, ho, rfl⟩, call_meets F.slot_tuple_mul ⟨_, ho, rfl⟩ F.entry_tuple_mul (F.args_tuple_mul_2 _ _) (tuple_mul0 l its.toArray n dd sl t hi) ⟨ho, ?_⟩⟩)
      refine ⟨.ref s.heap.objs.size, _, I.laid (t' := s.toks) (o := .tup []) (fun b ob q => Heap.get?_push_of_some _ q) (Nat.le_refl _) ?_, rfl, q (by decide) _ (I.hok.fresh (Nat.le_refl _))⟩
      exact ⟨Nat.zero_le _, [], .nil, IsTup.new _ _⟩
    · refine wpAny_binaryOp_repeat_ref (T := "tuple") (U := "int") (by decide) ⟨_, ho, rfl⟩ (fun s' => typeIs_int s' 1 t) noFill_tuple_mul F.fills_int_mul F.slot_int_rmul repeat_tuple F.slot_int_index.lookup
        (call_meets F.slot_int_rmul (typeIs_int s 1 t) F.entry_int_rmul (F.args_int_rmul_2 _ _) (int_rmul_tuple 1 t l its.toArray n dd sl)
          ⟨ho, rfl, ⟨_, ho, rfl⟩, call_meets F.slot_tuple_mul ⟨_, ho, rfl⟩ F.entry_tuple_mul (F.args_tuple_mul_2 _ _) (tuple_mul1 l its.toArray n dd sl t) ⟨ho, ?_⟩⟩)
      exact ⟨.ref l, H, I, rfl, q1 rfl⟩
section
variable {X : Cx} {W0 : Bs} {a b : Expr} {Ta Tb : DTE} {pos : Pos}
def dRepT : D2 := fun x y S P => ∃ xs k, x = .tup xs ∧ y = .int k ∧ xs ≠ [] ∧ 0 ≤ k ∧ k ≤ 1000 ∧ xs.length ≤ 1000 ∧ P (.tup (List.replicate k.toNat xs).flatten) S
theorem do_repT {K : PySem.W.Frag} : DOp K (rRepA K) dRepT := by
  intro W S H x y d1 d2 P Q s r1 r2 ⟨xs, k, e1, e2, hne, h0, h1, hl, p⟩ post
  subst e1 e2
  obtain ⟨a0, vs, rfl, hq, rr⟩ := r1.tupV
  have hq' := same_sqt s.same hq
  have hlen := rr.length
  refine ⟨a0, k, vs, rfl, r2.intV, hq', fun z => hne (by rw [z] at hlen; exact List.eq_nil_of_length_eq_zero hlen.symm), h0, h1, by omega, fun hk => ?_, fun hk q hp => ?_⟩
  · subst hk
    have e : (List.replicate (1 : Int).toNat xs).flatten = xs := by simp
    rw [e] at p
    exact post _ _ W H _ p s .refl r1
  · have s' := s.put (o := .tup (List.replicate k.toNat vs).flatten) hp
    have le := Wd.le_put (o := .tup (List.replicate k.toNat vs).flatten) (s.free hp)
    exact post _ _ _ _ _ p s' (Stp.put s hp) (.tup (.inl (.inl upd_same)) ((rr.rep k.toNat).mono le))
theorem de_repT (ha : DE X W0 a Ta) (hb : DE X W0 b Tb) : DE X W0 (.BinOp a .Mult b pos) (dOp dRepT Ta Tb) := de_op op_repA do_repT ha hb
end
/-! == of two lists of the store -/
theorem i_eqRR {g : Bool → Bool} {S : Sto} {P : DP} {i j : Nat} {xs : List D} (n : Nat) (h1 : S[i]? = some (.lst xs)) (h2 : S[j]? = some (.lst xs)) (hl : xs.length ≤ 90000) (hx : ∀ d ∈ xs, pln n d = true) (q : P (.bl (g true)) S) (hn : n ≤ 60 := by decide) : dEqG g (.ref i) (.ref j) S P := by
  have hp : pln (n + 1) (.lst xs) = true := by
    rw [pln, Bool.and_eq_true_iff]
    exact ⟨decide_eq_true hl, plns_of hx⟩
  obtain ⟨e, c, d⟩ := pln_py S (n + 1) _ hp
  have hs := pln_shaped hp (by omega)
  have get : ∀ k, S[k]? = some (.lst xs) → pyOf S (n + 1) (.ref k) = some (toPy (.lst xs)) := fun k hk => by
    have e' : pyOf S (n + 1) (.lst xs) = (allOf (pyOf S n) xs).map PyData.list := rfl
    rw [e'] at e
    show (match S[k]? with | some (.lst xs) => (allOf (pyOf S n) xs).map PyData.list | _ => none) = _
    rw [hk]
    exact e
  exact ⟨n + 1, _, _, get i h1, get j h2, hs, hs, by rw [SeqAt.eqv_refl _ c]; exact q⟩
end DL

/-! texts: slices, signs, walks over signs; list.pop(i), list.insert -/
namespace DL
open PySem PySem.Spec PyProof.Rows L2
/-- the signs of a text -/
def signs (z : Str) : List D := z.cps.toList.map fun c => .str ⟨#[c]⟩
section
variable {X : Cx} {W0 : Bs} {a b e o : Expr} {Ta Tb : DTE} {pos p2 : Pos} {tg : Expr}
/-! ### x[a:b] -/
def xSlS : D → Option Int → Option Int → Sto → DP → Prop := fun x l u S P => ∃ z : Str, x = .str z ∧ z.length ≤ sizeLine ∧ P (.str (cutS z l u)) S
def dSlS (Ta : DTE) (Tl Th : DTO) : DTE := fun env S P => Ta env S fun x S1 => Tl env S1 fun l S2 => Th env S2 fun u S3 => xSlS x l u S3 P
theorem de_sliceS {lo hi : Option Expr} {Tl Th : DTO} (ha : DE X W0 a Ta) (hl : DO X W0 lo Tl) (hh : DO X W0 hi Th) : DE X W0 (.Subscript a (.Slice lo hi none p2) pos) (dSlS Ta Tl Th) :=
  (pe_slice sl_str ha hl hh).imp fun σ H Q ⟨W, env, S, P, hW, sim, er, ht, post⟩ => ⟨W, env, S, _, hW, sim, er, ht, fun x S1 W1 H1 v q s1 l1 r1 => ⟨W1, env, S1, _, hW.trans l1, s1, er.mono l1.le, q, fun l S2 W2 H2 q2 s2 l2 =>
    ⟨W2, env, S2, _, hW.trans (l1.trans l2), s2, er.mono (l1.trans l2).le, q2, fun u S3 W3 H3 ⟨z, e, hz, q3⟩ s3 l3 => by
      subst e
      exact ⟨z, r1.strV, hz, (post.mono (l1.trans (l2.trans l3))) _ _ W3 H3 _ q3 s3 .refl (.str _)⟩⟩⟩⟩
/-! ### x[i] -/
def dIxS : D2 := fun x y S P => ∃ (z : Str) (i : Nat) (c : Nat), x = .str z ∧ y = .int i ∧ i < 2 ^ 63 ∧ z.cps.toList[i]? = some c ∧ P (.str ⟨#[c]⟩) S
theorem do_ixS {K : PySem.W.Frag} : DOp K (fun x y H Q => ∃ (z : Str) (i : Int) (c : Nat), x = .str z ∧ y = .int i ∧ 0 ≤ i ∧ i < 2 ^ 63 ∧ i < z.length ∧ z.cps[i.toNat]? = some c ∧ Q (.str ⟨#[c]⟩) H) dIxS := by
  intro W S H x y d1 d2 P Q s r1 r2 ⟨z, i, c, e1, e2, h6, hc, p⟩ post
  subst e1 e2
  have hl : i < z.cps.toList.length := (List.getElem?_eq_some_iff.mp hc).1
  refine ⟨z, i, c, r1.strV, r2.intV, Int.natCast_nonneg _, by omega, ?_, ?_, post _ _ W H _ p s .refl (.str _)⟩
  · show (i : Int) < ((z.cps.size : Nat) : Int)
    rw [Array.length_toList] at hl
    omega
  · rw [Int.toNat_natCast, ← Array.getElem?_toList]
    exact hc
theorem de_ixS (ha : DE X W0 a Ta) (hb : DE X W0 b Tb) (hs : PlainIxT b) : DE X W0 (.Subscript a b pos) (dOp dIxS Ta Tb) := (pe_item_str ha hb hs).imp fun _ _ _ h => lift_op do_ixS h
/-! ### a sign not in a text -/
def dNotInS : D2 := fun x y S P => ∃ (c : Nat) (z : Str), x = .str ⟨#[c]⟩ ∧ y = .str z ∧ P (.bl (!decide (c ∈ z.cps.toList))) S
theorem do_notInS {K : PySem.W.Frag} : DOp K (fun x y H Q => ∃ (c : Nat) (z : Str), x = .str ⟨#[c]⟩ ∧ y = .str z ∧ Q (.bl (!decide (c ∈ z.cps.toList))) H) dNotInS := by
  intro W S H x y d1 d2 P Q s r1 r2 ⟨c, z, e1, e2, p⟩ post
  subst e1 e2
  exact ⟨c, z, r1.strV, r2.strV, post _ _ W H _ p s .refl (.bl _)⟩
/-! ### for c in a text -/
def iSt (T : DTE) : DTI := fun env S P => T env S fun d S1 => ∃ z : Str, d = .str z ∧ P (signs z) (fun _ => True) S1
theorem signs_len (z : Str) : (signs z).length = z.cps.size := by simp [signs]
theorem di_str (h : DE X W0 e Ta) : DI X W0 tg e (iSt Ta) := (pi_str h).imp fun σ H R ⟨W, env, S, P, hW, sim, er, ht, post⟩ => ⟨W, env, S, _, hW, sim, er, ht, fun d S1 W1 H1 v ⟨z, ex, q⟩ s l r => by
  subst ex
  refine ⟨z, r.strV, post _ _ S1 W1 H1 _ q s l ⟨fun _ => True, fun i H' x H'' => H'' = H' ∧ ∃ c, z.cps[i]? = some c ∧ x = .str ⟨#[c]⟩, ⟨fun i H' hi _ => ?_, fun H' _ => ?_, fun _ _ _ _ _ _ y => y⟩, fun _ _ _ _ _ _ => trivial, ?_⟩⟩
  · rw [signs_len] at hi
    exact hi
  · rw [signs_len]
    exact Nat.le_refl _
  · rintro i d W' S' H' x H'' hd l' s' _ ⟨rfl, c, hc, rfl⟩
    unfold signs at hd
    rw [List.getElem?_map, Array.getElem?_toList, hc] at hd
    cases hd
    exact ⟨W', s', .refl, .str _⟩⟩
end
/-! ### list.pop(i), list.insert(i, y) -/
def mPopAt : D → List D → Sto → DP → Prop := fun x ds S P => ∃ i xs y, ∃ k : Nat, x = .ref i ∧ ds = [.int k] ∧ S[i]? = some (.lst xs) ∧ k < 2 ^ 63 ∧ xs[k]? = some y ∧ P y (S.set i (.lst (xs.eraseIdx k)))
theorem Reps.erase {K : PySem.W.Frag} {W : Wd} : ∀ {vs : List V} {ds : List D} (k : Nat), Reps K W vs ds → Reps K W (vs.eraseIdx k) (ds.eraseIdx k)
  | _, _, _, .nil => .nil
  | _, _, 0, .cons _ t => t
  | _, _, k + 1, .cons h t => .cons h (t.erase k)
theorem dm_popAt {K : PySem.W.Frag} : DMt K rPopAt mPopAt := by
  intro W S H x vs d ds P Q s r rs ⟨i, xs, y, k, e1, e2, hS, hk, hy, q⟩ post
  subst e1 e2
  cases r with
  | ref hi =>
    obtain ⟨v, rfl, rv⟩ := rs.one
    obtain ⟨hB, us, hH, rr⟩ := s.obj i _ _ hi hS
    obtain ⟨u, hu, ru⟩ := rr.get hy
    have hl : k < xs.length := (List.getElem?_eq_some_iff.mp hy).1
    refine ⟨_, us, k, k, u, rfl, by rw [rv.intV], hH, by omega, by omega, ?_, hu, ?_⟩
    · exact PySem.StrLaws.seqIndex_nonneg (by omega) (by rw [rr.length]; omega)
    · exact post y _ W _ u q (s.setO hi hS hB ⟨hB, _, upd_same, rr.erase k⟩) (.setO hi) ru
def rInsert : V → List V → Hp → VK → Prop := fun x vs H Q => ∃ l xs, ∃ i : Nat, ∃ j : Int, ∃ y, x = .ref l ∧ vs = [.int j, y] ∧ j = i ∧ H l = some (.lst xs) ∧ i ≤ xs.length ∧ xs.length < sizeLine ∧ j < 2 ^ 63 ∧ Q .non (upd H l (.lst (xs.take i ++ y :: xs.drop i)))
theorem ins_eq (l : List Value) (x : Int) (i : Nat) (y : Value) (hx : x = i) (hi : i ≤ l.length) :
    (l.toArray.extract 0 (if x < 0 then (x + (l.toArray.size : Int)).toNat else min x.toNat l.toArray.size)).push y ++ l.toArray.extract (if x < 0 then (x + (l.toArray.size : Int)).toNat else min x.toNat l.toArray.size) = (l.take i ++ y :: l.drop i).toArray := by
  have e1 : ¬ x < 0 := by omega
  have e2 : min x.toNat l.length = i := by omega
  rw [List.size_toArray, if_neg e1, e2]
  exact PySem.W.kl_ins_eq l i y
theorem mt_insert {X : Cx} : MtM X "list.insert" rInsert := by
  intro pins s σ H x vs v us Q I rx rv h
  obtain ⟨l, xs, i, j, y, rfl, rfl, hj, hH, hi, hz, h63, q⟩ := h
  cases rx
  obtain ⟨u0, u, rfl, ru0, ru⟩ := rv.two
  obtain ⟨t, rfl⟩ := ru0
  obtain ⟨z, its, n, r, hl, e⟩ := I.lstM hH
  have hf : ¬(!Builtin.List.listFitsIndex j) = true := by
    rw [fitsIndex_of (by omega) h63]
    exact Bool.false_ne_true
  refine call_meets F.slot_list_insert ⟨_, e, rfl⟩ F.entry_list_insert (F.args_list_insert_3 _ _ _) (PySem.AutoSeq1.list_insert_list_int_val_1 l its.toArray n j t u hf (by rw [List.size_toArray]; omega)) ⟨e, ?_⟩
  refine ⟨.non, _, I.lset (its' := its.take i ++ u :: its.drop i) hH e ?_ ((r.take i).append (.cons ru (r.drop i))) ?_, rfl, q⟩
  · exact ins_eq its j i u hj (by omega)
  · simp only [List.length_append, List.length_cons, List.length_take, List.length_drop]
    omega
def mInsert : D → List D → Sto → DP → Prop := fun x ds S P => ∃ i xs y, ∃ k : Nat, x = .ref i ∧ ds = [.int k, y] ∧ S[i]? = some (.lst xs) ∧ k ≤ xs.length ∧ xs.length < sizeLine ∧ k < 2 ^ 63 ∧ P .non (S.set i (.lst (xs.take k ++ y :: xs.drop k)))
theorem dm_insert {K : PySem.W.Frag} : DMt K rInsert mInsert := by
  intro W S H x vs d ds P Q s r rs ⟨i, xs, y, k, e1, e2, hS, hk, hz, h63, q⟩ post
  subst e1 e2
  cases r with
  | ref hi =>
    obtain ⟨v0, v, rfl, rv0, rv⟩ := rs.two
    obtain ⟨hB, us, hH, rr⟩ := s.obj i _ _ hi hS
    exact ⟨_, us, k, k, v, rfl, by rw [rv0.intV], rfl, hH, by rw [rr.length]; exact hk, by rw [rr.length]; exact hz, by omega, post _ _ W _ _ q (s.setO hi hS hB ⟨hB, _, upd_same, (rr.take k).app (.cons rv (rr.drop k))⟩) (.setO hi) .non⟩
end DL

/-! x, y = a list -/
namespace DL
open PySem PySem.Spec PyProof.Rows L2
section
variable {X : Cx} {W0 : Bs} {es : List Expr} {pos : Pos} {ss : List Nat} {Gs : DTGs}
def gLs (n : Nat) (Gs : DTGs) : DTG := fun d env S P => ∃ ds, lstOf S d = some ds ∧ ds.length = n ∧ Gs ds env S P
theorem dg_lst {k n : Nat} (hc : X.calm = true) (h : DGs X W0 ss es Gs) (hn : (assignEach es X.env).length = n := by rfl) (hst : (assignEach es X.env).findIdx? (·.1) = none := by rfl) : DG X W0 ss (.Tuple es k pos) (gLs n Gs) :=
  (pg_unl hc h hn hst).imp fun v σ H Q ⟨W, env, S, P, d, hW, sim, er, r, ⟨ds, e, hl, ht⟩, post⟩ => by
    obtain ⟨a1, vs, rfl, hq, rr⟩ := r.lst_of sim e
    exact ⟨a1, vs, rfl, SqL.of hq, by rw [rr.length]; exact hl, W, env, S, P, ds, hW, sim, er, rr, ht, post⟩
theorem i_lsT {d : D} {ds : List D} {n : Nat} {env : Ev} {S : Sto} {P : Ev → Sto → Prop} (h : lstOf S d = some ds) (hl : ds.length = n) (q : Gs ds env S P) : gLs n Gs d env S P := ⟨ds, h, hl, q⟩
theorem i_st {Ta : DTE} {env : Ev} {S : Sto} {P : List D → (Sto → Prop) → Sto → Prop} (q : Ta env S fun d S1 => ∃ z : Str, d = .str z ∧ P (signs z) (fun _ => True) S1) : iSt Ta env S P := q
end
/-! == of a pure list and [] -/
theorem i_eqNilP {g : Bool → Bool} {S : Sto} {P : DP} {xs : List D} (n : Nat) (h : pln (n + 1) (.lst xs) = true) (q : P (.bl (g xs.isEmpty)) S) (hn : n + 1 ≤ 64 := by decide) : dEqG g (.lst xs) (.lst []) S P := by
  refine i_eqP (n + 1) h rfl ?_ hn
  have e : (toPy (.lst xs)).eqv (toPy (.lst [])) = xs.isEmpty := by
    have e1 : ∀ ys : List D, toPy (.lst ys) = .list (toPys ys) := fun ys => by rw [toPy]
    rw [e1, e1, show toPys [] = [] by rw [toPys], eqv_nil]
    cases xs with
    | nil => rw [toPys]; rfl
    | cons x r => rw [toPys]; rfl
  rw [e]
  exact q
/-! a def without arguments -/
section
variable {X : Cx} {W0 : Bs} {pos p : Pos}
theorem de_fn0 {x : Str} {k : Nat} {ps : List Str} {sp : DSp} (h : Fn X.prog X.w X.K X.mg X.base x k ps sp) (hr : Room k X.A) (hg : Gl X x) (hdb : (x == ("__debug__" : Str)) = false := by decide) : DE X W0 (.Call (.Name x p) [] [] pos) (dCall sp dNil) := by
  obtain ⟨f, fd, h1, h2, h3, h4⟩ := h
  refine (pe_call0 h4 hr hg h1 h2 h3 .nil pass0 hdb).imp fun σ H Q q => ?_
  obtain ⟨W, env, S, P, hW, sim, er, ht, post⟩ := q
  show liftSp X.K sp [] H Q E0
  exact ⟨W, [], S, P, sim, .nil, ht, post⟩
end
section
variable {Ta Tb : DTE} {Tl Th : DTO} {env : Ev} {S : Sto} {P : DP}
theorem i_slS (q : Ta env S fun x S1 => Tl env S1 fun l S2 => Th env S2 fun u S3 => xSlS x l u S3 P) : dSlS Ta Tl Th env S P := q
theorem i_slZ {z : Str} {l u : Option Int} (h : z.length ≤ sizeLine) (q : P (.str (cutS z l u)) S) : xSlS (.str z) l u S P := ⟨z, rfl, h, q⟩
theorem i_ixS {z : Str} {i : Nat} {c : Nat} (h6 : i < 2 ^ 63) (hc : z.cps.toList[i]? = some c) (q : P (.str ⟨#[c]⟩) S) : dIxS (.str z) (.int (i : Int)) S P := ⟨z, i, c, rfl, rfl, h6, hc, q⟩
end
end DL

namespace DL
open PySem PySem.Spec PyProof.Rows L2 LamX
section
variable {K : PySem.W.Frag} {h : Heap} {mg : Str → Option Value} {goal : Prop}
theorem with_xcK (_ : K.In h) (x : Str) {C : Addr} (gC : mg x = some (.ref C)) (ex : PySem.W.excIn K C PySem.HandSPX.veTail "ValueError.__new__" = true) (kC : PySem.W.keepIn K (.ref C) = true) (su : PySem.W.subIn K (.ref C) (.type "BaseException") = some true) (ty : PySem.W.typeIn K (.ref C) = some (.type "type")) (q : XcF K mg x C → goal) : goal := q ⟨ex, gC, kC, su, ty⟩
theorem with_wdK (_ : K.In h) {cs : List Addr} {CS C : Addr} (j : Nat) (ex : ExcC K C) (jl : j < 15) (sl : PySem.W.exmOne K (.ref C) (.ref CS) = some true)
    (is : cs.zipIdx.all (fun p => decide (PySem.W.kitOne K (.ref C) (.ref p.1) = some (decide (p.2 = j)))) = true) (ve : PySem.W.kitOne K (.ref C) (.type "ValueError") = some true)
    (nf : PySem.W.findIn K (.ref C) "function" = some none) (nr : PySem.W.findIn K (.ref C) "row" = some none) (na : PySem.W.findIn K (.ref C) "at" = some none) (q : WdC K cs CS C j → goal) : goal := by
  refine q ⟨ex, jl, sl, fun k c hk => ?_, ve, nf, nr, na⟩
  have := List.all_eq_true.mp is (c, k) (by rw [List.mem_zipIdx_iff_getElem?]; exact hk)
  exact of_decide_eq_true this
end
theorem with_xiK {K : PySem.W.Frag} {h : Heap} {goal : Prop} {P : Program} (_ : K.In h) (C : Addr) {qual : Str} {st : Stmt} {fs : List Str} (S : XiS P qual st fs) {nm q : Str} {N : Addr} {bs bm : List Value} {sn : List Str} {sub : List Value} {ab : Bool} {col : Option Bool} {dd : Option Addr} {k0 k1 k2 k3 k5 : Option Value}
    {fI cda cc : Addr} {oc : Value} {od an : Option Addr} {osl : Array (Option Value)} {kV doc pm ct : Value} {ccl cl : Value} {cdd cld : Option Addr} {vs : Array Value} {ccs csl : Array (Option Value)} {file : Str} {tf : Tok}
    (lC : K.lookup C = some (excClassObj nm q C N bs bm true sn sub ab col dd k0 k1 k2 k3 k5 "ValueError.__new__")) (vb : PySem.HandSPX.refsVE bm = true)
    (sa : PySem.W.findIn K (.ref C) "__setattr__" = some (some (.builtin "object.__setattr__"))) (exC : PySem.W.subIn K (.ref C) (.type "BaseException") = some true) (tyC : PySem.W.typeIn K (.ref C) = some (.type "type")) (kC : PySem.W.keepIn K (.ref C) = true)
    (iC : PySem.W.findIn K (.ref C) "__init__" = some (some (.ref fI))) (tI : PySem.W.typeIn K (.ref fI) = some (.type "function"))
    (lI : K.lookup fI = some ⟨oc, od, .func (PySem.W.ksFn "__init__" qual (defArgs st) (defBody st) (defScope st) .none kV doc pm an (.ref cda) ct cc), osl⟩) (cI : PySem.W.codeIn K (.ref cda) qual = true)
    (lc : K.lookup cda = some ⟨ccl, cdd, .fields vs, ccs⟩) (hv : vs[2]? = some (.str file tf)) (hf : ((P.main.file : Str) == file) = true) (lcc : K.lookup cc = some ⟨cl, cld, .cell (some (.ref C)), csl⟩)
    (mro : PySem.W.mroIn K C (.ref C) = some true) (sub' : PySem.W.subIn K (.ref C) (.type "ValueError") = some true) (opq : PySem.W.nsIn K cStatics "thirdparty.any" = some none)
    (sup : PySem.W.ks_superIn K C C "__init__" = some (some (.builtin "ValueError.__init__"))) (nf : ∀ f ∈ fs, PySem.W.findIn K (.ref C) f = some none) (g : XiC P K C qual st fs → goal) : goal :=
  with_xi qual st fs lC vb sa exC tyC kC iC tI lI cI lc hv hf lcc mro sub' opq sup nf S.bind S.hp S.top S.ks S.kc S.kl S.nc S.co S.gen S.kd S.few S.nd S.body g
end DL

namespace K21
open PySem PySem.Spec PyProof.Rows L2 DL
local macro_rules | `(tactic| walk_at "d1") => `(tactic| first
  | with_reducible refine i_seq ?_
  | with_reducible refine i_asg ?_
  | with_reducible refine i_op ?_
  | with_reducible refine i_opN ?_
  | with_reducible refine i_c ?_
  | with_reducible refine i_call ?_
  | with_reducible refine i_callN ?_
  | with_reducible refine i_cons ?_
  | with_reducible refine i_nil ?_
  | with_reducible refine i_max ?_
  | with_reducible refine i_min ?_
  | with_reducible refine i_nm ?_
  | with_reducible refine i_addI ?_
  | with_reducible refine i_I0 ?_
  | with_reducible refine i_eqI ?_
  | with_reducible refine i_eqS ?_
  | with_reducible refine i_eqB ?_
  | with_reducible refine i_is ?_
  | with_reducible refine i_if ?_
  | with_reducible refine i_ifS ?_
  | with_reducible refine i_B ?_
  | with_reducible refine i_Bx ?_
  | with_reducible refine i_ret ?_
  | with_reducible refine i_next ?_
  | with_reducible refine i_pure ?_
  | with_reducible refine i_new ?_
  | with_reducible refine i_par ?_
  | with_reducible refine i_xpar ?_
  | with_reducible refine i_lst ?_
  | with_reducible refine i_tup ?_
  | with_reducible refine i_sb ?_
  | with_reducible refine i_and ?_
  | with_reducible refine i_or ?_
  | with_reducible refine i_not ?_
  | with_reducible refine i_chain ?_
  | with_reducible refine i_andV ?_
  | with_reducible refine i_orV ?_
  | with_reducible refine i_notV ?_
  | with_reducible refine i_star ?_
  | with_reducible refine i_gc ?_
  | with_reducible refine i_gn ?_
  | with_reducible refine i_drop ?_
  | with_reducible refine i_mt ?_
  | with_reducible refine i_addL ?_
  | with_reducible refine i_addR ?_
  | ((with_reducible refine' i_var ?k1 ?k2); (case k1 => exact rfl))
  | ((with_reducible refine' i_len ?k1 ?k2); (case k1 => exact rfl))
  | ((with_reducible refine' i_list ?k1 ?k2); (case k1 => exact rfl))
  | ((with_reducible refine' i_tuple ?k1 ?k2); (case k1 => exact rfl))
  | ((with_reducible refine' i_tp ?k1 ?k2); (case k1 => exact rfl))
  | ((with_reducible refine' i_mtx ?k1 ?k2); (case k1 => exact rfl))
  | with_reducible refine i_irg1 ?_
  | with_reducible refine i_itp ?_
  | with_reducible refine i_ils ?_
  | with_reducible refine i_ien ?_
  | with_reducible refine i_izp ?_
  | with_reducible refine i_xtp ?_
  | with_reducible refine i_xls ?_
  | with_reducible refine i_xlsS ?_
  | with_reducible refine i_xen ?_
  | with_reducible refine i_xzpL ?_
  | with_reducible refine i_xzpT ?_
  | with_reducible refine i_for ?_
  | with_reducible refine i_lc ?_
  | with_reducible refine i_yes ?_
  | with_reducible refine i_xint ?_
  | with_reducible refine i_neg ?_
  | with_reducible refine i_part ?_
  | with_reducible refine i_nopart ?_
  | with_reducible refine i_sl ?_
  | with_reducible refine i_slT ?_
  | ((with_reducible refine' i_xstar ?k1 ?k2); (case k1 => exact rfl))
  | with_reducible refine i_xslT ?_
  | ((with_reducible refine' i_addT ?k1 ?k2); (case k1 => exact sz_le (by first | decide | (simp; done) | omega)))
  | ((with_reducible refine' i_xslL ?k1 ?k2); (case k1 => exact rfl))
  | ((with_reducible refine' i_cat ?k1 ?k2 ?k3 ?k4); (case k1 => exact rfl); (case k2 => exact rfl); (case k3 => exact sz_le (by first | decide | (simp; done) | omega)))
  | ((with_reducible refine' i_isi ?k1 ?k2 ?k3); (case k1 => exact rfl); (case k2 => first | exact kit_NoneType_int | exact kit_NoneType_bool | exact kit_NoneType_str | exact kit_NoneType_tuple | exact kit_NoneType_list | exact kit_bool_int | exact kit_bool_bool | exact kit_bool_str | exact kit_bool_tuple | exact kit_bool_list | exact kit_int_int | exact kit_int_bool | exact kit_int_str | exact kit_int_tuple | exact kit_int_list | exact kit_str_int | exact kit_str_bool | exact kit_str_str | exact kit_str_tuple | exact kit_str_list | exact kit_tuple_int | exact kit_tuple_bool | exact kit_tuple_str | exact kit_tuple_tuple | exact kit_tuple_list | exact kit_list_int | exact kit_list_bool | exact kit_list_str | exact kit_list_tuple | exact kit_list_list))
  | with_reducible refine i_kix ?_
  | with_reducible refine i_newD ?_
  | with_reducible refine i_dget ?_
  | with_reducible refine i_dget1 ?_
  | with_reducible refine i_dd ?_
  | with_reducible refine i_disp ?_
  | with_reducible refine i_pnil ?_
  | with_reducible refine i_pcons ?_
  | with_reducible refine i_ienT ?_
  | with_reducible refine i_xenT ?_
  | ((with_reducible refine' i_xkix ?k1 ?k2); (case k1 => exact rfl))
  | ((with_reducible refine' i_xdget ?k1 ?k2 ?k3); (case k1 => exact rfl); (case k2 => exact rfl))
  | ((with_reducible refine' i_xdget1 ?k1 ?k2); (case k1 => exact rfl))
  | ((with_reducible refine' i_set ?k1 ?k2 ?k3); (case k1 => exact rfl); (case k2 => exact rfl))
  | ((with_reducible refine' i_ix ?k1 ?k2 ?k3); (case k1 => exact rfl); (case k2 => first | exact rfl | exact at0 _ _))
  | with_reducible refine i_sz rfl ?_
  | ((with_reducible refine' i_I ?k1 ?k2); (case k1 => first | decide | assumption | omega | exact ⟨by decide, by decide, by decide⟩ | exact ⟨by omega, by omega⟩ | exact Or.inr ⟨by decide, by decide⟩ | exact Or.inl ⟨by decide, by decide⟩)))
local macro_rules | `(tactic| walk_at "d") => `(tactic| repeat walk_at "d1")
local macro_rules | `(tactic| walk_at "st") => `(tactic| simp only [startE, List.map_cons, List.map_nil, List.length_cons, List.length_nil, Nat.reduceAdd, Nat.reduceSub, List.replicate, List.cons_append, List.nil_append])
local macro_rules | `(tactic| walk_at "e") => `(tactic| dsimp only [List.set_cons_zero, List.set_cons_succ])
local macro_rules | `(tactic| walk_at "d1") => `(tactic| first
  | with_reducible refine i_fld ?_
  | with_reducible refine i_setF ?_
  | with_reducible refine i_augF ?_
  | with_reducible refine i_meth ?_
  | with_reducible refine i_make ?_
  | with_reducible refine i_augS ?_
  | with_reducible refine i_kget2 ?_
  | with_reducible refine i_kin ?_
  | with_reducible refine i_sget ?_
  | with_reducible refine i_dispS ?_
  | with_reducible refine i_sbD ?_
  | ((with_reducible refine' i_aug ?k1 ?k2); (case k1 => exact rfl)))
local macro_rules | `(tactic| walk_at "so") => `(tactic| first | assumption | (rw [sto_get]; rfl) | (rw [sto_get0]; rfl))
local macro_rules | `(tactic| walk_at "c") => `(tactic| first | exact rfl | decide | assumption | (simp; done) | (simp; omega))
local macro_rules | `(tactic| walk_at "v1") => `(tactic| first
  | walk_at "d1"
  | ((refine' ⟨_, _, _, rfl, ?k1, ?k2, ?k3⟩); (case k1 => walk_at "so"); (case k2 => exact rfl))
  | ((refine' ⟨_, _, rfl, ?k1, ?k2, ?k3⟩); (case k1 => walk_at "so"); (case k2 => exact few rfl))
  | ((refine' ⟨⟨_, _, rfl, ?k1, ?k2⟩, ?k3⟩); (case k1 => walk_at "so"); (case k2 => exact rfl))
  | ((refine' ⟨_, ?k1, ?k2, ?k3⟩); (case k1 => walk_at "so"); (case k2 => exact few rfl))
  | with_reducible refine i_rev ?_)
local macro_rules | `(tactic| walk_at "v") => `(tactic| repeat walk_at "v1")
local macro_rules | `(tactic| walk_at "t") => `(tactic| first
  | ((refine' ite_t ?k1 ?k2); (case k1 => walk_at "c"))
  | ((refine' ite_f ?k1 ?k2); (case k1 => walk_at "c")))
local macro_rules | `(tactic| walk_at "w") => `(tactic| repeat first | walk_at "v1" | walk_at "t")
local macro_rules | `(tactic| walk_at "d1") => `(tactic| first
  | with_reducible refine i_callX ?_
  | with_reducible refine i_rzX ?_
  | with_reducible refine i_rz0 ?_)
local macro_rules | `(tactic| walk_at "d1") => `(tactic| first
  | with_reducible refine i_irg2 ?_
  | with_reducible refine i_irg3 ?_
  | with_reducible refine i_irv ?_
  | with_reducible refine i_dc ?_
  | with_reducible refine i_new0 ?_
  | with_reducible refine i_rvm ?_
  | with_reducible refine i_dget2 ?_
  | with_reducible refine i_isdct ?_
  | ((with_reducible refine' i_xdget2 ?k1 ?k2); (case k1 => exact rfl))
  | with_reducible refine i_sbN ?_)
def topS (i : Nat) : Stmt := PySem.Challenge.pw_slideboxes_k21_texts_refused.main.body.getD i (.Pass ⟨0, 0, 0, 0⟩)
/-- the built-ins that the text leaves as they are -/
def isB (x : Str) : Bool := (["len", "max", "min", "sum", "all", "tuple", "list", "isinstance", "range", "enumerate", "zip", "sorted", "set", "int", "str", "bool", "dict", "reversed", "ValueError", "super"] : List Str).contains x
/-- the whole numbers of the text's top -/
def isG (x : Str) : Option Int := ([("MOST_FUNCTIONS", 8), ("MOST_ARGUMENTS", 3), ("MOST_PROGRAM_ROWS", 30), ("PROGRAM_BOXES", 8), ("NUMBERS", 1000), ("MOST_FIGURES", 3)] : List (Str × Int)).lookup x
/-! ### the drawing state -/
structure Tok where
  cells : List Int
  m : Int
  n : Int
def tabs0 : List (Addr × Str) := [(465, "law.<locals>.<lambda>")]
def hd (t : Tok) : Sto := [.tab 465 "law.<locals>.<lambda>", .lst (t.cells.map .int), .lst [.int t.m, .ref 1, .int t.n]]
theorem unders_ints (n : Nat) : ∀ ns : List Int, unders n (ns.map .int) = true
  | [] => rfl
  | _ :: ns => unders_ints n ns
theorem hd_mem {t' : Tok} {o : O} {n : Nat} (ho : o ∈ hd t') (hl : 1 < n) : o.under n = true := by
  simp only [hd, List.mem_cons, List.not_mem_nil, or_false] at ho
  rcases ho with rfl | rfl | rfl <;> first
    | rfl
    | exact unders_ints _ _
    | (show (true && (decide (1 < n) && (true && true))) = true
       rw [decide_eq_true hl]
       rfl)
theorem hd_len {t : Tok} : (hd t).length = 3 := rfl
theorem exit_hd {t t' : Tok} {T T' S' : Sto} {P : DP} {d : D} (e : S' = hd t' ++ T ++ T') (h : ∀ n, d.under n = true) (q : P d (hd t' ++ T)) : atExit (hd t ++ T) P d S' := by
  refine i_exit (S1 := hd t' ++ T) (T' := T') e (by simp [hd]) (fun o ho => ?_) (h _) q
  rcases List.mem_append.mp ho with ho | ho
  · exact .inr (hd_mem ho (by rw [List.length_append, hd_len]; omega))
  · exact .inl (List.mem_append_right _ ho)
theorem exit_hd0 {t t' : Tok} {T : Sto} {P : DP} {d : D} (h : ∀ n, d.under n = true) (q : P d (hd t' ++ T)) : atExit (hd t ++ T) P d (hd t' ++ T) := exit_hd (T' := []) (List.append_nil _).symm h q
/-- a def that draws nothing -/
theorem exit_pure {S T' S' : Sto} {P : DP} {d : D} (e : S' = S ++ T') (h : ∀ n, d.under n = true) (q : P d S) : atExit S P d S' := i_exit e rfl (fun o ho => .inl ho) (h _) q
theorem exit_pure0 {S : Sto} {P : DP} {d : D} (h : ∀ n, d.under n = true) (q : P d S) : atExit S P d S := exit_pure (T' := []) (List.append_nil _).symm h q
/-! ### programs -/
inductive Ar where
  | plus | less | times
def Ar.s : Ar → Str
  | .plus => "plus"
  | .less => "less"
  | .times => "times"
inductive Row where
  | num (b n : Int) | ar (w : Ar) (b c d : Int) | call (b f : Int) (bs : List Int) | skip (b m : Int) | say (b : Int) | rest | tell (b : Int)
def Row.e : Row → D
  | .num b n => .tup [.str "num", .int b, .int n]
  | .ar w b c d => .tup [.str w.s, .int b, .int c, .int d]
  | .call b f bs => .tup [.str "call", .int b, .int f, .tup (bs.map .int)]
  | .skip b m => .tup [.str "skip", .int b, .int m]
  | .say b => .tup [.str "say", .int b]
  | .rest => .tup [.str "rest"]
  | .tell b => .tup [.str "tell", .int b]
structure Func where
  many : Int
  rows : List Row
def Func.e (f : Func) : D := .tup [.int f.many, .tup (f.rows.map Row.e)]
def progE (p : List Func) : D := .tup (p.map Func.e)
def box (b : Int) : Prop := 0 ≤ b ∧ b < 8
/-- a row that can be: manyOf tells the functions' arguments, left how many rows are behind it -/
def Row.ok (manyOf : Int → Option Nat) (left : Int) : Row → Prop
  | .num b n => box b ∧ 0 ≤ n ∧ n < 1000
  | .ar _ b c d => box b ∧ box c ∧ box d
  | .call b f bs => box b ∧ manyOf f = some bs.length ∧ ∀ x ∈ bs, box x
  | .skip b m => box b ∧ 0 ≤ m ∧ m ≤ left
  | .say b => box b
  | .rest => True
  | .tell b => box b
def rowsOk (manyOf : Int → Option Nat) (rs : List Row) : Prop := ∀ (i : Nat) (r : Row), rs[i]? = some r → r.ok manyOf (rs.length - 1 - i)
structure Func.ok (manyOf : Int → Option Nat) (f : Func) : Prop where
  lo : 0 ≤ f.many
  hi : f.many ≤ 3
  len : f.rows.length ≤ 30
  rows : rowsOk manyOf f.rows
theorem row_under (n : Nat) (r : Row) : r.e.under n = true := by
  cases r with
  | call b f bs =>
    show (true && (true && (true && (unders n (bs.map .int) && true)))) = true
    rw [unders_ints]
    rfl
  | _ => rfl
theorem unders_map {α : Type} {f : α → D} (n : Nat) (h : ∀ a, (f a).under n = true) : ∀ xs : List α, unders n (xs.map f) = true
  | [] => rfl
  | x :: xs => by
    show ((f x).under n && unders n (xs.map f)) = true
    rw [h x, unders_map n h xs]
    rfl
theorem func_under (n : Nat) (f : Func) : f.e.under n = true := by
  show (true && (unders n (f.rows.map Row.e) && true)) = true
  rw [unders_map n (row_under n)]
  rfl
theorem prog_under (n : Nat) (p : List Func) : (progE p).under n = true := unders_map n (func_under n) p
def spNext : DSp := fun ds S P => ∃ t T k, ds = [.ref 2, .int k] ∧ S = hd t ++ T ∧ 0 < k ∧ k < 1073741824 ∧ ∀ r t', 0 ≤ r → r < k → P (.int r) (hd t' ++ T)
theorem i_draw {t : Tok} {T : Sto} {k : Int} {P : DP} (h0 : 0 < k) (h1 : k < 1073741824) (q : ∀ r t', 0 ≤ r → r < k → P (.int r) (hd t' ++ T)) : spNext [.ref 2, .int k] (hd t ++ T) P := ⟨t, T, k, rfl, rfl, h0, h1, q⟩
abbrev s_Lnext : Stmt := topS 43
abbrev N_Lnext : List Str := ["_law_h", "_law_many", "_law_at", "_law_cell"]
theorem sc_Lnext : FnScope N_Lnext ["_law_h", "_law_many"] (defScope s_Lnext) := ⟨rfl, rfl, rfl, by decide +kernel, rfl, by decide +kernel, by decide +kernel⟩
section
variable {P : Program} {w : World} {K : PySem.W.Frag} {mg : Str → Option Value} {base : Heap}
theorem ok_Lnext (at_ : At K mg "_law_next" s_Lnext ["_law_h", "_law_many"]) (mb : ∀ x, isB x = true → mg x = none) : Fn P w K mg base "_law_next" 1 ["_law_h", "_law_many"] spNext := by
  refine fn_at at_ fun f fd F => fn_d F sc_Lnext (fun ds S P h => ?_) ?_
  · obtain ⟨t, T, k, rfl, _⟩ := h
    rfl
  · rintro X W0 cdv A outer s H E rfl hr
    have hu := hr.units
    refine ⟨_, (dss_cons (ds_set (i := 2) (de_mod (de_ix (de_var (pv 0)) de_int (fun _ _ => rfl)) (de_b dc_max (da_cons de_int (da_cons (de_b dc_len (da_cons (de_ix (de_var (pv 0)) de_int (fun _ _ => rfl)) da_nil) (fun h => pe_callB call_len_seq (by rfl) (mb "len" rfl) PySem.boot_len h)) da_nil)) (fun h => pe_callB (call_max2 rfl) (by rfl) (mb "max" rfl) (by decide +kernel) h))) (fun h => ps_set sc_Lnext.nd rfl (by first | exact Or.inl rfl | exact Or.inr rfl) h))
      (dss_cons (ds_set (i := 3) (de_if (dt_cmp (op_neA hu) do_ne (de_ix (de_var (pv 0)) de_int (fun _ _ => rfl)) (de_pure (dn_lst da_nil)) (nomark _)) (de_ix (de_ix (de_var (pv 0)) de_int (fun _ _ => rfl)) (de_var (pv 2)) (fun _ _ => rfl)) de_int) (fun h => ps_set sc_Lnext.nd rfl (by first | exact Or.inl rfl | exact Or.inr rfl) h))
      (dss_cons (ds_if (dt_cmp op_ge do_ge (de_var (pv 3)) (de_pow de_int de_int) (nomark _)) (dss_cons (ds_asg (de_fdiv (de_var (pv 3)) (de_var (pv 1))) (dg_sub (de_ix (de_var (pv 0)) de_int (fun _ _ => rfl)) (de_var (pv 2)) (fun h1 h2 => pg_sub h1 h2 set_list)) (fun h1 h2 => ps_asg h1 h2))
      (dss_one (ds_ret (de_mod (de_var (pv 3)) (de_var (pv 1)))))) dss_nil)
      (dss_cons (ds_asg (de_mod (de_add (de_add (de_mul (de_ix (de_var (pv 0)) de_int (fun _ _ => rfl)) de_int) (de_mul (de_var (pv 3)) de_int)) de_int) de_int) (dg_sub (de_var (pv 0)) de_int (fun h1 h2 => pg_sub h1 h2 set_list)) (fun h1 h2 => ps_asg h1 h2))
      (dss_cons (ds_asg (de_add (de_ix (de_var (pv 0)) de_int (fun _ _ => rfl)) de_int) (dg_sub (de_var (pv 0)) de_int (fun h1 h2 => pg_sub h1 h2 set_list)) (fun h1 h2 => ps_asg h1 h2))
      (dss_one (ds_ret (de_mod (de_fdiv (de_ix (de_var (pv 0)) de_int (fun _ _ => rfl)) de_int) (de_var (pv 1)))))))))), ?_⟩
    rintro ds S P ⟨t, T, k, rfl, rfl, hk, hk2, post⟩
    walk_at "st"
    walk_at "d"
    refine i_eqNil (ns := t.cells) rfl ?_
    walk_at "d"
    walk_at "e"
    have fin : ∀ (c m' : Int) (hm : m' = (t.m * 48271 + c * 69621 + 11) % 2147483647), atExit (hd t ++ T) P (.int (m' / 7 % k)) (hd ⟨t.cells, m', t.n + 1⟩ ++ T) := fun c m' _ =>
      exit_hd0 (fun _ => rfl) (post _ _ (Int.emod_nonneg _ (by omega)) (Int.emod_lt_of_pos _ hk))
    by_cases hc : t.cells = []
    · refine ite_f (by rw [hc]; simp) ?_
      walk_at "d"
      walk_at "e"
      refine ite_f (by simp) ?_
      walk_at "d"
      exact fin 0 _ rfl
    · have hl : 0 < t.cells.length := List.length_pos_iff.mpr hc
      refine ite_t (by simp [hc]) ?_
      walk_at "d"
      have hat : ∃ a : Int, 0 ≤ a ∧ a < t.cells.length ∧ (t.n % if ((t.cells.map D.int).length : Int) > 1 then ((t.cells.map D.int).length : Int) else 1) = a := by
        refine ⟨_, ?_, ?_, rfl⟩
        · exact Int.emod_nonneg _ (by rw [List.length_map]; split <;> omega)
        · refine Int.lt_of_lt_of_le (Int.emod_lt_of_pos _ (by rw [List.length_map]; split <;> omega)) ?_
          rw [List.length_map]
          split <;> omega
      obtain ⟨a, a0, a1, ha⟩ := hat
      rw [ha]
      obtain ⟨c, hcell⟩ := at_get (ns := t.cells) a0 a1
      refine i_ix rfl hcell ?_
      walk_at "d"
      walk_at "e"
      by_cases hge : (10 : Int) ^ (18 : Int).toNat ≤ c
      · refine ite_t (decide_eq_true hge) ?_
        walk_at "d"
        have hp : ixN (t.cells.map D.int).length a = some a.toNat := by
          unfold ixN
          rw [if_pos a0, if_pos (by rw [List.length_map]; exact a1)]
        refine i_set rfl hp ?_
        walk_at "d"
        refine exit_hd (t' := ⟨t.cells.set a.toNat (c / k), t.m, t.n⟩) (T' := []) ?_ (fun _ => rfl) (post _ _ (Int.emod_nonneg _ (by omega)) (Int.emod_lt_of_pos _ hk))
        rw [List.append_nil]
        show _ = O.tab 465 "law.<locals>.<lambda>" :: O.lst ((t.cells.set a.toNat (c / k)).map D.int) :: _
        rw [List.map_set]
        rfl
      · refine ite_f (by simpa using hge) ?_
        walk_at "d"
        exact fin c _ rfl
end
abbrev s_Lplainrow : Stmt := topS 44
abbrev N_Lplainrow : List Str := ["_law_h", "_law_way", "_law_b", "_law_c", "_law_d"]
theorem sc_Lplainrow : FnScope N_Lplainrow ["_law_h"] (defScope s_Lplainrow) := ⟨rfl, rfl, rfl, by decide +kernel, rfl, by decide +kernel, by decide +kernel⟩
/-- a row without calls and skips -/
def Row.plain (r : Row) : Prop := (∀ mo l, r.ok mo l) ∧ (match r with | .call _ _ _ => False | .skip _ _ => False | _ => True)
def spPlain : DSp := fun ds S P => ∃ t T, ds = [.ref 2] ∧ S = hd t ++ T ∧ ∀ (r : Row) t', r.plain → P r.e (hd t' ++ T)
section
variable {P : Program} {w : World} {K : PySem.W.Frag} {mg : Str → Option Value} {base : Heap}
theorem ok_Lplainrow (at_ : At K mg "_law_plain_row" s_Lplainrow ["_law_h"]) (mb : ∀ x, isB x = true → mg x = none) (G_Lnext : Fn P w K mg base "_law_next" 1 ["_law_h", "_law_many"] spNext) : Fn P w K mg base "_law_plain_row" 2 ["_law_h"] spPlain := by
  refine fn_at at_ fun f fd F => fn_d F sc_Lplainrow (fun ds S P h => ?_) ?_
  · obtain ⟨t, T, rfl, _⟩ := h
    rfl
  · rintro X W0 cdv A outer s H E rfl hr
    have hu := hr.units
    refine ⟨_, (dss_cons (ds_asg (de_tup (da_cons (de_fn G_Lnext (hr.mono (by decide)) (by rfl) (da_cons (de_var (pv 0)) (da_cons de_int da_nil))) (da_cons (de_fn G_Lnext (hr.mono (by decide)) (by rfl) (da_cons (de_var (pv 0)) (da_cons de_int da_nil))) (da_cons (de_fn G_Lnext (hr.mono (by decide)) (by rfl) (da_cons (de_var (pv 0)) (da_cons de_int da_nil))) (da_cons (de_fn G_Lnext (hr.mono (by decide)) (by rfl) (da_cons (de_var (pv 0)) (da_cons de_int da_nil))) da_nil))))) (dg_tup (n := 4) rfl (dgs_cons (dg_name (pg_name (i := 1) sc_Lplainrow.nd rfl (by first | exact Or.inl rfl | exact Or.inr rfl))) (dgs_cons (dg_name (pg_name (i := 2) sc_Lplainrow.nd rfl (by first | exact Or.inl rfl | exact Or.inr rfl))) (dgs_cons (dg_name (pg_name (i := 3) sc_Lplainrow.nd rfl (by first | exact Or.inl rfl | exact Or.inr rfl))) (dgs_cons (dg_name (pg_name (i := 4) sc_Lplainrow.nd rfl (by first | exact Or.inl rfl | exact Or.inr rfl))) dgs_nil))))) (fun h1 h2 => ps_asg h1 h2))
      (dss_cons (ds_if (dt_cmp (op_eqA hu) do_eq (de_var (pv 1)) de_int (nomark _)) (dss_one (ds_ret (de_tup (da_cons de_str da_nil)))) dss_nil)
      (dss_cons (ds_if (dt_cmp op_lt do_lt (de_var (pv 1)) de_int (nomark _)) (dss_one (ds_ret (de_tup (da_cons de_str (da_cons (de_var (pv 2)) da_nil))))) dss_nil)
      (dss_cons (ds_if (dt_cmp op_lt do_lt (de_var (pv 1)) de_int (nomark _)) (dss_one (ds_ret (de_tup (da_cons de_str (da_cons (de_var (pv 2)) (da_cons (de_ix (de_pure (dn_lst (da_cons (de_fn G_Lnext (hr.mono (by decide)) (by rfl) (da_cons (de_var (pv 0)) (da_cons de_int da_nil))) (da_cons (de_fn G_Lnext (hr.mono (by decide)) (by rfl) (da_cons (de_var (pv 0)) (da_cons de_int da_nil))) (da_cons (de_sub de_int (de_fn G_Lnext (hr.mono (by decide)) (by rfl) (da_cons (de_var (pv 0)) (da_cons de_int da_nil)))) da_nil))))) (de_fn G_Lnext (hr.mono (by decide)) (by rfl) (da_cons (de_var (pv 0)) (da_cons de_int da_nil))) (fun _ _ => rfl)) da_nil)))))) dss_nil)
      (dss_one (ds_ret (de_tup (da_cons (de_ix (de_pure (dn_lst (da_cons de_str (da_cons de_str (da_cons de_str (da_cons de_str da_nil)))))) (de_sub (de_var (pv 1)) de_int) (fun _ _ => rfl)) (da_cons (de_var (pv 2)) (da_cons (de_var (pv 3)) (da_cons (de_ix (de_pure (dn_lst (da_cons (de_var (pv 4)) (da_cons (de_var (pv 4)) (da_cons (de_var (pv 4)) (da_cons (de_var (pv 3)) da_nil)))))) (de_fn G_Lnext (hr.mono (by decide)) (by rfl) (da_cons (de_var (pv 0)) (da_cons de_int da_nil))) (fun _ _ => rfl)) da_nil))))))))))), ?_⟩
    rintro ds S P ⟨t, T, rfl, rfl, post⟩
    walk_at "st"
    walk_at "d"
    refine i_draw (by decide) (by decide) fun way t1 w0 w1 => ?_
    walk_at "d"
    refine i_draw (by decide) (by decide) fun b t2 b0 b1 => ?_
    walk_at "d"
    refine i_draw (by decide) (by decide) fun c t3 c0 c1 => ?_
    walk_at "d"
    refine i_draw (by decide) (by decide) fun d t4 d0 d1 => ?_
    walk_at "d"
    walk_at "e"
    have bb : box b := ⟨b0, b1⟩
    refine ite2 (fun e => ?_) (fun e => ?_)
    · walk_at "d"
      exact exit_hd0 (row_under · .rest) (post .rest t4 ⟨fun _ _ => trivial, trivial⟩)
    · walk_at "d"
      refine ite2 (fun e => ?_) (fun e => ?_)
      · walk_at "d"
        exact exit_hd0 (row_under · (.say b)) (post (.say b) t4 ⟨fun _ _ => bb, trivial⟩)
      · walk_at "d"
        refine ite2 (fun e => ?_) (fun e => ?_)
        · walk_at "d"
          refine i_draw (by decide) (by decide) fun n1 t5 n10 n11 => ?_
          walk_at "d"
          refine i_draw (by decide) (by decide) fun n2 t6 n20 n21 => ?_
          walk_at "d"
          refine i_draw (by decide) (by decide) fun n3 t7 n30 n31 => ?_
          walk_at "d"
          refine i_draw (by decide) (by decide) fun j t8 j0 j1 => ?_
          have at_ : ∃ n : Int, L2.atI [D.int n1, D.int n2, D.int (999 - n3)] j = some (.int n) ∧ 0 ≤ n ∧ n < 1000 := by
            have : j = 0 ∨ j = 1 ∨ j = 2 := by omega
            rcases this with rfl | rfl | rfl
            · exact ⟨n1, rfl, by omega, by omega⟩
            · exact ⟨n2, rfl, by omega, by omega⟩
            · exact ⟨999 - n3, rfl, by omega, by omega⟩
          obtain ⟨n, hn, n0, n1'⟩ := at_
          refine i_ix rfl hn ?_
          walk_at "d"
          exact exit_hd0 (row_under · (.num b n)) (post (.num b n) t8 ⟨fun _ _ => ⟨bb, n0, n1'⟩, trivial⟩)
        · walk_at "d"
          have w5 : ¬ way < 5 := by simpa using e
          have at_ : ∃ w : Ar, L2.atI [D.str "plus", D.str "less", D.str "times", D.str "plus"] (way - 5) = some (.str w.s) := by
            have : way - 5 = 0 ∨ way - 5 = 1 ∨ way - 5 = 2 ∨ way - 5 = 3 := by omega
            rcases this with q | q | q | q <;> rw [q]
            · exact ⟨.plus, rfl⟩
            · exact ⟨.less, rfl⟩
            · exact ⟨.times, rfl⟩
            · exact ⟨.plus, rfl⟩
          obtain ⟨w', hw⟩ := at_
          refine i_ix rfl hw ?_
          walk_at "d"
          refine i_draw (by decide) (by decide) fun j t5 j0 j1 => ?_
          have at2 : ∃ n : Int, L2.atI [D.int d, D.int d, D.int d, D.int c] j = some (.int n) ∧ box n := by
            have : j = 0 ∨ j = 1 ∨ j = 2 ∨ j = 3 := by omega
            rcases this with rfl | rfl | rfl | rfl
            · exact ⟨d, rfl, d0, d1⟩
            · exact ⟨d, rfl, d0, d1⟩
            · exact ⟨d, rfl, d0, d1⟩
            · exact ⟨c, rfl, c0, c1⟩
          obtain ⟨n, hn, hb⟩ := at2
          refine i_ix rfl hn ?_
          walk_at "d"
          exact exit_hd0 (row_under · (.ar w' b c n)) (post (.ar w' b c n) t5 ⟨fun _ _ => ⟨bb, ⟨c0, c1⟩, hb⟩, trivial⟩)
end
abbrev s_Lcounter : Stmt := topS 45
abbrev N_Lcounter : List Str := ["_law_h", "_law_me", "_law_often", "_law_inner", "_law_turn", "_law_at", "_law_some"]
theorem sc_Lcounter : FnScope N_Lcounter ["_law_h", "_law_me", "_law_often"] (defScope s_Lcounter) := ⟨rfl, rfl, rfl, by decide +kernel, rfl, by decide +kernel, by decide +kernel⟩
/-- rows that can be whatever is behind them -/
def Row.free (mo : Int → Option Nat) (r : Row) : Prop := ∀ l, r.ok mo l
def spCounter : DSp := fun ds S P => ∃ t T me o, ds = [.ref 2, .int me, .int o] ∧ S = hd t ++ T ∧ 0 ≤ o ∧ o ≤ 2 ∧ ∀ (rs : List Row) t', rs.length ≤ 30 → (∀ mo, mo me = some 1 → rowsOk mo rs) → P (Func.e ⟨1, rs⟩) (hd t' ++ T)
theorem cutD_nat {α : Type} (xs : List α) (k : Nat) (h : k ≤ xs.length) : DL.cutD xs none (some (k : Int)) = xs.take k := by
  unfold DL.cutD
  rw [HT.sIx_none, HT.sIx_nat, Nat.min_eq_left h, List.drop_zero, Nat.sub_zero]
theorem cutD_from {α : Type} (xs : List α) (k : Nat) (h : k ≤ xs.length) : DL.cutD xs (some (k : Int)) none = xs.drop k := by
  unfold DL.cutD
  rw [HT.sIx_none, HT.sIx_nat, Nat.min_eq_left h]
  exact List.take_of_length_le (by rw [List.length_drop]; exact Nat.le_refl _)
theorem rowsOk_free {mo : Int → Option Nat} {m : Nat} {rs : List Row} (h : ∀ r ∈ rs, r.free mo) (hm : m ≤ rs.length) : rowsOk mo (.skip 0 m :: rs) := by
  intro i r hr
  cases i with
  | zero =>
    simp at hr
    subst hr
    exact ⟨⟨by decide, by decide⟩, by omega, by simp; omega⟩
  | succ i => exact h r (List.mem_of_getElem? (by simpa using hr)) _
section
variable {P : Program} {w : World} {K : PySem.W.Frag} {mg : Str → Option Value} {base : Heap}
theorem ok_Lcounter (at_ : At K mg "_law_counter" s_Lcounter ["_law_h", "_law_me", "_law_often"]) (mb : ∀ x, isB x = true → mg x = none) (G_Lnext : Fn P w K mg base "_law_next" 1 ["_law_h", "_law_many"] spNext) : Fn P w K mg base "_law_counter" 2 ["_law_h", "_law_me", "_law_often"] spCounter := by
  refine fn_at at_ fun f fd F => fn_d F sc_Lcounter (fun ds S P h => ?_) ?_
  · obtain ⟨t, T, me, o, rfl, _⟩ := h
    rfl
  · rintro X W0 cdv A outer s H E rfl hr
    have hu := hr.units
    refine ⟨_, (dss_cons (ds_set (i := 3) (de_pure (dn_add (de_pure (dn_lst (da_cons (de_tup (da_cons de_str (da_cons de_int (da_cons de_int da_nil)))) (da_cons (de_tup (da_cons de_str (da_cons de_int (da_cons de_int (da_cons de_int da_nil))))) da_nil)))) (de_pure (dn_rep (de_pure (dn_lst (da_cons (de_tup (da_cons de_str (da_cons de_int (da_cons (de_var (pv 1)) (da_cons (de_tup (da_cons de_int da_nil)) da_nil))))) (da_cons (de_tup (da_cons de_str (da_cons de_int (da_cons de_int (da_cons de_int da_nil))))) da_nil)))) (de_var (pv 2)))))) (fun h => ps_set sc_Lcounter.nd rfl (by first | exact Or.inl rfl | exact Or.inr rfl) h))
      (dss_cons (ds_for PassesOwn.never rfl (di_range1 (by rfl) (mb "range" rfl) (da_cons (de_fn G_Lnext (hr.mono (by decide)) (by rfl) (da_cons (de_var (pv 0)) (da_cons de_int da_nil))) da_nil)) (dg_name (pg_name (i := 4) sc_Lcounter.nd rfl (by first | exact Or.inl rfl | exact Or.inr rfl))) (dss_cons (ds_set (i := 5) (de_add de_int (de_fn G_Lnext (hr.mono (by decide)) (by rfl) (da_cons (de_var (pv 0)) (da_cons (de_sub (de_b dc_len (da_cons (de_var (pv 3)) da_nil) (fun h => pe_callB call_len_seq (by rfl) (mb "len" rfl) PySem.boot_len h)) de_int) da_nil)))) (fun h => ps_set sc_Lcounter.nd rfl (by first | exact Or.inl rfl | exact Or.inr rfl) h))
      (dss_one (ds_set (i := 3) (de_pure (dn_add (de_pure (dn_add (de_pure (dn_slice (de_var (pv 3)) do_none (do_some (de_var (pv 5))))) (de_pure (dn_lst (da_cons (de_ix (de_pure (dn_lst (da_cons (de_tup (da_cons de_str (da_cons de_int da_nil))) (da_cons (de_tup (da_cons de_str da_nil)) (da_cons (de_tup (da_cons de_str (da_cons de_int da_nil))) (da_cons (de_tup (da_cons de_str (da_cons de_int (da_cons de_int (da_cons de_int da_nil))))) da_nil)))))) (de_fn G_Lnext (hr.mono (by decide)) (by rfl) (da_cons (de_var (pv 0)) (da_cons de_int da_nil))) (fun _ _ => rfl)) da_nil))))) (de_pure (dn_slice (de_var (pv 3)) (do_some (de_var (pv 5))) do_none)))) (fun h => ps_set sc_Lcounter.nd rfl (by first | exact Or.inl rfl | exact Or.inr rfl) h)))))
      (dss_cons (ds_set (i := 6) (de_pure (dn_lst (da_cons (de_tup (da_cons de_str (da_cons de_int (da_cons de_int (da_cons de_int da_nil))))) (da_cons (de_tup (da_cons de_str (da_cons de_int da_nil))) da_nil)))) (fun h => ps_set sc_Lcounter.nd rfl (by first | exact Or.inl rfl | exact Or.inr rfl) h))
      (dss_one (ds_ret (de_tup (da_cons de_int (da_cons (de_b dc_tuple (da_cons (de_pure (dn_add (de_pure (dn_add (de_pure (dn_lst (da_cons (de_tup (da_cons de_str (da_cons de_int (da_cons (de_b dc_len (da_cons (de_var (pv 3)) da_nil) (fun h => pe_callB call_len_seq (by rfl) (mb "len" rfl) PySem.boot_len h)) da_nil)))) da_nil))) (de_var (pv 3)))) (de_pure (dn_slice (de_var (pv 6)) do_none (do_some (de_fn G_Lnext (hr.mono (by decide)) (by rfl) (da_cons (de_var (pv 0)) (da_cons de_int da_nil)))))))) da_nil) (fun h => pe_callTy call_tuple_of (by rfl) (mb "tuple" rfl) (by decide +kernel) h)) da_nil)))))))), ?_⟩
    rintro ds S P ⟨t, T, me, o, rfl, rfl, o0, o2, post⟩
    walk_at "st"
    walk_at "d"
    refine i_rep rfl (by omega) (by omega) (sz_le (by simp; omega)) ?_
    have hrs : ∃ rs : List Row, [Row.e (.num 7 1), Row.e (.ar .less 6 0 7)] ++ (List.replicate o.toNat [Row.e (.call 5 me [6]), Row.e (.ar .plus 4 4 5)]).flatten = rs.map Row.e ∧ 2 ≤ rs.length ∧ rs.length ≤ 6 ∧ ∀ mo, mo me = some 1 → ∀ r ∈ rs, r.free mo := by
      have bx : ∀ k : Int, 0 ≤ k → k < 8 → box k := fun k h1 h2 => ⟨h1, h2⟩
      have ok4 : ∀ mo : Int → Option Nat, mo me = some 1 → Row.free mo (.num 7 1) ∧ Row.free mo (.ar .less 6 0 7) ∧ Row.free mo (.call 5 me [6]) ∧ Row.free mo (.ar .plus 4 4 5) := fun mo hm =>
        ⟨fun _ => ⟨bx 7 (by decide) (by decide), by decide, by decide⟩, fun _ => ⟨bx 6 (by decide) (by decide), bx 0 (by decide) (by decide), bx 7 (by decide) (by decide)⟩,
          fun _ => ⟨bx 5 (by decide) (by decide), hm, fun x hx => by rw [List.mem_singleton.mp hx]; exact bx 6 (by decide) (by decide)⟩, fun _ => ⟨bx 4 (by decide) (by decide), bx 4 (by decide) (by decide), bx 5 (by decide) (by decide)⟩⟩
      have : o = 0 ∨ o = 1 ∨ o = 2 := by omega
      rcases this with rfl | rfl | rfl
      · refine ⟨[.num 7 1, .ar .less 6 0 7], rfl, by decide, by decide, fun mo hm r hr => ?_⟩
        obtain ⟨a1, a2, a3, a4⟩ := ok4 mo hm
        simp only [List.mem_cons, List.not_mem_nil, or_false] at hr
        rcases hr with rfl | rfl <;> assumption
      · refine ⟨[.num 7 1, .ar .less 6 0 7, .call 5 me [6], .ar .plus 4 4 5], rfl, by simp, by simp, fun mo hm r hr => ?_⟩
        obtain ⟨a1, a2, a3, a4⟩ := ok4 mo hm
        simp only [List.mem_cons, List.not_mem_nil, or_false] at hr
        rcases hr with rfl | rfl | rfl | rfl <;> assumption
      · refine ⟨[.num 7 1, .ar .less 6 0 7, .call 5 me [6], .ar .plus 4 4 5, .call 5 me [6], .ar .plus 4 4 5], rfl, by simp, by simp, fun mo hm r hr => ?_⟩
        obtain ⟨a1, a2, a3, a4⟩ := ok4 mo hm
        simp only [List.mem_cons, List.not_mem_nil, or_false] at hr
        rcases hr with rfl | rfl | rfl | rfl | rfl | rfl <;> assumption
    obtain ⟨rs0, e0, l0, l1, f0⟩ := hrs
    refine i_cat (xs := [Row.e (.num 7 1), Row.e (.ar .less 6 0 7)]) (ys := (List.replicate o.toNat [Row.e (.call 5 me [6]), Row.e (.ar .plus 4 4 5)]).flatten) rfl rfl (sz_le (by
      have := congrArg List.length e0
      rw [List.length_append, List.length_map] at this
      omega)) ?_
    rw [e0]
    walk_at "d"
    refine i_draw (by decide) (by decide) fun n t1 n0 n1 => ?_
    walk_at "d"
    refine i_rg1 (by omega) (by omega) ?_
    walk_at "e"
    refine ⟨fun i env S => ∃ (rs : List Row) (t' : Tok) (x4 x5 : Option D), env = [some (.ref 2), some (.int me), some (.int o), some (.lst (rs.map Row.e)), x4, x5, none] ∧ S = hd t' ++ T ∧ 2 ≤ rs.length ∧ rs.length ≤ 6 + i ∧ ∀ mo, mo me = some 1 → ∀ r ∈ rs, r.free mo,
      ⟨rs0, t1, none, none, rfl, rfl, l0, by omega, f0⟩, fun _ _ _ _ _ => trivial, ?_, ?_⟩
    · rintro i x env S hx ⟨rs, t', x4, x5, rfl, rfl, g1, g2, g3⟩
      have hi := (rangeD_get hx).1
      walk_at "d"
      walk_at "e"
      have hl : ((rs.map Row.e).length : Int) = rs.length := by rw [List.length_map]
      refine i_draw (by omega) (by omega) fun k t2 k0 k1 => ?_
      walk_at "d"
      walk_at "e"
      obtain ⟨m, hm⟩ : ∃ m : Nat, 2 + k = m := ⟨(2 + k).toNat, by omega⟩
      have hm2 : m ≤ (rs.map Row.e).length := by omega
      rw [hm, cutD_nat _ m hm2]
      refine i_draw (by decide) (by decide) fun j t3 j0 j1 => ?_
      have at2 : ∃ r : Row, L2.atI [Row.e (.say 0), Row.e .rest, Row.e (.say 4), Row.e (.ar .times 3 5 0)] j = some r.e ∧ ∀ mo, r.free mo := by
        have : j = 0 ∨ j = 1 ∨ j = 2 ∨ j = 3 := by omega
        rcases this with rfl | rfl | rfl | rfl
        · exact ⟨_, rfl, fun _ _ => ⟨by decide, by decide⟩⟩
        · exact ⟨_, rfl, fun _ _ => trivial⟩
        · exact ⟨_, rfl, fun _ _ => ⟨by decide, by decide⟩⟩
        · exact ⟨_, rfl, fun _ _ => ⟨⟨by decide, by decide⟩, ⟨by decide, by decide⟩, ⟨by decide, by decide⟩⟩⟩
      obtain ⟨r, hr', fr⟩ := at2
      refine i_ix (xs := [Row.e (.say 0), Row.e .rest, Row.e (.say 4), Row.e (.ar .times 3 5 0)]) rfl hr' ?_
      walk_at "d"
      refine i_cat rfl rfl (sz_le (by rw [List.length_take, List.length_map]; simp; omega)) ?_
      walk_at "d"
      rw [cutD_from _ m hm2]
      refine i_cat rfl rfl (sz_le (by rw [List.length_append, List.length_take, List.length_drop, List.length_map]; simp; omega)) ?_
      walk_at "d"
      walk_at "e"
      refine ⟨rs.take m ++ [r] ++ rs.drop m, t3, some x, some (.int m), ?_, rfl, ?_, ?_, ?_⟩
      · rw [List.map_append, List.map_append, List.map_take, List.map_drop]
        rfl
      · rw [List.length_append, List.length_append, List.length_take, List.length_drop]
        simp
        omega
      · rw [List.length_append, List.length_append, List.length_take, List.length_drop]
        simp
        omega
      · intro mo hmo q hq
        rcases List.mem_append.mp hq with hq | hq
        · rcases List.mem_append.mp hq with hq | hq
          · exact g3 mo hmo q (List.mem_of_mem_take hq)
          · rw [List.mem_singleton.mp hq]
            exact fr mo
        · exact g3 mo hmo q (List.mem_of_mem_drop hq)
    · rintro env S ⟨rs, t', x4, x5, rfl, rfl, g1, g2, g3⟩
      rw [rangeD_len] at g2
      walk_at "d"
      walk_at "e"
      have hl : (rs.map Row.e).length = rs.length := by rw [List.length_map]
      refine i_cat (xs := [Row.e (.skip 0 rs.length)]) (by rw [hl]; rfl) rfl (sz_le (by simp; omega)) ?_
      walk_at "d"
      refine i_draw (by decide) (by decide) fun k t2 k0 k1 => ?_
      walk_at "d"
      have cut2 : ∃ m : Nat, m ≤ 2 ∧ DL.cutD [Row.e (.ar .plus 4 4 0), Row.e (.tell 4)] none (some k) = ([Row.ar .plus 4 4 0, Row.tell 4].take m).map Row.e := by
        obtain ⟨m, rfl⟩ : ∃ m : Nat, k = m := ⟨k.toNat, by omega⟩
        exact ⟨m, by omega, by rw [cutD_nat _ m (by simp; omega), List.map_take]; rfl⟩
      obtain ⟨m, hm, ec⟩ := cut2
      refine i_cat (ys := ([Row.ar .plus 4 4 0, Row.tell 4].take m).map Row.e) rfl (by rw [← ec]; rfl) (sz_le (by simp; omega)) ?_
      walk_at "d"
      have er : [Row.e (.skip 0 rs.length)] ++ rs.map Row.e ++ ([Row.ar .plus 4 4 0, Row.tell 4].take m).map Row.e = (Row.skip 0 rs.length :: (rs ++ [Row.ar .plus 4 4 0, Row.tell 4].take m)).map Row.e := by simp
      rw [er]
      refine exit_hd0 (func_under · ⟨1, _⟩) (post (Row.skip 0 rs.length :: (rs ++ [Row.ar .plus 4 4 0, Row.tell 4].take m)) t2 (by simp; omega) fun mo hmo => rowsOk_free (fun r hr => ?_) (by simp))
      rcases List.mem_append.mp hr with hr | hr
      · exact g3 mo hmo r hr
      · have hr := List.mem_of_mem_take hr
        simp only [List.mem_cons, List.not_mem_nil, or_false] at hr
        rcases hr with rfl | rfl
        · exact fun _ => ⟨⟨by decide, by decide⟩, ⟨by decide, by decide⟩, ⟨by decide, by decide⟩⟩
        · exact fun _ => ⟨by decide, by decide⟩
end
abbrev s_Ldrawn : Stmt := topS 46
abbrev N_Ldrawn : List Str := ["_law_h", "_law_me", "_law_counts", "_law_rows", "_law_k", "_law_way", "_law_f", "_law_x", "_law_boxes", "_law_at", "_law_found", "_law_place", "_law_row_here"]
theorem sc_Ldrawn : FnScope N_Ldrawn ["_law_h", "_law_me", "_law_counts"] (defScope s_Ldrawn) := ⟨rfl, rfl, rfl, by decide +kernel, rfl, by decide +kernel, by decide +kernel⟩
def moOf (cs : List Int) (f : Int) : Option Nat := if 0 ≤ f then (cs[f.toNat]?).map Int.toNat else none
/-- what the last loop does with a row: at place i of n -/
def clamp (n i : Nat) : Row → Row
  | .skip b m => .skip b (if ((n : Int) - 1 - i) < m then (n : Int) - 1 - i else m)
  | r => r
/-- a row ahead of the cutting of its skip -/
def Row.pre (mo : Int → Option Nat) : Row → Prop
  | .skip b m => box b ∧ 0 ≤ m
  | r => ∀ l, r.ok mo l
def spDrawn : DSp := fun ds S P => ∃ t T me cs c, ds = [.ref 2, .int me, .lst (cs.map .int)] ∧ S = hd t ++ T ∧ 0 ≤ me ∧ cs.length ≤ 8 ∧ (∀ c ∈ cs, 0 ≤ c ∧ c ≤ 3) ∧ cs[me.toNat]? = some c ∧ ∀ (rs : List Row) t', rs.length ≤ 30 → rowsOk (moOf cs) rs → P (Func.e ⟨c, rs⟩) (hd t' ++ T)
theorem clamp_ok {mo : Int → Option Nat} {n i : Nat} {r : Row} (h : r.pre mo) (hi : i < n) : (clamp n i r).ok mo ((n : Int) - 1 - i) := by
  cases r with
  | skip b m =>
    obtain ⟨h1, h2⟩ := h
    refine ⟨h1, ?_, ?_⟩
    · show 0 ≤ if ((n : Int) - 1 - i) < m then (n : Int) - 1 - i else m
      split <;> omega
    · show (if ((n : Int) - 1 - i) < m then (n : Int) - 1 - i else m) ≤ _
      split <;> omega
  | _ => exact h _
def clamps (n : Nat) : Nat → List Row → List Row
  | _, [] => []
  | i, r :: rs => clamp n i r :: clamps n (i + 1) rs
theorem clamps_len (n : Nat) : ∀ (i : Nat) (rs : List Row), (clamps n i rs).length = rs.length
  | _, [] => rfl
  | i, _ :: rs => congrArg (· + 1) (clamps_len n (i + 1) rs)
theorem clamps_get (n : Nat) : ∀ (k : Nat) (rs : List Row) (i : Nat), (clamps n k rs)[i]? = (rs[i]?).map (clamp n (k + i))
  | _, [], i => by simp [clamps]
  | k, r :: rs, 0 => by simp [clamps]
  | k, r :: rs, i + 1 => by
    have := clamps_get n (k + 1) rs i
    simp only [clamps, List.getElem?_cons_succ]
    rw [this]
    congr 2
    omega
theorem clamps_ok {mo : Int → Option Nat} {rs : List Row} (h : ∀ r ∈ rs, r.pre mo) : rowsOk mo (clamps rs.length 0 rs) := by
  intro i r hr
  rw [clamps_get] at hr
  cases e : rs[i]? with
  | none => rw [e] at hr; cases hr
  | some q =>
    rw [e] at hr
    cases hr
    rw [clamps_len, Nat.zero_add]
    exact clamp_ok (h q (List.mem_of_getElem? e)) (List.getElem?_eq_some_iff.mp e).1
theorem clamps_snoc (n : Nat) : ∀ (k : Nat) (rs : List Row) (i : Nat) (r : Row), rs[i]? = some r → (clamps n k rs).take (i + 1) = (clamps n k rs).take i ++ [clamp n (k + i) r] := fun k rs i r h => by
  rw [List.take_add_one, clamps_get, h]
  rfl
section
variable {t : Tok} {T G : Sto} {g : Nat} {o : O}
theorem lst_ref {S : Sto} {m : Nat} {xs : List D} (h : S[m]? = some (.lst xs)) : lstOf S (.ref m) = some xs := by simp [lstOf, h]
theorem get_g : (hd t ++ (T ++ G))[3 + T.length + g]? = G[g]? := by
  rw [List.getElem?_append_right (by simp [hd]; omega), List.getElem?_append_right (by simp [hd]; omega)]
  congr 1
  simp [hd]
  omega
theorem set_g : (hd t ++ (T ++ G)).set (3 + T.length + g) o = hd t ++ (T ++ G.set g o) := by
  rw [List.set_append_right _ _ (by simp [hd]; omega), List.set_append_right _ _ (by simp [hd]; omega)]
  congr 3
  simp [hd]
  omega
theorem len_g : (hd t ++ (T ++ G)).length = 3 + T.length + G.length := by simp [hd]; omega
theorem app_g : (hd t ++ (T ++ G)) ++ [o] = hd t ++ (T ++ (G ++ [o])) := by simp
end
section
variable {P : Program} {w : World} {K : PySem.W.Frag} {mg : Str → Option Value} {base : Heap}
theorem ok_Ldrawn (at_ : At K mg "_law_drawn" s_Ldrawn ["_law_h", "_law_me", "_law_counts"]) (mb : ∀ x, isB x = true → mg x = none) (G_Lnext : Fn P w K mg base "_law_next" 1 ["_law_h", "_law_many"] spNext) (G_Lplainrow : Fn P w K mg base "_law_plain_row" 2 ["_law_h"] spPlain) :
    Fn P w K mg base "_law_drawn" 3 ["_law_h", "_law_me", "_law_counts"] spDrawn := by
  refine fn_at at_ fun f fd F => fn_d F sc_Ldrawn (fun ds S P h => ?_) ?_
  · obtain ⟨t, T, me, cs, c, rfl, _⟩ := h
    rfl
  · rintro X W0 cdv A outer s H E rfl hr
    have hu := hr.units
    refine ⟨_, (dss_cons (ds_set (i := 3) (de_new (dn_lst da_nil)) (fun h => ps_set sc_Ldrawn.nd rfl (by first | exact Or.inl rfl | exact Or.inr rfl) h))
      (dss_cons (ds_for PassesOwn.never rfl (di_range1 (by rfl) (mb "range" rfl) (da_cons (de_fn G_Lnext (hr.mono (by decide)) (by rfl) (da_cons (de_var (pv 0)) (da_cons (de_ix (de_pure (dn_lst (da_cons de_int (da_cons de_int (da_cons de_int (da_cons de_int da_nil)))))) (de_fn G_Lnext (hr.mono (by decide)) (by rfl) (da_cons (de_var (pv 0)) (da_cons de_int da_nil))) (fun _ _ => rfl)) da_nil))) da_nil)) (dg_name (pg_name (i := 4) sc_Ldrawn.nd rfl (by first | exact Or.inl rfl | exact Or.inr rfl))) (dss_cons (ds_set (i := 5) (de_fn G_Lnext (hr.mono (by decide)) (by rfl) (da_cons (de_var (pv 0)) (da_cons de_int da_nil))) (fun h => ps_set sc_Ldrawn.nd rfl (by first | exact Or.inl rfl | exact Or.inr rfl) h))
      (dss_one (ds_if (dt_w (dw_and (dt_cmp (op_eqA hu) do_eq (de_var (pv 5)) de_int (nomark _)) (dw_and1 (dt_cmp op_lt do_lt (de_add (de_var (pv 1)) de_int) (de_b dc_len (da_cons (de_var (pv 2)) da_nil) (fun h => pe_callB call_len_seq (by rfl) (mb "len" rfl) PySem.boot_len h)) (nomark _))))) (dss_cons (ds_par (i := 6) (j := 7) (da_cons (de_add (de_add (de_var (pv 1)) de_int) (de_fn G_Lnext (hr.mono (by decide)) (by rfl) (da_cons (de_var (pv 0)) (da_cons (de_sub (de_sub (de_b dc_len (da_cons (de_var (pv 2)) da_nil) (fun h => pe_callB call_len_seq (by rfl) (mb "len" rfl) PySem.boot_len h)) (de_var (pv 1))) de_int) da_nil)))) (da_cons (de_fn G_Lnext (hr.mono (by decide)) (by rfl) (da_cons (de_var (pv 0)) (da_cons de_int da_nil))) da_nil)) (fun h => ps_par (by rfl) sc_Ldrawn.nd rfl rfl (by decide) rfl rfl h (by rfl)))
      (dss_cons (ds_set (i := 8) (de_tup (da_cons (de_var (pv 7)) (da_cons (de_fn G_Lnext (hr.mono (by decide)) (by rfl) (da_cons (de_var (pv 0)) (da_cons de_int da_nil))) (da_cons (de_fn G_Lnext (hr.mono (by decide)) (by rfl) (da_cons (de_var (pv 0)) (da_cons de_int da_nil))) da_nil)))) (fun h => ps_set sc_Ldrawn.nd rfl (by first | exact Or.inl rfl | exact Or.inr rfl) h))
      (dss_one (ds_set (i := 3) (de_new (dn_add (de_var (pv 3)) (de_pure (dn_lst (da_cons (de_tup (da_cons de_str (da_cons (de_var (pv 7)) (da_cons (de_fn G_Lnext (hr.mono (by decide)) (by rfl) (da_cons (de_var (pv 0)) (da_cons de_int da_nil))) da_nil)))) (da_cons (de_tup (da_cons de_str (da_cons (de_fn G_Lnext (hr.mono (by decide)) (by rfl) (da_cons (de_var (pv 0)) (da_cons de_int da_nil))) (da_cons (de_var (pv 6)) (da_cons (de_sliceT (de_var (pv 8)) do_none (do_some (de_ix (de_var (pv 2)) (de_var (pv 6)) (fun _ _ => rfl)))) da_nil))))) da_nil)))))) (fun h => ps_set sc_Ldrawn.nd rfl (by first | exact Or.inl rfl | exact Or.inr rfl) h))))) (dss_one (ds_if (dt_cmp (op_eqA hu) do_eq (de_var (pv 5)) de_int (nomark _)) (dss_one (ds_expr (de_mt dm_append (de_var (pv 3)) (da_cons (de_tup (da_cons de_str (da_cons (de_fn G_Lnext (hr.mono (by decide)) (by rfl) (da_cons (de_var (pv 0)) (da_cons de_int da_nil))) (da_cons (de_fn G_Lnext (hr.mono (by decide)) (by rfl) (da_cons (de_var (pv 0)) (da_cons (de_ix (de_pure (dn_lst (da_cons de_int (da_cons de_int (da_cons de_int da_nil))))) (de_fn G_Lnext (hr.mono (by decide)) (by rfl) (da_cons (de_var (pv 0)) (da_cons de_int da_nil))) (fun _ _ => rfl)) da_nil))) da_nil)))) da_nil) (fun h1 h2 => pe_bm PySem.F.plainAttrs_list PySem.F.slot_list_append PySem.F.type_list_append mt_append h1 h2)))) (dss_one (ds_expr (de_mt dm_append (de_var (pv 3)) (da_cons (de_fn G_Lplainrow (hr.mono (by decide)) (by rfl) (da_cons (de_var (pv 0)) da_nil)) da_nil) (fun h1 h2 => pe_bm PySem.F.plainAttrs_list PySem.F.slot_list_append PySem.F.type_list_append mt_append h1 h2))))))))))
      (dss_cons (ds_set (i := 3) (de_pure (dn_slice (de_var (pv 3)) do_none (do_some de_int))) (fun h => ps_set sc_Ldrawn.nd rfl (by first | exact Or.inl rfl | exact Or.inr rfl) h))
      (dss_cut (ds_if (dt_cmp (op_eqA hu) do_eq (de_fn G_Lnext (hr.mono (by decide)) (by rfl) (da_cons (de_var (pv 0)) (da_cons de_int da_nil))) de_int (nomark _)) (dss_cons (ds_set (i := 9) (de_fn G_Lnext (hr.mono (by decide)) (by rfl) (da_cons (de_var (pv 0)) (da_cons (de_add (de_b dc_len (da_cons (de_var (pv 3)) da_nil) (fun h => pe_callB call_len_seq (by rfl) (mb "len" rfl) PySem.boot_len h)) de_int) da_nil))) (fun h => ps_set sc_Ldrawn.nd rfl (by first | exact Or.inl rfl | exact Or.inr rfl) h))
      (dss_one (ds_set (i := 3) (de_pure (dn_add (de_pure (dn_add (de_pure (dn_slice (de_var (pv 3)) do_none (do_some (de_var (pv 9))))) (de_pure (dn_lst (da_cons (de_tup (da_cons de_str (da_cons (de_fn G_Lnext (hr.mono (by decide)) (by rfl) (da_cons (de_var (pv 0)) (da_cons de_int da_nil))) da_nil))) da_nil))))) (de_pure (dn_slice (de_var (pv 3)) (do_some (de_var (pv 9))) do_none)))) (fun h => ps_set sc_Ldrawn.nd rfl (by first | exact Or.inl rfl | exact Or.inr rfl) h)))) dss_nil)
      (dss_cons (ds_set (i := 10) (de_new (dn_lst da_nil)) (fun h => ps_set sc_Ldrawn.nd rfl (by first | exact Or.inl rfl | exact Or.inr rfl) h))
      (dss_cons (ds_for PassesOwn.never rfl (di_enum (by rfl) (mb "enumerate" rfl) (da_cons (de_var (pv 3)) da_nil)) (dg_tup (n := 2) rfl (dgs_cons (dg_name (pg_name (i := 11) sc_Ldrawn.nd rfl (by first | exact Or.inl rfl | exact Or.inr rfl))) (dgs_cons (dg_name (pg_name (i := 12) sc_Ldrawn.nd rfl (by first | exact Or.inl rfl | exact Or.inr rfl))) dgs_nil))) (dss_one (ds_expr (de_mt dm_append (de_var (pv 10)) (da_cons (de_if (dt_cmp (op_eqA hu) do_eq (de_ix (de_var (pv 12)) de_int (fun _ _ => rfl)) de_str (nomark _)) (de_add (de_sliceT (de_var (pv 12)) do_none (do_some de_int)) (de_tup (da_cons (de_b dc_min (da_cons (de_ix (de_var (pv 12)) de_int (fun _ _ => rfl)) (da_cons (de_sub (de_sub (de_b dc_len (da_cons (de_var (pv 3)) da_nil) (fun h => pe_callB call_len_seq (by rfl) (mb "len" rfl) PySem.boot_len h)) de_int) (de_var (pv 11))) da_nil)) (fun h => pe_callB (call_min2 rfl) (by rfl) (mb "min" rfl) (by decide +kernel) h)) da_nil))) (de_var (pv 12))) da_nil) (fun h1 h2 => pe_bm PySem.F.plainAttrs_list PySem.F.slot_list_append PySem.F.type_list_append mt_append h1 h2)))))
      (dss_one (ds_ret (de_tup (da_cons (de_ix (de_var (pv 2)) (de_var (pv 1)) (fun _ _ => rfl)) (da_cons (de_b dc_tuple (da_cons (de_var (pv 10)) da_nil) (fun h => pe_callTy call_tuple_of (by rfl) (mb "tuple" rfl) (by decide +kernel) h)) da_nil))))))))))), ?_⟩
    rintro ds S P ⟨t, T, me, cs, c, rfl, rfl, m0, c8, c3, hme, post⟩
    have hml : me.toNat < cs.length := (List.getElem?_eq_some_iff.mp hme).1
    have ecl : ((cs.map D.int).length : Int) = cs.length := by rw [List.length_map]
    walk_at "st"
    walk_at "d"
    walk_at "e"
    rw [show (hd t ++ T ++ [O.lst []] : Sto) = hd t ++ (T ++ [O.lst []]) by simp, show (hd t ++ T).length = 3 + T.length + 0 by simp [hd]; omega]
    refine i_draw (by decide) (by decide) fun j t1 j0 j1 => ?_
    have at1 : ∃ n : Int, L2.atI [D.int 4, D.int 10, D.int 19, D.int 31] j = some (.int n) ∧ 0 < n ∧ n ≤ 31 := by
      have : j = 0 ∨ j = 1 ∨ j = 2 ∨ j = 3 := by omega
      rcases this with rfl | rfl | rfl | rfl
      · exact ⟨4, rfl, by decide, by decide⟩
      · exact ⟨10, rfl, by decide, by decide⟩
      · exact ⟨19, rfl, by decide, by decide⟩
      · exact ⟨31, rfl, by decide, by decide⟩
    obtain ⟨n, hn, n0, n1⟩ := at1
    refine i_ix rfl hn ?_
    walk_at "d"
    refine i_draw n0 (by omega) fun r t2 r0 r1 => ?_
    walk_at "d"
    refine i_rg1 (by omega) (by omega) ?_
    refine ⟨fun i env S => ∃ (rs : List Row) (t' : Tok) (G : Sto) (g : Nat) (y4 y5 y6 y7 y8 : Option D), env = [some (.ref 2), some (.int me), some (.lst (cs.map .int)), some (.ref (3 + T.length + g)), y4, y5, y6, y7, y8, none, none, none, none] ∧ S = hd t' ++ (T ++ G) ∧ G[g]? = some (.lst (rs.map Row.e)) ∧ rs.length ≤ 2 * i ∧ ∀ r ∈ rs, r.pre (moOf cs),
      ⟨[], t2, [O.lst []], 0, none, none, none, none, none, rfl, rfl, rfl, by simp, fun _ h => nomatch h⟩, fun _ _ _ _ _ => trivial, ?_, ?_⟩
    · rintro i x env S hx ⟨rs, t3, G, g, y4, y5, y6, y7, y8, rfl, rfl, hG, hl, hp⟩
      have hi := (rangeD_get hx).1
      have hL : ∀ t' : Tok, (hd t' ++ (T ++ G))[3 + T.length + g]? = some (O.lst (rs.map Row.e)) := fun t' => get_g.trans hG
      have grow : ∀ (t' : Tok) (q : Row) (z4 z5 z6 z7 z8 : Option D), q.pre (moOf cs) → mAppend (.ref (3 + T.length + g)) [q.e] (hd t' ++ (T ++ G)) fun _ S1 => ∃ (rs : List Row) (t'' : Tok) (G : Sto) (g' : Nat) (y4 y5 y6 y7 y8 : Option D),
          [some (D.ref 2), some (.int me), some (.lst (cs.map .int)), some (.ref (3 + T.length + g)), z4, z5, z6, z7, z8, none, none, none, none] = [some (D.ref 2), some (.int me), some (.lst (cs.map .int)), some (.ref (3 + T.length + g')), y4, y5, y6, y7, y8, none, none, none, none] ∧ S1 = hd t'' ++ (T ++ G) ∧ G[g']? = some (.lst (rs.map Row.e)) ∧ rs.length ≤ 2 * (i + 1) ∧ ∀ r ∈ rs, r.pre (moOf cs) := fun t' q z4 z5 z6 z7 z8 hq => by
        refine i_append (hL _) (sz_lt (by rw [List.length_map]; omega)) ?_
        rw [set_g]
        refine ⟨rs ++ [q], t', _, g, z4, z5, z6, z7, z8, rfl, rfl, ?_, by simp; omega, fun r' hr' => ?_⟩
        · rw [List.getElem?_set_self (List.getElem?_eq_some_iff.mp hG).1, List.map_append]
          rfl
        · rcases List.mem_append.mp hr' with hr' | hr'
          · exact hp r' hr'
          · rw [List.mem_singleton.mp hr']
            exact hq
      walk_at "d"
      walk_at "e"
      refine i_draw (by decide) (by decide) fun way t4 w0 w1 => ?_
      walk_at "d"
      walk_at "e"
      refine ite2 (fun e0 => ?_) (fun e0 => ?_)
      · walk_at "d"
        refine ite2 (fun e1 => ?_) (fun e1 => ?_)
        · have e1 : me + 1 < cs.length := by rw [← ecl]; exact of_decide_eq_true e1
          walk_at "d"
          refine i_draw (by omega) (by omega) fun k t5 k0 k1 => ?_
          walk_at "d"
          refine i_draw (by decide) (by decide) fun x1 t6 x10 x11 => ?_
          walk_at "d"
          walk_at "e"
          refine i_draw (by decide) (by decide) fun x2 t7 x20 x21 => ?_
          walk_at "d"
          refine i_draw (by decide) (by decide) fun x3 t8 x30 x31 => ?_
          walk_at "d"
          walk_at "e"
          refine i_draw (by decide) (by decide) fun n7 t9 n70 n71 => ?_
          walk_at "d"
          refine i_draw (by decide) (by decide) fun b t10 b0 b1 => ?_
          walk_at "d"
          have hf : (me + 1 + k).toNat < cs.length := by omega
          have atf : L2.atI (cs.map D.int) (me + 1 + k) = some (.int cs[(me + 1 + k).toNat]) := by
            have e : (me + 1 + k) = ((me + 1 + k).toNat : Int) := by omega
            conv => lhs; rw [e]
            refine atI_nat ?_
            rw [List.getElem?_map, List.getElem?_eq_getElem hf]
            rfl
          obtain ⟨cf0, cf3⟩ := c3 _ (List.getElem_mem hf)
          have hmo : moOf cs (me + 1 + k) = some cs[(me + 1 + k).toNat].toNat := by
            unfold moOf
            rw [if_pos (by omega), List.getElem?_eq_getElem hf]
            rfl
          revert atf hmo cf0 cf3
          generalize cs[(me + 1 + k).toNat] = cf
          intro atf cf0 cf3 hmo
          refine i_ix rfl atf ?_
          walk_at "d"
          obtain ⟨m, rfl⟩ : ∃ m : Nat, cf = m := ⟨cf.toNat, by omega⟩
          rw [cutD_nat _ m (by simp; omega)]
          refine i_cat (lst_ref (hL _)) rfl (sz_le (by simp; omega)) ?_
          walk_at "d"
          walk_at "e"
          rw [len_g, app_g]
          refine ⟨rs ++ [.num x1 n7, .call b (me + 1 + k) ([x1, x2, x3].take m)], t10, _, G.length, _, _, _, _, _, rfl, rfl, ?_, by simp; omega, fun r' hr' => ?_⟩
          · rw [List.getElem?_append_right (Nat.le_refl _), Nat.sub_self, List.map_append]
            simp [Row.e, List.map_take]
          · rcases List.mem_append.mp hr' with hr' | hr'
            · exact hp r' hr'
            · simp only [List.mem_cons, List.not_mem_nil, or_false] at hr'
              rcases hr' with rfl | rfl
              · exact fun _ => ⟨⟨x10, x11⟩, by omega, by omega⟩
              · refine fun _ => ⟨⟨b0, b1⟩, ?_, fun y hy => ?_⟩
                · rw [hmo, List.length_take]
                  simp
                  omega
                · have hy := List.mem_of_mem_take hy
                  simp only [List.mem_cons, List.not_mem_nil, or_false] at hy
                  rcases hy with rfl | rfl | rfl
                  · exact ⟨x10, x11⟩
                  · exact ⟨x20, x21⟩
                  · exact ⟨x30, x31⟩
        · walk_at "d"
          refine ite2 (fun e1 => ?_) (fun e1 => ?_)
          · walk_at "d"
            refine i_mtx (hL _) ?_
            walk_at "d"
            refine i_draw (by decide) (by decide) fun b t5 b0 b1 => ?_
            walk_at "d"
            refine i_draw (by decide) (by decide) fun j t6 j0 j1 => ?_
            have at2 : ∃ n : Int, L2.atI [D.int 3, D.int 3, D.int 25] j = some (.int n) ∧ 0 < n ∧ n ≤ 25 := by
              have : j = 0 ∨ j = 1 ∨ j = 2 := by omega
              rcases this with rfl | rfl | rfl
              · exact ⟨3, rfl, by decide, by decide⟩
              · exact ⟨3, rfl, by decide, by decide⟩
              · exact ⟨25, rfl, by decide, by decide⟩
            obtain ⟨n', hn', n0', n1'⟩ := at2
            refine i_ix rfl hn' ?_
            walk_at "d"
            refine i_draw n0' (by omega) fun m t7 m0' m1 => ?_
            walk_at "d"
            exact grow t7 (.skip b m) _ _ _ _ _ ⟨⟨b0, b1⟩, m0'⟩
          · walk_at "d"
            refine i_mtx (hL _) ?_
            walk_at "d"
            refine ⟨t4, T ++ G, rfl, rfl, fun q t5 hq => ?_⟩
            walk_at "d"
            refine grow t5 q _ _ _ _ _ ?_
            obtain ⟨h1, h2⟩ := hq
            cases q <;> first | exact h2.elim | exact h1 _
      · refine ite_f Bool.false_ne_true ?_
        walk_at "d"
        refine ite2 (fun e1 => ?_) (fun e1 => ?_)
        · walk_at "d"
          refine i_mtx (hL _) ?_
          walk_at "d"
          refine i_draw (by decide) (by decide) fun b t5 b0 b1 => ?_
          walk_at "d"
          refine i_draw (by decide) (by decide) fun j t6 j0 j1 => ?_
          have at2 : ∃ n : Int, L2.atI [D.int 3, D.int 3, D.int 25] j = some (.int n) ∧ 0 < n ∧ n ≤ 25 := by
            have : j = 0 ∨ j = 1 ∨ j = 2 := by omega
            rcases this with rfl | rfl | rfl
            · exact ⟨3, rfl, by decide, by decide⟩
            · exact ⟨3, rfl, by decide, by decide⟩
            · exact ⟨25, rfl, by decide, by decide⟩
          obtain ⟨n', hn', n0', n1'⟩ := at2
          refine i_ix rfl hn' ?_
          walk_at "d"
          refine i_draw n0' (by omega) fun m t7 m0' m1 => ?_
          walk_at "d"
          exact grow t7 (.skip b m) _ _ _ _ _ ⟨⟨b0, b1⟩, m0'⟩
        · walk_at "d"
          refine i_mtx (hL _) ?_
          walk_at "d"
          refine ⟨t4, T ++ G, rfl, rfl, fun q t5 hq => ?_⟩
          walk_at "d"
          refine grow t5 q _ _ _ _ _ ?_
          obtain ⟨h1, h2⟩ := hq
          cases q <;> first | exact h2.elim | exact h1 _
    · rintro env S ⟨rs, t3, G, g, y4, y5, y6, y7, y8, rfl, rfl, hG, hl, hp⟩
      rw [rangeD_len] at hl
      have hL : ∀ t' : Tok, (hd t' ++ (T ++ G))[3 + T.length + g]? = some (O.lst (rs.map Row.e)) := fun t' => get_g.trans hG
      walk_at "d"
      walk_at "e"
      refine i_xslL (lst_ref (hL _)) ?_
      walk_at "d"
      walk_at "e"
      obtain ⟨rs1, e1, l1, p1⟩ : ∃ rs1 : List Row, DL.cutD (rs.map Row.e) none (some 29) = rs1.map Row.e ∧ rs1.length ≤ 29 ∧ ∀ r ∈ rs1, r.pre (moOf cs) := by
        refine ⟨rs.take 29, ?_, by rw [List.length_take]; omega, fun r hr => hp r (List.mem_of_mem_take hr)⟩
        unfold DL.cutD
        rw [HT.sIx_none, show (some (29 : Int)) = some ((29 : Nat) : Int) from rfl, HT.sIx_nat, List.drop_zero, Nat.sub_zero, List.map_take, List.length_map]
        rw [← List.length_map (f := Row.e), ← List.take_eq_take_min]
      rw [e1]
      refine ⟨fun env S => ∃ (rs2 : List Row) (t4 : Tok) (y9 : Option D), env = [some (.ref 2), some (.int me), some (.lst (cs.map .int)), some (.lst (rs2.map Row.e)), y4, y5, y6, y7, y8, y9, none, none, none] ∧ S = hd t4 ++ (T ++ G) ∧ rs2.length ≤ 30 ∧ ∀ r ∈ rs2, r.pre (moOf cs), ?_, ?_⟩
      · walk_at "d"
        refine i_draw (by decide) (by decide) fun z t4 z0 z1 => ?_
        walk_at "d"
        refine ite2 (fun e2 => ?_) (fun e2 => ?_)
        · walk_at "d"
          have ll : ((rs1.map Row.e).length : Int) = rs1.length := by rw [List.length_map]
          refine i_draw (by omega) (by omega) fun k t5 k0 k1 => ?_
          walk_at "d"
          walk_at "e"
          obtain ⟨m, rfl⟩ : ∃ m : Nat, k = m := ⟨k.toNat, by omega⟩
          have hm2 : m ≤ (rs1.map Row.e).length := by omega
          rw [cutD_nat _ m hm2]
          refine i_draw (by decide) (by decide) fun b t6 b0 b1 => ?_
          walk_at "d"
          refine i_cat rfl rfl (sz_le (by rw [List.length_take, List.length_map]; simp; omega)) ?_
          walk_at "d"
          rw [cutD_from _ m hm2]
          refine i_cat rfl rfl (sz_le (by rw [List.length_append, List.length_take, List.length_drop, List.length_map]; simp; omega)) ?_
          walk_at "d"
          walk_at "e"
          refine ⟨rs1.take m ++ [.tell b] ++ rs1.drop m, t6, some (.int m), ?_, rfl, ?_, fun r hr => ?_⟩
          · rw [List.map_append, List.map_append, List.map_take, List.map_drop]
            rfl
          · rw [List.length_append, List.length_append, List.length_take, List.length_drop]
            simp
            omega
          · rcases List.mem_append.mp hr with hr | hr
            · rcases List.mem_append.mp hr with hr | hr
              · exact p1 r (List.mem_of_mem_take hr)
              · rw [List.mem_singleton.mp hr]
                exact fun _ => ⟨b0, b1⟩
            · exact p1 r (List.mem_of_mem_drop hr)
        · walk_at "d"
          exact ⟨rs1, t4, none, rfl, rfl, by omega, p1⟩
      · rintro env S ⟨rs2, t4, y9, rfl, rfl, l2, p2⟩
        have ll : ((rs2.map Row.e).length : Int) = rs2.length := by rw [List.length_map]
        walk_at "d"
        walk_at "e"
        rw [app_g, len_g]
        have hG2 : ∀ (t' : Tok) (xs : List D), (hd t' ++ (T ++ (G ++ [O.lst xs])))[3 + T.length + G.length]? = some (O.lst xs) := fun t' xs => by
          rw [get_g, List.getElem?_append_right (Nat.le_refl _), Nat.sub_self]
          rfl
        refine ⟨fun i env S => ∃ y11 y12 : Option D, env = [some (.ref 2), some (.int me), some (.lst (cs.map .int)), some (.lst (rs2.map Row.e)), y4, y5, y6, y7, y8, y9, some (.ref (3 + T.length + G.length)), y11, y12] ∧ S = hd t4 ++ (T ++ (G ++ [O.lst (((clamps rs2.length 0 rs2).take i).map Row.e)])),
          ⟨none, none, rfl, rfl⟩, fun _ _ _ _ _ => trivial, ?_, ?_⟩
        · rintro i x env S hx ⟨y11, y12, rfl, rfl⟩
          obtain ⟨d, hd', rfl⟩ := enumD_get 0 _ i x hx
          rw [List.getElem?_map] at hd'
          cases er : rs2[i]? with
          | none => rw [er] at hd'; cases hd'
          | some r =>
            rw [er] at hd'
            cases hd'
            have hi := (List.getElem?_eq_some_iff.mp er).1
            rw [Nat.zero_add]
            have grow : mAppend (.ref (3 + T.length + G.length)) [(clamp rs2.length i r).e] (hd t4 ++ (T ++ (G ++ [O.lst (((clamps rs2.length 0 rs2).take i).map Row.e)]))) fun _ S1 => S1 = hd t4 ++ (T ++ (G ++ [O.lst (((clamps rs2.length 0 rs2).take (i + 1)).map Row.e)])) := by
              refine i_append (hG2 _ _) (sz_lt (by rw [List.length_map, List.length_take, clamps_len]; omega)) ?_
              rw [set_g, List.set_append_right _ _ (Nat.le_refl _), Nat.sub_self, clamps_snoc _ 0 rs2 i r er, List.map_append, Nat.zero_add]
              rfl
            have step : ∀ {d : D} {Q : Sto → Prop}, d = (clamp rs2.length i r).e → Q (hd t4 ++ (T ++ (G ++ [O.lst (((clamps rs2.length 0 rs2).take (i + 1)).map Row.e)]))) → mAppend (.ref (3 + T.length + G.length)) [d] (hd t4 ++ (T ++ (G ++ [O.lst (((clamps rs2.length 0 rs2).take i).map Row.e)]))) fun _ S1 => Q S1 := fun {d Q} e q => by
              subst e
              obtain ⟨m, xs, y, h1, h2, h3, h4, h5⟩ := grow
              exact ⟨m, xs, y, h1, h2, h3, h4, by rw [h5]; exact q⟩
            walk_at "d"
            walk_at "e"
            refine i_mtx (hG2 _ _) ?_
            cases r with
            | skip b m =>
              walk_at "d"
              refine ite_t (by decide) ?_
              walk_at "d"
              refine i_xslT ?_
              rw [show DL.cutD [D.str "skip", D.int b, D.int m] none (some 2) = [D.str "skip", D.int b] from rfl]
              walk_at "d"
              rw [ll]
              exact step rfl ⟨_, _, rfl, rfl⟩
            | ar w' b c' d' =>
              walk_at "d"
              refine ite_f (by cases w' <;> decide) ?_
              walk_at "d"
              exact step rfl ⟨_, _, rfl, rfl⟩
            | _ =>
              walk_at "d"
              refine ite_f (by decide) ?_
              walk_at "d"
              exact step rfl ⟨_, _, rfl, rfl⟩
        · rintro env S ⟨y11, y12, rfl, rfl⟩
          rw [enumD_len, List.length_map, List.take_of_length_le (by rw [clamps_len]; exact Nat.le_refl _)]
          walk_at "d"
          have atm : L2.atI (cs.map D.int) me = some (.int c) := by
            have e : me = (me.toNat : Int) := by omega
            conv => lhs; rw [e]
            refine atI_nat ?_
            rw [List.getElem?_map, hme]
            rfl
          refine i_ix rfl atm ?_
          walk_at "d"
          refine i_tuple (lst_ref (hG2 _ _)) ?_
          walk_at "d"
          refine exit_hd (t' := t4) (T' := G ++ [O.lst ((clamps rs2.length 0 rs2).map Row.e)]) (by simp) (func_under · ⟨c, clamps rs2.length 0 rs2⟩) (post (clamps rs2.length 0 rs2) t4 (by rw [clamps_len]; exact l2) (clamps_ok p2))
end
abbrev s_Lprogram : Stmt := topS 47
abbrev N_Lprogram : List Str := ["_law_h", "_law_many", "_law_kinds", "_law_k", "_law_counts", "_law_kind", "_law_found", "_law_me"]
theorem sc_Lprogram : FnScope N_Lprogram ["_law_h"] (defScope s_Lprogram) := ⟨rfl, rfl, rfl, by decide +kernel, rfl, by decide +kernel, by decide +kernel⟩
structure progOk (p : List Func) : Prop where
  lo : 0 < p.length
  hi : p.length ≤ 8
  fs : ∀ f ∈ p, f.ok (moOf (p.map Func.many))
def spProgram : DSp := fun ds S P => ∃ t T, ds = [.ref 2] ∧ S = hd t ++ T ∧ ∀ (p : List Func) t', progOk p → P (progE p) (hd t' ++ T)
section
variable {P : Program} {w : World} {K : PySem.W.Frag} {mg : Str → Option Value} {base : Heap}
theorem ok_Lprogram (at_ : At K mg "_law_program" s_Lprogram ["_law_h"]) (mb : ∀ x, isB x = true → mg x = none) (G_Lnext : Fn P w K mg base "_law_next" 1 ["_law_h", "_law_many"] spNext) (G_Ldrawn : Fn P w K mg base "_law_drawn" 3 ["_law_h", "_law_me", "_law_counts"] spDrawn)
    (G_Lcounter : Fn P w K mg base "_law_counter" 2 ["_law_h", "_law_me", "_law_often"] spCounter) : Fn P w K mg base "_law_program" 4 ["_law_h"] spProgram := by
  refine fn_at at_ fun f fd F => fn_d F sc_Lprogram (fun ds S P h => ?_) ?_
  · obtain ⟨t, T, rfl, _⟩ := h
    rfl
  · rintro X W0 cdv A outer s H E rfl hr
    have hu := hr.units
    refine ⟨_, (dss_cons (ds_set (i := 1) (de_add de_int (de_fn G_Lnext (hr.mono (by decide)) (by rfl) (da_cons (de_var (pv 0)) (da_cons de_int da_nil)))) (fun h => ps_set sc_Lprogram.nd rfl (by first | exact Or.inl rfl | exact Or.inr rfl) h))
      (dss_cons (ds_setLc (i := 2) (vs := [3]) (by decide) (ps_setLc (own := [("_law_k", 3)]) rfl sc_Lprogram.nd rfl rfl (sw_true rfl rfl rfl (by decide +kernel)) (di_range1 (by rfl) (mb "range" rfl) (da_cons (de_var (pv 1)) da_nil)) (blkOk_by (N := N_Lprogram) (sc := defScope s_Lprogram) (by decide +kernel)) (fun _ _ _ _ _ => (dg_name (pg_name (i := 3) sc_Lprogram.nd rfl (Or.inl rfl)))) (fun _ _ _ _ _ => dts_nil) (fun _ _ _ _ _ => (de_fn G_Lnext (hr.mono (by decide)) (by rfl) (da_cons (de_var (pv 0)) (da_cons de_int da_nil))))))
      (dss_cons (ds_setLc (i := 4) (vs := [5]) (by decide) (ps_setLc (own := [("_law_kind", 5)]) rfl sc_Lprogram.nd rfl rfl (sw_true rfl rfl rfl (by decide +kernel)) (di_list (de_var (pv 2))) (blkOk_by (N := N_Lprogram) (sc := defScope s_Lprogram) (by decide +kernel)) (fun _ _ _ _ _ => (dg_name (pg_name (i := 5) sc_Lprogram.nd rfl (Or.inl rfl)))) (fun _ _ _ _ _ => dts_nil) (fun _ _ _ _ _ => (de_if (dt_cmp (op_eqA hu) do_eq (de_var (pv 5)) de_int (nomark _)) (de_fn G_Lnext (hr.mono (by decide)) (by rfl) (da_cons (de_var (pv 0)) (da_cons de_int da_nil))) de_int))))
      (dss_cons (ds_set (i := 6) (de_new (dn_lst da_nil)) (fun h => ps_set sc_Lprogram.nd rfl (by first | exact Or.inl rfl | exact Or.inr rfl) h))
      (dss_cons (ds_for PassesOwn.never rfl (di_range1 (by rfl) (mb "range" rfl) (da_cons (de_var (pv 1)) da_nil)) (dg_name (pg_name (i := 7) sc_Lprogram.nd rfl (by first | exact Or.inl rfl | exact Or.inr rfl))) (dss_one (ds_expr (de_mt dm_append (de_var (pv 6)) (da_cons (de_if (dt_cmp (op_eqA hu) do_eq (de_ix (de_var (pv 2)) (de_var (pv 7)) (fun _ _ => rfl)) de_int (nomark _)) (de_fn G_Ldrawn (hr.mono (by decide)) (by rfl) (da_cons (de_var (pv 0)) (da_cons (de_var (pv 7)) (da_cons (de_var (pv 4)) da_nil)))) (de_fn G_Lcounter (hr.mono (by decide)) (by rfl) (da_cons (de_var (pv 0)) (da_cons (de_var (pv 7)) (da_cons (de_ix (de_var (pv 2)) (de_var (pv 7)) (fun _ _ => rfl)) da_nil))))) da_nil) (fun h1 h2 => pe_bm PySem.F.plainAttrs_list PySem.F.slot_list_append PySem.F.type_list_append mt_append h1 h2)))))
      (dss_one (ds_ret (de_b dc_tuple (da_cons (de_var (pv 6)) da_nil) (fun h => pe_callTy call_tuple_of (by rfl) (mb "tuple" rfl) (by decide +kernel) h))))))))), ?_⟩
    rintro ds S P ⟨t, T, rfl, rfl, post⟩
    walk_at "st"
    walk_at "d"
    refine i_draw (by decide) (by decide) fun m t1 m0 m1 => ?_
    walk_at "d"
    walk_at "e"
    refine i_rg1 (by omega) (by omega) ?_
    refine ⟨fun i acc S => ∃ (ks : List Int) (t' : Tok), acc = ks.map .int ∧ S = hd t' ++ T ∧ ks.length = i ∧ ∀ k ∈ ks, 0 ≤ k ∧ k < 3, ⟨[], t1, rfl, rfl, rfl, fun _ h => nomatch h⟩, ?_, ?_, ?_⟩
    · rintro i acc S hi ⟨ks, t', rfl, rfl, hk, _⟩
      rw [rangeD_len] at hi
      exact ⟨trivial, sz_lt (by rw [List.length_map]; omega)⟩
    · rintro i x acc S hx ⟨ks, t', rfl, rfl, hk, hk3⟩
      walk_at "d"
      refine ite_t rfl ?_
      walk_at "d"
      refine i_draw (by decide) (by decide) fun k t2 k0 k1 => ?_
      refine ⟨ks ++ [k], t2, by simp, rfl, by simp [hk], fun q hq => ?_⟩
      rcases List.mem_append.mp hq with hq | hq
      · exact hk3 q hq
      · rw [List.mem_singleton.mp hq]
        exact ⟨k0, k1⟩
    rintro acc S ⟨ks, t2, rfl, rfl, hkl, hk3⟩
    rw [rangeD_len] at hkl
    walk_at "d"
    walk_at "e"
    refine ⟨fun i acc S => ∃ (cs : List Int) (t' : Tok), acc = cs.map .int ∧ S = hd t' ++ T ∧ cs.length = i ∧ (∀ c ∈ cs, 0 ≤ c ∧ c ≤ 3) ∧ ∀ (j : Nat) k c, ks[j]? = some k → cs[j]? = some c → k ≠ 0 → c = 1, ⟨[], t2, rfl, rfl, rfl, (fun _ h => nomatch h), fun _ _ _ _ h => by simp at h⟩, ?_, ?_, ?_⟩
    · rintro i acc S hi ⟨cs, t', rfl, rfl, hc, _⟩
      rw [List.length_map] at hi
      exact ⟨trivial, sz_lt (by rw [List.length_map]; omega)⟩
    · rintro i x acc S hx ⟨cs, t', rfl, rfl, hcl, hc3, hc1⟩
      rw [List.getElem?_map] at hx
      cases ek : ks[i]? with
      | none => rw [ek] at hx; cases hx
      | some k =>
        rw [ek] at hx
        cases hx
        have more : ∀ (c : Int) (t3 : Tok), 0 ≤ c → c ≤ 3 → (k ≠ 0 → c = 1) → ∃ (cs' : List Int) (t' : Tok), cs.map D.int ++ [.int c] = cs'.map .int ∧ hd t3 ++ T = hd t' ++ T ∧ cs'.length = i + 1 ∧ (∀ c ∈ cs', 0 ≤ c ∧ c ≤ 3) ∧ ∀ (j : Nat) k c, ks[j]? = some k → cs'[j]? = some c → k ≠ 0 → c = 1 := fun c t3 c0 c1 hk1 => by
          refine ⟨cs ++ [c], t3, by simp, rfl, by simp [hcl], fun q hq => ?_, fun j k' c' h1 h2 h3 => ?_⟩
          · rcases List.mem_append.mp hq with hq | hq
            · exact hc3 q hq
            · rw [List.mem_singleton.mp hq]
              exact ⟨c0, c1⟩
          · by_cases hj : j < cs.length
            · rw [List.getElem?_append_left hj] at h2
              exact hc1 j k' c' h1 h2 h3
            · have hj2 : j = i := by
                have := (List.getElem?_eq_some_iff.mp h2).1
                simp at this
                omega
              subst hj2
              rw [ek] at h1
              cases h1
              rw [List.getElem?_append_right (by omega), hcl, Nat.sub_self] at h2
              cases h2
              exact hk1 h3
        walk_at "d"
        refine ite_t rfl ?_
        walk_at "d"
        refine ite2 (fun e => ?_) (fun e => ?_)
        · have e : k = 0 := of_decide_eq_true e
          walk_at "d"
          refine i_draw (by decide) (by decide) fun c t3 c0 c1 => ?_
          exact more c t3 c0 (by omega) fun z => absurd e z
        · walk_at "d"
          exact more 1 t' (by decide) (by decide) fun _ => rfl
    rintro acc S ⟨cs, t3, rfl, rfl, hcl, hc3, hc1⟩
    rw [List.length_map, hkl] at hcl
    walk_at "d"
    walk_at "e"
    refine i_rg1 (by omega) (by omega) ?_
    have hG2 : ∀ (t' : Tok) (xs : List D), (hd t' ++ (T ++ [O.lst xs]))[3 + T.length + 0]? = some (O.lst xs) := fun t' xs => get_g
    rw [show (hd t3 ++ T ++ [O.lst []] : Sto) = hd t3 ++ (T ++ [O.lst []]) by simp, show (hd t3 ++ T).length = 3 + T.length + 0 by simp [hd]; omega]
    refine ⟨fun i env S => ∃ (fs : List Func) (t' : Tok) (y7 : Option D), env = [some (.ref 2), some (.int (1 + m)), some (.lst (ks.map .int)), none, some (.lst (cs.map .int)), none, some (.ref (3 + T.length + 0)), y7] ∧ S = hd t' ++ (T ++ [O.lst (fs.map Func.e)]) ∧ fs.map Func.many = cs.take i ∧ ∀ f ∈ fs, f.ok (moOf cs),
      ⟨[], t3, none, rfl, rfl, rfl, fun _ h => nomatch h⟩, fun _ _ _ _ _ => trivial, ?_, ?_⟩
    · rintro i x env S hx ⟨fs, t4, y7, rfl, rfl, hf, hok⟩
      obtain ⟨hi, rfl⟩ := rangeD_get hx
      have hfl : fs.length = i := by
        have := congrArg List.length hf
        rw [List.length_map, List.length_take] at this
        omega
      have hic : i < cs.length := by omega
      have hik : i < ks.length := by omega
      have eci : cs[i]? = some cs[i] := List.getElem?_eq_getElem hic
      have eki : ks[i]? = some ks[i] := List.getElem?_eq_getElem hik
      have hmo : moOf cs (0 + (i : Int)) = some cs[i].toNat := by
        unfold moOf
        rw [if_pos (by omega), show (0 + (i : Int)).toNat = i by omega, eci]
        rfl
      have grow : ∀ (t' : Tok) (f : Func) (z7 : Option D), f.ok (moOf cs) → f.many = cs[i] → mAppend (.ref (3 + T.length + 0)) [f.e] (hd t' ++ (T ++ [O.lst (fs.map Func.e)])) fun _ S1 => ∃ (fs : List Func) (t'' : Tok) (y7 : Option D),
          [some (D.ref 2), some (.int (1 + m)), some (.lst (ks.map .int)), none, some (.lst (cs.map .int)), none, some (.ref (3 + T.length + 0)), z7] = [some (D.ref 2), some (.int (1 + m)), some (.lst (ks.map .int)), none, some (.lst (cs.map .int)), none, some (.ref (3 + T.length + 0)), y7] ∧ S1 = hd t'' ++ (T ++ [O.lst (fs.map Func.e)]) ∧ fs.map Func.many = cs.take (i + 1) ∧ ∀ f ∈ fs, f.ok (moOf cs) := fun t' f z7 h1 h2 => by
        refine i_append (hG2 _ _) (sz_lt (by rw [List.length_map]; omega)) ?_
        rw [set_g]
        refine ⟨fs ++ [f], t', z7, rfl, by simp, ?_, fun q hq => ?_⟩
        · rw [List.map_append, hf, List.take_add_one, eci]
          simp [h2]
        · rcases List.mem_append.mp hq with hq | hq
          · exact hok q hq
          · rw [List.mem_singleton.mp hq]
            exact h1
      have atk : L2.atI (ks.map D.int) (0 + (i : Int)) = some (.int ks[i]) := by
        rw [Int.zero_add]
        refine atI_nat ?_
        rw [List.getElem?_map, eki]
        rfl
      walk_at "d"
      walk_at "e"
      refine i_mtx (hG2 _ _) ?_
      walk_at "d"
      refine i_ix rfl atk ?_
      walk_at "d"
      refine ite2 (fun e => ?_) (fun e => ?_)
      · walk_at "d"
        refine ⟨t4, T ++ [O.lst (fs.map Func.e)], 0 + (i : Int), cs, cs[i], rfl, rfl, by omega, by omega, hc3, by rw [show (0 + (i : Int)).toNat = i by omega]; exact eci, fun rs t5 hl hr' => ?_⟩
        walk_at "d"
        obtain ⟨c0, c3⟩ := hc3 _ (List.getElem_mem hic)
        exact grow t5 ⟨cs[i], rs⟩ _ ⟨c0, c3, hl, hr'⟩ rfl
      · have e : ¬ ks[i] = 0 := by simpa using e
        have c1 : cs[i] = 1 := hc1 i _ _ eki eci e
        obtain ⟨k0, k3⟩ := hk3 _ (List.getElem_mem hik)
        walk_at "d"
        refine i_ix rfl atk ?_
        walk_at "d"
        refine ⟨t4, T ++ [O.lst (fs.map Func.e)], 0 + (i : Int), ks[i], rfl, rfl, k0, by omega, fun rs t5 hl hr' => ?_⟩
        walk_at "d"
        exact grow t5 ⟨1, rs⟩ _ ⟨by show (0 : Int) ≤ 1; decide, by show (1 : Int) ≤ 3; decide, hl, hr' _ (by rw [hmo, c1]; rfl)⟩ c1.symm
    · rintro env S ⟨fs, t4, y7, rfl, rfl, hf, hok⟩
      rw [rangeD_len, List.take_of_length_le (by omega)] at hf
      have hfl : fs.length = cs.length := by rw [← hf, List.length_map]
      walk_at "d"
      refine i_tuple (lst_ref (hG2 _ _)) ?_
      refine exit_hd (t' := t4) (T' := [O.lst (fs.map Func.e)]) (by simp) (prog_under · fs) (post fs t4 ⟨by omega, by omega, by rw [hf]; exact hok⟩)
end
abbrev s_whole : Stmt := topS 24
abbrev N_whole : List Str := ["value"]
theorem sc_whole : FnScope N_whole ["value"] (defScope s_whole) := ⟨rfl, rfl, rfl, by decide +kernel, rfl, by decide +kernel, by decide +kernel⟩
abbrev s_below : Stmt := topS 25
abbrev N_below : List Str := ["value", "bound"]
theorem sc_below : FnScope N_below ["value", "bound"] (defScope s_below) := ⟨rfl, rfl, rfl, by decide +kernel, rfl, by decide +kernel, by decide +kernel⟩
abbrev s_allbelow : Stmt := topS 26
abbrev N_allbelow : List Str := ["values", "bound", "value"]
theorem sc_allbelow : FnScope N_allbelow ["values", "bound"] (defScope s_allbelow) := ⟨rfl, rfl, rfl, by decide +kernel, rfl, by decide +kernel, by decide +kernel⟩
def isInt : D → Bool
  | .int _ => true
  | _ => false
def inB (b : Int) : D → Bool
  | .int v => decide (0 ≤ v) && decide (v < b)
  | _ => false
def tyd (S : Sto) (d : D) : Prop := ∃ n, tyOf S d = some n
def spWhole : DSp := fun ds S P => ∃ d, ds = [d] ∧ tyd S d ∧ P (.bl (isInt d)) S
def spBelow : DSp := fun ds S P => ∃ d b, ds = [d, .int b] ∧ tyd S d ∧ P (.bl (inB b d)) S
def spAllBelow : DSp := fun ds S P => ∃ xs b, ds = [.tup xs, .int b] ∧ xs.length ≤ 1000 ∧ (∀ x ∈ xs, tyd S x) ∧ P (.bl (xs.all (inB b))) S
section
variable {P : Program} {w : World} {K : PySem.W.Frag} {mg : Str → Option Value} {base : Heap}
theorem ok_whole (at_ : At K mg "whole" s_whole ["value"]) (mb : ∀ x, isB x = true → mg x = none) : Fn P w K mg base "whole" 1 ["value"] spWhole := by
  refine fn_at at_ fun f fd F => fn_d F sc_whole (fun ds S P h => ?_) ?_
  · obtain ⟨d, rfl, _⟩ := h
    rfl
  · rintro X W0 cdv A outer s H E rfl hr
    refine ⟨_, (dss_one (ds_ret (de_and (de_b dc_isi (da_cons (de_var (pv 0)) (da_cons (de_bltn (n := "int") (by rfl) (mb "int" rfl) (by decide +kernel)) da_nil)) (fun h => pe_callB call_isi (by rfl) (mb "isinstance" rfl) (by decide +kernel) h)) (de_one (de_not (de_b dc_isi (da_cons (de_var (pv 0)) (da_cons (de_bltn (n := "bool") (by rfl) (mb "bool" rfl) (by decide +kernel)) da_nil)) (fun h => pe_callB call_isi (by rfl) (mb "isinstance" rfl) (by decide +kernel) h))))))), ?_⟩
    rintro ds S P ⟨d, rfl, ⟨n, hn⟩, post⟩
    walk_at "st"
    walk_at "d"
    have other : ∀ k : Bool, kitB n "int" = some false → isInt d = false → bIsi [d, .ty "int"] S fun x S1 => dBx (fun k => if k = true then dNotV (dCall bIsi (dCons (dVar 0) (dCons (dC (.ty "bool")) dNil))) [some d] S1 (atExit S P) else atExit S P (.bl false) S1) x := fun _ hk hi => by
      refine i_isi hn hk ?_
      refine i_Bx ?_
      refine ite_f Bool.false_ne_true ?_
      rw [hi] at post
      exact exit_pure0 (fun _ => rfl) post
    cases d with
    | int i =>
      cases hn
      walk_at "d"
      refine ite_t rfl ?_
      walk_at "d"
      exact exit_pure0 (fun _ => rfl) post
    | bl b =>
      cases hn
      refine i_isi rfl (show kitB "bool" "int" = some true by decide +kernel) ?_
      walk_at "d"
      refine ite_t rfl ?_
      walk_at "d"
      exact exit_pure0 (fun _ => rfl) post
    | ref i =>
      have e : n = "list" := by
        dsimp only [tyOf] at hn
        split at hn <;> cases hn
        rfl
      subst e
      exact other true (by decide +kernel) rfl
    | non => cases hn; exact other true (by decide +kernel) rfl
    | str x => cases hn; exact other true (by decide +kernel) rfl
    | tup xs => cases hn; exact other true (by decide +kernel) rfl
    | lst xs => cases hn; exact other true (by decide +kernel) rfl
    | _ => cases hn
theorem ok_below (at_ : At K mg "below" s_below ["value", "bound"]) (mb : ∀ x, isB x = true → mg x = none) (G_whole : Fn P w K mg base "whole" 1 ["value"] spWhole) : Fn P w K mg base "below" 2 ["value", "bound"] spBelow := by
  refine fn_at at_ fun f fd F => fn_d F sc_below (fun ds S P h => ?_) ?_
  · obtain ⟨d, b, rfl, _⟩ := h
    rfl
  · rintro X W0 cdv A outer s H E rfl hr
    refine ⟨_, (dss_one (ds_ret (de_and (de_fn G_whole (hr.mono (by decide)) (by rfl) (da_cons (de_var (pv 0)) da_nil)) (de_one (de_chain op_le op_lt do_le do_lt de_int (de_var (pv 0)) (de_var (pv 1))))))), ?_⟩
    rintro ds S P ⟨d, b, rfl, ht, post⟩
    walk_at "st"
    walk_at "d"
    refine ⟨d, rfl, ht, ?_⟩
    walk_at "d"
    cases d with
    | int i =>
      refine ite_t rfl ?_
      walk_at "d"
      refine ite2 (fun e => ?_) (fun e => ?_)
      · walk_at "d"
        have post : P (.bl (decide (0 ≤ i) && decide (i < b))) S := post
        rw [e, Bool.true_and] at post
        exact exit_pure0 (fun _ => rfl) post
      · have post : P (.bl (decide (0 ≤ i) && decide (i < b))) S := post
        rw [Bool.eq_false_iff.mpr e, Bool.false_and] at post
        exact exit_pure0 (fun _ => rfl) post
    | _ =>
      refine ite_f Bool.false_ne_true ?_
      exact exit_pure0 (fun _ => rfl) post
theorem ok_allbelow (at_ : At K mg "all_below" s_allbelow ["values", "bound"]) (mb : ∀ x, isB x = true → mg x = none) (G_below : Fn P w K mg base "below" 2 ["value", "bound"] spBelow) : Fn P w K mg base "all_below" 3 ["values", "bound"] spAllBelow := by
  refine fn_at at_ fun f fd F => fn_d F sc_allbelow (fun ds S P h => ?_) ?_
  · obtain ⟨d, b, rfl, _⟩ := h
    rfl
  · rintro X W0 cdv A outer s H E rfl hr
    refine ⟨_, (dss_one (ds_ret (de_b dc_all (da_cons (de_pure (dn_lc (own := [("value", 2)]) (by decide) rfl sc_allbelow.nd (di_tup (de_var (pv 0))) (blkOk_by (N := N_allbelow) (sc := defScope s_allbelow) (by decide +kernel)) (fun _ _ _ _ _ => (dg_name (pg_name (i := 2) sc_allbelow.nd rfl (Or.inl rfl)))) (fun _ _ _ _ _ => dts_nil) (fun _ _ _ _ _ => (de_fn G_below (hr.mono (by decide)) (by rfl) (da_cons (de_var (pv 2)) (da_cons (de_var (pv 1)) da_nil)))))) da_nil) (fun h => pe_callB (cr_all rfl) (by rfl) (mb "all" rfl) (by decide +kernel) h)))), ?_⟩
    rintro ds S P ⟨xs, b, rfl, hl, ht, post⟩
    walk_at "st"
    walk_at "d"
    refine ⟨fun i acc S' => S' = S ∧ acc = (xs.take i).map fun x => .bl (inB b x), ⟨rfl, rfl⟩, ?_, ?_, ?_⟩
    · rintro i acc S' hi ⟨rfl, rfl⟩
      exact ⟨trivial, sz_lt (by rw [List.length_map, List.length_take]; omega)⟩
    · rintro i x acc S' hx ⟨rfl, rfl⟩
      walk_at "d"
      refine ite_t rfl ?_
      walk_at "d"
      refine ⟨x, b, rfl, ht x (List.mem_of_getElem? hx), rfl, ?_⟩
      rw [List.take_add_one, hx]
      simp
    · rintro acc S' ⟨rfl, rfl⟩
      rw [List.take_length]
      walk_at "d"
      refine i_all (bs := xs.map (inB b)) (by rw [List.map_map]; rfl) ?_
      rw [List.all_map]
      exact exit_pure0 (fun _ => rfl) post
end
def prKs : List Key := [.inr "num", .inr "plus", .inr "less", .inr "times", .inr "call", .inr "skip", .inr "say", .inr "rest", .inr "tell"]
def sTup (l : List Str) : D := .tup (l.map .str)
def prDs : List D := [sTup ["box", "number"], sTup ["box", "box", "box"], sTup ["box", "box", "box"], sTup ["box", "box", "box"], sTup ["box", "function", "boxes"], sTup ["box", "count"], sTup ["box"], sTup [], sTup ["box"]]
def PrTab (P : Program) (w : World) (K : PySem.W.Frag) (mg : Str → Option Value) : Prop := ∃ a, mg "PROGRAM_ROWS" = some (.ref a) ∧ KTab P w K a prKs prDs ∧ KGet w K a prKs prDs
def Row.boxes : Row → List Int
  | .num b _ => [b]
  | .ar _ b c d => [b, c, d]
  | .call b _ bs => b :: bs
  | .skip b _ => [b]
  | .say b => [b]
  | .rest => []
  | .tell b => [b]
def Row.short : Row → Prop
  | .call _ _ bs => bs.length ≤ 3
  | _ => True
abbrev s_functioncanbe : Stmt := topS 27
abbrev N_functioncanbe : List Str := ["function", "most", "many", "rows"]
theorem sc_functioncanbe : FnScope N_functioncanbe ["function", "most"] (defScope s_functioncanbe) := ⟨rfl, rfl, rfl, by decide +kernel, rfl, by decide +kernel, by decide +kernel⟩
abbrev s_firstbadfunction : Stmt := topS 28
abbrev N_firstbadfunction : List Str := ["functions", "most", "number", "function"]
theorem sc_firstbadfunction : FnScope N_firstbadfunction ["functions", "most"] (defScope s_firstbadfunction) := ⟨rfl, rfl, rfl, by decide +kernel, rfl, by decide +kernel, by decide +kernel⟩
/-! ### what is handed in: tuples, lists, texts, numbers, truth values, None -/
mutual
def dat : D → Bool
  | .non => true
  | .bl _ => true
  | .int _ => true
  | .str _ => true
  | .tup xs => dats xs
  | .lst xs => dats xs
  | _ => false
def dats : List D → Bool
  | [] => true
  | x :: xs => dat x && dats xs
end
theorem dat_ty {S : Sto} {d : D} (h : dat d = true) : tyd S d := by
  cases d <;> first | exact ⟨_, rfl⟩ | (simp [dat] at h)
theorem dats_mem : ∀ {xs : List D}, dats xs = true → ∀ x ∈ xs, dat x = true
  | _ :: _, h, _, .head _ => (Bool.and_eq_true _ _ ▸ h : _ ∧ _).1
  | _ :: _, h, _, .tail _ m => dats_mem (Bool.and_eq_true _ _ ▸ h : _ ∧ _).2 _ m
def isTup : D → Bool
  | .tup _ => true
  | _ => false
theorem isi_tup {S : Sto} {d : D} {P : DP} (h : dat d = true) (q : P (.bl (isTup d)) S) : bIsi [d, .ty "tuple"] S P := by
  cases d <;> first
    | exact i_isi rfl kit_NoneType_tuple q
    | exact i_isi rfl kit_bool_tuple q
    | exact i_isi rfl kit_int_tuple q
    | exact i_isi rfl kit_str_tuple q
    | exact i_isi rfl kit_tuple_tuple q
    | exact i_isi rfl kit_list_tuple q
    | (simp [dat] at h)
def isStr : D → Bool
  | .str _ => true
  | _ => false
theorem isi_str {S : Sto} {d : D} {P : DP} (h : dat d = true) (q : P (.bl (isStr d)) S) : bIsi [d, .ty "str"] S P := by
  cases d <;> first
    | exact i_isi rfl kit_NoneType_str q
    | exact i_isi rfl kit_bool_str q
    | exact i_isi rfl kit_int_str q
    | exact i_isi rfl kit_str_str q
    | exact i_isi rfl kit_tuple_str q
    | exact i_isi rfl kit_list_str q
    | (simp [dat] at h)
/-! ### functions as such -/
def fcan (most : Int) : D → Bool
  | .tup [m, .tup rows] => inB 4 m && decide ((rows.length : Int) ≤ most)
  | _ => false
theorem fcan_long {m : Int} {xs : List D} (h : xs.length ≠ 2) : fcan m (.tup xs) = false := by
  unfold fcan
  split
  · rename_i e
    cases e
    exact absurd rfl h
  · rfl
def fbf (most : Int) : Nat → List D → Option Nat
  | _, [] => none
  | i, f :: fs => if i = 8 ∨ fcan most f = false then some i else fbf most (i + 1) fs
def fbadF (most : Int) : D → Option Nat
  | .tup (f :: fs) => fbf most 0 (f :: fs)
  | _ => some 0
def optE : Option Nat → D
  | none => .non
  | some n => .int n
def spFcb : DSp := fun ds S P => ∃ (d : D) (m : Int), ds = [d, .int m] ∧ dat d = true ∧ P (.bl (fcan m d)) S
def spFbf : DSp := fun ds S P => ∃ (d : D) (m : Int), ds = [d, .int m] ∧ dat d = true ∧ P (optE (fbadF m d)) S
/-! ### rows -/
abbrev Shp := List (Str × List Str)
def shKs (sh : Shp) : List Key := sh.map fun p => .inr p.1
def shDs (sh : Shp) : List D := sh.map fun p => .tup (p.2.map .str)
theorem dlook_sh (wd : Str) : ∀ sh : Shp, dlook (shKs sh) (shDs sh) (.inr wd) = (sh.lookup wd).map fun l => .tup (l.map .str)
  | [] => rfl
  | (x, l) :: sh => by
    have ih := dlook_sh wd sh
    show (if (Sum.inr x : Key) = .inr wd then some (D.tup (l.map .str)) else dlook (shKs sh) (shDs sh) (.inr wd)) = _
    rw [List.lookup_cons]
    by_cases h : x = wd
    · subst h
      rw [if_pos rfl]
      simp
    · rw [if_neg fun q => h (inr_inj q), ih]
      have : (wd == x) = false := by simpa using fun e => h e.symm
      rw [this]
def bKs : List Key := [.inr "box", .inr "number", .inr "function", .inr "count"]
def bDs (bx fn cnt : Int) : List D := [.int bx, .int 1000, .int fn, .int cnt]
def bnd (bx fn cnt : Int) (k : Str) : Int := if k = "box" then bx else if k = "number" then 1000 else if k = "function" then fn else cnt
def manyAt (ms : List Int) : List D → Option Int
  | _ :: .int f :: _ => ms[f.toNat]?
  | _ => none
def boxesOk (bx : Int) (ms : List Int) (ps : List D) : D → Bool
  | .tup xs => decide (some (xs.length : Int) = manyAt ms ps) && xs.all (inB bx)
  | _ => false
def partOk (bx cnt : Int) (ms : List Int) (ps : List D) (k : Str) (p : D) : Bool := if k = "boxes" then boxesOk bx ms ps p else inB (bnd bx ms.length cnt k) p
def partsOk (bx cnt : Int) (ms : List Int) (ps : List D) : List Str → List D → Bool
  | k :: ks, q :: qs => partOk bx cnt ms ps k q && partsOk bx cnt ms ps ks qs
  | _, _ => true
def rcan (sh : Shp) (bx cnt : Int) (ms : List Int) : D → Bool
  | .tup (.str wd :: ps) => match sh.lookup wd with
    | some ks => decide (ps.length = ks.length) && partsOk bx cnt ms ps ks ps
    | none => false
  | _ => false
def shOk (sh : Shp) : Prop := ∀ p ∈ sh, (∀ k ∈ p.2, k ∈ (["box", "number", "function", "count"] : List Str)) ∨ p.2 = (["box", "function", "boxes"] : List Str)
def spRcb : DSp := fun ds S P => ∃ (d : D) (sh : Shp) (bx cnt : Int) (ms : List Int), ds = [d, .dct (shKs sh) (shDs sh), .dct bKs (bDs bx ms.length cnt), .lst (ms.map .int)] ∧ shOk sh ∧ dat d = true ∧ (∀ m ∈ ms, 0 ≤ m ∧ m ≤ 3) ∧ P (.bl (rcan sh bx cnt ms d)) S
theorem bnd_look {bx fn cnt : Int} {k : Str} (h : k ∈ (["box", "number", "function", "count"] : List Str)) : dlook bKs (bDs bx fn cnt) (.inr k) = some (.int (bnd bx fn cnt k)) ∧ k ≠ "boxes" := by
  simp only [List.mem_cons, List.not_mem_nil, or_false] at h
  rcases h with rfl | rfl | rfl | rfl
  · exact ⟨rfl, by decide⟩
  · exact ⟨rfl, by decide⟩
  · exact ⟨rfl, by decide⟩
  · exact ⟨rfl, by decide⟩
theorem lookup_mem {wd : Str} {ks : List Str} : ∀ {sh : Shp}, sh.lookup wd = some ks → (wd, ks) ∈ sh
  | (x, l) :: sh, h => by
    rw [List.lookup_cons] at h
    cases e : (wd == x) with
    | true => rw [e] at h; cases h; rw [eq_of_beq e]; exact List.mem_cons_self
    | false => rw [e] at h; exact List.mem_cons_of_mem _ (lookup_mem h)
section
variable {P : Program} {w : World} {K : PySem.W.Frag} {mg : Str → Option Value} {base : Heap}
theorem ok_functioncanbe (at_ : At K mg "function_can_be" s_functioncanbe ["function", "most"]) (mb : ∀ x, isB x = true → mg x = none) (gi : ∀ x n, isG x = some n → ∃ t, mg x = some (.int n t)) (G_below : Fn P w K mg base "below" 2 ["value", "bound"] spBelow) :
    Fn P w K mg base "function_can_be" 3 ["function", "most"] spFcb := by
  refine fn_at at_ fun f fd F => fn_d F sc_functioncanbe (fun ds S P h => ?_) ?_
  · obtain ⟨f, m, rfl, _⟩ := h
    rfl
  · rintro X W0 cdv A outer s H E rfl hr
    have hu := hr.units
    refine ⟨_, (dss_cons (ds_if (dt_w (dw_or (dt_not (dt_val (de_b dc_isi (da_cons (de_var (pv 0)) (da_cons (de_bltn (n := "tuple") (by rfl) (mb "tuple" rfl) (by decide +kernel)) da_nil)) (fun h => pe_callB call_isi (by rfl) (mb "isinstance" rfl) (by decide +kernel) h)))) (dw_or1 (dt_cmp (op_neA hu) do_ne (de_b dc_len (da_cons (de_var (pv 0)) da_nil) (fun h => pe_callB call_len_seq (by rfl) (mb "len" rfl) PySem.boot_len h)) de_int (nomark _))))) (dss_one (ds_ret de_bl)) dss_nil)
      (dss_cons (ds_asg (de_var (pv 0)) (dg_tup (n := 2) rfl (dgs_cons (dg_name (pg_name (i := 2) sc_functioncanbe.nd rfl (by first | exact Or.inl rfl | exact Or.inr rfl))) (dgs_cons (dg_name (pg_name (i := 3) sc_functioncanbe.nd rfl (by first | exact Or.inl rfl | exact Or.inr rfl))) dgs_nil))) (fun h1 h2 => ps_asg h1 h2))
      (dss_one (ds_ret (de_and (de_fn G_below (hr.mono (by decide)) (by rfl) (da_cons (de_var (pv 2)) (da_cons (de_add (de_gint (by rfl) (gi "MOST_ARGUMENTS" 3 rfl)) de_int) da_nil))) (de_and (de_b dc_isi (da_cons (de_var (pv 3)) (da_cons (de_bltn (n := "tuple") (by rfl) (mb "tuple" rfl) (by decide +kernel)) da_nil)) (fun h => pe_callB call_isi (by rfl) (mb "isinstance" rfl) (by decide +kernel) h)) (de_one (de_cmp op_le do_le (de_b dc_len (da_cons (de_var (pv 3)) da_nil) (fun h => pe_callB call_len_seq (by rfl) (mb "len" rfl) PySem.boot_len h)) (de_var (pv 1)) (nomark _))))))))), ?_⟩
    rintro ds S P ⟨d, m, rfl, hd, post⟩
    walk_at "st"
    have no : isTup d = false → fcan m d = false := fun h => by cases d <;> first | rfl | (simp [isTup] at h)
    refine i_seq ?_
    refine i_ifS ?_
    refine i_or ?_
    refine i_not ?_
    refine i_B ?_
    refine i_call ?_
    refine i_cons ?_
    refine i_var rfl ?_
    refine i_cons ?_
    refine i_c ?_
    refine i_nil ?_
    refine isi_tup hd ?_
    walk_at "d"
    cases d with
    | tup xs =>
      refine ite_f Bool.false_ne_true ?_
      walk_at "d"
      match xs, hd, post with
      | [a, b], hd, post =>
        have hab : dat a = true ∧ dat b = true := by simpa [dat, dats] using hd
        refine ite_f (by simp) ?_
        walk_at "d"
        walk_at "e"
        refine ⟨a, 3 + 1, rfl, dat_ty hab.1, ?_⟩
        walk_at "d"
        have e : fcan m (.tup [a, b]) = (inB 4 a && (isTup b && (match b with | .tup rows => decide ((rows.length : Int) ≤ m) | _ => false))) := by
          cases b <;> simp [fcan, isTup]
        cases hi : inB 4 a with
        | false =>
          refine ite_f (by show ¬ inB (3 + 1) a = true; rw [show (3 : Int) + 1 = 4 from rfl, hi]; decide) ?_
          rw [e, hi] at post
          exact exit_pure0 (fun _ => rfl) post
        | true =>
          refine ite_t (by show inB (3 + 1) a = true; exact hi) ?_
          walk_at "d"
          refine isi_tup hab.2 ?_
          walk_at "d"
          cases b with
          | tup rows =>
            refine ite_t rfl ?_
            walk_at "d"
            rw [e, hi] at post
            exact exit_pure0 (fun _ => rfl) post
          | _ =>
            refine ite_f (by simp [isTup]) ?_
            rw [e, hi] at post
            exact exit_pure0 (fun _ => rfl) post
      | [], hd, post =>
        refine ite_t (by decide) ?_
        walk_at "d"
        exact exit_pure0 (fun _ => rfl) post
      | [a], hd, post =>
        refine ite_t (by simp) ?_
        walk_at "d"
        exact exit_pure0 (fun _ => rfl) post
      | a :: b :: c :: r, hd, post =>
        refine ite_t (by simp; omega) ?_
        walk_at "d"
        rw [fcan_long (by simp)] at post
        exact exit_pure0 (fun _ => rfl) post
    | _ =>
      refine ite_t rfl ?_
      walk_at "d"
      exact exit_pure0 (fun _ => rfl) post
theorem fbf_take {most : Int} : ∀ (k : Nat) (fs : List D) (i : Nat) (f : D), fs[i]? = some f → (∀ (j : Nat) g, j < i → fs[j]? = some g → k + j ≠ 8 ∧ fcan most g = true) → k + i = 8 ∨ fcan most f = false → fbf most k fs = some (k + i)
  | k, g :: fs, 0, f, h, _, hb => by
    cases h
    unfold fbf
    exact if_pos hb
  | k, g :: fs, i + 1, f, h, hg, hb => by
    obtain ⟨h1, h2⟩ := hg 0 g (by omega) rfl
    unfold fbf
    rw [if_neg (by rw [h2]; simpa using h1), fbf_take (k + 1) fs i f (by simpa using h) (fun j g' hj e => ?_) (by rw [show k + 1 + i = k + (i + 1) by omega]; exact hb), show k + 1 + i = k + (i + 1) by omega]
    have := hg (j + 1) g' (by omega) (by simpa using e)
    rw [show k + 1 + j = k + (j + 1) by omega]
    exact this
theorem fbf_none {most : Int} : ∀ (k : Nat) (fs : List D), (∀ (j : Nat) g, fs[j]? = some g → k + j ≠ 8 ∧ fcan most g = true) → fbf most k fs = none
  | _, [], _ => rfl
  | k, g :: fs, hg => by
    obtain ⟨h1, h2⟩ := hg 0 g rfl
    unfold fbf
    rw [if_neg (by rw [h2]; simpa using h1)]
    refine fbf_none (k + 1) fs fun j g' e => ?_
    have := hg (j + 1) g' (by simpa using e)
    rw [show k + 1 + j = k + (j + 1) by omega]
    exact this
theorem ok_firstbadfunction (at_ : At K mg "first_bad_function" s_firstbadfunction ["functions", "most"]) (mb : ∀ x, isB x = true → mg x = none) (gi : ∀ x n, isG x = some n → ∃ t, mg x = some (.int n t)) (G_functioncanbe : Fn P w K mg base "function_can_be" 3 ["function", "most"] spFcb) :
    Fn P w K mg base "first_bad_function" 4 ["functions", "most"] spFbf := by
  refine fn_at at_ fun f fd F => fn_d F sc_firstbadfunction (fun ds S P h => ?_) ?_
  · obtain ⟨p, m, rfl, _⟩ := h
    rfl
  · rintro X W0 cdv A outer s H E rfl hr
    have hu := hr.units
    refine ⟨_, (dss_cons (ds_if (dt_w (dw_or (dt_not (dt_val (de_b dc_isi (da_cons (de_var (pv 0)) (da_cons (de_bltn (n := "tuple") (by rfl) (mb "tuple" rfl) (by decide +kernel)) da_nil)) (fun h => pe_callB call_isi (by rfl) (mb "isinstance" rfl) (by decide +kernel) h)))) (dw_or1 (dt_cmp (op_eqA hu) do_eq (de_b dc_len (da_cons (de_var (pv 0)) da_nil) (fun h => pe_callB call_len_seq (by rfl) (mb "len" rfl) PySem.boot_len h)) de_int (nomark _))))) (dss_one (ds_ret de_int)) dss_nil)
      (dss_cons (ds_for PassesOwn.never rfl (di_enumT (by rfl) (mb "enumerate" rfl) (da_cons (de_var (pv 0)) da_nil)) (dg_tup (n := 2) rfl (dgs_cons (dg_name (pg_name (i := 2) sc_firstbadfunction.nd rfl (by first | exact Or.inl rfl | exact Or.inr rfl))) (dgs_cons (dg_name (pg_name (i := 3) sc_firstbadfunction.nd rfl (by first | exact Or.inl rfl | exact Or.inr rfl))) dgs_nil))) (dss_one (ds_if (dt_w (dw_or (dt_cmp (op_eqA hu) do_eq (de_var (pv 2)) (de_gint (by rfl) (gi "MOST_FUNCTIONS" 8 rfl)) (nomark _)) (dw_or1 (dt_not (dt_val (de_fn G_functioncanbe (hr.mono (by decide)) (by rfl) (da_cons (de_var (pv 3)) (da_cons (de_var (pv 1)) da_nil)))))))) (dss_one (ds_ret (de_var (pv 2)))) dss_nil)))
      (dss_one (ds_ret de_non)))), ?_⟩
    rintro ds S P ⟨d, m, rfl, hd, post⟩
    walk_at "st"
    refine i_seq ?_
    refine i_ifS ?_
    refine i_or ?_
    refine i_not ?_
    refine i_B ?_
    refine i_call ?_
    refine i_cons ?_
    refine i_var rfl ?_
    refine i_cons ?_
    refine i_c ?_
    refine i_nil ?_
    refine isi_tup hd ?_
    walk_at "d"
    cases d with
    | tup xs =>
      refine ite_f Bool.false_ne_true ?_
      walk_at "d"
      have hds : ∀ x ∈ xs, dat x = true := dats_mem (show dats xs = true from hd)
      by_cases hx : xs = []
      · subst hx
        refine ite_t (by decide) ?_
        walk_at "d"
        exact exit_pure0 (fun _ => rfl) post
      · have post : P (optE (fbf m 0 xs)) S := by
          cases xs with
          | nil => exact absurd rfl hx
          | cons a r => exact post
        refine ite_f (by simpa using hx) ?_
        walk_at "d"
        refine ⟨fun i env S' => S' = S ∧ (∃ y2 y3, env = [some (.tup xs), some (.int m), y2, y3]) ∧ ∀ (j : Nat) g, j < i → xs[j]? = some g → 0 + j ≠ 8 ∧ fcan m g = true, ⟨rfl, ⟨none, none, rfl⟩, fun j g hj => absurd hj (by omega)⟩, fun _ _ _ _ _ => trivial, ?_, ?_⟩
        · rintro i x env S' hx' ⟨rfl, ⟨y2, y3, rfl⟩, hg⟩
          obtain ⟨f', hf', rfl⟩ := enumD_get 0 _ i x hx'
          have hdf := hds f' (List.mem_of_getElem? hf')
          walk_at "d"
          walk_at "e"
          by_cases h8 : 0 + i = 8
          · refine ite_t (by simpa using congrArg Int.ofNat h8) ?_
            refine ite_t rfl ?_
            walk_at "d"
            rw [fbf_take 0 xs i f' hf' hg (.inl h8)] at post
            exact exit_pure0 (fun _ => rfl) post
          · refine ite_f (by simp; omega) ?_
            walk_at "d"
            refine ⟨f', m, rfl, hdf, ?_⟩
            walk_at "d"
            cases hc : fcan m f' with
            | false =>
              refine ite_t rfl ?_
              walk_at "d"
              rw [fbf_take 0 xs i f' hf' hg (.inr hc)] at post
              exact exit_pure0 (fun _ => rfl) post
            | true =>
              refine ite_f Bool.false_ne_true ?_
              walk_at "d"
              refine ⟨rfl, ⟨_, _, rfl⟩, fun j g hj e => ?_⟩
              rcases Nat.lt_succ_iff_lt_or_eq.mp hj with hj | rfl
              · exact hg j g hj e
              · rw [hf'] at e
                cases e
                exact ⟨h8, hc⟩
        · rintro env S' ⟨rfl, ⟨y2, y3, rfl⟩, hg⟩
          walk_at "d"
          rw [enumD_len] at hg
          rw [fbf_none 0 xs fun j g e => hg j g (List.getElem?_eq_some_iff.mp e).1 e] at post
          exact exit_pure0 (fun _ => rfl) post
    | _ =>
      refine ite_t rfl ?_
      walk_at "d"
      exact exit_pure0 (fun _ => rfl) post
end
abbrev s_rowcanbe : Stmt := topS 29
abbrev N_rowcanbe : List Str := ["row", "shapes", "bounds", "manys", "kinds", "kind", "part"]
theorem sc_rowcanbe : FnScope N_rowcanbe ["row", "shapes", "bounds", "manys"] (defScope s_rowcanbe) := ⟨rfl, rfl, rfl, by decide +kernel, rfl, by decide +kernel, by decide +kernel⟩
theorem partsOk_from {bx cnt : Int} {ms : List Int} {ps : List D} : ∀ {ks : List Str} {qs : List D}, ks.length = qs.length → (partsOk bx cnt ms ps ks qs = true ↔ ∀ (i : Nat) k p, ks[i]? = some k → qs[i]? = some p → partOk bx cnt ms ps k p = true)
  | [], [], _ => by simp [partsOk]
  | k :: ks, q :: qs, h => by
    have ih := partsOk_from (bx := bx) (cnt := cnt) (ms := ms) (ps := ps) (ks := ks) (qs := qs) (by simpa using h)
    unfold partsOk
    rw [Bool.and_eq_true, ih]
    constructor
    · rintro ⟨h1, h2⟩ i k' p' g1 g2
      cases i with
      | zero => cases g1; cases g2; exact h1
      | succ i => exact h2 i k' p' (by simpa using g1) (by simpa using g2)
    · exact fun h => ⟨h 0 k q rfl rfl, fun i k' p' g1 g2 => h (i + 1) k' p' (by simpa using g1) (by simpa using g2)⟩
  | [], _ :: _, h => by simp at h
  | _ :: _, [], h => by simp at h
theorem parts_bad {bx cnt : Int} {ms : List Int} {ps : List D} {ks : List Str} {qs : List D} {i : Nat} {k : Str} {p : D} (h : ks.length = qs.length) (g1 : ks[i]? = some k) (g2 : qs[i]? = some p) (hb : partOk bx cnt ms ps k p = false) : partsOk bx cnt ms ps ks qs = false := by
  cases e : partsOk bx cnt ms ps ks qs with
  | false => rfl
  | true => rw [(partsOk_from h).mp e i k p g1 g2] at hb; cases hb
theorem inB_int {b : Int} {d : D} (h : inB b d = true) : ∃ v, d = .int v ∧ 0 ≤ v ∧ v < b := by
  cases d <;> first
    | (rename_i v; have h : (decide (0 ≤ v) && decide (v < b)) = true := h; rw [Bool.and_eq_true] at h; exact ⟨v, rfl, of_decide_eq_true h.1, of_decide_eq_true h.2⟩)
    | (simp [inB] at h)
section
variable {P : Program} {w : World} {K : PySem.W.Frag} {mg : Str → Option Value} {base : Heap}
theorem ok_rowcanbe (at_ : At K mg "row_can_be" s_rowcanbe ["row", "shapes", "bounds", "manys"]) (mb : ∀ x, isB x = true → mg x = none) (G_below : Fn P w K mg base "below" 2 ["value", "bound"] spBelow) (G_allbelow : Fn P w K mg base "all_below" 3 ["values", "bound"] spAllBelow) :
    Fn P w K mg base "row_can_be" 4 ["row", "shapes", "bounds", "manys"] spRcb := by
  refine fn_at at_ fun f fd F => fn_d F sc_rowcanbe (fun ds S P h => ?_) ?_
  · obtain ⟨d, sh, bx, cnt, ms, rfl, _⟩ := h
    rfl
  · rintro X W0 cdv A outer s H E rfl hr
    have hu := hr.units
    refine ⟨_, (dss_cons (ds_if (dt_w (dw_or (dt_not (dt_val (de_b dc_isi (da_cons (de_var (pv 0)) (da_cons (de_bltn (n := "tuple") (by rfl) (mb "tuple" rfl) (by decide +kernel)) da_nil)) (fun h => pe_callB call_isi (by rfl) (mb "isinstance" rfl) (by decide +kernel) h)))) (dw_or (dt_cmp (op_eqA hu) do_eq (de_b dc_len (da_cons (de_var (pv 0)) da_nil) (fun h => pe_callB call_len_seq (by rfl) (mb "len" rfl) PySem.boot_len h)) de_int (nomark _)) (dw_or1 (dt_not (dt_val (de_b dc_isi (da_cons (de_ix (de_var (pv 0)) de_int (fun _ _ => rfl)) (da_cons (de_bltn (n := "str") (by rfl) (mb "str" rfl) (by decide +kernel)) da_nil)) (fun h => pe_callB call_isi (by rfl) (mb "isinstance" rfl) (by decide +kernel) h)))))))) (dss_one (ds_ret de_bl)) dss_nil)
      (dss_cons (ds_set (i := 4) (de_dget1 (Nat.lt_of_le_of_lt (Nat.add_le_add_left (by decide) _) hu) (de_var (pv 1)) (de_ix (de_var (pv 0)) de_int (fun _ _ => rfl)) ⟨rfl, rfl, rfl, rfl⟩) (fun h => ps_set sc_rowcanbe.nd rfl (by first | exact Or.inl rfl | exact Or.inr rfl) h))
      (dss_cons (ds_if (dt_w (dw_or (dt_cmp op_isN do_isN (de_var (pv 4)) de_non (nomark _)) (dw_or1 (dt_cmp (op_neA hu) do_ne (de_b dc_len (da_cons (de_var (pv 0)) da_nil) (fun h => pe_callB call_len_seq (by rfl) (mb "len" rfl) PySem.boot_len h)) (de_add (de_b dc_len (da_cons (de_var (pv 4)) da_nil) (fun h => pe_callB call_len_seq (by rfl) (mb "len" rfl) PySem.boot_len h)) de_int) (nomark _))))) (dss_one (ds_ret de_bl)) dss_nil)
      (dss_cons (ds_for PassesOwn.never rfl (di_zip (da_cons (de_var (pv 4)) (da_cons (de_sliceT (de_var (pv 0)) (do_some de_int) do_none) da_nil)) (fun h => RZ.pi_zipA (by rfl) (mb "zip" rfl) h)) (dg_tup (n := 2) rfl (dgs_cons (dg_name (pg_name (i := 5) sc_rowcanbe.nd rfl (by first | exact Or.inl rfl | exact Or.inr rfl))) (dgs_cons (dg_name (pg_name (i := 6) sc_rowcanbe.nd rfl (by first | exact Or.inl rfl | exact Or.inr rfl))) dgs_nil))) (dss_one (ds_if (dt_cmp (op_eqA hu) do_eq (de_var (pv 5)) de_str (nomark _)) (dss_one (ds_if (dt_w (dw_or (dt_not (dt_val (de_b dc_isi (da_cons (de_var (pv 6)) (da_cons (de_bltn (n := "tuple") (by rfl) (mb "tuple" rfl) (by decide +kernel)) da_nil)) (fun h => pe_callB call_isi (by rfl) (mb "isinstance" rfl) (by decide +kernel) h)))) (dw_or (dt_cmp (op_neA hu) do_ne (de_b dc_len (da_cons (de_var (pv 6)) da_nil) (fun h => pe_callB call_len_seq (by rfl) (mb "len" rfl) PySem.boot_len h)) (de_ix (de_var (pv 3)) (de_ix (de_var (pv 0)) de_int (fun _ _ => rfl)) (fun _ _ => rfl)) (nomark _)) (dw_or1 (dt_not (dt_val (de_fn G_allbelow (hr.mono (by decide)) (by rfl) (da_cons (de_var (pv 6)) (da_cons (de_dget (Nat.lt_of_le_of_lt (Nat.add_le_add_left (by decide) _) hu) (de_var (pv 2)) de_str (fun _ _ => rfl)) da_nil))))))))) (dss_one (ds_ret de_bl)) dss_nil)) (dss_one (ds_if (dt_not (dt_val (de_fn G_below (hr.mono (by decide)) (by rfl) (da_cons (de_var (pv 6)) (da_cons (de_dget (Nat.lt_of_le_of_lt (Nat.add_le_add_left (by decide) _) hu) (de_var (pv 2)) (de_var (pv 5)) (fun _ _ => rfl)) da_nil))))) (dss_one (ds_ret de_bl)) dss_nil)))))
      (dss_one (ds_ret de_bl)))))), ?_⟩
    rintro ds S P ⟨d, sh, bx, cnt, ms, rfl, hsh, hd, hms, post⟩
    walk_at "st"
    refine i_seq ?_
    refine i_ifS ?_
    refine i_or ?_
    refine i_not ?_
    refine i_B ?_
    refine i_call ?_
    refine i_cons ?_
    refine i_var rfl ?_
    refine i_cons ?_
    refine i_c ?_
    refine i_nil ?_
    refine isi_tup hd ?_
    walk_at "d"
    have nope : P (.bl false) S → atExit S P (.bl false) S := fun q => exit_pure0 (fun _ => rfl) q
    cases d with
    | tup xs =>
      refine ite_f Bool.false_ne_true ?_
      walk_at "d"
      match xs, hd, post with
      | [], hd, post =>
        refine ite_t (by decide) ?_
        refine ite_t rfl ?_
        walk_at "d"
        exact nope post
      | w0 :: ps, hd, post =>
        have hdw : dat w0 = true ∧ dats ps = true := by simpa [dat, dats] using hd
        have hds := dats_mem hdw.2
        refine ite_f (by simp; omega) ?_
        walk_at "d"
        refine isi_str hdw.1 ?_
        walk_at "d"
        cases w0 with
        | str wd =>
          refine ite_f Bool.false_ne_true ?_
          walk_at "d"
          walk_at "e"
          rw [dlook_sh]
          cases hk : sh.lookup wd with
          | none =>
            have e : rcan sh bx cnt ms (.tup (.str wd :: ps)) = false := by simp only [rcan, hk]
            rw [e] at post
            refine ite_t rfl ?_
            refine ite_t rfl ?_
            walk_at "d"
            exact nope post
          | some ks =>
            have e : rcan sh bx cnt ms (.tup (.str wd :: ps)) = (decide (ps.length = ks.length) && partsOk bx cnt ms ps ks ps) := by simp only [rcan, hk]
            rw [e] at post
            rw [Option.map_some, Option.getD_some]
            refine ite_f Bool.false_ne_true ?_
            walk_at "d"
            by_cases hlen : ps.length = ks.length
            · rw [decide_eq_true hlen, Bool.true_and] at post
              refine ite_f (by simp [hlen]) ?_
              walk_at "d"
              rw [show DL.cutD (D.str wd :: ps) (some 1) none = ps from cutD_from (D.str wd :: ps) 1 (by simp)]
              walk_at "d"
              have hkk := hsh _ (lookup_mem hk)
              refine ⟨fun i env S' => S' = S ∧ (∃ y5 y6, env = [some (.tup (.str wd :: ps)), some (.dct (shKs sh) (shDs sh)), some (.dct bKs (bDs bx ms.length cnt)), some (.lst (ms.map .int)), some (.tup (ks.map .str)), y5, y6]) ∧ ∀ (j : Nat) k p, j < i → ks[j]? = some k → ps[j]? = some p → partOk bx cnt ms ps k p = true, ⟨rfl, ⟨none, none, rfl⟩, fun j k p hj => absurd hj (by omega)⟩, fun _ _ _ _ _ => trivial, ?_, ?_⟩
              · rintro i x env S' hx ⟨rfl, ⟨y5, y6, rfl⟩, hg⟩
                obtain ⟨y, z, h1, h2, rfl⟩ := zipD_get _ _ i x hx
                rw [List.getElem?_map] at h1
                cases ek : ks[i]? with
                | none => rw [ek] at h1; cases h1
                | some k =>
                  rw [ek] at h1
                  cases h1
                  have hdz := hds z (List.mem_of_getElem? h2)
                  have next : partOk bx cnt ms ps k z = true → ∀ (j : Nat) k p, j < i + 1 → ks[j]? = some k → ps[j]? = some p → partOk bx cnt ms ps k p = true := fun hp j k' p' hj e1 e2 => by
                    rcases Nat.lt_succ_iff_lt_or_eq.mp hj with hj | rfl
                    · exact hg j k' p' hj e1 e2
                    · rw [ek] at e1
                      rw [h2] at e2
                      cases e1
                      cases e2
                      exact hp
                  walk_at "d"
                  walk_at "e"
                  by_cases hb : k = "boxes"
                  · subst hb
                    rcases hkk with hkk | hkk
                    · exact absurd (hkk _ (List.mem_of_getElem? ek)) (by decide)
                    · subst hkk
                      have h3 : ps.length = 3 := hlen
                      match ps, h3, hg, h2, post, hds, next with
                      | [pa, pb, pc], _, hg, h2, post, hds, next =>
                        have hi : i = 2 := by
                          match i, ek with
                          | 0, ek => exact absurd (Option.some.inj ek) (by decide)
                          | 1, ek => exact absurd (Option.some.inj ek) (by decide)
                          | 2, _ => rfl
                        subst hi
                        cases h2
                        have hf := hg 1 "function" pb (by omega) rfl rfl
                        have hf : inB ms.length pb = true := hf
                        obtain ⟨f', rfl, f0, f1⟩ := inB_int hf
                        have hm : ms[f'.toNat]? = some ms[f'.toNat] := List.getElem?_eq_getElem (by omega)
                        generalize ms[f'.toNat] = mf at hm
                        have hmb := hms mf (List.mem_of_getElem? hm)
                        have hat : L2.atI (ms.map D.int) f' = some (.int mf) := by
                          have e2 : f' = (f'.toNat : Int) := by omega
                          conv => lhs; rw [e2]
                          exact atI_nat (by rw [List.getElem?_map, hm]; rfl)
                        have ep : ∀ z, partOk bx cnt ms [pa, .int f', z] "boxes" z = boxesOk bx ms [pa, .int f', z] z := fun z => if_pos rfl
                        have em : ∀ z, manyAt ms [pa, .int f', z] = some mf := fun z => hm
                        refine ite_t (by decide) ?_
                        walk_at "d"
                        refine isi_tup hdz ?_
                        walk_at "d"
                        cases z with
                        | tup zs =>
                          refine ite_f Bool.false_ne_true ?_
                          walk_at "d"
                          refine i_ix rfl hat ?_
                          walk_at "d"
                          have eb : boxesOk bx ms [pa, .int f', .tup zs] (.tup zs) = (decide ((zs.length : Int) = mf) && zs.all (inB bx)) := by
                            show (decide (some (zs.length : Int) = manyAt ms [pa, .int f', .tup zs]) && zs.all (inB bx)) = _
                            rw [em]
                            simp only [Option.some.injEq]
                          by_cases hz : (zs.length : Int) = mf
                          · refine ite_f (by simp [hz]) ?_
                            walk_at "d"
                            refine ⟨zs, bx, rfl, by omega, fun q hq => dat_ty (dats_mem (show dats zs = true from hdz) q hq), ?_⟩
                            walk_at "d"
                            cases ha : zs.all (inB bx) with
                            | true =>
                              refine ite_f Bool.false_ne_true ?_
                              walk_at "d"
                              exact ⟨rfl, ⟨_, _, rfl⟩, next (by rw [ep, eb, ha, decide_eq_true hz]; rfl)⟩
                            | false =>
                              refine ite_t rfl ?_
                              walk_at "d"
                              rw [parts_bad (k := "boxes") (p := .tup zs) (i := 2) rfl rfl rfl (by rw [ep, eb, ha, Bool.and_false])] at post
                              exact nope post
                          · refine ite_t (by simpa using hz) ?_
                            refine ite_t rfl ?_
                            walk_at "d"
                            rw [parts_bad (k := "boxes") (p := .tup zs) (i := 2) rfl rfl rfl (by rw [ep, eb, decide_eq_false hz, Bool.false_and])] at post
                            exact nope post
                        | _ =>
                          refine ite_t rfl ?_
                          refine ite_t rfl ?_
                          walk_at "d"
                          rw [parts_bad (k := "boxes") (i := 2) rfl rfl rfl (by rw [ep]; rfl)] at post
                          exact nope post
                  · have hin : k ∈ (["box", "number", "function", "count"] : List Str) := by
                      rcases hkk with hkk | hkk
                      · exact hkk k (List.mem_of_getElem? ek)
                      · subst hkk
                        have := List.mem_of_getElem? ek
                        simp only [List.mem_cons, List.not_mem_nil, or_false] at this ⊢
                        rcases this with h | h | h
                        · exact .inl h
                        · exact .inr (.inr (.inl h))
                        · exact absurd h hb
                    have hp : partOk bx cnt ms ps k z = inB (bnd bx ms.length cnt k) z := if_neg hb
                    refine ite_f (by simpa using hb) ?_
                    walk_at "d"
                    refine i_xdget rfl (bnd_look hin).1 ?_
                    walk_at "d"
                    refine ⟨z, _, rfl, dat_ty hdz, ?_⟩
                    walk_at "d"
                    cases hi : inB (bnd bx ms.length cnt k) z with
                    | true =>
                      refine ite_f Bool.false_ne_true ?_
                      walk_at "d"
                      exact ⟨rfl, ⟨_, _, rfl⟩, next (hp.trans hi)⟩
                    | false =>
                      refine ite_t rfl ?_
                      walk_at "d"
                      rw [parts_bad hlen.symm ek h2 (hp.trans hi)] at post
                      exact nope post
              · rintro env S' ⟨rfl, ⟨y5, y6, rfl⟩, hg⟩
                walk_at "d"
                rw [zipD_len, List.length_map, hlen, Nat.min_self] at hg
                rw [(partsOk_from hlen.symm).mpr fun i k p e1 e2 => hg i k p (List.getElem?_eq_some_iff.mp e1).1 e1 e2] at post
                exact exit_pure0 (fun _ => rfl) post
            · rw [decide_eq_false hlen, Bool.false_and] at post
              refine ite_t (by simp; omega) ?_
              walk_at "d"
              exact nope post
        | _ =>
          refine ite_t rfl ?_
          walk_at "d"
          exact nope post
    | _ =>
      refine ite_t rfl ?_
      refine ite_t rfl ?_
      walk_at "d"
      exact nope post
end
abbrev s_firstbad : Stmt := topS 30
abbrev N_firstbad : List Str := ["functions", "shapes", "boxes", "most", "bad", "manys", "many", "rows", "number", "at", "row", "bounds"]
theorem sc_firstbad : FnScope N_firstbad ["functions", "shapes", "boxes", "most"] (defScope s_firstbad) := ⟨rfl, rfl, rfl, by decide +kernel, rfl, by decide +kernel, by decide +kernel⟩
def rowsBad (sh : Shp) (bx : Int) (ms : List Int) (n : Int) : Nat → List D → Option Nat
  | _, [] => none
  | i, r :: rs => if rcan sh bx (n - i) ms r = true then rowsBad sh bx ms n (i + 1) rs else some i
theorem rowsBad_some {sh : Shp} {bx : Int} {ms : List Int} {n : Int} : ∀ (k : Nat) (rs : List D) (i : Nat) (r : D), rs[i]? = some r → (∀ (j : Nat) g, j < i → rs[j]? = some g → rcan sh bx (n - ((k + j : Nat) : Int)) ms g = true) → rcan sh bx (n - ((k + i : Nat) : Int)) ms r = false → rowsBad sh bx ms n k rs = some (k + i)
  | k, g :: rs, 0, r, h, _, hb => by
    cases h
    unfold rowsBad
    exact if_neg (by rw [show ((k + 0 : Nat) : Int) = k from rfl] at hb; rw [hb]; decide)
  | k, g :: rs, i + 1, r, h, hg, hb => by
    unfold rowsBad
    rw [if_pos (show rcan sh bx (n - (k : Int)) ms g = true from hg 0 g (by omega) rfl), rowsBad_some (k + 1) rs i r (by simpa using h) (fun j g' hj e => ?_) (by rw [show k + 1 + i = k + (i + 1) by omega]; exact hb), show k + 1 + i = k + (i + 1) by omega]
    rw [show k + 1 + j = k + (j + 1) by omega]
    exact hg (j + 1) g' (by omega) (by simpa using e)
theorem rowsBad_none {sh : Shp} {bx : Int} {ms : List Int} {n : Int} : ∀ (k : Nat) (rs : List D), (∀ (j : Nat) g, rs[j]? = some g → rcan sh bx (n - ((k + j : Nat) : Int)) ms g = true) → rowsBad sh bx ms n k rs = none
  | _, [], _ => rfl
  | k, g :: rs, hg => by
    unfold rowsBad
    rw [if_pos (show rcan sh bx (n - (k : Int)) ms g = true from hg 0 g rfl)]
    refine rowsBad_none (k + 1) rs fun j g' e => ?_
    rw [show k + 1 + j = k + (j + 1) by omega]
    exact hg (j + 1) g' (by simpa using e)
abbrev Gf := Int × List D
def Gf.e (g : Gf) : D := .tup [.int g.1, .tup g.2]
def fnsBad (sh : Shp) (bx : Int) (ms : List Int) : Nat → List Gf → Option (Nat × Nat)
  | _, [] => none
  | i, g :: gs => match rowsBad sh bx ms g.2.length 0 g.2 with
    | some at_ => some (i, at_)
    | none => fnsBad sh bx ms (i + 1) gs
theorem fnsBad_some {sh : Shp} {bx : Int} {ms : List Int} {a : Nat} : ∀ (k : Nat) (gs : List Gf) (i : Nat) (g : Gf), gs[i]? = some g → (∀ (j : Nat) g, j < i → gs[j]? = some g → rowsBad sh bx ms g.2.length 0 g.2 = none) → rowsBad sh bx ms g.2.length 0 g.2 = some a → fnsBad sh bx ms k gs = some (k + i, a)
  | k, g' :: gs, 0, g, h, _, hb => by
    cases h
    unfold fnsBad
    rw [hb]
    rfl
  | k, g' :: gs, i + 1, g, h, hg, hb => by
    unfold fnsBad
    rw [hg 0 g' (by omega) rfl]
    show fnsBad sh bx ms (k + 1) gs = _
    rw [fnsBad_some (k + 1) gs i g (by simpa using h) (fun j g hj e => hg (j + 1) g (by omega) (by simpa using e)) hb, show k + 1 + i = k + (i + 1) by omega]
theorem fnsBad_none {sh : Shp} {bx : Int} {ms : List Int} : ∀ (k : Nat) (gs : List Gf), (∀ (j : Nat) g, gs[j]? = some g → rowsBad sh bx ms g.2.length 0 g.2 = none) → fnsBad sh bx ms k gs = none
  | _, [], _ => rfl
  | k, g' :: gs, hg => by
    unfold fnsBad
    rw [hg 0 g' rfl]
    exact fnsBad_none (k + 1) gs fun j g e => hg (j + 1) g (by simpa using e)
def gfOf : D → Gf
  | .tup [.int m, .tup rows] => (m, rows)
  | _ => (0, [])
def gfsOf : D → List Gf
  | .tup fs => fs.map gfOf
  | _ => []
def fbad (sh : Shp) (bx most : Int) (d : D) : Option (Int × Int) := match fbadF most d with
  | some n => some ((n : Int), -1)
  | none => (fnsBad sh bx ((gfsOf d).map (·.1)) 0 (gfsOf d)).map fun p => ((p.1 : Int), (p.2 : Int))
def badE : Option (Int × Int) → D
  | none => .non
  | some p => .tup [.int p.1, .int p.2]
theorem fcan_gf {m : Int} {d : D} (h : fcan m d = true) : ∃ g : Gf, d = g.e ∧ gfOf d = g ∧ 0 ≤ g.1 ∧ g.1 ≤ 3 ∧ (g.2.length : Int) ≤ m := by
  unfold fcan at h
  split at h
  · rename_i a rows
    rw [Bool.and_eq_true] at h
    obtain ⟨v, rfl, h0, h1⟩ := inB_int h.1
    exact ⟨(v, rows), rfl, rfl, h0, by omega, of_decide_eq_true h.2⟩
  · cases h
theorem fbf_all {most : Int} : ∀ (k : Nat) (fs : List D), k ≤ 8 → fbf most k fs = none → k + fs.length ≤ 8 ∧ ∀ f ∈ fs, fcan most f = true
  | k, [], hk, _ => ⟨by simpa using hk, fun f h => absurd h List.not_mem_nil⟩
  | k, f :: fs, hk, h => by
    unfold fbf at h
    split at h
    · cases h
    · rename_i hn
      rw [not_or] at hn
      obtain ⟨h1, h2⟩ := fbf_all (k + 1) fs (by omega) h
      refine ⟨by simp only [List.length_cons]; omega, fun g hg => ?_⟩
      rcases List.mem_cons.mp hg with rfl | hg
      · simpa using hn.2
      · exact h2 g hg
theorem gfs_of {most : Int} {d : D} (h : fbadF most d = none) : ∃ gs : List Gf, d = .tup (gs.map Gf.e) ∧ gfsOf d = gs ∧ gs ≠ [] ∧ gs.length ≤ 8 ∧ ∀ g ∈ gs, 0 ≤ g.1 ∧ g.1 ≤ 3 ∧ (g.2.length : Int) ≤ most := by
  unfold fbadF at h
  split at h
  · rename_i f fs
    obtain ⟨h1, h2⟩ := fbf_all 0 (f :: fs) (by omega) h
    refine ⟨(f :: fs).map gfOf, ?_, rfl, by simp, by simpa using h1, fun g hg => ?_⟩
    · rw [List.map_map]
      congr 1
      refine (List.map_id (f :: fs)).symm.trans (List.map_congr_left fun x hx => ?_)
      obtain ⟨g, e1, e2, _⟩ := fcan_gf (h2 x hx)
      show x = Gf.e (gfOf x)
      rw [e2]
      exact e1
    · obtain ⟨x, hx, rfl⟩ := List.mem_map.mp hg
      obtain ⟨g, e1, e2, h3⟩ := fcan_gf (h2 x hx)
      rw [e2]
      exact h3
  · cases h
def spFb : DSp := fun ds S P => ∃ (d : D) (sh : Shp) (bx most : Int), ds = [d, .dct (shKs sh) (shDs sh), .int bx, .int most] ∧ shOk sh ∧ dat d = true ∧ P (badE (fbad sh bx most d)) S
section
variable {P : Program} {w : World} {K : PySem.W.Frag} {mg : Str → Option Value} {base : Heap}
theorem ok_firstbad (at_ : At K mg "first_bad" s_firstbad ["functions", "shapes", "boxes", "most"]) (mb : ∀ x, isB x = true → mg x = none) (gi : ∀ x n, isG x = some n → ∃ t, mg x = some (.int n t)) (G_firstbadfunction : Fn P w K mg base "first_bad_function" 4 ["functions", "most"] spFbf)
    (G_rowcanbe : Fn P w K mg base "row_can_be" 4 ["row", "shapes", "bounds", "manys"] spRcb) : Fn P w K mg base "first_bad" 5 ["functions", "shapes", "boxes", "most"] spFb := by
  refine fn_at at_ fun f fd F => fn_d F sc_firstbad (fun ds S P h => ?_) ?_
  · obtain ⟨d, sh, bx, most, rfl, _⟩ := h
    rfl
  · rintro X W0 cdv A outer s H E rfl hr
    have hu := hr.units
    refine ⟨_, (dss_cons (ds_set (i := 4) (de_fn G_firstbadfunction (hr.mono (by decide)) (by rfl) (da_cons (de_var (pv 0)) (da_cons (de_var (pv 3)) da_nil))) (fun h => ps_set sc_firstbad.nd rfl (by first | exact Or.inl rfl | exact Or.inr rfl) h))
      (dss_cons (ds_if (dt_cmp op_notN do_notN (de_var (pv 4)) de_non (nomark _)) (dss_one (ds_ret (de_tup (da_cons (de_var (pv 4)) (da_cons (de_neg de_int) da_nil))))) dss_nil)
      (dss_cons (ds_setLc (i := 5) (vs := [6, 7]) (by decide) (ps_setLc (own := [("many", 6), ("rows", 7)]) rfl sc_firstbad.nd rfl rfl (sw_true rfl rfl rfl (by decide +kernel)) (di_tup (de_var (pv 0))) (blkOk_by (N := N_firstbad) (sc := defScope s_firstbad) (by decide +kernel)) (fun _ _ _ _ _ => (dg_tup (n := 2) rfl (dgs_cons (dg_name (pg_name (i := 6) sc_firstbad.nd rfl (Or.inl rfl))) (dgs_cons (dg_name (pg_name (i := 7) sc_firstbad.nd rfl (Or.inl rfl))) dgs_nil)))) (fun _ _ _ _ _ => dts_nil) (fun _ _ _ _ _ => (de_var (pv 6)))))
      (dss_cons (ds_for PassesOwn.never rfl (di_enumT (by rfl) (mb "enumerate" rfl) (da_cons (de_var (pv 0)) da_nil)) (dg_tup (n := 2) rfl (dgs_cons (dg_name (pg_name (i := 8) sc_firstbad.nd rfl (by first | exact Or.inl rfl | exact Or.inr rfl))) (dgs_cons (dg_tup (n := 2) rfl (dgs_cons (dg_name (pg_name (i := 6) sc_firstbad.nd rfl (by first | exact Or.inl rfl | exact Or.inr rfl))) (dgs_cons (dg_name (pg_name (i := 7) sc_firstbad.nd rfl (by first | exact Or.inl rfl | exact Or.inr rfl))) dgs_nil))) dgs_nil))) (dss_one (ds_for PassesOwn.never rfl (di_enumT (by rfl) (mb "enumerate" rfl) (da_cons (de_var (pv 7)) da_nil)) (dg_tup (n := 2) rfl (dgs_cons (dg_name (pg_name (i := 9) sc_firstbad.nd rfl (by first | exact Or.inl rfl | exact Or.inr rfl))) (dgs_cons (dg_name (pg_name (i := 10) sc_firstbad.nd rfl (by first | exact Or.inl rfl | exact Or.inr rfl))) dgs_nil))) (dss_cons (ds_set (i := 11) (de_disp (dps_cons de_str (de_var (pv 2)) (dps_cons de_str (de_gint (by rfl) (gi "NUMBERS" 1000 rfl)) (dps_cons de_str (de_b dc_len (da_cons (de_var (pv 0)) da_nil) (fun h => pe_callB call_len_seq (by rfl) (mb "len" rfl) PySem.boot_len h)) (dps_cons de_str (de_sub (de_b dc_len (da_cons (de_var (pv 7)) da_nil) (fun h => pe_callB call_len_seq (by rfl) (mb "len" rfl) PySem.boot_len h)) (de_var (pv 9))) dps_nil)))) (by rfl) (by rfl) (fun z => by cases z) (by decide)) (fun h => ps_set sc_firstbad.nd rfl (by first | exact Or.inl rfl | exact Or.inr rfl) h))
      (dss_one (ds_if (dt_not (dt_val (de_fn G_rowcanbe (hr.mono (by decide)) (by rfl) (da_cons (de_var (pv 10)) (da_cons (de_var (pv 1)) (da_cons (de_var (pv 11)) (da_cons (de_var (pv 5)) da_nil))))))) (dss_one (ds_ret (de_tup (da_cons (de_var (pv 8)) (da_cons (de_var (pv 9)) da_nil))))) dss_nil))))))
      (dss_one (ds_ret de_non)))))), ?_⟩
    rintro ds S P ⟨d, sh, bx, most, rfl, hsh, hd, post⟩
    have exd : ∀ o, P (badE o) S → atExit S P (badE o) S := fun o q => exit_pure0 (fun n => by cases o <;> rfl) q
    walk_at "st"
    walk_at "d"
    refine ⟨d, most, rfl, hd, ?_⟩
    walk_at "d"
    walk_at "e"
    cases hb : fbadF most d with
    | some n =>
      have e : fbad sh bx most d = some ((n : Int), -1) := by unfold fbad; rw [hb]
      rw [e] at post
      refine ite_t rfl ?_
      walk_at "d"
      exact exd _ post
    | none =>
      obtain ⟨gs, rfl, egs, hne, h8, hgs⟩ := gfs_of hb
      have e : fbad sh bx most (.tup (gs.map Gf.e)) = (fnsBad sh bx (gs.map (·.1)) 0 gs).map fun p => ((p.1 : Int), (p.2 : Int)) := by unfold fbad; rw [hb]; show (fnsBad sh bx ((gfsOf _).map (·.1)) 0 (gfsOf _)).map _ = _; rw [egs]
      rw [e] at post
      have hdat : ∀ g ∈ gs, ∀ r ∈ g.2, dat r = true := fun g hg r hr => by
        have h1 : dats (gs.map Gf.e) = true := hd
        have h2 := dats_mem h1 _ (List.mem_map_of_mem (f := Gf.e) hg)
        have h3 : (true && (dats g.2 && true)) = true := h2
        simp only [Bool.true_and, Bool.and_true] at h3
        exact dats_mem h3 r hr
      refine ite_f Bool.false_ne_true ?_
      walk_at "d"
      refine ⟨fun i acc S' => S' = S ∧ acc = ((gs.take i).map (·.1)).map .int, ⟨rfl, rfl⟩, ?_, ?_, ?_⟩
      · rintro i acc S' hi ⟨rfl, rfl⟩
        exact ⟨trivial, sz_lt (by rw [List.length_map, List.length_map, List.length_take]; omega)⟩
      · rintro i x acc S' hx ⟨rfl, rfl⟩
        rw [List.getElem?_map] at hx
        cases ef : gs[i]? with
        | none => rw [ef] at hx; cases hx
        | some g =>
          rw [ef] at hx
          cases hx
          dsimp only [Gf.e]
          walk_at "d"
          refine ite_t rfl ?_
          walk_at "d"
          refine ⟨rfl, ?_⟩
          rw [List.take_add_one, ef]
          simp
      rintro acc S' ⟨rfl, rfl⟩
      rw [List.length_map, List.take_length]
      walk_at "d"
      walk_at "e"
      generalize hms : gs.map (·.1) = ms at post
      have hlm : ms.length = gs.length := by rw [← hms, List.length_map]
      refine ⟨fun i env S2 => S2 = S' ∧ (∃ y6 y7 y8 y9 y10 y11, env = [some (.tup (gs.map Gf.e)), some (.dct (shKs sh) (shDs sh)), some (.int bx), some (.int most), some .non, some (.lst (ms.map .int)), y6, y7, y8, y9, y10, y11]) ∧ ∀ (j : Nat) g, j < i → gs[j]? = some g → rowsBad sh bx ms g.2.length 0 g.2 = none, ⟨rfl, ⟨none, none, none, none, none, none, rfl⟩, fun j g hj => absurd hj (by omega)⟩, fun _ _ _ _ _ => trivial, ?_, ?_⟩
      · rintro i x env S2 hx ⟨rfl, ⟨y6, y7, y8, y9, y10, y11, rfl⟩, hg⟩
        obtain ⟨d, hd', rfl⟩ := enumD_get 0 _ i x hx
        rw [List.getElem?_map] at hd'
        cases ef : gs[i]? with
        | none => rw [ef] at hd'; cases hd'
        | some g =>
          rw [ef] at hd'
          cases hd'
          have hgm := List.mem_of_getElem? ef
          dsimp only [Gf.e]
          walk_at "d"
          walk_at "e"
          refine ⟨fun j env S3 => S3 = S2 ∧ (∃ y9 y10 y11, env = [some (.tup (gs.map Gf.e)), some (.dct (shKs sh) (shDs sh)), some (.int bx), some (.int most), some .non, some (.lst (ms.map .int)), some (.int g.1), some (.tup g.2), some (.int ((0 + i : Nat) : Int)), y9, y10, y11]) ∧ ∀ (k : Nat) r, k < j → g.2[k]? = some r → rcan sh bx ((g.2.length : Int) - ((0 + k : Nat) : Int)) ms r = true, ⟨rfl, ⟨_, _, _, rfl⟩, fun j r hj => absurd hj (by omega)⟩, fun _ _ _ _ _ => trivial, ?_, ?_⟩
          · rintro j x env S3 hx ⟨rfl, ⟨z9, z10, z11, rfl⟩, hrr⟩
            obtain ⟨r, er, rfl⟩ := enumD_get 0 _ j x hx
            walk_at "d"
            walk_at "e"
            refine i_xdisp (ks := bKs) rfl (by decide) (by decide) ?_
            walk_at "d"
            walk_at "e"
            refine ⟨r, sh, bx, (g.2.length : Int) - ((0 + j : Nat) : Int), ms, ?_, hsh, hdat g hgm r (List.mem_of_getElem? er), fun m hm => ?_, ?_⟩
            · rw [hlm, ← List.length_map (f := Gf.e)]
              rfl
            · rw [← hms] at hm
              obtain ⟨g', hg', rfl⟩ := List.mem_map.mp hm
              exact ⟨(hgs g' hg').1, (hgs g' hg').2.1⟩
            walk_at "d"
            cases hc : rcan sh bx ((g.2.length : Int) - ((0 + j : Nat) : Int)) ms r with
            | true =>
              refine ite_f Bool.false_ne_true ?_
              walk_at "d"
              refine ⟨rfl, ⟨_, _, _, rfl⟩, fun k r' hk e' => ?_⟩
              rcases Nat.lt_succ_iff_lt_or_eq.mp hk with hk | rfl
              · exact hrr k r' hk e'
              · rw [er] at e'
                cases e'
                exact hc
            | false =>
              refine ite_t rfl ?_
              walk_at "d"
              rw [fnsBad_some 0 gs i g ef hg (rowsBad_some 0 g.2 j r er hrr hc)] at post
              exact exd _ post
          · rintro env S3 ⟨rfl, ⟨z9, z10, z11, rfl⟩, hrr⟩
            refine ⟨rfl, ⟨_, _, _, _, _, _, rfl⟩, fun j g' hj e' => ?_⟩
            rcases Nat.lt_succ_iff_lt_or_eq.mp hj with hj | rfl
            · exact hg j g' hj e'
            · rw [ef] at e'
              cases e'
              rw [enumD_len] at hrr
              exact rowsBad_none 0 g.2 fun k r' e' => hrr k r' (List.getElem?_eq_some_iff.mp e').1 e'
      · rintro env S2 ⟨rfl, ⟨y6, y7, y8, y9, y10, y11, rfl⟩, hg⟩
        walk_at "d"
        rw [enumD_len, List.length_map] at hg
        rw [fnsBad_none 0 gs fun j g e' => hg j g (List.getElem?_eq_some_iff.mp e').1 e'] at post
        exact exd none post
end
abbrev s_checkprogram : Stmt := topS 31
abbrev N_checkprogram : List Str := ["program", "bad", "function", "row"]
theorem sc_checkprogram : FnScope N_checkprogram ["program"] (defScope s_checkprogram) := ⟨rfl, rfl, rfl, by decide +kernel, rfl, by decide +kernel, by decide +kernel⟩
theorem moOf_at {cs : List Int} {f : Int} {n : Nat} (h : moOf cs f = some n) (hc : ∀ c ∈ cs, 0 ≤ c) : 0 ≤ f ∧ f < cs.length ∧ L2.atI (cs.map D.int) f = some (.int n) := by
  unfold moOf at h
  split at h
  · rename_i h0
    cases e : cs[f.toNat]? with
    | none => rw [e] at h; cases h
    | some c =>
      rw [e] at h
      have hl := (List.getElem?_eq_some_iff.mp e).1
      have hc0 := hc c (List.mem_of_getElem? e)
      have hn : c.toNat = n := Option.some.inj h
      refine ⟨h0, by omega, ?_⟩
      have e2 : f = (f.toNat : Int) := by omega
      conv => lhs; rw [e2]
      refine atI_nat ?_
      rw [List.getElem?_map, e, ← hn]
      show some (D.int c) = some (D.int (c.toNat : Int))
      rw [Int.toNat_of_nonneg hc0]
  · cases h
theorem many_le {p : List Func} (hp : progOk p) : ∀ c ∈ p.map Func.many, 0 ≤ c ∧ c ≤ 3 := fun c hc => by
  obtain ⟨f, hf, rfl⟩ := List.mem_map.mp hc
  exact ⟨(hp.fs f hf).lo, (hp.fs f hf).hi⟩
theorem short_of {cs : List Int} {l : Int} {r : Row} (hc : ∀ c ∈ cs, 0 ≤ c ∧ c ≤ 3) (h : r.ok (moOf cs) l) : r.short := by
  cases r with
  | call b f bs =>
    obtain ⟨_, h2, _⟩ := h
    obtain ⟨f0, f1, f2⟩ := moOf_at h2 fun c hc' => (hc c hc').1
    show bs.length ≤ 3
    unfold moOf at h2
    rw [if_pos f0] at h2
    cases e : cs[f.toNat]? with
    | none => rw [e] at h2; cases h2
    | some c =>
      rw [e] at h2
      have := hc c (List.mem_of_getElem? e)
      have hn : c.toNat = bs.length := Option.some.inj h2
      omega
  | _ => trivial
def prSh : Shp := [("num", ["box", "number"]), ("plus", ["box", "box", "box"]), ("less", ["box", "box", "box"]), ("times", ["box", "box", "box"]), ("call", ["box", "function", "boxes"]), ("skip", ["box", "count"]), ("say", ["box"]), ("rest", []), ("tell", ["box"])]
theorem prSh_ok : shOk prSh := by
  intro p hp
  simp only [prSh, List.mem_cons, List.not_mem_nil, or_false] at hp
  rcases hp with rfl | rfl | rfl | rfl | rfl | rfl | rfl | rfl | rfl <;> first | exact .inr rfl | exact .inl (by decide)
theorem inB_of {b v : Int} (h0 : 0 ≤ v) (h1 : v < b) : inB b (.int v) = true := by
  show (decide (0 ≤ v) && decide (v < b)) = true
  rw [decide_eq_true h0, decide_eq_true h1]
  rfl
theorem inB_box {v : Int} (h : box v) : inB 8 (.int v) = true := inB_of h.1 h.2
theorem rcan_row {cs : List Int} {cnt : Int} {r : Row} (h : r.ok (moOf cs) (cnt - 1)) (hc : ∀ c ∈ cs, 0 ≤ c) : rcan prSh 8 cnt cs r.e = true := by
  cases r with
  | num b n =>
    obtain ⟨h1, h2, h3⟩ := h
    show (true && (inB 8 (.int b) && (inB 1000 (.int n) && true))) = true
    rw [inB_box h1, inB_of h2 h3]
    rfl
  | ar w' b c d =>
    obtain ⟨h1, h2, h3⟩ := h
    have e : rcan prSh 8 cnt cs (Row.e (.ar w' b c d)) = (true && (inB 8 (.int b) && (inB 8 (.int c) && (inB 8 (.int d) && true)))) := by cases w' <;> rfl
    rw [e, inB_box h1, inB_box h2, inB_box h3]
    rfl
  | call b f bs =>
    obtain ⟨h1, h2, h3⟩ := h
    obtain ⟨f0, f1, f2⟩ := moOf_at h2 hc
    have hm : cs[f.toNat]? = some (bs.length : Int) := by
      unfold moOf at h2
      rw [if_pos f0] at h2
      cases e : cs[f.toNat]? with
      | none => rw [e] at h2; cases h2
      | some c =>
        rw [e] at h2
        have := hc c (List.mem_of_getElem? e)
        have hn : c.toNat = bs.length := Option.some.inj h2
        rw [← hn, Int.toNat_of_nonneg this]
    show (true && (inB 8 (.int b) && (inB cs.length (.int f) && ((decide (some ((bs.map D.int).length : Int) = cs[f.toNat]?) && (bs.map D.int).all (inB 8)) && true)))) = true
    have all : (bs.map D.int).all (inB 8) = true := by
      rw [List.all_map, List.all_eq_true]
      exact fun n hn => inB_box (h3 n hn)
    rw [inB_box h1, inB_of f0 f1, all, hm, List.length_map, decide_eq_true rfl]
    rfl
  | skip b m =>
    obtain ⟨h1, h2, h3⟩ := h
    show (true && (inB 8 (.int b) && (inB cnt (.int m) && true))) = true
    rw [inB_box h1, inB_of h2 (by omega)]
    rfl
  | say b =>
    show (true && (inB 8 (.int b) && true)) = true
    rw [inB_box h]
    rfl
  | rest => rfl
  | tell b =>
    show (true && (inB 8 (.int b) && true)) = true
    rw [inB_box h]
    rfl
theorem dats_ints : ∀ ns : List Int, dats (ns.map .int) = true
  | [] => rfl
  | _ :: ns => dats_ints ns
theorem dat_row (r : Row) : dat r.e = true := by
  cases r with
  | call b f bs => show (true && (true && (true && (dats (bs.map .int) && true)))) = true; rw [dats_ints]; rfl
  | _ => rfl
theorem dats_of : ∀ {xs : List D}, (∀ x ∈ xs, dat x = true) → dats xs = true
  | [], _ => rfl
  | x :: xs, h => by
    show (dat x && dats xs) = true
    rw [h x List.mem_cons_self, dats_of fun y hy => h y (List.mem_cons_of_mem _ hy)]
    rfl
theorem dat_fn {rs : List D} {m : Int} (h : ∀ r ∈ rs, dat r = true) : dat (.tup [.int m, .tup rs]) = true := by
  show (true && (dats rs && true)) = true
  rw [dats_of h]
  rfl
theorem dat_prog (p : List Func) : dat (progE p) = true := dats_of fun x hx => by
  obtain ⟨f, _, rfl⟩ := List.mem_map.mp hx
  exact dat_fn fun r hr => by
    obtain ⟨q, _, rfl⟩ := List.mem_map.mp hr
    exact dat_row q
/-- functions that can be -/
theorem fbad_none {sh : Shp} {bx most : Int} {gs : List Gf} (lo : gs ≠ []) (hi : gs.length ≤ 8) (hf : ∀ g ∈ gs, 0 ≤ g.1 ∧ g.1 ≤ 3 ∧ (g.2.length : Int) ≤ most) (hr : ∀ g ∈ gs, ∀ (j : Nat) r, g.2[j]? = some r → rcan sh bx ((g.2.length : Int) - (j : Int)) (gs.map (·.1)) r = true) : fbad sh bx most (.tup (gs.map Gf.e)) = none := by
  have hfc : ∀ g ∈ gs, fcan most (Gf.e g) = true := fun g hg => by
    obtain ⟨h1, h2, h3⟩ := hf g hg
    show (inB 4 (.int g.1) && decide ((g.2.length : Int) ≤ most)) = true
    rw [inB_of h1 (by omega), decide_eq_true h3]
    rfl
  have e1 : fbadF most (.tup (gs.map Gf.e)) = none := by
    cases gs with
    | nil => exact absurd rfl lo
    | cons g gs =>
      show fbf most 0 ((g :: gs).map Gf.e) = none
      refine fbf_none 0 _ fun j x e => ?_
      have hj := (List.getElem?_eq_some_iff.mp e).1
      rw [List.length_map] at hj
      obtain ⟨g', hg', rfl⟩ := List.mem_map.mp (List.mem_of_getElem? e)
      exact ⟨by omega, hfc g' hg'⟩
  unfold fbad
  rw [e1]
  obtain ⟨gs', e2, e3, _⟩ := gfs_of e1
  have e4 : gfsOf (.tup (gs.map Gf.e)) = gs := by
    show (gs.map Gf.e).map gfOf = gs
    rw [List.map_map]
    exact (List.map_congr_left fun g _ => rfl).trans (List.map_id gs)
  show (fnsBad sh bx ((gfsOf _).map (·.1)) 0 (gfsOf _)).map _ = none
  rw [e4, fnsBad_none 0 gs fun j g e => rowsBad_none 0 g.2 fun k r e' => ?_]
  · rfl
  · rw [Nat.zero_add]
    exact hr g (List.mem_of_getElem? e) k r e'
theorem fbad_prog {p : List Func} (hp : progOk p) : fbad prSh 8 30 (progE p) = none := by
  have e : progE p = .tup ((p.map fun f : Func => ((f.many, f.rows.map Row.e) : Gf)).map Gf.e) := by
    rw [List.map_map]
    rfl
  have hl := hp.lo
  have ems : (p.map fun f : Func => ((f.many, f.rows.map Row.e) : Gf)).map (·.1) = p.map Func.many := by rw [List.map_map]; rfl
  rw [e, fbad_none (by intro z; rw [List.map_eq_nil_iff] at z; rw [z] at hl; simp at hl) (by rw [List.length_map]; exact hp.hi)]
  · intro g hg
    obtain ⟨f, hf, rfl⟩ := List.mem_map.mp hg
    have fo := hp.fs f hf
    exact ⟨fo.lo, fo.hi, by have := fo.len; simp only [List.length_map]; omega⟩
  · intro g hg j r hr
    obtain ⟨f, hf, rfl⟩ := List.mem_map.mp hg
    have hr : (f.rows.map Row.e)[j]? = some r := hr
    rw [List.getElem?_map] at hr
    cases er : f.rows[j]? with
    | none => rw [er] at hr; cases hr
    | some q =>
      rw [er] at hr
      cases hr
      rw [ems]
      refine rcan_row ?_ fun c hc => (many_le hp c hc).1
      have ro := (hp.fs f hf).rows j q er
      rw [show (((f.rows.map Row.e).length : Nat) : Int) - (j : Int) - 1 = (f.rows.length : Int) - 1 - (j : Int) by rw [List.length_map]; omega]
      exact ro
def spCheck : DSp := fun ds S P => ∃ (p : List Func), ds = [progE p] ∧ progOk p ∧ P .non S
section
variable {P : Program} {w : World} {K : PySem.W.Frag} {mg : Str → Option Value} {base : Heap}
theorem ok_checkprogram (at_ : At K mg "check_program" s_checkprogram ["program"]) (mb : ∀ x, isB x = true → mg x = none) (gi : ∀ x n, isG x = some n → ∃ t, mg x = some (.int n t)) (pr : PrTab P w K mg) (G_firstbad : Fn P w K mg base "first_bad" 5 ["functions", "shapes", "boxes", "most"] spFb) :
    Fn P w K mg base "check_program" 6 ["program"] spCheck := by
  obtain ⟨aPR, tab_PROGRAM_ROWS⟩ := pr
  refine fn_at at_ fun f fd F => fn_d F sc_checkprogram (fun ds S P h => ?_) ?_
  · obtain ⟨p, rfl, _⟩ := h
    rfl
  · rintro X W0 cdv A outer s H E rfl hr
    have hu := hr.units
    refine ⟨_, (dss_cons (ds_set (i := 1) (de_fn G_firstbad (hr.mono (by decide)) (by rfl) (da_cons (de_var (pv 0)) (da_cons (de_kcopy tab_PROGRAM_ROWS.2.1 (by rfl) tab_PROGRAM_ROWS.1 (by rfl) (mb "dict" rfl)) (da_cons (de_gint (by rfl) (gi "PROGRAM_BOXES" 8 rfl)) (da_cons (de_gint (by rfl) (gi "MOST_PROGRAM_ROWS" 30 rfl)) da_nil))))) (fun h => ps_set sc_checkprogram.nd rfl (by first | exact Or.inl rfl | exact Or.inr rfl) h))
      (dss_one (ds_if (dt_cmp op_notN do_notN (de_var (pv 1)) de_non (nomark _)) (dss_cons (ds_asg (de_var (pv 1)) (dg_tup (n := 2) rfl (dgs_cons (dg_name (pg_name (i := 2) sc_checkprogram.nd rfl (by first | exact Or.inl rfl | exact Or.inr rfl))) (dgs_cons (dg_name (pg_name (i := 3) sc_checkprogram.nd rfl (by first | exact Or.inl rfl | exact Or.inr rfl))) dgs_nil))) (fun h1 h2 => ps_asg h1 h2))
      (dss_one ds_never)) dss_nil))), ?_⟩
    rintro ds S P ⟨p, rfl, hp, post⟩
    walk_at "st"
    walk_at "d"
    refine ⟨progE p, prSh, 8, 30, rfl, prSh_ok, dat_prog p, ?_⟩
    rw [fbad_prog hp]
    walk_at "d"
    walk_at "e"
    refine ite_f Bool.false_ne_true ?_
    walk_at "d"
    exact exit_pure0 (fun _ => rfl) post
end
abbrev s_Lmix : Stmt := topS 42
abbrev N_Lmix : List Str := ["_law_script", "_law_seed", "_law_mixed", "_law_cell"]
theorem sc_Lmix : FnScope N_Lmix ["_law_script", "_law_seed"] (defScope s_Lmix) := ⟨rfl, rfl, rfl, by decide +kernel, rfl, by decide +kernel, by decide +kernel⟩
def spMix : DSp := fun ds S P => ∃ (ns : List Int) (k : Int), ds = [.scr ns, .int k] ∧ S = [.tab 465 "law.<locals>.<lambda>"] ∧ ∀ m, P (.ref 2) (hd ⟨ns, m, 0⟩)
def spLaw : DSp := fun ds S P => ∃ (ns : List Int), ds = [.scr ns] ∧ S = [.tab 465 "law.<locals>.<lambda>"] ∧ P (.bl true) [.tab 465 "law.<locals>.<lambda>"]
section
variable {P : Program} {w : World} {K : PySem.W.Frag} {mg : Str → Option Value} {base : Heap}
theorem ok_Lmix (at_ : At K mg "_law_mix" s_Lmix ["_law_script", "_law_seed"]) (mb : ∀ x, isB x = true → mg x = none) : Fn P w K mg base "_law_mix" 1 ["_law_script", "_law_seed"] spMix := by
  refine fn_at at_ fun f fd F => fn_dK F sc_Lmix (fun ds S P h => ?_) ?_
  · obtain ⟨ns, k, rfl, _⟩ := h
    rfl
  · rintro X W0 cdv A outer s H E rfl hr
    have hu := hr.units
    refine ⟨_, (dss_cons (ds_set (i := 2) (de_var (pv 1)) (fun h => ps_set sc_Lmix.nd rfl (by first | exact Or.inl rfl | exact Or.inr rfl) h))
      (dss_cons (ds_for PassesOwn.never rfl (di_list (de_var (pv 0))) (dg_name (pg_name (i := 3) sc_Lmix.nd rfl (by first | exact Or.inl rfl | exact Or.inr rfl))) (dss_one (ds_set (i := 2) (de_mod (de_add (de_add (de_mul (de_var (pv 2)) de_int) (de_mod (de_var (pv 3)) de_int)) de_int) de_int) (fun h => ps_set sc_Lmix.nd rfl (by first | exact Or.inl rfl | exact Or.inr rfl) h))))
      (dss_one (ds_ret (de_new (dn_lst (da_cons (de_var (pv 2)) (da_cons (de_new (dn_b dc_list (da_cons (de_var (pv 0)) da_nil) (fun h => pe_callTy call_list_of (by rfl) (mb "list" rfl) (by decide +kernel) h))) (da_cons de_int da_nil))))))))), ?_⟩
    rintro ds S P ⟨ns, k, rfl, rfl, post⟩
    walk_at "st"
    walk_at "d"
    walk_at "e"
    refine ⟨fun i env S' => S' = [.tab 465 "law.<locals>.<lambda>"] ∧ ∃ m y3, env = [some (.scr ns), some (.int k), some (.int m), y3], ⟨rfl, k, none, rfl⟩, fun _ _ _ _ _ => trivial, ?_, ?_⟩
    · rintro i x env S' hx ⟨rfl, m, y3, rfl⟩
      rw [List.getElem?_map] at hx
      cases ec : ns[i]? with
      | none => rw [ec] at hx; cases hx
      | some c =>
        rw [ec] at hx
        cases hx
        walk_at "d"
        walk_at "e"
        walk_at "d"
        exact ⟨rfl, _, _, rfl⟩
    · rintro env S' ⟨rfl, m, y3, rfl⟩
      walk_at "d"
      exact post m
end
theorem mo_at {p : List Func} (hp : progOk p) {f : Int} {n : Nat} (h : moOf (p.map Func.many) f = some n) : ∃ fn, 0 ≤ f ∧ p[f.toNat]? = some fn ∧ fn.many = n ∧ n ≤ 3 := by
  unfold moOf at h
  by_cases h0 : 0 ≤ f
  · rw [if_pos h0, List.getElem?_map] at h
    cases e : p[f.toNat]? with
    | none => rw [e] at h; cases h
    | some fn =>
      rw [e] at h
      have h : fn.many.toNat = n := Option.some.inj h
      have hk := hp.fs fn (List.mem_of_getElem? e)
      have := hk.lo
      have := hk.hi
      exact ⟨fn, h0, rfl, by omega, by omega⟩
  · rw [if_neg h0] at h; cases h
open TL
/-! ### rows as words, lines, texts -/
def sp1 : Str := " "
def nl1 : Str := "\n"
def Row.ws : Row → List Str
  | .num b n => ["num", numS b, numS n]
  | .ar w b c d => [w.s, numS b, numS c, numS d]
  | .call b f bs => "call" :: numS b :: numS f :: bs.map numS
  | .skip b m => ["skip", numS b, numS m]
  | .say b => ["say", numS b]
  | .rest => ["rest"]
  | .tell b => ["tell", numS b]
def Row.ints : Row → List Int
  | .num b n => [b, n]
  | .ar _ b c d => [b, c, d]
  | .call b f bs => b :: f :: bs
  | .skip b m => [b, m]
  | .say b => [b]
  | .rest => []
  | .tell b => [b]
def Row.word : Row → Str
  | .num _ _ => "num"
  | .ar w _ _ _ => w.s
  | .call _ _ _ => "call"
  | .skip _ _ => "skip"
  | .say _ => "say"
  | .rest => "rest"
  | .tell _ => "tell"
structure Row.txt (r : Row) : Prop where
  num : ∀ i ∈ r.ints, 0 ≤ i ∧ i < 1000
  sh : r.short
def lineS (r : Row) : Str := Txt.join sp1 r.ws
def funS (m : Int) : Str := ("fun " : Str) ++ numS m
def linesOf (f : Func) : List Str := funS f.many :: f.rows.map lineS
def textS (p : List Func) : Str := Txt.join nl1 (p.flatMap linesOf)
theorem ws_eq (r : Row) : r.ws = r.word :: r.ints.map numS := by cases r <;> rfl
/-! ### numbers -/
def okNum (n : Nat) : Bool := Txt.isascii (numS n) && Txt.isdigit (numS n) && decide ((numS n).length ≤ 3) && (decide (numS n = "0") || !Txt.startswith (numS n) "0") && decide (PySem.intText? (numS n) = some (n : Int)) && !((tl (numS n)).contains 32) && !((tl (numS n)).contains 10)
theorem okNum_all : (List.range 1000).all okNum = true := by decide +kernel
structure NumOk (i : Int) : Prop where
  asc : Txt.isascii (numS i) = true
  dig : Txt.isdigit (numS i) = true
  len : (numS i).length ≤ 3
  zer : numS i = "0" ∨ Txt.startswith (numS i) "0" = false
  int : PySem.intText? (numS i) = some i
  sp : (32 : Nat) ∉ tl (numS i)
  nl : (10 : Nat) ∉ tl (numS i)
theorem num_ok {i : Int} (h0 : 0 ≤ i) (h1 : i < 1000) : NumOk i := by
  obtain ⟨n, rfl⟩ : ∃ n : Nat, i = n := ⟨i.toNat, by omega⟩
  have h := List.all_eq_true.mp okNum_all n (List.mem_range.mpr (by omega))
  unfold okNum at h
  simp only [Bool.and_eq_true, decide_eq_true_eq, Bool.or_eq_true, Bool.not_eq_true', List.contains_eq_mem, decide_eq_false_iff_not] at h
  obtain ⟨⟨⟨⟨⟨⟨a, b⟩, c⟩, d⟩, e⟩, f⟩, g⟩ := h
  exact ⟨a, b, c, d, e, f, g⟩
open TL
abbrev s_lineof : Stmt := topS 34
abbrev N_lineof : List Str := ["row", "word", "box", "function", "boxes", "part"]
theorem sc_lineof : FnScope N_lineof ["row"] (defScope s_lineof) := ⟨rfl, rfl, rfl, by decide +kernel, rfl, by decide +kernel, by decide +kernel⟩
abbrev s_written : Stmt := topS 35
abbrev N_written : List Str := ["program", "lines", "many", "rows", "row"]
theorem sc_written : FnScope N_written ["program"] (defScope s_written) := ⟨rfl, rfl, rfl, by decide +kernel, rfl, by decide +kernel, by decide +kernel⟩
/-! ### lines -/
theorem tl_len (x : Str) : (tl x).length = x.length := by
  cases x with
  | mk c => show c.toList.length = c.size; rw [Array.length_toList]
theorem joinL_mem {S : List Nat} {c : Nat} : ∀ {ps : List (List Nat)}, c ∈ joinL S ps → c ∈ S ∨ ∃ p ∈ ps, c ∈ p
  | [], h => by cases h
  | [p], h => .inr ⟨p, List.mem_singleton.mpr rfl, h⟩
  | p :: q :: r, h => by
    rcases List.mem_append.mp (show c ∈ p ++ (S ++ joinL S (q :: r)) from h) with h | h
    · exact .inr ⟨p, List.mem_cons_self, h⟩
    · rcases List.mem_append.mp h with h | h
      · exact .inl h
      · rcases joinL_mem h with h | ⟨p', h1, h2⟩
        · exact .inl h
        · exact .inr ⟨p', List.mem_cons_of_mem _ h1, h2⟩
theorem joinL_len {S : List Nat} {k : Nat} : ∀ {ps : List (List Nat)}, (∀ p ∈ ps, p.length ≤ k) → (joinL S ps).length ≤ ps.length * (k + S.length)
  | [], _ => Nat.zero_le _
  | [p], h => by
    have := h p (List.mem_singleton.mpr rfl)
    show p.length ≤ 1 * _
    omega
  | p :: q :: r, h => by
    have h1 := h p List.mem_cons_self
    have h2 := joinL_len (S := S) (k := k) (ps := q :: r) fun x hx => h x (List.mem_cons_of_mem _ hx)
    show (p ++ (S ++ joinL S (q :: r))).length ≤ _
    rw [List.length_append, List.length_append, List.length_cons, Nat.succ_mul]
    omega
theorem sp_tl : tl sp1 = [32] := rfl
theorem nl_tl : tl nl1 = [10] := rfl
/-- a word of a line -/
structure WOk (w : Str) : Prop where
  len : w.length ≤ 5
  sp : (32 : Nat) ∉ tl w
  nl : (10 : Nat) ∉ tl w
def lineW (w : Str) (ns : List Int) : Str := Txt.join sp1 (w :: ns.map numS)
theorem lineS_eq (r : Row) : lineS r = lineW r.word r.ints := by unfold lineS lineW; rw [ws_eq]
theorem tl_inj {a b : Str} (h : tl a = tl b) : a = b := by
  cases a; cases b
  simp only [tl] at h
  rw [Array.toList_inj.mp h]
theorem funS_eq (m : Int) : funS m = lineW "fun" [m] := by
  refine tl_inj ?_
  unfold funS lineW
  rw [join_eq, tl_join, tl_append]
  rfl
theorem word_ok {w : Str} (h : w = "fun" ∨ w = "num" ∨ w = "plus" ∨ w = "less" ∨ w = "times" ∨ w = "call" ∨ w = "skip" ∨ w = "say" ∨ w = "rest" ∨ w = "tell") : WOk w := by
  rcases h with rfl | rfl | rfl | rfl | rfl | rfl | rfl | rfl | rfl | rfl <;> exact ⟨by decide +kernel, by decide +kernel, by decide +kernel⟩
theorem row_word (r : Row) : WOk r.word := by
  cases r with
  | ar w b c d => cases w <;> exact word_ok (by simp [Row.word, Ar.s])
  | _ => exact word_ok (by simp [Row.word])
theorem num_word {i : Int} (h0 : 0 ≤ i) (h1 : i < 1000) : WOk (numS i) := by
  have h := num_ok h0 h1
  exact ⟨by have := h.len; omega, h.sp, h.nl⟩
def numsOk (ns : List Int) : Prop := (∀ i ∈ ns, 0 ≤ i ∧ i < 1000) ∧ ns.length ≤ 5
theorem words_ok {w : Str} {ns : List Int} (hw : WOk w) (hn : numsOk ns) : ∀ x ∈ w :: ns.map numS, WOk x := fun x hx => by
  rcases List.mem_cons.mp hx with rfl | hx
  · exact hw
  · obtain ⟨i, hi, rfl⟩ := List.mem_map.mp hx
    exact num_word (hn.1 i hi).1 (hn.1 i hi).2
theorem line_split {w : Str} {ns : List Int} (hw : WOk w) (hn : numsOk ns) : Txt.split (lineW w ns) sp1 = w :: ns.map numS :=
  split_join sp_tl (by decide +kernel) (List.cons_ne_nil _ _) fun p hp => (words_ok hw hn p hp).sp
theorem line_nl {w : Str} {ns : List Int} (hw : WOk w) (hn : numsOk ns) : (10 : Nat) ∉ tl (lineW w ns) := fun h => by
  unfold lineW at h
  rw [join_eq, tl_join, sp_tl] at h
  rcases joinL_mem h with h | ⟨p, hp, h⟩
  · simp at h
  · obtain ⟨x, hx, rfl⟩ := List.mem_map.mp hp
    exact (words_ok hw hn x hx).nl h
theorem line_len {w : Str} {ns : List Int} (hw : WOk w) (hn : numsOk ns) : (lineW w ns).length ≤ 36 := by
  unfold lineW
  rw [← tl_len, join_eq, tl_join, sp_tl]
  refine Nat.le_trans (joinL_len (k := 5) fun p hp => ?_) ?_
  · obtain ⟨x, hx, rfl⟩ := List.mem_map.mp hp
    rw [tl_len]
    exact (words_ok hw hn x hx).len
  · have := hn.2
    simp only [List.length_map, List.length_cons, List.length_nil]
    omega
theorem row_nums {r : Row} (h : r.txt) : numsOk r.ints := by
  refine ⟨h.num, ?_⟩
  cases r with
  | call b f bs =>
    have : bs.length ≤ 3 := h.sh
    simp only [Row.ints, List.length_cons]
    omega
  | _ => simp [Row.ints]
/-- what a text can say -/
structure Func.txt (f : Func) : Prop where
  lo : 0 ≤ f.many
  hi : f.many < 1000
  rows : ∀ r ∈ f.rows, r.txt
  len : f.rows.length ≤ 30
structure progTxt (p : List Func) : Prop where
  len : p.length ≤ 8
  fs : ∀ f ∈ p, f.txt
theorem prog_txt {p : List Func} (hp : progOk p) : progTxt p := by
  refine ⟨hp.hi, fun f hf => ?_⟩
  have fk := hp.fs f hf
  refine ⟨fk.lo, by have := fk.hi; omega, fun r hr => ?_, fk.len⟩
  obtain ⟨i, hi⟩ := List.getElem?_of_mem hr
  have ro := fk.rows i r hi
  have il := (List.getElem?_eq_some_iff.mp hi).1
  have fl := fk.len
  have bx : ∀ {b : Int}, box b → 0 ≤ b ∧ b < 1000 := fun h => ⟨h.1, by have := h.2; omega⟩
  cases r with
  | num b n => exact ⟨fun i hi => by
      simp only [Row.ints, List.mem_cons, List.not_mem_nil, or_false] at hi
      rcases hi with rfl | rfl
      · exact bx ro.1
      · exact ro.2, trivial⟩
  | ar w b c d => exact ⟨fun i hi => by
      simp only [Row.ints, List.mem_cons, List.not_mem_nil, or_false] at hi
      rcases hi with rfl | rfl | rfl
      · exact bx ro.1
      · exact bx ro.2.1
      · exact bx ro.2.2, trivial⟩
  | call b f' bs =>
    obtain ⟨hb, hm, hbs⟩ := ro
    obtain ⟨fn, hf0, hfn, hfm, hl3⟩ := mo_at hp hm
    refine ⟨fun i hi => ?_, hl3⟩
    simp only [Row.ints, List.mem_cons] at hi
    rcases hi with rfl | rfl | hi
    · exact bx hb
    · have := (List.getElem?_eq_some_iff.mp hfn).1
      have := hp.hi
      exact ⟨hf0, by omega⟩
    · exact bx (hbs i hi)
  | skip b m => exact ⟨fun i hi => by
      simp only [Row.ints, List.mem_cons, List.not_mem_nil, or_false] at hi
      rcases hi with rfl | rfl
      · exact bx ro.1
      · exact ⟨ro.2.1, by have := ro.2.2; omega⟩, trivial⟩
  | say b => exact ⟨fun i hi => by
      simp only [Row.ints, List.mem_cons, List.not_mem_nil, or_false] at hi
      rcases hi with rfl
      exact bx ro, trivial⟩
  | rest => exact ⟨fun i hi => (by cases hi), trivial⟩
  | tell b => exact ⟨fun i hi => by
      simp only [Row.ints, List.mem_cons, List.not_mem_nil, or_false] at hi
      rcases hi with rfl
      exact bx ro, trivial⟩
/-! ### the lines of a text -/
theorem lines_one {f : Func} (h : f.txt) : ∀ l ∈ linesOf f, (10 : Nat) ∉ tl l ∧ l.length ≤ 36 := fun l hl => by
  rcases List.mem_cons.mp hl with rfl | hl
  · rw [funS_eq]
    have hn : numsOk [f.many] := ⟨fun i hi => by rw [List.mem_singleton.mp hi]; exact ⟨h.lo, h.hi⟩, (by show 1 ≤ 5; decide)⟩
    exact ⟨line_nl (word_ok (.inl rfl)) hn, line_len (word_ok (.inl rfl)) hn⟩
  · obtain ⟨r, hr, rfl⟩ := List.mem_map.mp hl
    rw [lineS_eq]
    exact ⟨line_nl (row_word r) (row_nums (h.rows r hr)), line_len (row_word r) (row_nums (h.rows r hr))⟩
theorem lines_all {p : List Func} (h : progTxt p) : ∀ l ∈ p.flatMap linesOf, (10 : Nat) ∉ tl l ∧ l.length ≤ 36 := fun l hl => by
  obtain ⟨f, hf, hl⟩ := List.mem_flatMap.mp hl
  exact lines_one (h.fs f hf) l hl
theorem lines_len {p : List Func} (h : ∀ f ∈ p, f.rows.length ≤ 30) : (p.flatMap linesOf).length ≤ 31 * p.length := by
  induction p with
  | nil => exact Nat.le_refl _
  | cons f p ih =>
    rw [List.flatMap_cons, List.length_append]
    have h1 := ih fun f hf => h f (List.mem_cons_of_mem _ hf)
    have h2 := h f List.mem_cons_self
    have h3 : (linesOf f).length = f.rows.length + 1 := by simp [linesOf]
    rw [List.length_cons]
    omega
theorem text_split {p : List Func} (h : progTxt p) (hne : p ≠ []) : Txt.split (textS p) nl1 = p.flatMap linesOf := by
  refine split_join nl_tl (by decide +kernel) (fun z => ?_) fun l hl => (lines_all h l hl).1
  cases p with
  | nil => exact hne rfl
  | cons f p => simp [linesOf] at z
theorem text_len {p : List Func} (h : progTxt p) : (textS p).length ≤ 10000 := by
  unfold textS
  rw [← tl_len, join_eq, tl_join, nl_tl]
  refine Nat.le_trans (joinL_len (k := 36) fun x hx => ?_) ?_
  · obtain ⟨l, hl, rfl⟩ := List.mem_map.mp hx
    rw [tl_len]
    exact (lines_all h l hl).2
  · have h1 := lines_len fun f hf => (h.fs f hf).len
    have h2 := h.len
    rw [List.length_map, List.length_singleton]
    omega
theorem sum_le {k : Nat} : ∀ {ns : List Nat}, (∀ n ∈ ns, n ≤ k) → ns.sum ≤ ns.length * k
  | [], _ => Nat.zero_le _
  | n :: ns, h => by
    have h1 := h n List.mem_cons_self
    have h2 := sum_le fun m hm => h m (List.mem_cons_of_mem _ hm)
    rw [List.sum_cons, List.length_cons, Nat.succ_mul]
    omega
theorem join_room {ys : List Str} {y : Str} {k m : Nat} (h : ∀ x ∈ ys, x.length ≤ k) (hl : ys.length ≤ m) (hy : y.length = 1) (hz : m * (k + 1) ≤ 16777216) : (ys.map (·.length)).sum + ys.length * y.length ≤ 16777216 := by
  have h1 := sum_le (k := k) (ns := ys.map (·.length)) fun n hn => by
    obtain ⟨x, hx, rfl⟩ := List.mem_map.mp hn
    exact h x hx
  rw [List.length_map] at h1
  have h2 : ys.length * (k + 1) ≤ m * (k + 1) := Nat.mul_le_mul_right _ hl
  rw [hy]
  rw [Nat.mul_succ] at h2
  omega
theorem log_small {i : Int} (h0 : 0 ≤ i) (h1 : i < 1000) : i.natAbs.log2 < 1920 := by
  have h2 : i.natAbs < 1024 := by omega
  by_cases h : i.natAbs = 0
  · rw [h]; decide
  · exact Nat.lt_trans ((Nat.log2_lt h).mpr (show i.natAbs < 2 ^ 10 from h2)) (by decide)
def spLineOf : DSp := fun ds S P => ∃ r : Row, ds = [r.e] ∧ r.txt ∧ P (.str (lineS r)) S
def spWritten : DSp := fun ds S P => ∃ p : List Func, ds = [progE p] ∧ progOk p ∧ P (.str (textS p)) S
section
variable {P : Program} {w : World} {K : PySem.W.Frag} {mg : Str → Option Value} {base : Heap}
/-- the words of a flat row -/
theorem strs_comp {S : Sto} {ds : List D} {ys : List Str} {env : Ev} {k : Nat} {Q : List D → Sto → Prop} (hl : ds.length ≤ 6) (h : ∀ (i : Nat) d, ds[i]? = some d → ∃ y, ys[i]? = some y ∧ (d = .str y ∨ ∃ z : Int, d = .int z ∧ 0 ≤ z ∧ z < 1000 ∧ y = numS z)) (he : ys.length = ds.length) (hk : ∀ d, (wipeE env [k])[k]? = some none → ((wipeE env [k]).set k (some d))[k]? = some (some d)) (hn : (wipeE env [k])[k]? = some none)
    (q : Q (ys.map .str) S) : xLc ds (fun _ => True) S (gNm k) dYes (dCall bStr (dCons (dVar k) dNil)) [k] env Q := by
  refine ⟨fun i acc S' => S' = S ∧ acc = (ys.take i).map .str, ⟨rfl, rfl⟩, fun i acc S' hi z => ⟨trivial, ?_⟩, ?_, ?_⟩
  · rw [z.2, List.length_map, List.length_take]
    exact sz_lt (by omega)
  · rintro i x acc S' hx ⟨rfl, rfl⟩
    obtain ⟨y, hy, hd⟩ := h i x hx
    refine i_nm ?_
    refine i_yes ?_
    refine ite_t rfl ?_
    refine i_call (i_cons (i_var (hk x hn) (i_nil ?_)))
    have fin : S' = S' ∧ (ys.take i).map D.str ++ [.str y] = (ys.take (i + 1)).map .str := ⟨rfl, by rw [List.take_add_one, hy]; simp⟩
    rcases hd with rfl | ⟨z, rfl, z0, z1, rfl⟩
    · exact i_strS fin
    · exact i_strI (log_small z0 z1) fin
  · rintro acc S' ⟨rfl, rfl⟩
    rw [← he, List.take_length]
    exact q
theorem i_fs2 {z : Str} {Ta : DTE} {env : Ev} {S : Sto} {P : DP} (q : Ta env S fun x S1 => ∃ i, x = .int i ∧ i.natAbs.log2 < 1920 ∧ z.length + (numS i).length ≤ 1000 ∧ P (.str (z ++ numS i)) S1) : dFs2 z Ta env S P := q
theorem ok_lineof (at_ : At K mg "line_of" s_lineof ["row"]) (mb : ∀ x, isB x = true → mg x = none) : Fn P w K mg base "line_of" 1 ["row"] spLineOf := by
  refine fn_at at_ fun f fd F => fn_d F sc_lineof (fun ds S P h => ?_) ?_
  · obtain ⟨r, rfl, _⟩ := h
    rfl
  · rintro X W0 cdv A outer s H E rfl hr
    have hu := hr.units
    refine ⟨_, (dss_cons (ds_if (dt_cmp (op_eqA hu) do_eq (de_ix (de_var (pv 0)) de_int (fun _ _ => rfl)) de_str (nomark _)) (dss_cons (ds_asg (de_var (pv 0)) (dg_tup (n := 4) rfl (dgs_cons (dg_name (pg_name (i := 1) sc_lineof.nd rfl (by first | exact Or.inl rfl | exact Or.inr rfl))) (dgs_cons (dg_name (pg_name (i := 2) sc_lineof.nd rfl (by first | exact Or.inl rfl | exact Or.inr rfl))) (dgs_cons (dg_name (pg_name (i := 3) sc_lineof.nd rfl (by first | exact Or.inl rfl | exact Or.inr rfl))) (dgs_cons (dg_name (pg_name (i := 4) sc_lineof.nd rfl (by first | exact Or.inl rfl | exact Or.inr rfl))) dgs_nil))))) (fun h1 h2 => ps_asg h1 h2))
      (dss_one (ds_set (i := 0) (de_tup (da_cons (de_var (pv 1)) (da_cons (de_var (pv 2)) (da_cons (de_var (pv 3)) (da_star (de_var (pv 4)) da_nil))))) (fun h => ps_set sc_lineof.nd rfl (by first | exact Or.inl rfl | exact Or.inr rfl) h)))) dss_nil)
      (dss_one (ds_ret (de_join de_str (de_pure (dn_lc (own := [("part", 5)]) (by decide) rfl sc_lineof.nd (di_tup (de_var (pv 0))) (blkOk_by (N := N_lineof) (sc := defScope s_lineof) (by decide +kernel)) (fun _ _ _ _ _ => (dg_name (pg_name (i := 5) sc_lineof.nd rfl (Or.inl rfl)))) (fun _ _ _ _ _ => dts_nil) (fun _ _ _ _ _ => (de_b dc_str (da_cons (de_var (pv 5)) da_nil) (fun h => pe_callTy call_strX (by rfl) (mb "str" rfl) (by decide +kernel) h))))))))), ?_⟩
    rintro ds S P ⟨r, rfl, ht, post⟩
    have hn := row_nums ht
    have hk : ∀ (i : Nat) d, (D.str r.word :: r.ints.map .int)[i]? = some d → ∃ y, r.ws[i]? = some y ∧ (d = .str y ∨ ∃ z : Int, d = .int z ∧ 0 ≤ z ∧ z < 1000 ∧ y = numS z) := fun i d hd => by
      rw [ws_eq]
      cases i with
      | zero => cases hd; exact ⟨_, rfl, .inl rfl⟩
      | succ i =>
        rw [List.getElem?_cons_succ, List.getElem?_map] at hd
        cases ez : r.ints[i]? with
        | none => rw [ez] at hd; cases hd
        | some z =>
          rw [ez] at hd
          cases hd
          obtain ⟨z0, z1⟩ := hn.1 z (List.mem_of_getElem? ez)
          exact ⟨numS z, by rw [List.getElem?_cons_succ, List.getElem?_map, ez]; rfl, .inr ⟨z, rfl, z0, z1, rfl⟩⟩
    have h6 : (D.str r.word :: r.ints.map .int).length ≤ 6 := by
      have := hn.2
      rw [List.length_cons, List.length_map]
      omega
    have hl : r.ws.length = (D.str r.word :: r.ints.map .int).length := by rw [ws_eq]; simp
    have room : (r.ws.map (·.length)).sum + r.ws.length * sp1.length ≤ 16777216 := by
      refine join_room (k := 5) (m := 6) (fun x hx => ?_) (by rw [hl]; exact h6) rfl (by decide)
      rw [ws_eq] at hx
      exact (words_ok (row_word r) hn x hx).len
    have fin : ∀ (env : Ev), (wipeE env [5])[5]? = some none → (∀ d, (wipeE env [5])[5]? = some none → ((wipeE env [5]).set 5 (some d))[5]? = some (some d)) → xLc (D.str r.word :: r.ints.map .int) (fun _ => True) S (gNm 5) dYes (dCall bStr (dCons (dVar 5) dNil)) [5] env fun ds S' => mJoin " " (.lst ds) S' (exitE S P).rt := fun env h1 h2 =>
      strs_comp h6 hk hl h2 h1 ⟨r.ws, rfl, room, exit_pure0 (fun _ => rfl) post⟩
    walk_at "st"
    cases r with
    | call b f bs =>
      dsimp only [Row.e]
      walk_at "d"
      refine ite_t (by decide) ?_
      walk_at "d"
      rw [List.append_nil]
      have hb3 : bs.length ≤ 3 := ht.sh
      refine ⟨sz_le (by simp only [List.length_cons, List.length_map]; omega), ?_⟩
      walk_at "d"
      refine i_m1 ?_
      walk_at "d"
      refine ⟨_, rfl, ?_⟩
      walk_at "d"
      refine fin _ ?_ ?_
      · rfl
      · intros; rfl
    | ar w' b c d =>
      walk_at "d"
      refine ite_f (by cases w' <;> decide) ?_
      walk_at "d"
      refine i_m1 ?_
      walk_at "d"
      refine ⟨_, rfl, ?_⟩
      walk_at "d"
      refine ⟨_, rfl, fin _ ?_ ?_⟩
      · rfl
      · intros; rfl
    | _ =>
      walk_at "d"
      refine ite_f (by decide) ?_
      walk_at "d"
      refine i_m1 ?_
      walk_at "d"
      refine ⟨_, rfl, ?_⟩
      walk_at "d"
      refine ⟨_, rfl, fin _ ?_ ?_⟩
      · rfl
      · intros; rfl
theorem ok_written (at_ : At K mg "written" s_written ["program"]) (mb : ∀ x, isB x = true → mg x = none) (G_checkprogram : Fn P w K mg base "check_program" 6 ["program"] spCheck) (G_lineof : Fn P w K mg base "line_of" 1 ["row"] spLineOf) : Fn P w K mg base "written" 7 ["program"] spWritten := by
  refine fn_at at_ fun f fd F => fn_d F sc_written (fun ds S P h => ?_) ?_
  · obtain ⟨p, rfl, _⟩ := h
    rfl
  · rintro X W0 cdv A outer s H E rfl hr
    have hu := hr.units
    refine ⟨_, (dss_cons (ds_expr (de_fn G_checkprogram (hr.mono (by decide)) (by rfl) (da_cons (de_var (pv 0)) da_nil)))
      (dss_cons (ds_set (i := 1) (de_new (dn_lst da_nil)) (fun h => ps_set sc_written.nd rfl (by first | exact Or.inl rfl | exact Or.inr rfl) h))
      (dss_cons (ds_for PassesOwn.never rfl (di_tup (de_var (pv 0))) (dg_tup (n := 2) rfl (dgs_cons (dg_name (pg_name (i := 2) sc_written.nd rfl (by first | exact Or.inl rfl | exact Or.inr rfl))) (dgs_cons (dg_name (pg_name (i := 3) sc_written.nd rfl (by first | exact Or.inl rfl | exact Or.inr rfl))) dgs_nil))) (dss_cons (ds_expr (de_mt dm_append (de_var (pv 1)) (da_cons (de_fs2 (by decide) (de_var (pv 2))) da_nil) (fun h1 h2 => pe_bm PySem.F.plainAttrs_list PySem.F.slot_list_append PySem.F.type_list_append mt_append h1 h2)))
      (dss_one (ds_expr (de_mt dm_extend (de_var (pv 1)) (da_cons (de_pure (dn_lc (own := [("row", 4)]) (by decide) rfl sc_written.nd (di_tup (de_var (pv 3))) (blkOk_by (N := N_written) (sc := defScope s_written) (by decide +kernel)) (fun _ _ _ _ _ => (dg_name (pg_name (i := 4) sc_written.nd rfl (Or.inl rfl)))) (fun _ _ _ _ _ => dts_nil) (fun _ _ _ _ _ => (de_fn G_lineof (hr.mono (by decide)) (by rfl) (da_cons (de_var (pv 4)) da_nil))))) da_nil) (fun h1 h2 => pe_bm PySem.F.plainAttrs_list PySem.F.slot_list_extend PySem.F.type_list_extend mt_extend h1 h2))))))
      (dss_one (ds_ret (de_join de_str (de_var (pv 1)))))))), ?_⟩
    rintro ds S P ⟨p, rfl, hp, post⟩
    have ht := prog_txt hp
    have p8 := hp.hi
    walk_at "st"
    walk_at "d"
    refine ⟨p, rfl, hp, ?_⟩
    walk_at "d"
    walk_at "e"
    have hat : ∀ o : O, (S ++ [o])[S.length]? = some o := fun o => by rw [List.getElem?_append_right (Nat.le_refl _), Nat.sub_self]; rfl
    have hset : ∀ o o' : O, (S ++ [o]).set S.length o' = S ++ [o'] := fun o o' => by rw [List.set_append_right _ _ (Nat.le_refl _), Nat.sub_self]; rfl
    dsimp only [progE]
    walk_at "d"
    refine ⟨fun i env S' => ∃ y2 y3 y4, S' = S ++ [.lst (((p.take i).flatMap linesOf).map .str)] ∧ env = [some (.tup (p.map Func.e)), some (.ref S.length), y2, y3, y4], ⟨_, _, _, rfl, rfl⟩, fun _ _ _ _ _ => trivial, ?_, ?_⟩
    · rintro i x env S' hx ⟨y2, y3, y4, rfl, rfl⟩
      rw [List.getElem?_map] at hx
      cases ef : p[i]? with
      | none => rw [ef] at hx; cases hx
      | some fn =>
        rw [ef] at hx
        cases hx
        have hf := ht.fs fn (List.mem_of_getElem? ef)
        have hlen := lines_len (p := p.take i) fun f hf => (ht.fs f (List.mem_of_mem_take hf)).len
        rw [List.length_take] at hlen
        rw [show fn.e = D.tup [.int fn.many, .tup (fn.rows.map Row.e)] from rfl]
        walk_at "d"
        walk_at "e"
        refine i_mtx (hat _) ?_
        walk_at "d"
        refine i_fs2 ?_
        walk_at "d"
        refine ⟨_, rfl, log_small hf.lo hf.hi, ?_, ?_⟩
        · have h3 := (num_ok hf.lo hf.hi).len
          have h4 : (Str.ofString "fun ").length = 4 := by decide +kernel
          rw [h4]
          omega
        walk_at "d"
        refine i_append (hat _) (sz_lt (by rw [List.length_map]; omega)) ?_
        rw [hset]
        walk_at "d"
        refine i_mtx (hat _) ?_
        walk_at "d"
        refine ⟨fun j acc S' => S' = S ++ [.lst (((p.take i).flatMap linesOf).map .str ++ [.str (funS fn.many)])] ∧ acc = ((fn.rows.take j).map lineS).map .str, ⟨rfl, rfl⟩, fun j acc S' hj z => ⟨trivial, ?_⟩, ?_, ?_⟩
        · have := hf.len
          rw [z.2, List.length_map, List.length_map, List.length_take]
          exact sz_lt (by omega)
        · rintro j x acc S' hx ⟨rfl, rfl⟩
          rw [List.getElem?_map] at hx
          cases er : fn.rows[j]? with
          | none => rw [er] at hx; cases hx
          | some r =>
            rw [er] at hx
            cases hx
            walk_at "d"
            refine ite_t rfl ?_
            walk_at "d"
            refine ⟨r, rfl, hf.rows r (List.mem_of_getElem? er), ?_⟩
            exact ⟨rfl, by rw [List.take_add_one, er]; simp⟩
        · rintro acc S' ⟨rfl, rfl⟩
          rw [List.length_map, List.take_length]
          walk_at "d"
          have hl2 := hf.len
          refine i_ext (hat _) rfl (sz_le (by simp only [List.length_append, List.length_map, List.length_singleton]; omega)) ?_
          rw [hset]
          refine ⟨_, _, _, ?_, rfl⟩
          rw [List.take_add_one, ef, List.flatMap_append, List.map_append, List.append_assoc]
          simp [linesOf]
    · rintro env S' ⟨y2, y3, y4, rfl, rfl⟩
      rw [List.length_map, List.take_length]
      walk_at "d"
      refine i_m1 ?_
      walk_at "d"
      refine ⟨_, rfl, ?_⟩
      walk_at "d"
      refine ⟨p.flatMap linesOf, by simp only [seqOf, lstOf, hat], join_room (k := 36) (m := 248) (fun x hx => (lines_all ht x hx).2) (Nat.le_trans (lines_len fun f hf => (ht.fs f hf).len) (by omega)) rfl (by decide), ?_⟩
      exact exit_pure rfl (fun _ => rfl) post
end
open TL
/-! ### texts cut, their sizes -/
def tot (ys : List Str) : Nat := (ys.map (·.length)).sum + ys.length
theorem tot_app (a b : List Str) : tot (a ++ b) = tot a + tot b := by simp [tot]; omega
theorem tot_cons (x : Str) (a : List Str) : tot (x :: a) = x.length + 1 + tot a := by simp [tot]; omega
theorem tot_nil : tot [] = 0 := rfl
theorem tot_split (ys : List Str) (k : Nat) : tot (ys.take k) + tot (ys.drop k) = tot ys := by rw [← tot_app, List.take_append_drop]
theorem tot_mem {ys : List Str} {x : Str} (h : x ∈ ys) : x.length + 1 ≤ tot ys := by
  induction ys with
  | nil => cases h
  | cons y ys ih =>
    rw [tot_cons]
    rcases List.mem_cons.mp h with rfl | h
    · omega
    · have := ih h
      omega
theorem len_tot (ys : List Str) : ys.length ≤ tot ys := by unfold tot; omega
theorem tot_erase {ys : List Str} (k : Nat) : tot (ys.eraseIdx k) ≤ tot ys := by
  induction ys generalizing k with
  | nil => simp
  | cons y ys ih =>
    cases k with
    | zero => rw [List.eraseIdx_cons_zero, tot_cons]; omega
    | succ k => rw [List.eraseIdx_cons_succ, tot_cons, tot_cons]; have := ih k; omega
theorem tot_set {ys : List Str} (k : Nat) (x : Str) : tot (ys.set k x) ≤ tot ys + x.length := by
  induction ys generalizing k with
  | nil => simp [tot]
  | cons y ys ih =>
    cases k with
    | zero => rw [List.set_cons_zero, tot_cons, tot_cons]; omega
    | succ k => rw [List.set_cons_succ, tot_cons, tot_cons]; have := ih k; omega
theorem join_tot {y : Str} (hy : y.length = 1) (ys : List Str) : (Txt.join y ys).length ≤ tot ys := by
  rw [join_eq, len_tl, tl_join]
  rw [len_tl] at hy
  have : ∀ zs : List Str, (joinL (tl y) (zs.map tl)).length ≤ tot zs := by
    intro zs
    induction zs with
    | nil => exact Nat.zero_le _
    | cons z zs ih =>
      cases zs with
      | nil =>
        show (tl z).length ≤ _
        rw [← len_tl, tot_cons]
        omega
      | cons q r =>
        show (tl z ++ (tl y ++ joinL (tl y) ((q :: r).map tl))).length ≤ _
        rw [List.length_append, List.length_append, ← len_tl, hy, tot_cons]
        omega
  exact this ys
theorem spl_tot (s : Nat) : ∀ (l acc : List Nat), ((spl [s] 0 acc l).map List.length).sum + (spl [s] 0 acc l).length = acc.length + l.length + 1
  | [], acc => by rw [spl_nil]; simp
  | c :: r, acc => by
    show ((if pre [s] (c :: r) = true then acc :: spl [s] 0 [] r else spl [s] 0 (acc ++ [c]) r).map List.length).sum + (if pre [s] (c :: r) = true then acc :: spl [s] 0 [] r else spl [s] 0 (acc ++ [c]) r).length = _
    by_cases h : pre [s] (c :: r) = true
    · rw [if_pos h]
      have := spl_tot s r []
      simp only [List.map_cons, List.sum_cons, List.length_cons, List.length_nil] at this ⊢
      omega
    · rw [if_neg h]
      have := spl_tot s r (acc ++ [c])
      rw [this]
      simp
      omega
theorem split_tot (x : Str) {y : Str} {s : Nat} (ey : tl y = [s]) (hk : y.cps.all (· < 256) = true) : tot (Txt.split x y) = x.length + 1 := by
  have h := split_spl x y (by rw [ey]; simp) (kind_ok hk)
  have e := spl_tot s (tl x) []
  rw [ey] at h
  rw [← h] at e
  rw [len_tl]
  simp only [List.map_map, List.length_map, List.length_nil] at e
  unfold tot
  have e2 : (Txt.split x y).map (List.length ∘ tl) = (Txt.split x y).map (·.length) := List.map_congr_left fun z _ => (len_tl z).symm
  rw [e2] at e
  omega
theorem spl_ne (S : List Nat) : ∀ (k : Nat) (l acc : List Nat), spl S k acc l ≠ []
  | k, [], acc => by rw [spl_nil]; exact List.cons_ne_nil _ _
  | 0, c :: r, acc => by
    show (if pre S (c :: r) = true then _ else _) ≠ []
    split
    · exact List.cons_ne_nil _ _
    · exact spl_ne S 0 r _
  | k + 1, _ :: r, acc => spl_ne S k r acc
theorem split_ne (x : Str) {y : Str} {s : Nat} (ey : tl y = [s]) (hk : y.cps.all (· < 256) = true) : Txt.split x y ≠ [] := fun h => by
  have e := split_spl x y (by rw [ey]; simp) (kind_ok hk)
  rw [h] at e
  exact spl_ne _ _ _ _ e.symm
theorem nl_tot (x : Str) : tot (Txt.split x nl1) = x.length + 1 := split_tot x nl_tl (by decide +kernel)
theorem sp_tot (x : Str) : tot (Txt.split x sp1) = x.length + 1 := split_tot x sp_tl (by decide +kernel)
theorem nl_ne (x : Str) : Txt.split x nl1 ≠ [] := split_ne x nl_tl (by decide +kernel)
theorem sp_ne (x : Str) : Txt.split x sp1 ≠ [] := split_ne x sp_tl (by decide +kernel)
theorem cutS_len (z : Str) (lo hi : Option Int) : (cutS z lo hi).length ≤ z.length := by
  rw [len_tl, len_tl]
  show ((z.cps.toList.drop _).take _).length ≤ z.cps.toList.length
  rw [List.length_take, List.length_drop]
  omega
theorem cutS_to (z : Str) (k : Nat) : (cutS z none (some (k : Int))).length ≤ k := by
  rw [len_tl]
  show ((z.cps.toList.drop (HT.sIx z.length 0 none)).take (HT.sIx z.length z.length (some (k : Int)) - HT.sIx z.length 0 none)).length ≤ k
  rw [List.length_take]
  have : HT.sIx z.length z.length (some (k : Int)) ≤ k := by
    have hk : ¬ ((k : Int) < 0) := by omega
    unfold HT.sIx
    dsimp only
    rw [if_neg hk]
    omega
  omega
/-! ### numbers of a text -/
def isNumW (w : Str) : Bool := Txt.isascii w && Txt.isdigit w && decide (w.length ≤ 3) && (decide (w = "0") || !Txt.startswith w "0")
def digC (c : Nat) : Bool := decide (c ∈ tl ("0123456789" : Str))
def digW (w : Str) : Bool := (tl w).all digC
def wOf (l : List Nat) : Str := ⟨l.toArray⟩
def okDig (l : List Nat) : Bool := match PySem.intText? (wOf l) with
  | some n => decide (0 ≤ n) && decide (n < 1000) && (isNumW (wOf l) == decide (numS n = wOf l))
  | none => false
def digs : List Nat := [48, 49, 50, 51, 52, 53, 54, 55, 56, 57]
theorem okDig1 : digs.all (fun a => okDig [a]) = true := by decide +kernel
theorem okDig2 : digs.all (fun a => digs.all fun b => okDig [a, b]) = true := by decide +kernel
theorem okDig3 : digs.all (fun a => digs.all fun b => digs.all fun c => okDig [a, b, c]) = true := by decide +kernel
theorem tl_digs : tl ("0123456789" : Str) = digs := by decide +kernel
theorem digC_iff (c : Nat) : digC c = true ↔ c ∈ digs := by unfold digC; rw [tl_digs, decide_eq_true_eq]
theorem okDig_all {l : List Nat} (h : l.all digC = true) (h1 : 1 ≤ l.length) (h3 : l.length ≤ 3) : okDig l = true := by
  have hm : ∀ c ∈ l, c ∈ digs := fun c hc => (digC_iff c).mp (List.all_eq_true.mp h c hc)
  match l, h1, h3, hm with
  | [a], _, _, hm => exact List.all_eq_true.mp okDig1 a (hm a (by simp))
  | [a, b], _, _, hm => exact List.all_eq_true.mp (List.all_eq_true.mp okDig2 a (hm a (by simp))) b (hm b (by simp))
  | [a, b, c], _, _, hm => exact List.all_eq_true.mp (List.all_eq_true.mp (List.all_eq_true.mp okDig3 a (hm a (by simp))) b (hm b (by simp))) c (hm c (by simp))
/-- what the law's own reading of a number finds -/
theorem dig_num {w : Str} (h : digW w = true) (h1 : 1 ≤ w.length) (h3 : w.length ≤ 3) : ∃ n, PySem.intText? w = some n ∧ 0 ≤ n ∧ n < 1000 ∧ isNumW w = decide (numS n = w) := by
  rw [len_tl] at h1 h3
  have e := okDig_all h h1 h3
  have ew : wOf (tl w) = w := mk_tl w
  unfold okDig at e
  rw [ew] at e
  cases hn : PySem.intText? w with
  | none => rw [hn] at e; cases e
  | some n =>
    rw [hn] at e
    simp only [Bool.and_eq_true, decide_eq_true_eq, beq_iff_eq] at e
    exact ⟨n, rfl, e.1.1, e.1.2, e.2⟩
theorem asc_dig : (List.range 128).all (fun c => !Unicode.isDigit c || digC c) = true := by decide +kernel
theorem isNum_dig {w : Str} (h : isNumW w = true) : digW w = true ∧ 1 ≤ w.length ∧ w.length ≤ 3 := by
  unfold isNumW at h
  simp only [Bool.and_eq_true, decide_eq_true_eq] at h
  obtain ⟨⟨⟨ha, hd⟩, hl⟩, _⟩ := h
  unfold Txt.isdigit at hd
  rw [Bool.and_eq_true, decide_eq_true_eq] at hd
  refine ⟨?_, hd.1, hl⟩
  unfold digW
  rw [List.all_eq_true]
  intro c hc
  have h1 : c < 128 := by
    have := Array.all_eq_true'.mp ha c (Array.mem_def.mpr hc)
    simpa using this
  have h2 : Unicode.isDigit c = true := Array.all_eq_true'.mp hd.2 c (Array.mem_def.mpr hc)
  have h3 := List.all_eq_true.mp asc_dig c (List.mem_range.mpr h1)
  rw [h2] at h3
  simpa using h3
def numV (w : Str) : Int := (PySem.intText? w).getD 0
theorem isNum_val {w : Str} (h : isNumW w = true) : PySem.intText? w = some (numV w) ∧ 0 ≤ numV w ∧ numV w < 1000 := by
  obtain ⟨h1, h2, h3⟩ := isNum_dig h
  obtain ⟨n, e, n0, n1, _⟩ := dig_num h1 h2 h3
  unfold numV
  rw [e]
  exact ⟨rfl, n0, n1⟩
abbrev s_isnumber : Stmt := topS 36
abbrev N_isnumber : List Str := ["part"]
theorem sc_isnumber : FnScope N_isnumber ["part"] (defScope s_isnumber) := ⟨rfl, rfl, rfl, by decide +kernel, rfl, by decide +kernel, by decide +kernel⟩
abbrev s_canhave : Stmt := topS 37
abbrev N_canhave : List Str := ["word", "count"]
theorem sc_canhave : FnScope N_canhave ["word", "count"] (defScope s_canhave) := ⟨rfl, rfl, rfl, by decide +kernel, rfl, by decide +kernel, by decide +kernel⟩
abbrev s_rowof : Stmt := topS 38
abbrev N_rowof : List Str := ["line", "pieces", "word", "parts", "part", "numbers"]
theorem sc_rowof : FnScope N_rowof ["line"] (defScope s_rowof) := ⟨rfl, rfl, rfl, by decide +kernel, rfl, by decide +kernel, by decide +kernel⟩
/-! ### a line as a row: its word and its numbers -/
def canHave (w : Str) (n : Nat) : Bool :=
  if w = "fun" then decide (n = 1) else if w = "call" then decide (2 ≤ n) && decide (n ≤ 5) else if w = "num" then decide (n = 2) else if w = "plus" then decide (n = 3) else if w = "less" then decide (n = 3)
  else if w = "times" then decide (n = 3) else if w = "skip" then decide (n = 2) else if w = "say" then decide (n = 1) else if w = "rest" then decide (n = 0) else if w = "tell" then decide (n = 1) else false
abbrev Ln := Str × List Int
def rowW : List Str → Option Ln
  | [] => none
  | w :: ps => if canHave w ps.length = true ∧ ps.all isNumW = true then some (w, ps.map numV) else none
def rowS (line : Str) : Option Ln := rowW (Txt.split line sp1)
def lnD : Ln → D
  | (w, ns) => if w = "call" then (match ns with | b :: f :: bs => .tup [.str w, .int b, .int f, .tup (bs.map .int)] | _ => .non) else .tup (.str w :: ns.map .int)
def lnO : Option Ln → D
  | some x => lnD x
  | none => .non
structure LnOk (x : Ln) : Prop where
  have_ : canHave x.1 x.2.length = true
  num : ∀ i ∈ x.2, 0 ≤ i ∧ i < 1000
theorem rowS_ok {z : Str} {x : Ln} (h : rowS z = some x) : LnOk x := by
  unfold rowS at h
  cases e : Txt.split z sp1 with
  | nil => rw [e] at h; cases h
  | cons w ps =>
    rw [e] at h
    have h : (if canHave w ps.length = true ∧ ps.all isNumW = true then some (w, ps.map numV) else none) = some x := h
    split at h
    · rename_i hc
      cases h
      refine ⟨by rw [List.length_map]; exact hc.1, fun i hi => ?_⟩
      obtain ⟨p, hp, rfl⟩ := List.mem_map.mp hi
      exact (isNum_val (List.all_eq_true.mp hc.2 p hp)).2
    · cases h
theorem have_words {w : Str} {n : Nat} (h : canHave w n = true) : w = "fun" ∨ w = "call" ∨ w = "num" ∨ w = "plus" ∨ w = "less" ∨ w = "times" ∨ w = "skip" ∨ w = "say" ∨ w = "rest" ∨ w = "tell" := by
  unfold canHave at h
  by_cases h1 : w = "fun"
  · exact .inl h1
  rw [if_neg h1] at h
  by_cases h2 : w = "call"
  · exact .inr (.inl h2)
  rw [if_neg h2] at h
  by_cases h3 : w = "num"
  · simp [h3]
  rw [if_neg h3] at h
  by_cases h4 : w = "plus"
  · simp [h4]
  rw [if_neg h4] at h
  by_cases h5 : w = "less"
  · simp [h5]
  rw [if_neg h5] at h
  by_cases h6 : w = "times"
  · simp [h6]
  rw [if_neg h6] at h
  by_cases h7 : w = "skip"
  · simp [h7]
  rw [if_neg h7] at h
  by_cases h8 : w = "say"
  · simp [h8]
  rw [if_neg h8] at h
  by_cases h9 : w = "rest"
  · simp [h9]
  rw [if_neg h9] at h
  by_cases h10 : w = "tell"
  · simp [h10]
  rw [if_neg h10] at h
  cases h
theorem have_five {w : Str} {n : Nat} (h : canHave w n = true) : n ≤ 5 := by
  rcases have_words h with rfl | rfl | rfl | rfl | rfl | rfl | rfl | rfl | rfl | rfl
  · have : n = 1 := of_decide_eq_true h
    omega
  · have h : (decide (2 ≤ n) && decide (n ≤ 5)) = true := h
    simpa using (Bool.and_eq_true_iff.mp h).2
  · have : n = 2 := of_decide_eq_true h
    omega
  · have : n = 3 := of_decide_eq_true h
    omega
  · have : n = 3 := of_decide_eq_true h
    omega
  · have : n = 3 := of_decide_eq_true h
    omega
  · have : n = 2 := of_decide_eq_true h
    omega
  · have : n = 1 := of_decide_eq_true h
    omega
  · have : n = 0 := of_decide_eq_true h
    omega
  · have : n = 1 := of_decide_eq_true h
    omega
theorem have_call {n : Nat} : canHave "call" n = (decide (2 ≤ n) && decide (n ≤ 5)) := rfl
theorem ln_call {ns : List Int} (h : canHave "call" ns.length = true) : ∃ b f bs, ns = b :: f :: bs ∧ bs.length ≤ 3 := by
  rw [have_call, Bool.and_eq_true_iff, decide_eq_true_eq, decide_eq_true_eq] at h
  match ns, h with
  | b :: f :: bs, h => exact ⟨b, f, bs, rfl, by simp at h; omega⟩
  | [b], h => simp at h
  | [], h => simp at h
theorem lnD_else {w : Str} {ns : List Int} (h : w ≠ "call") : lnD (w, ns) = .tup (.str w :: ns.map .int) := if_neg h
def spIsNum : DSp := fun ds S P => ∃ z : Str, ds = [.str z] ∧ z.length ≤ 20000 ∧ P (.bl (isNumW z)) S
def spCanHave : DSp := fun ds S P => ∃ (z : Str) (n : Nat), ds = [.str z, .int n] ∧ P (.bl (canHave z n)) S
def spRowOf : DSp := fun ds S P => ∃ z : Str, ds = [.str z] ∧ z.length ≤ 20000 ∧ P (lnO (rowS z)) S
theorem ln_under (n : Nat) (x : Ln) : (lnD x).under n = true := by
  obtain ⟨w, ns⟩ := x
  by_cases h : w = "call"
  · subst h
    match ns with
    | b :: f :: bs =>
      show (true && (true && (true && (unders n (bs.map .int) && true)))) = true
      rw [unders_ints]
      rfl
    | [b] => rfl
    | [] => rfl
  · rw [lnD_else h]
    show (true && unders n (ns.map .int)) = true
    rw [unders_ints]
    rfl
theorem lnO_under (n : Nat) (x : Option Ln) : (lnO x).under n = true := by
  cases x with
  | none => rfl
  | some x => exact ln_under n x
section
variable {P : Program} {w : World} {K : PySem.W.Frag} {mg : Str → Option Value} {base : Heap}
theorem i_split {Ta Tb : DTE} {env : Ev} {S : Sto} {Q : List D → Sto → Prop} (q : Ta env S fun x S1 => ∃ z, x = .str z ∧ Tb env S1 fun y S2 => ∃ t : Str, y = .str t ∧ (t.length == 0) = false ∧ z.length + 2 ≤ sizeLine ∧ Q ((Txt.split z t).map .str) S2) : dSplit Ta Tb env S Q := q
local macro_rules | `(tactic| walk_at "wdc") => `(tactic| repeat (first | walk_at "d1" | refine ite_t rfl ?_ | refine ite_f Bool.false_ne_true ?_ | refine ite_t (by decide) ?_ | refine ite_f (by decide) ?_))
theorem ok_isnumber (at_ : At K mg "is_number" s_isnumber ["part"]) (mb : ∀ x, isB x = true → mg x = none) (gi : ∀ x n, isG x = some n → ∃ t, mg x = some (.int n t)) : Fn P w K mg base "is_number" 1 ["part"] spIsNum := by
  refine fn_at at_ fun f fd F => fn_d F sc_isnumber (fun ds S P h => ?_) ?_
  · obtain ⟨i, rfl, _⟩ := h
    rfl
  · rintro X W0 cdv A outer s H E rfl hr
    have hu := hr.units
    refine ⟨_, (dss_cons (ds_if (dt_w (dw_or (dt_not (dt_val (de_isascii (de_var (pv 0))))) (dw_or (dt_not (dt_val (de_isdigit (de_var (pv 0))))) (dw_or1 (dt_cmp op_gt do_gt (de_b dc_lenS (da_cons (de_var (pv 0)) da_nil) (fun h => pe_callB call_len_str (by rfl) (mb "len" rfl) PySem.boot_len h)) (de_gint (by rfl) (gi "MOST_FIGURES" 3 rfl)) (nomark _)))))) (dss_one (ds_ret de_bl)) dss_nil)
      (dss_one (ds_ret (de_or (de_cmp (op_eqA hu) do_eq (de_var (pv 0)) de_str (nomark _)) (de_one (de_not (de_startswith (de_var (pv 0)) de_str))))))), ?_⟩
    rintro ds S P ⟨z, rfl, hz, post⟩
    have fin : ∀ b, b = isNumW z → atExit S P (.bl b) S := fun b e => by subst e; exact exit_pure0 (fun _ => rfl) post
    unfold isNumW at fin
    walk_at "st"
    walk_at "d"
    refine i_strB ?_
    walk_at "d"
    refine ⟨_, rfl, ?_⟩
    cases ha : Txt.isascii z with
    | false =>
      rw [ha] at fin
      walk_at "wdc"
      exact fin _ rfl
    | true =>
      rw [ha] at fin
      walk_at "wdc"
      refine i_strB ?_
      walk_at "d"
      refine ⟨_, rfl, ?_⟩
      cases hd : Txt.isdigit z with
      | false =>
        rw [hd] at fin
        walk_at "wdc"
        exact fin _ rfl
      | true =>
        rw [hd] at fin
        walk_at "wdc"
        refine ⟨_, rfl, Nat.le_trans hz (by decide), ?_⟩
        walk_at "d"
        by_cases h3 : z.length ≤ 3
        · rw [decide_eq_true h3] at fin
          refine ite_f (by simp; omega) ?_
          walk_at "d"
          by_cases hz2 : z = "0"
          · rw [decide_eq_true hz2] at fin
            refine ite_t (by simp [hz2]) ?_
            exact fin _ rfl
          · rw [decide_eq_false hz2] at fin
            refine ite_f (by simp [hz2]) ?_
            walk_at "d"
            refine i_m1 ?_
            walk_at "d"
            refine ⟨_, rfl, ?_⟩
            walk_at "d"
            refine ⟨_, rfl, ?_⟩
            walk_at "d"
            exact fin _ rfl
        · rw [decide_eq_false h3] at fin
          refine ite_t (by simp; omega) ?_
          walk_at "d"
          exact fin _ rfl
theorem ok_canhave (at_ : At K mg "can_have" s_canhave ["word", "count"]) (mb : ∀ x, isB x = true → mg x = none) (gi : ∀ x n, isG x = some n → ∃ t, mg x = some (.int n t)) (pr : PrTab P w K mg) : Fn P w K mg base "can_have" 1 ["word", "count"] spCanHave := by
  obtain ⟨a_PROGRAM_ROWS, tab_PROGRAM_ROWS⟩ := pr
  refine fn_at at_ fun f fd F => fn_d F sc_canhave (fun ds S P h => ?_) ?_
  · obtain ⟨x, n, rfl, _⟩ := h
    rfl
  · rintro X W0 cdv A outer s H E rfl hr
    have hu := hr.units
    refine ⟨_, (dss_cons (ds_if (dt_cmp (op_eqA hu) do_eq (de_var (pv 0)) de_str (nomark _)) (dss_one (ds_ret (de_cmp (op_eqA hu) do_eq (de_var (pv 1)) de_int (nomark _)))) dss_nil)
      (dss_cons (ds_if (dt_cmp (op_eqA hu) do_eq (de_var (pv 0)) de_str (nomark _)) (dss_one (ds_ret (de_chain op_le op_le do_le do_le de_int (de_var (pv 1)) (de_add de_int (de_gint (by rfl) (gi "MOST_ARGUMENTS" 3 rfl)))))) dss_nil)
      (dss_one (ds_ret (de_and (de_kin tab_PROGRAM_ROWS.2.1 (by rfl) tab_PROGRAM_ROWS.1 (de_var (pv 0))) (de_one (de_cmp (op_eqA hu) do_eq (de_var (pv 1)) (de_b dc_len (da_cons (de_kix tab_PROGRAM_ROWS.2.2 (by rfl) tab_PROGRAM_ROWS.1 (de_var (pv 0)) (fun _ _ => rfl)) da_nil) (fun h => pe_callB call_len_seq (by rfl) (mb "len" rfl) PySem.boot_len h)) (nomark _)))))))), ?_⟩
    rintro ds S P ⟨z, n, rfl, post⟩
    have fin : ∀ b, b = canHave z n → atExit S P (.bl b) S := fun b e => by subst e; exact exit_pure0 (fun _ => rfl) post
    walk_at "st"
    by_cases h1 : z = "fun"
    · subst h1
      walk_at "wdc"
      refine fin _ ?_
      show _ = decide (n = 1)
      exact decide_eq_decide.mpr (by omega)
    by_cases h2 : z = "call"
    · subst h2
      walk_at "wdc"
      by_cases h : 2 ≤ n
      · refine ite_t (decide_eq_true (by omega)) ?_
        walk_at "d"
        refine fin _ ?_
        rw [have_call, decide_eq_true h, Bool.true_and]
        exact decide_eq_decide.mpr (by omega)
      · refine ite_f (by rw [decide_eq_true_eq]; omega) ?_
        refine fin _ ?_
        rw [have_call, decide_eq_false h, Bool.false_and]
    walk_at "d"
    refine ite_f (by simp [h1]) ?_
    walk_at "d"
    refine ite_f (by simp [h2]) ?_
    walk_at "d"
    by_cases h_num : z = "num"
    · subst h_num
      refine ⟨_, rfl, ?_⟩
      walk_at "wdc"
      refine fin _ ?_
      show _ = decide (n = 2)
      exact decide_eq_decide.mpr (by first | omega | (simp; done) | (simp; omega))
    by_cases h_plus : z = "plus"
    · subst h_plus
      refine ⟨_, rfl, ?_⟩
      walk_at "wdc"
      refine fin _ ?_
      show _ = decide (n = 3)
      exact decide_eq_decide.mpr (by first | omega | (simp; done) | (simp; omega))
    by_cases h_less : z = "less"
    · subst h_less
      refine ⟨_, rfl, ?_⟩
      walk_at "wdc"
      refine fin _ ?_
      show _ = decide (n = 3)
      exact decide_eq_decide.mpr (by first | omega | (simp; done) | (simp; omega))
    by_cases h_times : z = "times"
    · subst h_times
      refine ⟨_, rfl, ?_⟩
      walk_at "wdc"
      refine fin _ ?_
      show _ = decide (n = 3)
      exact decide_eq_decide.mpr (by first | omega | (simp; done) | (simp; omega))
    by_cases h_skip : z = "skip"
    · subst h_skip
      refine ⟨_, rfl, ?_⟩
      walk_at "wdc"
      refine fin _ ?_
      show _ = decide (n = 2)
      exact decide_eq_decide.mpr (by first | omega | (simp; done) | (simp; omega))
    by_cases h_say : z = "say"
    · subst h_say
      refine ⟨_, rfl, ?_⟩
      walk_at "wdc"
      refine fin _ ?_
      show _ = decide (n = 1)
      exact decide_eq_decide.mpr (by first | omega | (simp; done) | (simp; omega))
    by_cases h_rest : z = "rest"
    · subst h_rest
      refine ⟨_, rfl, ?_⟩
      walk_at "wdc"
      refine fin _ ?_
      show _ = decide (n = 0)
      exact decide_eq_decide.mpr (by first | omega | (simp; done) | (simp; omega))
    by_cases h_tell : z = "tell"
    · subst h_tell
      refine ⟨_, rfl, ?_⟩
      walk_at "wdc"
      refine fin _ ?_
      show _ = decide (n = 1)
      exact decide_eq_decide.mpr (by first | omega | (simp; done) | (simp; omega))
    have hn : ∀ w : Str, ¬ z = w → ¬ ((Sum.inr w : Key) = .inr z) := fun w h e => h (Sum.inr.inj e).symm
    have e : dlook prKs prDs (.inr z) = none := by
      unfold prKs prDs
      simp only [dlook]
      rw [if_neg (hn _ h_num), if_neg (hn _ h_plus), if_neg (hn _ h_less), if_neg (hn _ h_times), if_neg (hn _ h2), if_neg (hn _ h_skip), if_neg (hn _ h_say), if_neg (hn _ h_rest), if_neg (hn _ h_tell)]
    refine ⟨_, rfl, ?_⟩
    rw [e]
    walk_at "wdc"
    refine fin _ ?_
    unfold canHave
    rw [if_neg h1, if_neg h2, if_neg h_num, if_neg h_plus, if_neg h_less, if_neg h_times, if_neg h_skip, if_neg h_say, if_neg h_rest, if_neg h_tell]
theorem ok_rowof (at_ : At K mg "row_of" s_rowof ["line"]) (mb : ∀ x, isB x = true → mg x = none) (G_isnumber : Fn P w K mg base "is_number" 1 ["part"] spIsNum) (G_canhave : Fn P w K mg base "can_have" 1 ["word", "count"] spCanHave) : Fn P w K mg base "row_of" 2 ["line"] spRowOf := by
  refine fn_at at_ fun f fd F => fn_d F sc_rowof (fun ds S P h => ?_) ?_
  · obtain ⟨x, rfl, _⟩ := h
    rfl
  · rintro X W0 cdv A outer s H E rfl hr
    have hu := hr.units
    refine ⟨_, (dss_cons (ds_set (i := 1) (de_pure (dn_split (de_var (pv 0)) de_str)) (fun h => ps_set sc_rowof.nd rfl (by first | exact Or.inl rfl | exact Or.inr rfl) h))
      (dss_cons (ds_asg (de_var (pv 1)) (dg_star rfl (dgs_cons (dg_name (pg_name (i := 2) sc_rowof.nd rfl (by first | exact Or.inl rfl | exact Or.inr rfl))) (dgs_cons (dg_name (pg_name (i := 3) sc_rowof.nd rfl (by first | exact Or.inl rfl | exact Or.inr rfl))) dgs_nil))) (fun h1 h2 => ps_asg h1 h2))
      (dss_cons (ds_if (dt_w (dw_or (dt_not (dt_val (de_fn G_canhave (hr.mono (by decide)) (by rfl) (da_cons (de_var (pv 2)) (da_cons (de_b dc_len (da_cons (de_var (pv 3)) da_nil) (fun h => pe_callB call_len_seq (by rfl) (mb "len" rfl) PySem.boot_len h)) da_nil))))) (dw_or1 (dt_not (dt_val (de_b dc_all (da_cons (de_pure (dn_lc (own := [("part", 4)]) (by decide) rfl sc_rowof.nd (di_list (de_var (pv 3))) (blkOk_by (N := N_rowof) (sc := defScope s_rowof) (by decide +kernel)) (fun _ _ _ _ _ => (dg_name (pg_name (i := 4) sc_rowof.nd rfl (Or.inl rfl)))) (fun _ _ _ _ _ => dts_nil) (fun _ _ _ _ _ => (de_fn G_isnumber (hr.mono (by decide)) (by rfl) (da_cons (de_var (pv 4)) da_nil))))) da_nil) (fun h => pe_callB (cr_all rfl) (by rfl) (mb "all" rfl) (by decide +kernel) h))))))) (dss_one (ds_ret de_non)) dss_nil)
      (dss_cons (ds_setLc (i := 5) (vs := [4]) (by decide) (ps_setLc (own := [("part", 4)]) rfl sc_rowof.nd rfl rfl (sw_true rfl rfl rfl (by decide +kernel)) (di_list (de_var (pv 3))) (blkOk_by (N := N_rowof) (sc := defScope s_rowof) (by decide +kernel)) (fun _ _ _ _ _ => (dg_name (pg_name (i := 4) sc_rowof.nd rfl (Or.inl rfl)))) (fun _ _ _ _ _ => dts_nil) (fun _ _ _ _ _ => (de_b dc_intS (da_cons (de_var (pv 4)) da_nil) (fun h => pe_callTy call_int_str (by rfl) (mb "int" rfl) (by decide +kernel) h)))))
      (dss_cons (ds_if (dt_cmp (op_eqA hu) do_eq (de_var (pv 2)) de_str (nomark _)) (dss_one (ds_ret (de_tup (da_cons (de_var (pv 2)) (da_cons (de_ix (de_var (pv 5)) de_int (fun _ _ => rfl)) (da_cons (de_ix (de_var (pv 5)) de_int (fun _ _ => rfl)) (da_cons (de_b dc_tuple (da_cons (de_pure (dn_slice (de_var (pv 5)) (do_some de_int) do_none)) da_nil) (fun h => pe_callTy call_tuple_of (by rfl) (mb "tuple" rfl) (by decide +kernel) h)) da_nil))))))) dss_nil)
      (dss_one (ds_ret (de_tup (da_cons (de_var (pv 2)) (da_star (de_var (pv 5)) da_nil)))))))))), ?_⟩
    rintro ds S P ⟨z, rfl, hz, post⟩
    have fin : ∀ d, d = lnO (rowS z) → atExit S P d S := fun d e => by subst e; exact exit_pure0 (fun n => lnO_under n _) post
    have htot := sp_tot z
    walk_at "st"
    walk_at "d"
    refine i_split ?_
    walk_at "d"
    refine ⟨_, rfl, ?_⟩
    walk_at "d"
    refine ⟨_, rfl, rfl, Nat.le_trans (Nat.add_le_add_right hz 2) (by decide), ?_⟩
    rw [show Str.ofString " " = sp1 from rfl]
    unfold rowS at fin
    cases es : Txt.split z sp1 with
    | nil => exact absurd es (sp_ne z)
    | cons wd ps =>
    rw [es] at fin htot
    rw [tot_cons] at htot
    have hps : ps.length ≤ 20000 := by have := len_tot ps; omega
    have hpl : ∀ p ∈ ps, p.length ≤ 20000 := fun p hp => by have := tot_mem hp; omega
    clear es
    walk_at "d"
    walk_at "e"
    walk_at "d"
    refine i_std rfl ?_
    walk_at "d"
    rw [List.length_map]
    refine ⟨wd, ps.length, rfl, ?_⟩
    walk_at "d"
    by_cases hc : canHave wd ps.length = true
    · rw [hc]
      walk_at "d"
      refine ite_f (by decide) ?_
      walk_at "d"
      walk_at "e"
      refine ⟨fun i acc S' => S' = S ∧ acc = ((ps.take i).map isNumW).map .bl, ⟨rfl, rfl⟩, fun i acc S' hi z => ⟨trivial, ?_⟩, ?_, ?_⟩
      · rw [List.length_map] at hi
        rw [z.2, List.length_map, List.length_map, List.length_take]
        exact sz_lt (by omega)
      · rintro i d acc S' hd ⟨rfl, rfl⟩
        rw [List.getElem?_map] at hd
        cases ep : ps[i]? with
        | none => rw [ep] at hd; cases hd
        | some p =>
          rw [ep] at hd
          cases hd
          walk_at "d"
          refine ite_t rfl ?_
          walk_at "d"
          refine ⟨p, rfl, hpl p (List.mem_of_getElem? ep), ?_⟩
          exact ⟨rfl, by rw [List.take_add_one, ep]; simp⟩
      rintro acc S' ⟨rfl, rfl⟩
      rw [List.length_map, List.take_length]
      walk_at "d"
      refine i_all (bs := ps.map isNumW) rfl ?_
      walk_at "d"
      have hall : (ps.map isNumW).all id = ps.all isNumW := by rw [List.all_map]; rfl
      rw [hall]
      by_cases ha : ps.all isNumW = true
      · have hrow : rowW (wd :: ps) = some (wd, ps.map numV) := if_pos ⟨hc, ha⟩
        rw [hrow] at fin
        rw [ha]
        refine ite_f (by decide) ?_
        walk_at "d"
        have h5 := have_five hc
        refine ⟨fun i acc S2 => S2 = S' ∧ acc = ((ps.take i).map numV).map .int, ⟨rfl, rfl⟩, fun i acc S' hi z => ⟨trivial, ?_⟩, ?_, ?_⟩
        · rw [z.2, List.length_map, List.length_map, List.length_take]
          exact sz_lt (by omega)
        · rintro i d acc S2 hd ⟨rfl, rfl⟩
          rw [List.getElem?_map] at hd
          cases ep : ps[i]? with
          | none => rw [ep] at hd; cases hd
          | some p =>
            rw [ep] at hd
            cases hd
            have hpn := List.all_eq_true.mp ha p (List.mem_of_getElem? ep)
            walk_at "d"
            refine ite_t rfl ?_
            walk_at "d"
            refine ⟨_, numV p, rfl, (isNum_val hpn).1, Nat.le_trans (isNum_dig hpn).2.2 (by decide), ?_⟩
            exact ⟨rfl, by rw [List.take_add_one, ep]; simp⟩
        rintro acc S2 ⟨rfl, rfl⟩
        rw [List.length_map, List.take_length]
        have hcn : canHave wd (ps.map numV).length = true := by rw [List.length_map]; exact hc
        generalize ps.map numV = ns at fin hcn ⊢
        walk_at "d"
        walk_at "e"
        by_cases hw : wd = "call"
        · subst hw
          obtain ⟨b, f, bs, rfl, h3⟩ := ln_call hcn
          walk_at "wdc"
          refine i_ix rfl (L2.atI_nat (j := 1) (v := .int f) rfl) ?_
          walk_at "wdc"
          have e2 : cutD ((b :: f :: bs).map D.int) (some 2) none = bs.map D.int := c_lo ((b :: f :: bs).map D.int) 2
          rw [e2]
          walk_at "wdc"
          exact fin _ rfl
        · refine ite_f (by simp [hw]) ?_
          walk_at "d"
          refine ⟨sz_le (by have := have_five hcn; simp; omega), ?_⟩
          rw [List.append_nil]
          refine fin _ ?_
          show _ = lnD (wd, ns)
          rw [lnD_else hw]
      · have hrow : rowW (wd :: ps) = none := if_neg (fun z => ha z.2)
        rw [hrow] at fin
        rw [Bool.eq_false_iff.mpr ha]
        refine ite_t (by decide) ?_
        walk_at "d"
        exact fin _ rfl
    · have hrow : rowW (wd :: ps) = none := if_neg (fun z => hc z.1)
      rw [hrow] at fin
      rw [Bool.eq_false_iff.mpr hc]
      walk_at "d"
      refine ite_t (by decide) ?_
      walk_at "d"
      exact fin _ rfl
end
abbrev s_rowsof : Stmt := topS 39
abbrev N_rowsof : List Str := ["text", "rows", "number", "line", "row"]
theorem sc_rowsof : FnScope N_rowsof ["text"] (defScope s_rowsof) := ⟨rfl, rfl, rfl, by decide +kernel, rfl, by decide +kernel, by decide +kernel⟩
/-! ### the rows of a text, or the first line that is none -/
def scan : Nat → List Str → Int ⊕ List Ln
  | _, [] => .inr []
  | i, l :: ls => match rowS l with
    | none => .inl i
    | some x => if i = 0 ∧ x.1 ≠ "fun" then .inl i else match scan (i + 1) ls with
      | .inl j => .inl j
      | .inr xs => .inr (x :: xs)
def linesT (z : Str) : List Str := if z = "" then [] else Txt.split z nl1
def readL (z : Str) : Int ⊕ List Ln := scan 0 (linesT z)
def addL (xs : List Ln) : Int ⊕ List Ln → Int ⊕ List Ln
  | .inl j => .inl j
  | .inr ys => .inr (xs ++ ys)
theorem addL_addL (a b : List Ln) (o : Int ⊕ List Ln) : addL a (addL b o) = addL (a ++ b) o := by cases o <;> simp [addL]
theorem addL_nil (o : Int ⊕ List Ln) : addL [] o = o := by cases o <;> simp [addL]
theorem scan_none {i : Nat} {l : Str} {ls : List Str} (h : rowS l = none) : scan i (l :: ls) = .inl i := by
  unfold scan
  rw [h]
theorem scan_first {l : Str} {ls : List Str} {x : Ln} (h : rowS l = some x) (h2 : x.1 ≠ "fun") : scan 0 (l :: ls) = .inl 0 := by
  unfold scan
  rw [h]
  exact if_pos ⟨rfl, h2⟩
theorem scan_ok {i : Nat} {l : Str} {ls : List Str} {x : Ln} (h : rowS l = some x) (h2 : i = 0 → x.1 = "fun") : scan i (l :: ls) = addL [x] (scan (i + 1) ls) := by
  rw [scan, h]
  dsimp only
  rw [if_neg (fun z => z.2 (h2 z.1))]
  cases scan (i + 1) ls <;> rfl
structure LnsOk (xs : List Ln) : Prop where
  ok : ∀ x ∈ xs, LnOk x
  first : ∀ x : Ln, xs[0]? = some x → x.1 = ("fun" : Str)
theorem ln_head {q : Ln} (h : LnOk q) : ∃ xs, lnD q = .tup (.str q.1 :: xs) := by
  obtain ⟨w, ns⟩ := q
  by_cases hw : w = "call"
  · subst hw
    obtain ⟨b, f, bs, e, _⟩ := ln_call h.have_
    have e : ns = b :: f :: bs := e
    subst e
    exact ⟨_, rfl⟩
  · exact ⟨_, lnD_else hw⟩
theorem scan_facts : ∀ (ls : List Str) (i : Nat) {xs : List Ln}, scan i ls = .inr xs → xs.length = ls.length ∧ (∀ x ∈ xs, LnOk x) ∧ (i = 0 → ∀ x : Ln, xs[0]? = some x → x.1 = ("fun" : Str))
  | [], i, xs, h => by
    cases h
    exact ⟨rfl, (fun _ z => by cases z), (fun _ _ z => by cases z)⟩
  | l :: ls, i, xs, h => by
    cases hr : rowS l with
    | none => rw [scan_none hr] at h; cases h
    | some x =>
      by_cases h2 : i = 0 ∧ x.1 ≠ "fun"
      · rw [h2.1, scan_first hr h2.2] at h; cases h
      · rw [scan_ok hr (fun z => Classical.byContradiction fun y => h2 ⟨z, y⟩)] at h
        cases hs : scan (i + 1) ls with
        | inl j => rw [hs] at h; cases h
        | inr ys =>
          rw [hs] at h
          cases h
          obtain ⟨h3, h4, _⟩ := scan_facts ls (i + 1) hs
          refine ⟨by simp [h3], fun q hq => ?_, fun z q hq => ?_⟩
          · rcases List.mem_cons.mp hq with rfl | hq
            · exact rowS_ok hr
            · exact h4 q hq
          · cases hq
            exact Classical.byContradiction fun y => h2 ⟨z, y⟩
theorem lines_tot (z : Str) : tot (linesT z) ≤ z.length + 1 := by
  unfold linesT
  split
  · exact Nat.zero_le _
  · exact Nat.le_of_eq (nl_tot z)
def spRowsOf (CT : Addr) : DSpX := fun ds S P R => ∃ z : Str, ds = [.str z] ∧ z.length ≤ 20000 ∧ (match readL z with
  | .inl i => ∀ T : Sto, R CT [("row", .int i)] (S ++ T)
  | .inr xs => P (.ref S.length) (S ++ [.lst (xs.map lnD)]))
theorem small_log {i : Int} (h0 : 0 ≤ i) (h1 : i ≤ 100000) : i.natAbs.log2 < 1920 := by
  have h : i.natAbs < 2 ^ 1920 := Nat.lt_of_lt_of_le (show i.natAbs < 100001 by omega) (by decide +kernel)
  rcases Nat.eq_zero_or_pos i.natAbs with e | e
  · rw [e]; decide
  · exact (Nat.log2_lt (by omega)).mpr h
section
variable {P : Program} {w : World} {K : PySem.W.Frag} {mg : Str → Option Value} {base : Heap} {c_BadText : Addr} {s_xi : Stmt}
theorem ok_rowsof (at_ : At K mg "rows_of" s_rowsof ["text"]) (mb : ∀ x, isB x = true → mg x = none) (z_super : mg "super" = none) (mx_BadText : mg "BadText" = some (.ref c_BadText)) (xi_BadText : XiC P K c_BadText "BadText.__init__" s_xi ["row"]) (G_rowof : Fn P w K mg base "row_of" 2 ["line"] spRowOf) : FnX P w K mg base "rows_of" 3 ["text"] (spRowsOf c_BadText) := by
  refine fnX_at at_ fun f fd F => fn_dXK F sc_rowsof (fun ds S P R h => ?_) ?_
  · obtain ⟨p, rfl, _⟩ := h
    rfl
  · rintro X W0 cdv A outer s H E rfl hr hR
    have hu := hr.units
    refine ⟨_, (dss_cons (ds_if (dt_cmp (op_eqA hu) do_eq (de_var (pv 0)) de_str (nomark _)) (dss_one (ds_ret (de_new (dn_lst da_nil)))) dss_nil)
      (dss_cons (ds_set (i := 1) (de_new (dn_lst da_nil)) (fun h => ps_set sc_rowsof.nd rfl (by first | exact Or.inl rfl | exact Or.inr rfl) h))
      (dss_cons (ds_for (passes_of rfl) rfl (di_enum (by rfl) (mb "enumerate" rfl) (da_cons (de_pure (dn_split (de_var (pv 0)) de_str)) da_nil)) (dg_tup (n := 2) rfl (dgs_cons (dg_name (pg_name (i := 2) sc_rowsof.nd rfl (by first | exact Or.inl rfl | exact Or.inr rfl))) (dgs_cons (dg_name (pg_name (i := 3) sc_rowsof.nd rfl (by first | exact Or.inl rfl | exact Or.inr rfl))) dgs_nil))) (dss_cons (ds_set (i := 4) (de_fn G_rowof (hr.mono (by decide)) (by rfl) (da_cons (de_var (pv 3)) da_nil)) (fun h => ps_set sc_rowsof.nd rfl (by first | exact Or.inl rfl | exact Or.inr rfl) h))
      (dss_cons (ds_if (dt_w (dw_or (dt_cmp op_isN do_isN (de_var (pv 4)) de_non (nomark _)) (dw_or1 (dt_w (dw_and (dt_cmp (op_eqA hu) do_eq (de_var (pv 2)) de_int (nomark _)) (dw_and1 (dt_cmp (op_neA hu) do_ne (de_ix (de_var (pv 4)) de_int (fun _ _ => rfl)) de_str (nomark _)))))))) (dss_one (ds_raiseX rfl hR xi_BadText (hr.mono (by decide)) z_super mx_BadText (by rfl) (da_cons (de_var (pv 2)) da_nil))) dss_nil)
      (dss_one (ds_expr (de_mt dm_append (de_var (pv 1)) (da_cons (de_var (pv 4)) da_nil) (fun h1 h2 => pe_bm PySem.F.plainAttrs_list PySem.F.slot_list_append PySem.F.type_list_append mt_append h1 h2)))))))
      (dss_one (ds_ret (de_var (pv 1))))))), ?_⟩
    rintro ds S P R ⟨z, rfl, hz, post⟩ eR
    walk_at "st"
    walk_at "d"
    by_cases hne : z = ""
    · subst hne
      refine ite_t (by decide) ?_
      walk_at "d"
      exact post
    · refine ite_f (by simp [hne]) ?_
      walk_at "d"
      walk_at "e"
      refine i_split ?_
      walk_at "d"
      refine ⟨_, rfl, ?_⟩
      walk_at "d"
      refine ⟨_, rfl, rfl, Nat.le_trans (Nat.add_le_add_right hz 2) (by decide), ?_⟩
      rw [show Str.ofString "\n" = nl1 from rfl]
      have htot := nl_tot z
      have hread : readL z = addL [] (scan 0 (Txt.split z nl1)) := by
        unfold readL linesT
        rw [if_neg hne, addL_nil]
      generalize Txt.split z nl1 = ls at htot hread ⊢
      have hls : ls.length ≤ 20001 := by have := len_tot ls; omega
      walk_at "d"
      have hat : ∀ o : O, (S ++ [o])[S.length]? = some o := fun o => by rw [List.getElem?_append_right (Nat.le_refl _), Nat.sub_self]; rfl
      have hset : ∀ o o' : O, (S ++ [o]).set S.length o' = S ++ [o'] := fun o o' => by rw [List.set_append_right _ _ (Nat.le_refl _), Nat.sub_self]; rfl
      refine ⟨fun i env S' => ∃ (xs : List Ln) (y2 y3 y4 : Option D), xs.length = i ∧ readL z = addL xs (scan i (ls.drop i)) ∧ S' = S ++ [.lst (xs.map lnD)] ∧ env = [some (.str z), some (.ref S.length), y2, y3, y4], ⟨[], _, _, _, rfl, hread, rfl, rfl⟩, fun _ _ _ _ _ => trivial, ?_, ?_⟩
      · rintro i x env S' hx ⟨xs, y2, y3, y4, hxl, hrd, rfl, rfl⟩
        obtain ⟨d, hd, rfl⟩ := enumD_get 0 _ i x hx
        rw [List.getElem?_map] at hd
        cases el : ls[i]? with
        | none => rw [el] at hd; cases hd
        | some l =>
          rw [el] at hd
          cases hd
          have hi := (List.getElem?_eq_some_iff.mp el).1
          have hdrop : ls.drop i = l :: ls.drop (i + 1) := by
            rw [List.drop_eq_getElem_cons hi]
            rw [(List.getElem?_eq_some_iff.mp el).2]
          have hll := tot_mem (List.mem_of_getElem? el)
          rw [hdrop] at hrd
          have bad : readL z = .inl i → ∀ S1, S1 = S ++ [.lst (xs.map lnD)] → ∀ y E', dXi W0.R c_BadText ["row"] (dCons (dVar 2) dNil) E' [some (.str z), some (.ref S.length), some (.int ((0 + i : Nat) : Int)), some (.str l), y] S1 := fun hb S1 e1 y E' => by
            subst e1
            rw [hb] at post
            refine ⟨.int ((0 + i : Nat) : Int), rfl, [((0 + i : Nat) : Int)], rfl, rfl, fun z hz => ?_, ?_⟩
            · rw [List.mem_singleton.mp hz]
              exact small_log (by omega) (by omega)
            · rw [eR]
              have e : ((0 + i : Nat) : Int) = (i : Int) := by omega
              rw [e]
              exact post _
          walk_at "d"
          walk_at "e"
          refine ⟨l, rfl, by omega, ?_⟩
          cases hrow : rowS l with
          | none =>
            rw [scan_none hrow] at hrd
            show gNm 4 D.non _ _ _
            walk_at "d"
            refine ite_t rfl ?_
            exact bad hrd _ rfl _ (exitKN P)
          | some q =>
            have hq := rowS_ok hrow
            show gNm 4 (lnD q) _ _ _
            walk_at "d"
            have nxt : (i = 0 → q.1 = "fun") → readL z = addL (xs ++ [q]) (scan (i + 1) (ls.drop (i + 1))) := fun h2 => by
              rw [scan_ok hrow h2, addL_addL] at hrd
              exact hrd
            obtain ⟨rs, hrs⟩ := ln_head hq
            have app : (i = 0 → q.1 = ("fun" : Str)) → ∀ S1, S1 = S ++ [.lst (xs.map lnD)] → dDrop (dMt mAppend (dVar 1) (dCons (dVar 4) dNil)) { nx := fun env S' => ∃ (xs : List Ln) (y2 y3 y4 : Option D), xs.length = i + 1 ∧ readL z = addL xs (scan (i + 1) (ls.drop (i + 1))) ∧ S' = S ++ [.lst (xs.map lnD)] ∧ env = [some (.str z), some (.ref S.length), y2, y3, y4], rt := (exitKN P).rt, bk := dRet (dVar 1) (exitKN P), ct := fun env S' => ∃ (xs : List Ln) (y2 y3 y4 : Option D), xs.length = i + 1 ∧ readL z = addL xs (scan (i + 1) (ls.drop (i + 1))) ∧ S' = S ++ [.lst (xs.map lnD)] ∧ env = [some (.str z), some (.ref S.length), y2, y3, y4] }
              [some (.str z), some (.ref S.length), some (.int ((0 + i : Nat) : Int)), some (.str l), some (lnD q)] S1 := fun h2 S1 e1 => by
              subst e1
              walk_at "d"
              refine i_mtx (hat _) ?_
              walk_at "d"
              refine i_append (hat _) (sz_lt (by rw [List.length_map]; omega)) ?_
              rw [hset]
              exact ⟨xs ++ [q], _, _, _, by simp [hxl], nxt h2, by rw [List.map_append]; rfl, rfl⟩
            refine ite_f (by rw [hrs]; exact Bool.false_ne_true) ?_
            walk_at "d"
            by_cases h0 : i = 0
            · refine ite_t (by simp [h0]) ?_
              walk_at "d"
              refine i_ix (xs := .str q.1 :: rs) (by rw [hrs]; rfl) (L2.atI_nat (j := 0) rfl) ?_
              walk_at "d"
              by_cases hf : q.1 = ("fun" : Str)
              · refine ite_f (by simp [hf]) ?_
                exact app (fun _ => hf) _ rfl
              · refine ite_t (by simp [hf]) ?_
                refine bad ?_ _ rfl _ (exitKN P)
                subst h0
                rw [scan_first hrow hf] at hrd
                exact hrd
            · refine ite_f (by simp; omega) ?_
              refine ite_f Bool.false_ne_true ?_
              exact app (fun z => absurd z h0) _ rfl
      · rintro env S' ⟨xs, y2, y3, y4, hxl, hrd, rfl, rfl⟩
        rw [enumD_len, List.length_map] at hxl hrd
        rw [List.drop_length] at hrd
        have hrd : readL z = .inr (xs ++ []) := hrd
        rw [hrd, List.append_nil] at post
        walk_at "d"
        exact post
end
abbrev s_read : Stmt := topS 40
abbrev N_read : List Str := ["text", "functions", "row", "many", "rows"]
theorem sc_read : FnScope N_read ["text"] (defScope s_read) := ⟨rfl, rfl, rfl, by decide +kernel, rfl, by decide +kernel, by decide +kernel⟩
/-! ### a program out of its rows -/
abbrev FD := Int × List D
def putL (done : List FD) (x : Ln) : List FD := if x.1 = ("fun" : Str) then done ++ [(x.2.headD 0, [])] else match done.getLast? with
  | none => done
  | some l => done.dropLast ++ [(l.1, l.2 ++ [lnD x])]
def fdD (f : FD) : D := .tup [.int f.1, .tup f.2]
def progD (xs : List Ln) : D := .tup ((xs.foldl putL []).map fdD)
theorem putL_fun {done : List FD} {x : Ln} (h : x.1 = ("fun" : Str)) : putL done x = done ++ [(x.2.headD 0, [])] := if_pos h
theorem putL_row {A : List FD} {l : FD} {x : Ln} (h : x.1 ≠ ("fun" : Str)) : putL (A ++ [l]) x = A ++ [(l.1, l.2 ++ [lnD x])] := by
  unfold putL
  rw [if_neg h]
  simp
theorem fun_one {x : Ln} (h : LnOk x) (hf : x.1 = ("fun" : Str)) : ∃ m, x.2 = [m] ∧ lnD x = .tup [.str "fun", .int m] := by
  obtain ⟨w, ns⟩ := x
  have hf : w = "fun" := hf
  subst hf
  have h1 : ns.length = 1 := of_decide_eq_true h.have_
  match ns, h1 with
  | [m], _ => exact ⟨m, rfl, rfl⟩
theorem putL_len {done : List FD} {x : Ln} {i : Nat} (h1 : done.length ≤ i) (h2 : ∀ f ∈ done, f.2.length ≤ i) : (putL done x).length ≤ i + 1 ∧ ∀ f ∈ putL done x, f.2.length ≤ i + 1 := by
  by_cases hf : x.1 = ("fun" : Str)
  · rw [putL_fun hf]
    refine ⟨by simp; omega, fun f hf => ?_⟩
    rcases List.mem_append.mp hf with hf | hf
    · have := h2 f hf; omega
    · rw [List.mem_singleton.mp hf]; exact Nat.zero_le _
  · rcases List.eq_nil_or_concat done with rfl | ⟨A, l, rfl⟩
    · unfold putL
      rw [if_neg hf]
      exact ⟨Nat.zero_le _, fun f hf => by cases hf⟩
    · rw [List.concat_eq_append] at h1 h2 ⊢
      rw [putL_row hf]
      have hl := h2 l (by simp)
      refine ⟨by simp at h1 ⊢; omega, fun f hf => ?_⟩
      rcases List.mem_append.mp hf with hf | hf
      · have := h2 f (by simp [hf]); omega
      · rw [List.mem_singleton.mp hf]; simp; omega
theorem putL_ne {done : List FD} {x : Ln} (h : done ≠ [] ∨ x.1 = ("fun" : Str)) : putL done x ≠ [] := by
  by_cases hf : x.1 = ("fun" : Str)
  · rw [putL_fun hf]; simp
  · rcases h with h | h
    · rcases List.eq_nil_or_concat done with rfl | ⟨A, l, rfl⟩
      · exact absurd rfl h
      · rw [List.concat_eq_append, putL_row hf]
        simp
    · exact absurd h hf
def funsD (b : Nat) : List FD → List D
  | [] => []
  | f :: r => .tup [.int f.1, .ref b] :: funsD (b + 1) r
theorem funsD_len : ∀ (b : Nat) (l : List FD), (funsD b l).length = l.length
  | _, [] => rfl
  | b, f :: r => congrArg (· + 1) (funsD_len (b + 1) r)
theorem funsD_app : ∀ (b : Nat) (l : List FD) (f : FD), funsD b (l ++ [f]) = funsD b l ++ [.tup [.int f.1, .ref (b + l.length)]]
  | b, [], f => rfl
  | b, g :: l, f => by
    show _ :: funsD (b + 1) (l ++ [f]) = _
    rw [funsD_app (b + 1) l f]
    show _ = _ :: (funsD (b + 1) l ++ _)
    rw [show b + (g :: l).length = b + 1 + l.length by rw [List.length_cons]; omega]
theorem funsD_many (b : Nat) (l : List FD) (f g : FD) (h : f.1 = g.1) : funsD b (l ++ [f]) = funsD b (l ++ [g]) := by rw [funsD_app, funsD_app, h]
theorem funsD_get : ∀ (b : Nat) (l : List FD) (i : Nat) (f : FD), l[i]? = some f → (funsD b l)[i]? = some (.tup [.int f.1, .ref (b + i)])
  | _, [], _, _, h => by cases h
  | b, g :: l, 0, f, h => by cases h; rfl
  | b, g :: l, i + 1, f, h => by
    have := funsD_get (b + 1) l i f h
    rw [show b + (i + 1) = b + 1 + i by omega]
    exact this
def rowsO (f : FD) : O := .lst f.2
def rdS (S : Sto) (M : Sto) (done : List FD) : Sto := S ++ (.lst (funsD (S.length + 1 + M.length) done) :: (M ++ done.map rowsO))
section
variable {S M : Sto} {done A : List FD} {l : FD}
theorem rd_at : (rdS S M done)[S.length]? = some (.lst (funsD (S.length + 1 + M.length) done)) := by
  unfold rdS
  rw [List.getElem?_append_right (Nat.le_refl _), Nat.sub_self]
  rfl
theorem rd_mid {i : Nat} {o : O} (h : M[i]? = some o) : (rdS S M done)[S.length + 1 + i]? = some o := by
  unfold rdS
  have hl := (List.getElem?_eq_some_iff.mp h).1
  rw [List.getElem?_append_right (by omega), show S.length + 1 + i - S.length = i + 1 by omega, List.getElem?_cons_succ, List.getElem?_append_left hl, h]
theorem rd_len : (rdS S M done).length = S.length + 1 + M.length + done.length := by simp [rdS]; omega
theorem rd_row {i : Nat} {f : FD} (h : done[i]? = some f) : (rdS S M done)[S.length + 1 + M.length + i]? = some (rowsO f) := by
  unfold rdS
  rw [List.getElem?_append_right (by omega), show S.length + 1 + M.length + i - S.length = (M.length + i) + 1 by omega, List.getElem?_cons_succ, List.getElem?_append_right (by omega), Nat.add_sub_cancel_left, List.getElem?_map, h]
  rfl
theorem rd_new (m : Int) : (rdS S M done ++ [O.lst []]).set S.length (O.lst (funsD (S.length + 1 + M.length) done ++ [D.tup [D.int m, D.ref (S.length + 1 + M.length + done.length)]])) = rdS S M (done ++ [(m, [])]) := by
  unfold rdS
  rw [funsD_app, List.append_assoc, List.set_append_right _ _ (Nat.le_refl _), Nat.sub_self]
  simp [rowsO]
theorem rd_put (r : D) : (rdS S M (A ++ [l])).set (S.length + 1 + M.length + A.length) (.lst (l.2 ++ [r])) = rdS S M (A ++ [(l.1, l.2 ++ [r])]) := by
  unfold rdS
  rw [List.set_append_right _ _ (by omega), show S.length + 1 + M.length + A.length - S.length = (M.length + A.length) + 1 by omega, List.set_cons_succ, funsD_many _ A l (l.1, l.2 ++ [r]) rfl]
  congr 2
  rw [List.set_append_right _ _ (by omega), Nat.add_sub_cancel_left]
  congr 1
  rw [List.map_append, List.map_append, List.set_append_right _ _ (by simp)]
  simp [rowsO]
end
theorem unders_mem {n : Nat} : ∀ {ds : List D}, (∀ d ∈ ds, d.under n = true) → unders n ds = true
  | [], _ => rfl
  | d :: ds, h => by
    rw [unders, Bool.and_eq_true]
    exact ⟨h d List.mem_cons_self, unders_mem fun x hx => h x (List.mem_cons_of_mem _ hx)⟩
theorem lns_unders (n : Nat) : ∀ xs : List Ln, unders n (xs.map lnD) = true := fun xs => unders_map n (ln_under n) xs
structure Fds (i : Nat) (done : List FD) : Prop where
  len : done.length ≤ i
  rows : ∀ f ∈ done, f.2.length ≤ i
  und : ∀ n, ∀ f ∈ done, unders n f.2 = true
theorem unders_app {n : Nat} : ∀ {a b : List D}, unders n a = true → unders n b = true → unders n (a ++ b) = true
  | [], _, _, h => h
  | x :: a, b, h1, h2 => by
    rw [unders, Bool.and_eq_true] at h1
    show unders n (x :: (a ++ b)) = true
    rw [unders, Bool.and_eq_true]
    exact ⟨h1.1, unders_app h1.2 h2⟩
theorem putL_und {done : List FD} {x : Ln} (h : ∀ n, ∀ f ∈ done, unders n f.2 = true) : ∀ n, ∀ f ∈ putL done x, unders n f.2 = true := fun n => by
  by_cases hf : x.1 = ("fun" : Str)
  · rw [putL_fun hf]
    intro f hf
    rcases List.mem_append.mp hf with hf | hf
    · exact h n f hf
    · rw [List.mem_singleton.mp hf]; rfl
  · rcases List.eq_nil_or_concat done with rfl | ⟨A, l, rfl⟩
    · unfold putL
      rw [if_neg hf]
      exact fun f hf => by cases hf
    · rw [List.concat_eq_append] at h ⊢
      rw [putL_row hf]
      intro f hf
      rcases List.mem_append.mp hf with hf | hf
      · exact h n f (by simp [hf])
      · rw [List.mem_singleton.mp hf]
        refine unders_app (h n l (by simp)) ?_
        show (_ && true) = true
        rw [ln_under]
        rfl
theorem fd_under (n : Nat) {f : FD} (h : unders n f.2 = true) : (fdD f).under n = true := by
  show (true && (unders n f.2 && true)) = true
  rw [h]
  rfl
def spRead (CT : Addr) : DSpX := fun ds S P R => ∃ z : Str, ds = [.str z] ∧ z.length ≤ 20000 ∧ (match readL z with
  | .inl i => R CT [("row", .int i)] S
  | .inr xs => P (progD xs) S)
section
variable {P : Program} {w : World} {K : PySem.W.Frag} {mg : Str → Option Value} {base : Heap} {CT : Addr}
theorem ok_read (at_ : At K mg "read" s_read ["text"]) (mb : ∀ x, isB x = true → mg x = none) (G_rowsof : FnX P w K mg base "rows_of" 3 ["text"] (spRowsOf CT)) : FnX P w K mg base "read" 4 ["text"] (spRead CT) := by
  refine fnX_at at_ fun f fd F => fn_dX F sc_read (fun ds S P R h => ?_) ?_
  · obtain ⟨p, rfl, _⟩ := h
    rfl
  · rintro X W0 cdv A outer s H E rfl hr hR
    have hu := hr.units
    refine ⟨_, (dss_cons (ds_set (i := 1) (de_new (dn_lst da_nil)) (fun h => ps_set sc_read.nd rfl (by first | exact Or.inl rfl | exact Or.inr rfl) h))
      (dss_cons (ds_for (passes_of rfl) rfl (di_list (de_fnX G_rowsof hR (hr.mono (by decide)) (by rfl) (da_cons (de_var (pv 0)) da_nil))) (dg_name (pg_name (i := 2) sc_read.nd rfl (by first | exact Or.inl rfl | exact Or.inr rfl))) (dss_one (ds_if (dt_cmp (op_eqA hu) do_eq (de_ix (de_var (pv 2)) de_int (fun _ _ => rfl)) de_str (nomark _)) (dss_one (ds_expr (de_mt dm_append (de_var (pv 1)) (da_cons (de_tup (da_cons (de_ix (de_var (pv 2)) de_int (fun _ _ => rfl)) (da_cons (de_new (dn_lst da_nil)) da_nil))) da_nil) (fun h1 h2 => pe_bm PySem.F.plainAttrs_list PySem.F.slot_list_append PySem.F.type_list_append mt_append h1 h2)))) (dss_one (ds_expr (de_mt dm_append (de_ix (de_ix (de_var (pv 1)) (de_neg de_int) (fun _ _ => rfl)) de_int (fun _ _ => rfl)) (da_cons (de_var (pv 2)) da_nil) (fun h1 h2 => pe_bm PySem.F.plainAttrs_list PySem.F.slot_list_append PySem.F.type_list_append mt_append h1 h2)))))))
      (dss_one (ds_ret (de_b dc_tuple (da_cons (de_pure (dn_lc (own := [("many", 3), ("rows", 4)]) (by decide) rfl sc_read.nd (di_list (de_var (pv 1))) (blkOk_by (N := N_read) (sc := defScope s_read) (by decide +kernel)) (fun _ _ _ _ _ => (dg_tup (n := 2) rfl (dgs_cons (dg_name (pg_name (i := 3) sc_read.nd rfl (Or.inl rfl))) (dgs_cons (dg_name (pg_name (i := 4) sc_read.nd rfl (Or.inl rfl))) dgs_nil)))) (fun _ _ _ _ _ => dts_nil) (fun _ _ _ _ _ => (de_tup (da_cons (de_var (pv 3)) (da_cons (de_b dc_tuple (da_cons (de_var (pv 4)) da_nil) (fun h => pe_callTy call_tuple_of (by rfl) (mb "tuple" rfl) (by decide +kernel) h)) da_nil)))))) da_nil) (fun h => pe_callTy call_tuple_of (by rfl) (mb "tuple" rfl) (by decide +kernel) h)))))), ?_⟩
    rintro ds S P R ⟨z, rfl, hz, post⟩ eR
    walk_at "st"
    walk_at "d"
    walk_at "e"
    refine ⟨z, rfl, hz, ?_⟩
    cases hread : readL z with
    | inl i =>
      rw [hread] at post
      dsimp only
      intro T
      rw [eR, List.append_assoc]
      exact exitX_same rfl post
    | inr xs =>
      rw [hread] at post
      obtain ⟨hxl, hxo, hx0⟩ := scan_facts _ _ hread
      have h20 : xs.length ≤ 20001 := by
        have h1 := lines_tot z
        have h2 := len_tot (linesT z)
        omega
      dsimp only
      walk_at "d"
      have hM : ([O.lst (xs.map lnD)] : Sto)[0]? = some (.lst (xs.map lnD)) := rfl
      generalize hMM : ([O.lst (xs.map lnD)] : Sto) = M at hM ⊢
      have hS1 : S ++ [.lst []] ++ M = rdS S M [] := by simp [rdS, funsD]
      rw [hS1, show (S ++ [O.lst []]).length = S.length + 1 by simp]
      refine i_xlsR (rd_mid (i := 0) hM) ?_
      refine ⟨fun i env S' => ∃ y2 y3 y4, ∃ done : List FD, (xs.take i).foldl putL [] = done ∧ done.length ≤ i ∧ (∀ f ∈ done, f.2.length ≤ i) ∧ (i ≠ 0 → done ≠ []) ∧ (∀ n, ∀ f ∈ done, unders n f.2 = true) ∧ S' = rdS S M done ∧ env = [some (.str z), some (.ref S.length), y2, y3, y4],
        ⟨_, _, _, [], rfl, Nat.le_refl _, (fun _ z => by cases z), (fun z => absurd rfl z), (fun _ _ z => by cases z), rfl, rfl⟩, ?_, ?_, ?_⟩
      · rintro i env S' hi ⟨y2, y3, y4, done, hd, hl, hr, hne, hu', rfl, rfl⟩
        exact rd_mid (i := 0) hM
      · rintro i x env S' hx ⟨y2, y3, y4, done, hd, hl, hr, hne, hu', rfl, rfl⟩
        rw [List.getElem?_map] at hx
        cases ex : xs[i]? with
        | none => rw [ex] at hx; cases hx
        | some x =>
          rw [ex] at hx
          cases hx
          have hi := (List.getElem?_eq_some_iff.mp ex).1
          have hok := hxo x (List.mem_of_getElem? ex)
          have hd' : (xs.take (i + 1)).foldl putL [] = putL done x := by
            rw [List.take_add_one, ex]
            show (xs.take i ++ [x]).foldl putL [] = _
            rw [List.foldl_append, hd]
            rfl
          obtain ⟨k1, k2⟩ := putL_len (x := x) hl hr
          have k4 := putL_und (x := x) hu'
          have kf : i = 0 → x.1 = ("fun" : Str) := fun h0 => by
            subst h0
            exact hx0 rfl x ex
          have k3 : putL done x ≠ [] := putL_ne (by
            by_cases h0 : i = 0
            · exact .inr (kf h0)
            · exact .inl (hne h0))
          walk_at "d"
          walk_at "e"
          by_cases hf : x.1 = ("fun" : Str)
          · obtain ⟨m, hm, hmD⟩ := fun_one hok hf
            rw [putL_fun hf, hm] at hd' k1 k2 k3 k4
            rw [hmD]
            walk_at "d"
            refine ite_t (by decide) ?_
            walk_at "d"
            refine i_mtx rd_at ?_
            walk_at "d"
            rw [rd_len]
            refine i_append (xs := funsD (S.length + 1 + M.length) done) (by rw [List.getElem?_append_left (by rw [rd_len]; omega)]; exact rd_at) (sz_lt (by rw [funsD_len]; omega)) ?_
            rw [rd_new]
            exact ⟨_, _, _, _, hd', k1, k2, fun _ => k3, k4, rfl, rfl⟩
          · obtain ⟨rs, hrs⟩ := ln_head hok
            have hdn : done ≠ [] := hne (fun h0 => hf (kf h0))
            rcases List.eq_nil_or_concat done with h0 | ⟨A, l, h0⟩
            · exact absurd h0 hdn
            rw [List.concat_eq_append] at h0
            subst h0
            refine i_ix (xs := .str x.1 :: rs) (by rw [hrs]; rfl) (L2.atI_nat (j := 0) rfl) ?_
            walk_at "d"
            refine ite_f (by simp [hf]) ?_
            walk_at "d"
            refine i_ix (xs := funsD (S.length + 1 + M.length) (A ++ [l])) (d := .tup [.int l.1, .ref (S.length + 1 + M.length + A.length)]) (by simp only [seqOf, lstOf, rd_at]) (by rw [funsD_app]; exact L2.atI_last _ _) ?_
            walk_at "d"
            have hrow : (rdS S M (A ++ [l]))[S.length + 1 + M.length + A.length]? = some (.lst l.2) := rd_row (f := l) (by simp)
            refine i_mtx hrow ?_
            walk_at "d"
            have hl30 := hr l (by simp)
            refine i_append hrow (sz_lt (by omega)) ?_
            rw [rd_put]
            rw [putL_row hf] at hd' k1 k2 k3 k4
            exact ⟨_, _, _, _, hd', k1, k2, fun _ => k3, k4, rfl, rfl⟩
      · rintro env S' ⟨y2, y3, y4, done, hd, hl, hr, hne, hu', rfl, rfl⟩
        rw [List.length_map, List.take_length] at hd
        rw [List.length_map] at hl hr
        walk_at "d"
        refine i_xlsR rd_at ?_
        refine ⟨fun i acc S' => S' = rdS S M done ∧ acc = (done.take i).map fdD, ⟨rfl, rfl⟩, fun i acc S' hi z => ⟨?_, ?_⟩, ?_, ?_⟩
        · rw [z.1]; exact rd_at
        · rw [z.2, List.length_map, List.length_take]
          exact sz_lt (by omega)
        · rintro i x acc S' hx ⟨rfl, rfl⟩
          cases ef : done[i]? with
          | none =>
            rw [List.getElem?_eq_none (by rw [funsD_len]; exact List.getElem?_eq_none_iff.mp ef)] at hx
            cases hx
          | some fn =>
            rw [funsD_get _ _ i fn ef] at hx
            cases hx
            walk_at "d"
            refine ite_t rfl ?_
            walk_at "d"
            refine i_tuple (xs := fn.2) (by simp only [seqOf, lstOf, rd_row ef, rowsO]) ?_
            walk_at "d"
            exact ⟨rfl, by rw [List.take_add_one, ef]; simp; rfl⟩
        · rintro acc S' ⟨rfl, rfl⟩
          rw [funsD_len, List.take_length]
          walk_at "d"
          have hpd : progD xs = .tup (done.map fdD) := by unfold progD; rw [hd]
          have post : P (progD xs) S := post
          rw [hpd] at post
          refine exit_pure rfl (fun n => ?_) post
          show unders n (done.map fdD) = true
          exact unders_mem fun d hd => by
            obtain ⟨f, hf, rfl⟩ := List.mem_map.mp hd
            exact fd_under n (hu' n f hf)
end
open TL
abbrev s_Lnumber : Stmt := topS 51
abbrev N_Lnumber : List Str := ["_law_word_here", "_law_sign"]
theorem sc_Lnumber : FnScope N_Lnumber ["_law_word_here"] (defScope s_Lnumber) := ⟨rfl, rfl, rfl, by decide +kernel, rfl, by decide +kernel, by decide +kernel⟩
abbrev s_Lrow : Stmt := topS 52
abbrev N_Lrow : List Str := ["_law_line", "_law_words", "_law_counts", "_law_numbers", "_law_word_here"]
theorem sc_Lrow : FnScope N_Lrow ["_law_line"] (defScope s_Lrow) := ⟨rfl, rfl, rfl, by decide +kernel, rfl, by decide +kernel, by decide +kernel⟩
/-! ### the law's own reading of a line -/
def numO (w : Str) : Option Int := if isNumW w = true then some (numV w) else none
def optD : Option Int → D
  | some n => .int n
  | none => .non
def spLNum : DSp := fun ds S P => ∃ z : Str, ds = [.str z] ∧ z.length ≤ 20000 ∧ (∀ c ∈ tl z, c < 128) ∧ P (optD (numO z)) S
def spLRow : DSp := fun ds S P => ∃ z : Str, ds = [.str z] ∧ z.length ≤ 20000 ∧ (∀ c ∈ tl z, c < 128) ∧ P (lnO (rowS z)) S
theorem num_no {w : Str} (h : ¬ (digW w = true ∧ 1 ≤ w.length ∧ w.length ≤ 3)) : numO w = none := if_neg fun z => h (isNum_dig z)
theorem num_dig {w : Str} (h : digW w = true) (h1 : 1 ≤ w.length) (h3 : w.length ≤ 3) : ∃ n, PySem.intText? w = some n ∧ 0 ≤ n ∧ n < 1000 ∧ numO w = if numS n = w then some n else none := by
  obtain ⟨n, e, n0, n1, hn⟩ := dig_num h h1 h3
  refine ⟨n, e, n0, n1, ?_⟩
  unfold numO numV
  rw [hn, e]
  by_cases hw : numS n = w
  · rw [if_pos hw, if_pos (decide_eq_true hw)]
    rfl
  · rw [if_neg hw, if_neg (by simpa using hw)]
theorem spl_mem (s : Nat) : ∀ (l acc : List Nat) (p : List Nat), p ∈ spl [s] 0 acc l → ∀ c ∈ p, c ∈ acc ∨ c ∈ l
  | [], acc, p, h, c, hc => by
    rw [spl_nil, List.mem_singleton] at h
    subst h
    exact .inl hc
  | d :: r, acc, p, h, c, hc => by
    have h : p ∈ (if pre [s] (d :: r) = true then acc :: spl [s] 0 [] r else spl [s] 0 (acc ++ [d]) r) := h
    split at h
    · rcases List.mem_cons.mp h with rfl | h
      · exact .inl hc
      · rcases spl_mem s r [] p h c hc with h | h
        · cases h
        · exact .inr (List.mem_cons_of_mem _ h)
    · rcases spl_mem s r (acc ++ [d]) p h c hc with h | h
      · rcases List.mem_append.mp h with h | h
        · exact .inl h
        · rw [List.mem_singleton.mp h]
          exact .inr List.mem_cons_self
      · exact .inr (List.mem_cons_of_mem _ h)
def asc (z : Str) : Prop := ∀ c ∈ tl z, c < 128
theorem split_asc {x y : Str} (hx : ∀ c ∈ tl x, c < 128) {s : Nat} (ey : tl y = [s]) (hk : y.cps.all (· < 256) = true) : ∀ p ∈ Txt.split x y, ∀ c ∈ tl p, c < 128 := fun p hp c hc => by
  have e := split_spl x y (by rw [ey]; simp) (kind_ok hk)
  have hm : tl p ∈ spl (tl y) 0 [] (tl x) := by rw [← e]; exact List.mem_map.mpr ⟨p, hp, rfl⟩
  rw [ey] at hm
  rcases spl_mem s _ _ _ hm c hc with h | h
  · cases h
  · exact hx c h
def optV : Option Int → V
  | some n => .int n
  | none => .non
theorem flats_opt : ∀ os : List (Option Int), flatsD (os.map optD) = some (os.map optV)
  | [] => rfl
  | o :: os => by
    show (match flatD (optD o), flatsD (os.map optD) with | some v, some vs => some (v :: vs) | _, _ => none) = _
    rw [flats_opt os]
    cases o <;> rfl
theorem in_opt : ∀ os : List (Option Int), inV .non (os.map optV) = os.any Option.isNone
  | [] => rfl
  | o :: os => by
    have ih := in_opt os
    cases o with
    | none => rfl
    | some n =>
      show inV .non (V.int n :: os.map optV) = _
      rw [List.any_cons, ← ih]
      rfl
theorem nums_all {ps : List Str} (h : ps.all isNumW = true) : (ps.map numO).any Option.isNone = false := by
  rw [List.any_eq_false]
  intro o ho
  obtain ⟨p, hp, rfl⟩ := List.mem_map.mp ho
  unfold numO
  rw [if_pos (List.all_eq_true.mp h p hp)]
  exact Bool.false_ne_true
theorem nums_any {ps : List Str} (h : ¬ ps.all isNumW = true) : (ps.map numO).any Option.isNone = true := by
  rw [List.any_eq_true]
  rw [List.all_eq_true] at h
  obtain ⟨p, hp⟩ := Classical.not_forall.mp h
  obtain ⟨hm, hn⟩ := Classical.not_imp.mp hp
  refine ⟨_, List.mem_map.mpr ⟨p, hm, rfl⟩, ?_⟩
  unfold numO
  rw [if_neg hn]
  rfl
def lKs : List Key := [.inr "fun", .inr "num", .inr "plus", .inr "less", .inr "times", .inr "skip", .inr "say", .inr "rest", .inr "tell"]
def lDs : List D := [.int 1, .int 2, .int 3, .int 3, .int 3, .int 2, .int 1, .int 0, .int 1]
theorem look_have {w : Str} (h2 : w ≠ "call") (n : Nat) : ∃ m : Int, (dlook lKs lDs (.inr w)).getD (.int (-1)) = .int m ∧ decide (m = n) = canHave w n := by
  by_cases h1 : w = "fun"
  · subst h1
    exact ⟨1, rfl, decide_eq_decide.mpr (by omega)⟩
  by_cases h3 : w = "num"
  · subst h3
    exact ⟨2, rfl, decide_eq_decide.mpr (by omega)⟩
  by_cases h4 : w = "plus"
  · subst h4
    exact ⟨3, rfl, decide_eq_decide.mpr (by omega)⟩
  by_cases h5 : w = "less"
  · subst h5
    exact ⟨3, rfl, decide_eq_decide.mpr (by omega)⟩
  by_cases h6 : w = "times"
  · subst h6
    exact ⟨3, rfl, decide_eq_decide.mpr (by omega)⟩
  by_cases h7 : w = "skip"
  · subst h7
    exact ⟨2, rfl, decide_eq_decide.mpr (by omega)⟩
  by_cases h8 : w = "say"
  · subst h8
    exact ⟨1, rfl, decide_eq_decide.mpr (by omega)⟩
  by_cases h9 : w = "rest"
  · subst h9
    exact ⟨0, rfl, decide_eq_decide.mpr (by omega)⟩
  by_cases h10 : w = "tell"
  · subst h10
    exact ⟨1, rfl, decide_eq_decide.mpr (by omega)⟩
  have hn : ∀ u : Str, ¬ w = u → ¬ ((Sum.inr u : Key) = .inr w) := fun u h e => h (Sum.inr.inj e).symm
  have e : dlook lKs lDs (.inr w) = none := by
    unfold lKs lDs
    simp only [dlook]
    rw [if_neg (hn _ h1), if_neg (hn _ h3), if_neg (hn _ h4), if_neg (hn _ h5), if_neg (hn _ h6), if_neg (hn _ h7), if_neg (hn _ h8), if_neg (hn _ h9), if_neg (hn _ h10)]
  rw [e]
  refine ⟨-1, rfl, ?_⟩
  unfold canHave
  rw [if_neg h1, if_neg h2, if_neg h3, if_neg h4, if_neg h5, if_neg h6, if_neg h7, if_neg h8, if_neg h9, if_neg h10]
  exact decide_eq_false (by omega)
section
variable {P : Program} {w : World} {K : PySem.W.Frag} {mg : Str → Option Value} {base : Heap}
theorem ok_Lnumber (at_ : At K mg "_law_number" s_Lnumber ["_law_word_here"]) (mb : ∀ x, isB x = true → mg x = none) : Fn P w K mg base "_law_number" 1 ["_law_word_here"] spLNum := by
  refine fn_at at_ fun f fd F => fn_d F sc_Lnumber (fun ds S P h => ?_) ?_
  · obtain ⟨i, rfl, _⟩ := h
    rfl
  · rintro X W0 cdv A outer s H E rfl hr
    have hu := hr.units
    refine ⟨_, (dss_cons (ds_if (dt_w (dw_or (dt_not (dt_chain op_le op_le do_le do_le de_int (de_b dc_lenS (da_cons (de_var (pv 0)) da_nil) (fun h => pe_callB call_len_str (by rfl) (mb "len" rfl) PySem.boot_len h)) de_int)) (dw_or1 (dt_cmp (op_neA hu) do_ne (de_pure (dn_lc (own := [("_law_sign", 1)]) (by decide) rfl sc_Lnumber.nd (di_str (de_var (pv 0))) (blkOk_by (N := N_Lnumber) (sc := defScope s_Lnumber) (by decide +kernel)) (fun _ _ _ _ _ => (dg_name (pg_name (i := 1) sc_Lnumber.nd rfl (Or.inl rfl)))) (fun _ _ _ _ _ => (dts_one (dt_cmp op_notIn_sign do_notInS (de_var (pv 1)) de_str (by rfl)))) (fun _ _ _ _ _ => (de_var (pv 1))))) (de_pure (dn_lst da_nil)) (nomark _))))) (dss_one (ds_ret de_non)) dss_nil)
      (dss_one (ds_ret (de_if (dt_cmp (op_eqA hu) do_eq (de_b dc_str (da_cons (de_b dc_intS (da_cons (de_var (pv 0)) da_nil) (fun h => pe_callTy call_int_str (by rfl) (mb "int" rfl) (by decide +kernel) h)) da_nil) (fun h => pe_callTy call_strX (by rfl) (mb "str" rfl) (by decide +kernel) h)) (de_var (pv 0)) (nomark _)) (de_b dc_intS (da_cons (de_var (pv 0)) da_nil) (fun h => pe_callTy call_int_str (by rfl) (mb "int" rfl) (by decide +kernel) h)) de_non)))), ?_⟩
    rintro ds S P ⟨z, rfl, hz, hasc, post⟩
    have fin : ∀ d, d = optD (numO z) → atExit S P d S := fun d e => by subst e; exact exit_pure0 (fun _ => by cases numO z <;> rfl) post
    walk_at "st"
    walk_at "d"
    refine ⟨_, rfl, Nat.le_trans hz (by decide), ?_⟩
    walk_at "d"
    by_cases h1 : 1 ≤ z.length
    · refine ite_t (decide_eq_true (by omega)) ?_
      walk_at "d"
      by_cases h3 : z.length ≤ 3
      · refine ite_f (by rw [decide_eq_true (show (z.length : Int) ≤ 3 by omega)]; exact Bool.false_ne_true) ?_
        walk_at "d"
        refine i_st ?_
        walk_at "d"
        refine ⟨z, rfl, ?_⟩
        refine ⟨fun i acc S' => S' = S ∧ acc = (((tl z).take i).filter fun c => !digC c).map fun c => D.str ⟨#[c]⟩, ⟨rfl, rfl⟩, fun i acc S' hi ha => ⟨trivial, ?_⟩, ?_, ?_⟩
        · rw [ha.2, List.length_map]
          have := List.length_filter_le (fun c => !digC c) ((tl z).take i)
          rw [List.length_take] at this
          rw [len_tl] at h3
          exact sz_lt (by omega)
        · rintro i d acc S' hd ⟨rfl, rfl⟩
          unfold DL.signs at hd
          rw [List.getElem?_map] at hd
          cases ec : (tl z)[i]? with
          | none => rw [ec] at hd; cases hd
          | some c =>
            rw [ec] at hd
            cases hd
            walk_at "d"
            have step : ((tl z).take (i + 1)).filter (fun c => !digC c) = ((tl z).take i).filter (fun c => !digC c) ++ (if digC c = true then [] else [c]) := by
              rw [List.take_add_one, ec, List.filter_append]
              cases hc : digC c <;> simp [hc]
            walk_at "d"
            refine ⟨c, "0123456789", rfl, rfl, ?_⟩
            have ed : (!decide (c ∈ ("0123456789" : Str).cps.toList)) = !digC c := rfl
            rw [ed]
            walk_at "d"
            cases hc : digC c with
            | true =>
              refine ite_f Bool.false_ne_true ?_
              exact ⟨rfl, by rw [step, hc]; simp⟩
            | false =>
              refine ite_t rfl ?_
              walk_at "d"
              exact ⟨rfl, by rw [step, hc]; simp⟩
        rintro acc S' ⟨rfl, rfl⟩
        have hfull : (tl z).take (DL.signs z).length = tl z := by
          rw [signs_len]
          exact List.take_of_length_le (by rw [Array.length_toList]; exact Nat.le_refl _)
        rw [hfull]
        have hpl : pln 2 (.lst (((tl z).filter fun c => !digC c).map fun c => D.str ⟨#[c]⟩)) = true := by
          rw [pln, Bool.and_eq_true_iff]
          refine ⟨decide_eq_true ?_, plns_of fun x hx => ?_⟩
          · rw [List.length_map]
            have := List.length_filter_le (fun c => !digC c) (tl z)
            rw [len_tl] at h3
            omega
          · obtain ⟨c, hc, rfl⟩ := List.mem_map.mp hx
            have := hasc c (List.mem_filter.mp hc).1
            show PyData.strOk ⟨#[c]⟩ = true
            simp [PyData.strOk]
            omega
        walk_at "d"
        refine i_eqNilP 1 hpl ?_
        by_cases hdg : digW z = true
        · have he : ((tl z).filter fun c => !digC c) = [] := List.filter_eq_nil_iff.mpr fun c hc => by
            rw [List.all_eq_true.mp hdg c hc]
            decide
          rw [he]
          refine ⟨false, rfl, ?_⟩
          refine ite_f Bool.false_ne_true ?_
          walk_at "d"
          obtain ⟨n, en, n0, n1, hnum⟩ := num_dig hdg h1 h3
          refine ⟨z, n, rfl, en, Nat.le_trans h3 (by decide), ?_⟩
          walk_at "d"
          refine i_strI (log_small n0 (by omega)) ?_
          walk_at "d"
          by_cases hw : numS n = z
          · rw [if_pos hw] at hnum
            refine ite_t (decide_eq_true hw) ?_
            walk_at "d"
            refine ⟨z, n, rfl, en, Nat.le_trans h3 (by decide), ?_⟩
            walk_at "d"
            exact fin _ (by rw [hnum]; rfl)
          · rw [if_neg hw] at hnum
            refine ite_f (by simpa using hw) ?_
            walk_at "d"
            exact fin _ (by rw [hnum]; rfl)
        · cases he : ((tl z).filter fun c => !digC c) with
          | nil =>
            refine absurd (List.all_eq_true.mpr fun c hc => ?_) hdg
            have := List.filter_eq_nil_iff.mp he c hc
            simpa using this
          | cons c r =>
            refine ⟨true, rfl, ?_⟩
            refine ite_t rfl ?_
            walk_at "d"
            exact fin _ (by rw [num_no fun y => hdg y.1]; rfl)
      · refine ite_t (by rw [decide_eq_false (show ¬ (z.length : Int) ≤ 3 by omega)]; rfl) ?_
        refine ite_t rfl ?_
        walk_at "d"
        exact fin _ (by rw [num_no fun y => h3 y.2.2]; rfl)
    · refine ite_f (by simp; omega) ?_
      walk_at "d"
      refine ite_t rfl ?_
      walk_at "d"
      exact fin _ (by rw [num_no fun y => h1 y.2.1]; rfl)
theorem ok_Lrow (at_ : At K mg "_law_row" s_Lrow ["_law_line"]) (mb : ∀ x, isB x = true → mg x = none) (G_Lnumber : Fn P w K mg base "_law_number" 1 ["_law_word_here"] spLNum) : Fn P w K mg base "_law_row" 2 ["_law_line"] spLRow := by
  refine fn_at at_ fun f fd F => fn_d F sc_Lrow (fun ds S P h => ?_) ?_
  · obtain ⟨x, rfl, _⟩ := h
    rfl
  · rintro X W0 cdv A outer s H E rfl hr
    have hu := hr.units
    refine ⟨_, (dss_cons (ds_set (i := 1) (de_pure (dn_split (de_var (pv 0)) de_str)) (fun h => ps_set sc_Lrow.nd rfl (by first | exact Or.inl rfl | exact Or.inr rfl) h))
      (dss_cons (ds_set (i := 2) (de_disp (dps_cons de_str de_int (dps_cons de_str de_int (dps_cons de_str de_int (dps_cons de_str de_int (dps_cons de_str de_int (dps_cons de_str de_int (dps_cons de_str de_int (dps_cons de_str de_int (dps_cons de_str de_int dps_nil))))))))) (by rfl) (by rfl) (fun z => by cases z) (by decide)) (fun h => ps_set sc_Lrow.nd rfl (by first | exact Or.inl rfl | exact Or.inr rfl) h))
      (dss_cons (ds_setLc (i := 3) (vs := [4]) (by decide) (ps_setLc (own := [("_law_word_here", 4)]) rfl sc_Lrow.nd rfl rfl (sw_true rfl rfl rfl (by decide +kernel)) (di_list (de_pure (dn_slice (de_var (pv 1)) (do_some de_int) do_none))) (blkOk_by (N := N_Lrow) (sc := defScope s_Lrow) (by decide +kernel)) (fun _ _ _ _ _ => (dg_name (pg_name (i := 4) sc_Lrow.nd rfl (Or.inl rfl)))) (fun _ _ _ _ _ => dts_nil) (fun _ _ _ _ _ => (de_fn G_Lnumber (hr.mono (by decide)) (by rfl) (da_cons (de_var (pv 4)) da_nil)))))
      (dss_cons (ds_if (dt_cmp op_in_seq do_in de_non (de_var (pv 3)) (by rfl)) (dss_one (ds_ret de_non)) dss_nil)
      (dss_cons (ds_if (dt_cmp (op_eqA hu) do_eq (de_ix (de_var (pv 1)) de_int (fun _ _ => rfl)) de_str (nomark _)) (dss_one (ds_ret (de_if (dt_chain op_lt op_lt do_lt do_lt de_int (de_b dc_len (da_cons (de_var (pv 3)) da_nil) (fun h => pe_callB call_len_seq (by rfl) (mb "len" rfl) PySem.boot_len h)) de_int) (de_tup (da_cons de_str (da_cons (de_ix (de_var (pv 3)) de_int (fun _ _ => rfl)) (da_cons (de_ix (de_var (pv 3)) de_int (fun _ _ => rfl)) (da_cons (de_b dc_tuple (da_cons (de_pure (dn_slice (de_var (pv 3)) (do_some de_int) do_none)) da_nil) (fun h => pe_callTy call_tuple_of (by rfl) (mb "tuple" rfl) (by decide +kernel) h)) da_nil))))) de_non))) dss_nil)
      (dss_one (ds_ret (de_if (dt_cmp (op_eqA hu) do_eq (de_dget2 (Nat.lt_of_le_of_lt (Nat.add_le_add_left (by decide) _) hu) (de_var (pv 2)) (de_ix (de_var (pv 1)) de_int (fun _ _ => rfl)) (de_neg de_int) ⟨rfl, rfl, rfl, rfl⟩) (de_b dc_len (da_cons (de_var (pv 3)) da_nil) (fun h => pe_callB call_len_seq (by rfl) (mb "len" rfl) PySem.boot_len h)) (nomark _)) (de_add (de_tup (da_cons (de_ix (de_var (pv 1)) de_int (fun _ _ => rfl)) da_nil)) (de_b dc_tuple (da_cons (de_var (pv 3)) da_nil) (fun h => pe_callTy call_tuple_of (by rfl) (mb "tuple" rfl) (by decide +kernel) h))) de_non)))))))), ?_⟩
    rintro ds S P ⟨z, rfl, hz, hasc, post⟩
    have fin : ∀ d, d = lnO (rowS z) → atExit S P d S := fun d e => by subst e; exact exit_pure0 (fun n => lnO_under n _) post
    have htot := sp_tot z
    walk_at "st"
    walk_at "d"
    refine i_split ?_
    walk_at "d"
    refine ⟨_, rfl, ?_⟩
    walk_at "d"
    refine ⟨_, rfl, rfl, Nat.le_trans (Nat.add_le_add_right hz 2) (by decide), ?_⟩
    rw [show Str.ofString " " = sp1 from rfl]
    unfold rowS at fin
    have hparts := split_asc hasc sp_tl (by decide +kernel)
    cases es : Txt.split z sp1 with
    | nil => exact absurd es (sp_ne z)
    | cons wd ps =>
    rw [es] at fin htot hparts
    rw [tot_cons] at htot
    have hps : ps.length ≤ 20000 := by have := len_tot ps; omega
    have hpl : ∀ p ∈ ps, p.length ≤ 20000 := fun p hp => by have := tot_mem hp; omega
    clear es
    walk_at "d"
    walk_at "e"
    walk_at "d"
    refine ⟨[.inr "fun", .inr "num", .inr "plus", .inr "less", .inr "times", .inr "skip", .inr "say", .inr "rest", .inr "tell"], rfl, by decide, by decide, ?_⟩
    walk_at "d"
    walk_at "e"
    walk_at "d"
    have e2 : DL.cutD ((wd :: ps).map D.str) (some 1) none = ps.map D.str := c_lo ((wd :: ps).map D.str) 1
    rw [e2]
    refine ⟨fun i acc S' => S' = S ∧ acc = ((ps.take i).map numO).map optD, ⟨rfl, rfl⟩, fun i acc S' hi z => ⟨trivial, ?_⟩, ?_, ?_⟩
    · rw [z.2, List.length_map, List.length_map, List.length_take]
      exact sz_lt (by omega)
    · rintro i d acc S' hd ⟨rfl, rfl⟩
      rw [List.getElem?_map] at hd
      cases ep : ps[i]? with
      | none => rw [ep] at hd; cases hd
      | some p =>
        rw [ep] at hd
        cases hd
        walk_at "d"
        refine ite_t rfl ?_
        walk_at "d"
        have hp := List.mem_of_getElem? ep
        refine ⟨p, rfl, hpl p hp, fun c hc => hparts p (List.mem_cons_of_mem _ hp) c hc, ?_⟩
        exact ⟨rfl, by rw [List.take_add_one, ep]; simp⟩
    rintro acc S' ⟨rfl, rfl⟩
    rw [List.length_map, List.take_length]
    walk_at "d"
    walk_at "e"
    walk_at "d"
    refine ⟨_, .non, (ps.map numO).map optV, rfl, rfl, flats_opt _, ?_⟩
    rw [in_opt]
    walk_at "d"
    by_cases ha : ps.all isNumW = true
    · rw [nums_all ha]
      refine ite_f Bool.false_ne_true ?_
      walk_at "d"
      have hns : (ps.map numO).map optD = (ps.map numV).map .int := by
        rw [List.map_map, List.map_map]
        refine List.map_congr_left fun p hp => ?_
        show optD (numO p) = .int (numV p)
        unfold numO
        rw [if_pos (List.all_eq_true.mp ha p hp)]
        rfl
      rw [hns]
      have hrow : rowW (wd :: ps) = if canHave wd (ps.map numV).length = true then some (wd, ps.map numV) else none := by
        rw [List.length_map]
        show (if canHave wd ps.length = true ∧ ps.all isNumW = true then some (wd, ps.map numV) else none) = _
        by_cases hc : canHave wd ps.length = true
        · rw [if_pos hc, if_pos ⟨hc, ha⟩]
        · rw [if_neg hc, if_neg fun y => hc y.1]
      rw [hrow] at fin
      have hl20 : (ps.map numV).length ≤ 20000 := by rw [List.length_map]; exact hps
      clear hns hrow ha
      generalize ps.map numV = ns at fin hl20 ⊢
      by_cases hw : wd = "call"
      · subst hw
        refine ite_t rfl ?_
        walk_at "d"
        by_cases hc : canHave "call" ns.length = true
        · rw [if_pos hc] at fin
          obtain ⟨b, f, bs, rfl, h3⟩ := ln_call hc
          have hl5 : (b :: f :: bs).length ≤ 5 := by simp only [List.length_cons]; omega
          refine ite_t (decide_eq_true (by rw [List.length_map]; simp only [List.length_cons]; omega)) ?_
          walk_at "d"
          refine ite_t (decide_eq_true (by rw [List.length_map]; omega)) ?_
          walk_at "d"
          refine i_ix rfl (L2.atI_nat (j := 1) (v := .int f) rfl) ?_
          walk_at "d"
          have e3 : DL.cutD ((b :: f :: bs).map D.int) (some 2) none = bs.map D.int := c_lo ((b :: f :: bs).map D.int) 2
          rw [e3]
          walk_at "d"
          exact fin _ rfl
        · rw [if_neg hc] at fin
          rw [have_call] at hc
          by_cases hlo : 1 < ns.length
          · refine ite_t (decide_eq_true (by rw [List.length_map]; omega)) ?_
            walk_at "d"
            refine ite_f (fun y => hc ?_) ?_
            · have y := of_decide_eq_true y
              rw [List.length_map] at y
              rw [decide_eq_true (by omega), decide_eq_true (by omega)]
              rfl
            walk_at "d"
            exact fin _ rfl
          · refine ite_f (fun y => hlo ?_) ?_
            · have y := of_decide_eq_true y
              rw [List.length_map] at y
              omega
            walk_at "d"
            exact fin _ rfl
      · refine ite_f (by simp [hw]) ?_
        walk_at "d"
        obtain ⟨m, hm, hmc⟩ := look_have hw ns.length
        change dEq ((dlook lKs lDs (Sum.inr wd)).getD (.int (-1))) _ _ _
        rw [hm, List.length_map]
        refine i_eqI ?_
        refine ⟨_, rfl, ?_⟩
        have hmc' : id (decide (m = (ns.length : Int))) = canHave wd ns.length := hmc
        rw [hmc']
        by_cases hc : canHave wd ns.length = true
        · rw [if_pos hc] at fin
          refine ite_t hc ?_
          walk_at "d"
          refine i_addT (Nat.le_trans (show _ ≤ 20001 by rw [List.length_map, List.length_singleton]; omega) (by decide)) ?_
          exact fin _ (by show _ = lnD (wd, ns); rw [lnD_else hw]; rfl)
        · rw [if_neg hc] at fin
          refine ite_f hc ?_
          walk_at "d"
          exact fin _ rfl
    · rw [nums_any ha]
      refine ite_t rfl ?_
      walk_at "d"
      exact fin _ (by rw [show rowW (wd :: ps) = none from if_neg fun y => ha y.2]; rfl)
end
open TL
abbrev s_Lread : Stmt := topS 53
abbrev N_Lread : List Str := ["_law_text", "_law_found", "_law_lines", "_law_number_here", "_law_row_here", "_law_many", "_law_rows"]
theorem sc_Lread : FnScope N_Lread ["_law_text"] (defScope s_Lread) := ⟨rfl, rfl, rfl, by decide +kernel, rfl, by decide +kernel, by decide +kernel⟩
/-! ### the law's own reading of a text -/
def lpO (b : Nat) (f : FD) : Sto := [.lst f.2, .lst [.int f.1, .ref b]]
def lpS (b : Nat) : List FD → Sto
  | [] => []
  | f :: r => .lst f.2 :: .lst [.int f.1, .ref b] :: lpS (b + 2) r
def lpR (b : Nat) : List FD → List D
  | [] => []
  | _ :: r => .ref (b + 1) :: lpR (b + 2) r
theorem lpS_len : ∀ (b : Nat) (l : List FD), (lpS b l).length = 2 * l.length
  | _, [] => rfl
  | b, f :: r => by
    show (lpS (b + 2) r).length + 1 + 1 = 2 * (r.length + 1)
    rw [lpS_len]
    omega
theorem lpR_len : ∀ (b : Nat) (l : List FD), (lpR b l).length = l.length
  | _, [] => rfl
  | b, f :: r => congrArg (· + 1) (lpR_len (b + 2) r)
theorem lpS_app : ∀ (b : Nat) (l : List FD) (f : FD), lpS b (l ++ [f]) = lpS b l ++ [.lst f.2, .lst [.int f.1, .ref (b + 2 * l.length)]]
  | b, [], f => rfl
  | b, g :: l, f => by
    show _ :: _ :: lpS (b + 2) (l ++ [f]) = _
    rw [lpS_app (b + 2) l f]
    rw [show b + 2 * (g :: l).length = b + 2 + 2 * l.length by rw [List.length_cons]; omega]
    rfl
theorem lpR_app : ∀ (b : Nat) (l : List FD) (f : FD), lpR b (l ++ [f]) = lpR b l ++ [.ref (b + 2 * l.length + 1)]
  | b, [], f => rfl
  | b, g :: l, f => by
    show _ :: lpR (b + 2) (l ++ [f]) = _
    rw [lpR_app (b + 2) l f]
    rw [show b + 2 * (g :: l).length + 1 = b + 2 + 2 * l.length + 1 by rw [List.length_cons]; omega]
    rfl
theorem lpR_get : ∀ (b : Nat) (l : List FD) (i : Nat), i < l.length → (lpR b l)[i]? = some (.ref (b + 2 * i + 1))
  | _, [], _, h => absurd h (Nat.not_lt_zero _)
  | b, g :: l, 0, h => rfl
  | b, g :: l, i + 1, h => by
    have := lpR_get (b + 2) l i (Nat.lt_of_succ_lt_succ h)
    rw [show b + 2 * (i + 1) + 1 = b + 2 + 2 * i + 1 by omega]
    exact this
theorem lpS_row : ∀ (b : Nat) (l : List FD) (i : Nat) (f : FD), l[i]? = some f → (lpS b l)[2 * i]? = some (.lst f.2)
  | _, [], _, _, h => by cases h
  | b, g :: l, 0, f, h => by cases h; rfl
  | b, g :: l, i + 1, f, h => by
    have := lpS_row (b + 2) l i f h
    rw [show 2 * (i + 1) = 2 * i + 1 + 1 by omega]
    exact this
theorem lpS_pair : ∀ (b : Nat) (l : List FD) (i : Nat) (f : FD), l[i]? = some f → (lpS b l)[2 * i + 1]? = some (.lst [.int f.1, .ref (b + 2 * i)])
  | _, [], _, _, h => by cases h
  | b, g :: l, 0, f, h => by cases h; rfl
  | b, g :: l, i + 1, f, h => by
    have := lpS_pair (b + 2) l i f h
    rw [show 2 * (i + 1) + 1 = 2 * i + 1 + 1 + 1 by omega, show b + 2 * (i + 1) = b + 2 + 2 * i by omega]
    exact this
def rlS (S : Sto) (done : List FD) : Sto := S ++ (.lst (lpR (S.length + 1) done) :: lpS (S.length + 1) done)
section
variable {S : Sto} {done A : List FD} {l : FD}
theorem rl_at : (rlS S done)[S.length]? = some (.lst (lpR (S.length + 1) done)) := by
  unfold rlS
  rw [List.getElem?_append_right (Nat.le_refl _), Nat.sub_self]
  rfl
theorem rl_len : (rlS S done).length = S.length + 1 + 2 * done.length := by simp [rlS, lpS_len]; omega
theorem rl_row {i : Nat} {f : FD} (h : done[i]? = some f) : (rlS S done)[S.length + 1 + 2 * i]? = some (.lst f.2) := by
  unfold rlS
  rw [List.getElem?_append_right (by omega), show S.length + 1 + 2 * i - S.length = 2 * i + 1 by omega, List.getElem?_cons_succ, lpS_row _ _ _ _ h]
theorem rl_pair {i : Nat} {f : FD} (h : done[i]? = some f) : (rlS S done)[S.length + 1 + 2 * i + 1]? = some (.lst [.int f.1, .ref (S.length + 1 + 2 * i)]) := by
  unfold rlS
  rw [List.getElem?_append_right (by omega), show S.length + 1 + 2 * i + 1 - S.length = 2 * i + 1 + 1 by omega, List.getElem?_cons_succ, lpS_pair _ _ _ _ h]
theorem rl_new (m : Int) : (rlS S done ++ [O.lst []] ++ [O.lst [.int m, .ref (S.length + 1 + 2 * done.length)]]).set S.length (O.lst (lpR (S.length + 1) done ++ [D.ref (S.length + 1 + 2 * done.length + 1)])) = rlS S (done ++ [(m, [])]) := by
  unfold rlS
  rw [lpR_app, lpS_app, List.append_assoc, List.append_assoc, List.set_append_right _ _ (Nat.le_refl _), Nat.sub_self]
  simp
theorem rl_put (r : D) : (rlS S (A ++ [l])).set (S.length + 1 + 2 * A.length) (.lst (l.2 ++ [r])) = rlS S (A ++ [(l.1, l.2 ++ [r])]) := by
  unfold rlS
  rw [List.set_append_right _ _ (by omega), show S.length + 1 + 2 * A.length - S.length = 2 * A.length + 1 by omega, List.set_cons_succ, lpR_app, lpR_app, lpS_app, lpS_app]
  congr 2
  rw [List.set_append_right _ _ (by rw [lpS_len]; exact Nat.le_refl _), lpS_len, Nat.sub_self]
  rfl
end
theorem ln_pln {x : Ln} (h : LnOk x) : pln 3 (lnD x) = true := by
  obtain ⟨w, ns⟩ := x
  have h5 : ns.length ≤ 5 := have_five h.have_
  have hw : PyData.strOk w = true := by
    rcases have_words h.have_ with e | e | e | e | e | e | e | e | e | e <;> (have e : w = _ := e; subst e; decide +kernel)
  by_cases hc : w = "call"
  · subst hc
    obtain ⟨b, f, bs, e, h3⟩ := ln_call h.have_
    have e : ns = b :: f :: bs := e
    subst e
    show pln 3 (.tup [.str "call", .int b, .int f, .tup (bs.map .int)]) = true
    have hb : pln 2 (.tup (bs.map .int)) = true := by
      rw [pln, Bool.and_eq_true_iff]
      refine ⟨decide_eq_true (by rw [List.length_map]; omega), plns_of fun x hx => ?_⟩
      obtain ⟨i, _, rfl⟩ := List.mem_map.mp hx
      rfl
    rw [pln, Bool.and_eq_true_iff]
    refine ⟨decide_eq_true (by show 4 ≤ 90000; decide), ?_⟩
    rw [plns, plns, plns, plns, plns, hb]
    show (pln 2 (.str "call") && _) = true
    rw [show pln 2 (.str "call") = true from hw]
    rfl
  · rw [lnD_else hc, pln, Bool.and_eq_true_iff]
    refine ⟨decide_eq_true (by rw [List.length_cons, List.length_map]; omega), ?_⟩
    rw [plns, Bool.and_eq_true_iff]
    refine ⟨hw, plns_of fun x hx => ?_⟩
    obtain ⟨i, _, rfl⟩ := List.mem_map.mp hx
    rfl
def PyOk (S : Sto) (n : Nat) (d : D) : Prop := ∃ q, pyOf S n d = some q ∧ q.canLay0 = true ∧ q.depth ≤ n
theorem PyOk.pln {S : Sto} {n : Nat} {d : D} (h : DL.pln n d = true) : PyOk S n d := ⟨_, pln_py S n d h⟩
theorem PyOk.ref {S : Sto} {n j : Nat} {xs : List D} (h : S[j]? = some (.lst xs)) (hx : ∀ d ∈ xs, PyOk S n d) : PyOk S (n + 1) (.ref j) := by
  obtain ⟨qs, e, l, c, dp⟩ := allOf_some hx
  refine ⟨.list qs, ?_, ?_, ?_⟩
  · show (match S[j]? with | some (.lst xs) => (allOf (pyOf S n) xs).map PyData.list | _ => none) = _
    rw [h]
    dsimp only
    rw [e]
    rfl
  · rw [PyData.canLay0]; exact c
  · rw [PyData.depth]; omega
def badD (i : Int) : D := .tup [.str "BadText", .int i]
def readD (z : Str) : D := match readL z with
  | .inl i => badD i
  | .inr xs => progD xs
def spLRead : DSp := fun ds S P => ∃ z : Str, ds = [.str z] ∧ z.length ≤ 20000 ∧ (∀ c ∈ tl z, c < 128) ∧ P (readD z) S
section
variable {P : Program} {w : World} {K : PySem.W.Frag} {mg : Str → Option Value} {base : Heap}
theorem ok_Lread (at_ : At K mg "_law_read" s_Lread ["_law_text"]) (mb : ∀ x, isB x = true → mg x = none) (G_Lrow : Fn P w K mg base "_law_row" 2 ["_law_line"] spLRow) : Fn P w K mg base "_law_read" 3 ["_law_text"] spLRead := by
  refine fn_at at_ fun f fd F => fn_d F sc_Lread (fun ds S P h => ?_) ?_
  · obtain ⟨p, rfl, _⟩ := h
    rfl
  · rintro X W0 cdv A outer s H E rfl hr
    have hu := hr.units
    refine ⟨_, (dss_cons (ds_set (i := 1) (de_new (dn_lst da_nil)) (fun h => ps_set sc_Lread.nd rfl (by first | exact Or.inl rfl | exact Or.inr rfl) h))
      (dss_cut (ds_set (i := 2) (de_if (dt_cmp (op_neA hu) do_ne (de_var (pv 0)) de_str (nomark _)) (de_pure (dn_split (de_var (pv 0)) de_str)) (de_pure (dn_lst da_nil))) (fun h => ps_set sc_Lread.nd rfl (by first | exact Or.inl rfl | exact Or.inr rfl) h))
      (dss_cons (ds_for PassesOwn.never rfl (di_range1 (by rfl) (mb "range" rfl) (da_cons (de_b dc_len (da_cons (de_var (pv 2)) da_nil) (fun h => pe_callB call_len_seq (by rfl) (mb "len" rfl) PySem.boot_len h)) da_nil)) (dg_name (pg_name (i := 3) sc_Lread.nd rfl (by first | exact Or.inl rfl | exact Or.inr rfl))) (dss_cons (ds_set (i := 4) (de_fn G_Lrow (hr.mono (by decide)) (by rfl) (da_cons (de_ix (de_var (pv 2)) (de_var (pv 3)) (fun _ _ => rfl)) da_nil)) (fun h => ps_set sc_Lread.nd rfl (by first | exact Or.inl rfl | exact Or.inr rfl) h))
      (dss_cons (ds_if (dt_w (dw_or (dt_cmp op_isN do_isN (de_var (pv 4)) de_non (nomark _)) (dw_or1 (dt_w (dw_and (dt_cmp (op_eqA hu) do_eq (de_var (pv 1)) (de_pure (dn_lst da_nil)) (nomark _)) (dw_and1 (dt_cmp (op_neA hu) do_ne (de_ix (de_var (pv 4)) de_int (fun _ _ => rfl)) de_str (nomark _)))))))) (dss_one (ds_ret (de_tup (da_cons de_str (da_cons (de_var (pv 3)) da_nil))))) dss_nil)
      (dss_one (ds_if (dt_cmp (op_eqA hu) do_eq (de_ix (de_var (pv 4)) de_int (fun _ _ => rfl)) de_str (nomark _)) (dss_one (ds_expr (de_mt dm_append (de_var (pv 1)) (da_cons (de_new (dn_lst (da_cons (de_ix (de_var (pv 4)) de_int (fun _ _ => rfl)) (da_cons (de_new (dn_lst da_nil)) da_nil)))) da_nil) (fun h1 h2 => pe_bm PySem.F.plainAttrs_list PySem.F.slot_list_append PySem.F.type_list_append mt_append h1 h2)))) (dss_one (ds_expr (de_mt dm_append (de_ix (de_ix (de_var (pv 1)) (de_neg de_int) (fun _ _ => rfl)) de_int (fun _ _ => rfl)) (da_cons (de_var (pv 4)) da_nil) (fun h1 h2 => pe_bm PySem.F.plainAttrs_list PySem.F.slot_list_append PySem.F.type_list_append mt_append h1 h2)))))))))
      (dss_one (ds_ret (de_b dc_tuple (da_cons (de_pure (dn_lc (own := [("_law_many", 5), ("_law_rows", 6)]) (by decide) rfl sc_Lread.nd (di_list (de_var (pv 1))) (blkOk_by (N := N_Lread) (sc := defScope s_Lread) (by decide +kernel)) (fun _ _ _ _ _ => (dg_lst (n := 2) rfl (dgs_cons (dg_name (pg_name (i := 5) sc_Lread.nd rfl (Or.inl rfl))) (dgs_cons (dg_name (pg_name (i := 6) sc_Lread.nd rfl (Or.inl rfl))) dgs_nil)))) (fun _ _ _ _ _ => dts_nil) (fun _ _ _ _ _ => (de_tup (da_cons (de_var (pv 5)) (da_cons (de_b dc_tuple (da_cons (de_var (pv 6)) da_nil) (fun h => pe_callTy call_tuple_of (by rfl) (mb "tuple" rfl) (by decide +kernel) h)) da_nil)))))) da_nil) (fun h => pe_callTy call_tuple_of (by rfl) (mb "tuple" rfl) (by decide +kernel) h))))))), ?_⟩
    rintro ds S P ⟨z, rfl, hz, hasc, post⟩
    walk_at "st"
    walk_at "d"
    walk_at "e"
    refine ⟨fun env S' => S' = S ++ [.lst []] ∧ env = [some (.str z), some (.ref S.length), some (.lst ((linesT z).map .str)), none, none, none, none], ?_, ?_⟩
    · walk_at "d"
      walk_at "e"
      by_cases hne : z = ""
      · subst hne
        refine ite_f (by decide) ?_
        walk_at "d"
        exact ⟨rfl, rfl⟩
      · refine ite_t (by simp [hne]) ?_
        walk_at "d"
        refine i_split ?_
        walk_at "d"
        refine ⟨_, rfl, ?_⟩
        walk_at "d"
        refine ⟨_, rfl, rfl, Nat.le_trans (Nat.add_le_add_right hz 2) (by decide), ?_⟩
        walk_at "d"
        refine ⟨rfl, ?_⟩
        unfold linesT
        rw [if_neg hne]
        rfl
    rintro env S' ⟨rfl, rfl⟩
    have htot := lines_tot z
    have hlasc : ∀ l ∈ linesT z, ∀ c ∈ tl l, c < 128 := by
      unfold linesT
      split
      · exact fun l h => by cases h
      · exact split_asc hasc nl_tl (by decide +kernel)
    have hread : readL z = addL [] (scan 0 ((linesT z).drop 0)) := by rw [addL_nil]; rfl
    unfold readD at post
    generalize linesT z = ls at htot hread hlasc ⊢
    have hls : ls.length ≤ 20001 := by have := len_tot ls; omega
    have hlen : ∀ l ∈ ls, l.length ≤ 20000 := fun l hl => by have := tot_mem hl; omega
    walk_at "d"
    refine i_rg1 (by rw [List.length_map]; omega) (by rw [List.length_map]; omega) ?_
    rw [List.length_map, Int.toNat_natCast]
    refine ⟨fun i env S' => ∃ (xs : List Ln) (y3 y4 y5 y6 : Option D) (done : List FD), xs.length = i ∧ readL z = addL xs (scan i (ls.drop i)) ∧ xs.foldl putL [] = done ∧ done.length ≤ i ∧ (∀ f ∈ done, f.2.length ≤ i) ∧ (i ≠ 0 → done ≠ []) ∧ (∀ n, ∀ f ∈ done, unders n f.2 = true) ∧ (∀ f ∈ done, ∀ d ∈ f.2, pln 3 d = true) ∧ S' = rlS S done ∧ env = [some (.str z), some (.ref S.length), some (.lst (ls.map .str)), y3, y4, y5, y6],
      ⟨[], _, _, _, _, [], rfl, hread, rfl, Nat.le_refl _, (fun _ z => by cases z), (fun z => absurd rfl z), (fun _ _ z => by cases z), (fun _ z => by cases z), rfl, rfl⟩, fun _ _ _ _ _ => trivial, ?_, ?_⟩
    · rintro i x env S' hx ⟨xs, y3, y4, y5, y6, done, hxl, hrd, hd, hl, hr, hne, hu', hp', rfl, rfl⟩
      obtain ⟨hi, rfl⟩ := rangeD_get hx
      obtain ⟨l, el⟩ : ∃ l, ls[i]? = some l := ⟨_, List.getElem?_eq_getElem hi⟩
      have hm := List.mem_of_getElem? el
      have hdrop : ls.drop i = l :: ls.drop (i + 1) := by
        rw [List.drop_eq_getElem_cons hi]
        rw [(List.getElem?_eq_some_iff.mp el).2]
      rw [hdrop] at hrd
      have e0 : (0 + (i : Int)) = ((i : Nat) : Int) := by omega
      rw [e0]
      walk_at "d"
      refine i_ix (xs := ls.map .str) rfl (L2.atI_nat (j := i) (v := .str l) (by rw [List.getElem?_map, el]; rfl)) ?_
      walk_at "d"
      refine ⟨l, rfl, hlen l hm, hlasc l hm, ?_⟩
      walk_at "d"
      cases hrow : rowS l with
      | none =>
        rw [scan_none hrow] at hrd
        have hrd : readL z = .inl i := hrd
        rw [hrd] at post
        refine ite_t rfl ?_
        refine ite_t rfl ?_
        walk_at "d"
        exact exit_pure (S := S) rfl (fun n => rfl) post
      | some q =>
        have hq := rowS_ok hrow
        obtain ⟨rs, hrs⟩ := ln_head hq
        refine ite_f (by show ¬ id (DL.isNon (lnD q)) = true; rw [hrs]; exact Bool.false_ne_true) ?_
        walk_at "d"
        have hpy : ∀ d ∈ lpR (S.length + 1) done, PyOk (rlS S done) 5 d := fun d hdm => by
          obtain ⟨j, hj⟩ := List.getElem?_of_mem hdm
          have hjl : j < done.length := by have := (List.getElem?_eq_some_iff.mp hj).1; rw [lpR_len] at this; exact this
          rw [lpR_get _ _ _ hjl] at hj
          cases hj
          obtain ⟨f, hf⟩ : ∃ f, done[j]? = some f := ⟨_, List.getElem?_eq_getElem hjl⟩
          refine .ref (rl_pair hf) fun d hd => ?_
          simp only [List.mem_cons, List.not_mem_nil, or_false] at hd
          rcases hd with rfl | rfl
          · exact .pln (n := 4) rfl
          · exact .ref (rl_row hf) fun d hd => .pln (hp' f (List.mem_of_getElem? hf) d hd)
        refine i_eqL0 4 rl_at hpy ?_
        refine ⟨_, rfl, ?_⟩
        have hnx : (i = 0 → q.1 = ("fun" : Str)) → readL z = addL (xs ++ [q]) (scan (i + 1) (ls.drop (i + 1))) := fun h2 => by
          rw [scan_ok hrow h2, addL_addL] at hrd
          exact hrd
        have hxl' : (xs ++ [q]).length = i + 1 := by simp [hxl]
        by_cases hi0 : i = 0
        · have hdn : done = [] := List.eq_nil_of_length_eq_zero (by omega)
          have hbe : id (lpR (S.length + 1) done).isEmpty = true := by rw [hdn]; rfl
          rw [hbe]
          refine ite_t rfl ?_
          walk_at "d"
          refine i_ix (xs := .str q.1 :: rs) (by show seqOf _ (lnD q) = _; rw [hrs]; rfl) (L2.atI_nat (j := 0) rfl) ?_
          walk_at "d"
          by_cases hf : q.1 = ("fun" : Str)
          · refine ite_f (by simp [hf]) ?_
            walk_at "d"
            refine i_ix (xs := .str q.1 :: rs) (by show seqOf _ (lnD q) = _; rw [hrs]; rfl) (L2.atI_nat (j := 0) rfl) ?_
            walk_at "d"
            refine ite_t (decide_eq_true hf) ?_
            obtain ⟨m, hm2, hmD⟩ := fun_one hq hf
            have hfold : (xs ++ [q]).foldl putL [] = done ++ [(m, [])] := by
              rw [List.foldl_append, hd]
              show putL done q = _
              rw [putL_fun hf, hm2]
              rfl
            obtain ⟨k1, k2⟩ := putL_len (x := q) hl hr
            have k4 := putL_und (x := q) hu'
            rw [putL_fun hf, hm2] at k1 k2 k4
            walk_at "d"
            refine i_mtx rl_at ?_
            walk_at "d"
            refine i_ix (xs := [.str "fun", .int m]) (by show seqOf _ (lnD q) = _; rw [hmD]; rfl) (L2.atI_nat (j := 1) rfl) ?_
            walk_at "d"
            rw [rl_len]
            walk_at "d"
            have hle : (rlS S done ++ [O.lst []]).length = S.length + 1 + 2 * done.length + 1 := by rw [List.length_append, rl_len]; rfl
            have hlt : S.length < (rlS S done).length := by rw [rl_len]; omega
            rw [hle]
            refine i_append (xs := lpR (S.length + 1) done) (by rw [List.getElem?_append_left (by rw [List.length_append]; omega), List.getElem?_append_left hlt]; exact rl_at) (sz_lt (by rw [lpR_len]; omega)) ?_
            rw [rl_new]
            refine ⟨xs ++ [q], _, _, _, _, _, hxl', hnx (fun _ => hf), hfold, k1, k2, fun _ => by simp, k4, fun f hf2 d hd2 => ?_, rfl, rfl⟩
            rcases List.mem_append.mp hf2 with hf2 | hf2
            · exact hp' f hf2 d hd2
            · rw [List.mem_singleton.mp hf2] at hd2
              cases hd2
          · refine ite_t (by simp [hf]) ?_
            walk_at "d"
            subst hi0
            rw [scan_first hrow hf] at hrd
            have hrd : readL z = .inl 0 := hrd
            rw [hrd] at post
            exact exit_pure (S := S) rfl (fun n => rfl) post
        · have hdn : done ≠ [] := hne hi0
          have hbe : id (lpR (S.length + 1) done).isEmpty = false := by
            cases done with
            | nil => exact absurd rfl hdn
            | cons f r => rfl
          rw [hbe]
          refine ite_f Bool.false_ne_true ?_
          refine ite_f Bool.false_ne_true ?_
          walk_at "d"
          by_cases hf : q.1 = ("fun" : Str)
          · refine i_ix (xs := .str q.1 :: rs) (by show seqOf _ (lnD q) = _; rw [hrs]; rfl) (L2.atI_nat (j := 0) rfl) ?_
            walk_at "d"
            refine ite_t (decide_eq_true hf) ?_
            obtain ⟨m, hm2, hmD⟩ := fun_one hq hf
            have hfold : (xs ++ [q]).foldl putL [] = done ++ [(m, [])] := by
              rw [List.foldl_append, hd]
              show putL done q = _
              rw [putL_fun hf, hm2]
              rfl
            obtain ⟨k1, k2⟩ := putL_len (x := q) hl hr
            have k4 := putL_und (x := q) hu'
            rw [putL_fun hf, hm2] at k1 k2 k4
            walk_at "d"
            refine i_mtx rl_at ?_
            walk_at "d"
            refine i_ix (xs := [.str "fun", .int m]) (by show seqOf _ (lnD q) = _; rw [hmD]; rfl) (L2.atI_nat (j := 1) rfl) ?_
            walk_at "d"
            rw [rl_len]
            walk_at "d"
            have hle : (rlS S done ++ [O.lst []]).length = S.length + 1 + 2 * done.length + 1 := by rw [List.length_append, rl_len]; rfl
            have hlt : S.length < (rlS S done).length := by rw [rl_len]; omega
            rw [hle]
            refine i_append (xs := lpR (S.length + 1) done) (by rw [List.getElem?_append_left (by rw [List.length_append]; omega), List.getElem?_append_left hlt]; exact rl_at) (sz_lt (by rw [lpR_len]; omega)) ?_
            rw [rl_new]
            refine ⟨xs ++ [q], _, _, _, _, _, hxl', hnx (fun _ => hf), hfold, k1, k2, fun _ => by simp, k4, fun f hf2 d hd2 => ?_, rfl, rfl⟩
            rcases List.mem_append.mp hf2 with hf2 | hf2
            · exact hp' f hf2 d hd2
            · rw [List.mem_singleton.mp hf2] at hd2
              cases hd2
          · refine i_ix (xs := .str q.1 :: rs) (by show seqOf _ (lnD q) = _; rw [hrs]; rfl) (L2.atI_nat (j := 0) rfl) ?_
            walk_at "d"
            refine ite_f (by simp [hf]) ?_
            walk_at "d"
            rcases List.eq_nil_or_concat done with h0 | ⟨A, l', h0⟩
            · exact absurd h0 (hne hi0)
            rw [List.concat_eq_append] at h0
            subst h0
            have hfold : (xs ++ [q]).foldl putL [] = A ++ [(l'.1, l'.2 ++ [lnD q])] := by
              rw [List.foldl_append, hd]
              exact putL_row hf
            obtain ⟨k1, k2⟩ := putL_len (x := q) hl hr
            have k4 := putL_und (x := q) hu'
            rw [putL_row hf] at k1 k2 k4
            have hpr : (rlS S (A ++ [l']))[S.length + 1 + 2 * A.length + 1]? = some (.lst [.int l'.1, .ref (S.length + 1 + 2 * A.length)]) := rl_pair (f := l') (by simp)
            have hrw : (rlS S (A ++ [l']))[S.length + 1 + 2 * A.length]? = some (.lst l'.2) := rl_row (f := l') (by simp)
            refine i_ix (xs := lpR (S.length + 1) (A ++ [l'])) (d := .ref (S.length + 1 + 2 * A.length + 1)) (by simp only [seqOf, lstOf, rl_at]) (by rw [lpR_app]; exact L2.atI_last _ _) ?_
            walk_at "d"
            refine i_ix (xs := [.int l'.1, .ref (S.length + 1 + 2 * A.length)]) (by simp only [seqOf, lstOf, hpr]) (L2.atI_nat (j := 1) rfl) ?_
            walk_at "d"
            refine i_mtx hrw ?_
            walk_at "d"
            have hl30 := hr l' (by simp)
            refine i_append hrw (sz_lt (by omega)) ?_
            rw [rl_put]
            refine ⟨xs ++ [q], _, _, _, _, _, hxl', hnx (fun z => absurd z hi0), hfold, k1, k2, fun _ => by simp, k4, fun f hf2 d hd2 => ?_, rfl, rfl⟩
            rcases List.mem_append.mp hf2 with hf2 | hf2
            · exact hp' f (by simp [hf2]) d hd2
            · rw [List.mem_singleton.mp hf2] at hd2
              rcases List.mem_append.mp hd2 with hd2 | hd2
              · exact hp' l' (by simp) d hd2
              · rw [List.mem_singleton.mp hd2]
                exact ln_pln hq
    · rintro env S' ⟨xs, y3, y4, y5, y6, done, hxl, hrd, hd, hl, hr, hne, hu', hp', rfl, rfl⟩
      rw [rangeD_len] at hrd hl hr
      rw [List.drop_length] at hrd
      have hrd : readL z = .inr (xs ++ []) := hrd
      rw [hrd, List.append_nil] at post
      have post : P (progD xs) S := post
      have hpd : progD xs = .tup (done.map fdD) := by unfold progD; rw [hd]
      rw [hpd] at post
      walk_at "d"
      refine i_xlsR rl_at ?_
      refine ⟨fun i acc S' => S' = rlS S done ∧ acc = (done.take i).map fdD, ⟨rfl, rfl⟩, fun i acc S' hi z => ⟨?_, ?_⟩, ?_, ?_⟩
      · rw [z.1]; exact rl_at
      · rw [z.2, List.length_map, List.length_take]
        exact sz_lt (by omega)
      · rintro i x acc S' hx ⟨rfl, rfl⟩
        have hi : i < done.length := by have := (List.getElem?_eq_some_iff.mp hx).1; rw [lpR_len] at this; exact this
        rw [lpR_get _ _ i hi] at hx
        cases hx
        obtain ⟨fn, ef⟩ : ∃ fn, done[i]? = some fn := ⟨_, List.getElem?_eq_getElem hi⟩
        refine i_lsT (ds := [.int fn.1, .ref (S.length + 1 + 2 * i)]) (by simp only [lstOf, rl_pair ef]) rfl ?_
        walk_at "d"
        refine ite_t rfl ?_
        walk_at "d"
        refine i_tuple (xs := fn.2) (by simp only [seqOf, lstOf, rl_row ef]) ?_
        walk_at "d"
        exact ⟨rfl, by rw [List.take_add_one, ef]; simp; rfl⟩
      · rintro acc S' ⟨rfl, rfl⟩
        rw [lpR_len, List.take_length]
        walk_at "d"
        refine exit_pure rfl (fun n => ?_) post
        show unders n (done.map fdD) = true
        exact unders_mem fun d hd => by
          obtain ⟨f, hf, rfl⟩ := List.mem_map.mp hd
          exact fd_under n (hu' n f hf)
end
open TL
abbrev s_Lprintable : Stmt := topS 50
abbrev N_Lprintable : List Str := ["_law_some"]
theorem sc_Lprintable : FnScope N_Lprintable [] (defScope s_Lprintable) := ⟨rfl, rfl, rfl, by decide +kernel, rfl, by decide +kernel, by decide +kernel⟩
abbrev s_Lspoilt : Stmt := topS 54
abbrev N_Lspoilt : List Str := ["_law_h", "_law_text", "_law_way", "_law_at", "_law_signs", "_law_sign", "_law_rows", "_law_k", "_law_words", "_law_n", "_law_odd", "_law_some", "_law_row_here"]
theorem sc_Lspoilt : FnScope N_Lspoilt ["_law_h", "_law_text"] (defScope s_Lspoilt) := ⟨rfl, rfl, rfl, by decide +kernel, rfl, by decide +kernel, by decide +kernel⟩
/-! ### texts spoilt -/
structure Tx (L : Nat) (z : Str) : Prop where
  len : z.length ≤ L
  asc : ∀ c ∈ tl z, c < 128
theorem asc_app {a b : Str} (ha : ∀ c ∈ tl a, c < 128) (hb : ∀ c ∈ tl b, c < 128) : ∀ c ∈ tl (a ++ b), c < 128 := fun c hc => by
  rw [tl_append] at hc
  rcases List.mem_append.mp hc with h | h
  · exact ha c h
  · exact hb c h
theorem asc_cut {a : Str} (ha : ∀ c ∈ tl a, c < 128) (lo hi : Option Int) : ∀ c ∈ tl (cutS a lo hi), c < 128 := fun c hc => by
  have hc : c ∈ (a.cps.toList.drop (HT.sIx a.length 0 lo)).take (HT.sIx a.length a.length hi - HT.sIx a.length 0 lo) := hc
  exact ha c (List.mem_of_mem_drop (List.mem_of_mem_take hc))
theorem asc_join {y : Str} {ys : List Str} (hy : ∀ c ∈ tl y, c < 128) (h : ∀ x ∈ ys, ∀ c ∈ tl x, c < 128) : ∀ c ∈ tl (Txt.join y ys), c < 128 := fun c hc => by
  rw [join_eq, tl_join] at hc
  rcases joinL_mem hc with hc | ⟨p, hp, hc⟩
  · exact hy c hc
  · obtain ⟨x, hx, rfl⟩ := List.mem_map.mp hp
    exact h x hx c hc
theorem asc_nl : ∀ c ∈ tl nl1, c < 128 := by decide +kernel
theorem asc_sp : ∀ c ∈ tl sp1, c < 128 := by decide +kernel
theorem asc_num {i : Int} (h0 : 0 ≤ i) (h1 : i < 1000) : ∀ c ∈ tl (numS i), c < 128 := fun c hc => by
  have h := (num_ok h0 h1).asc
  have := Array.all_eq_true'.mp h c (Array.mem_def.mpr hc)
  simpa using this
theorem asc_word {w : Str} (h : w = "fun" ∨ w = "num" ∨ w = "plus" ∨ w = "less" ∨ w = "times" ∨ w = "call" ∨ w = "skip" ∨ w = "say" ∨ w = "rest" ∨ w = "tell") : ∀ c ∈ tl w, c < 128 := by
  rcases h with rfl | rfl | rfl | rfl | rfl | rfl | rfl | rfl | rfl | rfl <;> decide +kernel
theorem asc_line {w : Str} {ns : List Int} (hw : ∀ c ∈ tl w, c < 128) (hn : numsOk ns) : ∀ c ∈ tl (lineW w ns), c < 128 := asc_join asc_sp fun x hx => by
  rcases List.mem_cons.mp hx with rfl | hx
  · exact hw
  · obtain ⟨i, hi, rfl⟩ := List.mem_map.mp hx
    exact asc_num (hn.1 i hi).1 (hn.1 i hi).2
theorem asc_text {p : List Func} (hp : progTxt p) : ∀ c ∈ tl (textS p), c < 128 := asc_join asc_nl fun x hx => by
  obtain ⟨f, hf, hx⟩ := List.mem_flatMap.mp hx
  have fk := hp.fs f hf
  rcases List.mem_cons.mp hx with rfl | hx
  · rw [funS_eq]
    exact asc_line (asc_word (.inl rfl)) ⟨fun i hi => by rw [List.mem_singleton.mp hi]; exact ⟨fk.lo, fk.hi⟩, by show 1 ≤ 5; decide⟩
  · obtain ⟨r, hr, rfl⟩ := List.mem_map.mp hx
    rw [lineS_eq]
    refine asc_line (asc_word ?_) (row_nums (fk.rows r hr))
    cases r with
    | ar w b c d => cases w <;> simp [Row.word, Ar.s]
    | _ => simp [Row.word]
def prT : Str := Str.ofString " !#$&'()*+,-./0123456789:;<=>?@ABCDEFGHIJKLMNOPQRSTUVWXYZ[]^_" ++ Str.ofString "abcdefghijklmnopqrstuvwxyz{|}~" ++ cutS (Str.ofString " !#$&'()*+,-./0123456789:;<=>?@ABCDEFGHIJKLMNOPQRSTUVWXYZ[]^_") (some 21) (some 22) ++ Str.ofString "\"\\"
theorem prT_asc : ∀ c ∈ tl prT, c < 128 := by decide +kernel
theorem prT_len : prT.length ≤ 100 := by decide +kernel
def spPrint : DSp := fun ds S P => ds = [] ∧ P (.str prT) S
def spSpoilt : DSp := fun ds S P => ∃ t T z, ds = [.ref 2, .str z] ∧ S = hd t ++ T ∧ Tx 10000 z ∧ ∀ z' t', Tx (2 * z.length + 20) z' → P (.str z') (hd t' ++ T)
theorem tot_set' {x l : Str} : ∀ {ls : List Str} {k : Nat}, ls[k]? = some l → tot (ls.set k x) + l.length = tot ls + x.length
  | [], _, h => by cases h
  | y :: ls, 0, h => by
    cases h
    rw [List.set_cons_zero, tot_cons, tot_cons]
    omega
  | y :: ls, k + 1, h => by
    have := tot_set' (x := x) (ls := ls) (k := k) h
    rw [List.set_cons_succ, tot_cons, tot_cons]
    omega
theorem erase_map {α β : Type} (f : α → β) : ∀ (l : List α) (k : Nat), (l.map f).eraseIdx k = (l.eraseIdx k).map f
  | [], _ => rfl
  | _ :: _, 0 => rfl
  | x :: l, k + 1 => by
    show f x :: (l.map f).eraseIdx k = f x :: (l.eraseIdx k).map f
    rw [erase_map f l k]
section
variable {P : Program} {w : World} {K : PySem.W.Frag} {mg : Str → Option Value} {base : Heap}
theorem ok_Lprintable (at_ : At K mg "_law_printable" s_Lprintable []) : Fn P w K mg base "_law_printable" 1 [] spPrint := by
  refine fn_at at_ fun f fd F => fn_d F sc_Lprintable (fun ds S P h => ?_) ?_
  · obtain ⟨rfl, _⟩ := h
    rfl
  · rintro X W0 cdv A outer s H E rfl hr
    have hu := hr.units
    refine ⟨_, (dss_cons (ds_set (i := 0) de_str (fun h => ps_set sc_Lprintable.nd rfl (by first | exact Or.inl rfl | exact Or.inr rfl) h))
      (dss_one (ds_ret (de_adds (de_adds (de_adds (de_var (pv 0)) de_str) (de_sliceS (de_var (pv 0)) (do_some de_int) (do_some de_int))) de_str)))), ?_⟩
    rintro ds S P ⟨rfl, post⟩
    walk_at "st"
    walk_at "d"
    refine i_adds (Nat.le_trans (show _ ≤ 200 by decide +kernel) (by decide)) ?_
    walk_at "d"
    refine i_slS ?_
    walk_at "d"
    refine i_slZ (Nat.le_trans (show _ ≤ 200 by decide +kernel) (by decide)) ?_
    walk_at "d"
    refine i_adds (Nat.le_trans (show _ ≤ 200 by decide +kernel) (by decide)) ?_
    walk_at "d"
    refine i_adds (Nat.le_trans (show _ ≤ 200 by decide +kernel) (by decide)) ?_
    exact exit_pure0 (fun _ => rfl) post
theorem ok_Lspoilt (at_ : At K mg "_law_spoilt" s_Lspoilt ["_law_h", "_law_text"]) (mb : ∀ x, isB x = true → mg x = none) (G_Lnext : Fn P w K mg base "_law_next" 1 ["_law_h", "_law_many"] spNext) (G_Lprintable : Fn P w K mg base "_law_printable" 1 [] spPrint) : Fn P w K mg base "_law_spoilt" 2 ["_law_h", "_law_text"] spSpoilt := by
  refine fn_at at_ fun f fd F => fn_d F sc_Lspoilt (fun ds S P h => ?_) ?_
  · obtain ⟨t, T, z, rfl, _⟩ := h
    rfl
  · rintro X W0 cdv A outer s H E rfl hr
    have hu := hr.units
    refine ⟨_, (dss_cons (ds_par (i := 2) (j := 3) (da_cons (de_fn G_Lnext (hr.mono (by decide)) (by rfl) (da_cons (de_var (pv 0)) (da_cons de_int da_nil))) (da_cons (de_fn G_Lnext (hr.mono (by decide)) (by rfl) (da_cons (de_var (pv 0)) (da_cons (de_add (de_b dc_lenS (da_cons (de_var (pv 1)) da_nil) (fun h => pe_callB call_len_str (by rfl) (mb "len" rfl) PySem.boot_len h)) de_int) da_nil))) da_nil)) (fun h => ps_par (by rfl) sc_Lspoilt.nd rfl rfl (by decide) rfl rfl h (by rfl)))
      (dss_cons (ds_set (i := 4) (de_adds (de_fn0 G_Lprintable (hr.mono (by decide)) (by rfl)) de_str) (fun h => ps_set sc_Lspoilt.nd rfl (by first | exact Or.inl rfl | exact Or.inr rfl) h))
      (dss_cons (ds_set (i := 5) (de_ix (de_pure (dn_lst (da_cons (de_var (pv 4)) (da_cons de_str da_nil)))) (de_fn G_Lnext (hr.mono (by decide)) (by rfl) (da_cons (de_var (pv 0)) (da_cons de_int da_nil))) (fun _ _ => rfl)) (fun h => ps_set sc_Lspoilt.nd rfl (by first | exact Or.inl rfl | exact Or.inr rfl) h))
      (dss_cons (ds_set (i := 5) (de_ixS (de_var (pv 5)) (de_fn G_Lnext (hr.mono (by decide)) (by rfl) (da_cons (de_var (pv 0)) (da_cons (de_b dc_lenS (da_cons (de_var (pv 5)) da_nil) (fun h => pe_callB call_len_str (by rfl) (mb "len" rfl) PySem.boot_len h)) da_nil))) (fun _ _ => rfl)) (fun h => ps_set sc_Lspoilt.nd rfl (by first | exact Or.inl rfl | exact Or.inr rfl) h))
      (dss_cons (ds_if (dt_cmp op_lt do_lt (de_var (pv 2)) de_int (nomark _)) (dss_one (ds_ret (de_ix (de_pure (dn_lst (da_cons (de_adds (de_adds (de_sliceS (de_var (pv 1)) do_none (do_some (de_var (pv 3)))) (de_var (pv 5))) (de_sliceS (de_var (pv 1)) (do_some (de_var (pv 3))) do_none)) (da_cons (de_adds (de_sliceS (de_var (pv 1)) do_none (do_some (de_var (pv 3)))) (de_sliceS (de_var (pv 1)) (do_some (de_add (de_var (pv 3)) de_int)) do_none)) (da_cons (de_adds (de_adds (de_sliceS (de_var (pv 1)) do_none (do_some (de_var (pv 3)))) (de_var (pv 5))) (de_sliceS (de_var (pv 1)) (do_some (de_add (de_var (pv 3)) de_int)) do_none)) da_nil))))) (de_var (pv 2)) (fun _ _ => rfl)))) dss_nil)
      (dss_cons (ds_set (i := 6) (de_new (dn_split (de_var (pv 1)) de_str)) (fun h => ps_set sc_Lspoilt.nd rfl (by first | exact Or.inl rfl | exact Or.inr rfl) h))
      (dss_cons (ds_set (i := 7) (de_fn G_Lnext (hr.mono (by decide)) (by rfl) (da_cons (de_var (pv 0)) (da_cons (de_b dc_len (da_cons (de_var (pv 6)) da_nil) (fun h => pe_callB call_len_seq (by rfl) (mb "len" rfl) PySem.boot_len h)) da_nil))) (fun h => ps_set sc_Lspoilt.nd rfl (by first | exact Or.inl rfl | exact Or.inr rfl) h))
      (dss_cons (ds_if (dt_cmp op_lt do_lt (de_var (pv 2)) de_int (nomark _)) (dss_cons (ds_set (i := 8) (de_pure (dn_split (de_ix (de_var (pv 6)) (de_var (pv 7)) (fun _ _ => rfl)) de_str)) (fun h => ps_set sc_Lspoilt.nd rfl (by first | exact Or.inl rfl | exact Or.inr rfl) h))
      (dss_cons (ds_set (i := 9) (de_fn G_Lnext (hr.mono (by decide)) (by rfl) (da_cons (de_var (pv 0)) (da_cons (de_b dc_len (da_cons (de_var (pv 8)) da_nil) (fun h => pe_callB call_len_seq (by rfl) (mb "len" rfl) PySem.boot_len h)) da_nil))) (fun h => ps_set sc_Lspoilt.nd rfl (by first | exact Or.inl rfl | exact Or.inr rfl) h))
      (dss_cons (ds_set (i := 10) (de_ix (de_pure (dn_lst (da_cons de_str (da_cons de_str (da_cons de_str (da_cons de_str (da_cons de_str (da_cons de_str (da_cons de_str (da_cons de_str (da_cons de_str (da_cons de_str (da_cons de_str (da_cons de_str da_nil)))))))))))))) (de_fn G_Lnext (hr.mono (by decide)) (by rfl) (da_cons (de_var (pv 0)) (da_cons de_int da_nil))) (fun _ _ => rfl)) (fun h => ps_set sc_Lspoilt.nd rfl (by first | exact Or.inl rfl | exact Or.inr rfl) h))
      (dss_cons (ds_set (i := 11) (de_pure (dn_lst (da_cons (de_pure (dn_add (de_pure (dn_slice (de_var (pv 8)) do_none (do_some (de_var (pv 9))))) (de_pure (dn_slice (de_var (pv 8)) (do_some (de_add (de_var (pv 9)) de_int)) do_none)))) (da_cons (de_pure (dn_add (de_pure (dn_add (de_pure (dn_slice (de_var (pv 8)) do_none (do_some (de_var (pv 9))))) (de_pure (dn_lst (da_cons (de_ix (de_var (pv 8)) (de_var (pv 9)) (fun _ _ => rfl)) da_nil))))) (de_pure (dn_slice (de_var (pv 8)) (do_some (de_var (pv 9))) do_none)))) (da_cons (de_pure (dn_add (de_pure (dn_add (de_pure (dn_slice (de_var (pv 8)) do_none (do_some (de_var (pv 9))))) (de_pure (dn_lst (da_cons (de_var (pv 10)) da_nil))))) (de_pure (dn_slice (de_var (pv 8)) (do_some (de_add (de_var (pv 9)) de_int)) do_none)))) da_nil))))) (fun h => ps_set sc_Lspoilt.nd rfl (by first | exact Or.inl rfl | exact Or.inr rfl) h))
      (dss_cons (ds_asg (de_join de_str (de_ix (de_var (pv 11)) (de_sub (de_var (pv 2)) de_int) (fun _ _ => rfl))) (dg_sub (de_var (pv 6)) (de_var (pv 7)) (fun h1 h2 => pg_sub h1 h2 set_list)) (fun h1 h2 => ps_asg h1 h2))
      (dss_one (ds_ret (de_join de_str (de_var (pv 6)))))))))) dss_nil)
      (dss_cons (ds_set (i := 12) (de_mt dm_popAt (de_var (pv 6)) (da_cons (de_var (pv 7)) da_nil) (fun h1 h2 => pe_bm PySem.F.plainAttrs_list PySem.F.slot_list_pop PySem.F.type_list_pop mt_popAt h1 h2)) (fun h => ps_set sc_Lspoilt.nd rfl (by first | exact Or.inl rfl | exact Or.inr rfl) h))
      (dss_cut (ds_if (dt_cmp (op_eqA hu) do_eq (de_var (pv 2)) de_int (nomark _)) (dss_one (ds_expr (de_mt dm_insert (de_var (pv 6)) (da_cons (de_fn G_Lnext (hr.mono (by decide)) (by rfl) (da_cons (de_var (pv 0)) (da_cons (de_add (de_b dc_len (da_cons (de_var (pv 6)) da_nil) (fun h => pe_callB call_len_seq (by rfl) (mb "len" rfl) PySem.boot_len h)) de_int) da_nil))) (da_cons (de_var (pv 12)) da_nil)) (fun h1 h2 => pe_bm PySem.F.plainAttrs_list PySem.F.slot_list_insert PySem.F.type_list_insert mt_insert h1 h2)))) dss_nil)
      (dss_one (ds_ret (de_join de_str (de_if (dt_cmp (op_eqA hu) do_eq (de_var (pv 2)) de_int (nomark _)) (de_var (pv 6)) (de_pure (dn_add (de_pure (dn_slice (de_var (pv 6)) do_none (do_some (de_var (pv 7))))) (de_pure (dn_slice (de_var (pv 6)) (do_some (de_add (de_var (pv 7)) de_int)) do_none)))))))))))))))))), ?_⟩
    rintro ds S P ⟨t, T, z, rfl, rfl, hz, post⟩
    walk_at "st"
    walk_at "d"
    have hzl := hz.len
    have hz20 : z.length ≤ sizeLine := Nat.le_trans hzl (by decide)
    refine i_draw (by decide) (by decide) fun way t1 w0 w8 => ?_
    walk_at "d"
    refine ⟨z, rfl, hz20, ?_⟩
    walk_at "d"
    refine i_draw (by omega) (by omega) fun at_ t2 a0 a1 => ?_
    walk_at "d"
    refine ⟨rfl, ?_⟩
    walk_at "d"
    refine i_adds (Nat.le_trans (show _ ≤ 200 by decide +kernel) (by decide)) ?_
    walk_at "d"
    refine i_draw (by decide) (by decide) fun r0 t3 r00 r01 => ?_
    obtain ⟨sg, hsg, hsl, hsa, hsp⟩ : ∃ sg : Str, L2.atI [D.str (prT ++ Str.ofString "\n"), .str "0123456789 \n"] r0 = some (.str sg) ∧ sg.length ≤ 200 ∧ (∀ c ∈ tl sg, c < 128) ∧ 0 < sg.length := by
      rcases (show r0 = 0 ∨ r0 = 1 by omega) with rfl | rfl
      · exact ⟨_, rfl, by decide +kernel, by decide +kernel, by decide +kernel⟩
      · exact ⟨_, rfl, by decide +kernel, by decide +kernel, by decide +kernel⟩
    walk_at "d"
    refine i_ix rfl hsg ?_
    walk_at "d"
    refine ⟨sg, rfl, Nat.le_trans hsl (by decide), ?_⟩
    walk_at "d"
    refine i_draw (by omega) (by omega) fun r1 t4 r10 r11 => ?_
    obtain ⟨j, rfl⟩ : ∃ j : Nat, r1 = j := ⟨r1.toNat, by omega⟩
    have hj : j < (tl sg).length := by rw [← len_tl]; omega
    obtain ⟨c, hc⟩ : ∃ c, (tl sg)[j]? = some c := ⟨_, List.getElem?_eq_getElem hj⟩
    have hc128 := hsa c (List.mem_of_getElem? hc)
    have hone : ∀ c' ∈ tl (⟨#[c]⟩ : Str), c' < 128 := fun c' h => by
      have : c' = c := by simpa using h
      omega
    have hl1 : (⟨#[c]⟩ : Str).length = 1 := rfl
    refine i_ixS (by omega) hc ?_
    walk_at "d"
    have room2 : ∀ a b : Str, a.length ≤ 20000 → b.length ≤ 20000 → a.length + b.length ≤ sizeLine := fun a b h1 h2 => Nat.le_trans (by omega : _ ≤ 40000) (by decide)
    have cl : ∀ lo hi, (cutS z lo hi).length ≤ 10000 := fun lo hi => Nat.le_trans (cutS_len z lo hi) hzl
    have ca : ∀ lo hi, ∀ c ∈ tl (cutS z lo hi), c < 128 := fun lo hi => asc_cut hz.asc lo hi
    have al : ∀ a b : Str, (a ++ b).length = a.length + b.length := str_app_len
    by_cases hw3 : way < 3
    · refine ite_t (decide_eq_true hw3) ?_
      walk_at "d"
      refine i_slS ?_
      walk_at "d"
      refine i_slZ hz20 ?_
      walk_at "d"
      refine i_adds (room2 _ _ (by have := cl none (some at_); omega) (by omega)) ?_
      walk_at "d"
      refine i_slS ?_
      walk_at "d"
      refine i_slZ hz20 ?_
      walk_at "d"
      refine i_adds (room2 _ _ (by rw [al]; have := cl none (some at_); omega) (by have := cl (some at_) none; omega)) ?_
      walk_at "d"
      refine i_slS ?_
      walk_at "d"
      refine i_slZ hz20 ?_
      walk_at "d"
      refine i_slS ?_
      walk_at "d"
      refine i_slZ hz20 ?_
      walk_at "d"
      refine i_adds (room2 _ _ (by have := cl none (some at_); omega) (by have := cl (some (at_ + 1)) none; omega)) ?_
      walk_at "d"
      refine i_slS ?_
      walk_at "d"
      refine i_slZ hz20 ?_
      walk_at "d"
      refine i_adds (room2 _ _ (by have := cl none (some at_); omega) (by omega)) ?_
      walk_at "d"
      refine i_slS ?_
      walk_at "d"
      refine i_slZ hz20 ?_
      walk_at "d"
      refine i_adds (room2 _ _ (by rw [al]; have := cl none (some at_); omega) (by have := cl (some (at_ + 1)) none; omega)) ?_
      walk_at "d"
      have c1 := cutS_len z none (some at_)
      have c2 := cutS_len z (some at_) none
      have c3 := cutS_len z (some (at_ + 1)) none
      have pick : ∀ z', Tx (2 * z.length + 20) z' → atExit (hd t ++ T) P (.str z') (hd t4 ++ T) := fun z' h => exit_hd0 (fun _ => rfl) (post z' t4 h)
      rcases (show way = 0 ∨ way = 1 ∨ way = 2 by omega) with rfl | rfl | rfl
      · refine i_ix rfl (L2.atI_nat (j := 0) rfl) ?_
        exact pick _ ⟨by rw [al, al]; omega, asc_app (asc_app (ca _ _) hone) (ca _ _)⟩
      · refine i_ix rfl (L2.atI_nat (j := 1) rfl) ?_
        exact pick _ ⟨by rw [al]; omega, asc_app (ca _ _) (ca _ _)⟩
      · refine i_ix rfl (L2.atI_nat (j := 2) rfl) ?_
        exact pick _ ⟨by rw [al, al]; omega, asc_app (asc_app (ca _ _) hone) (ca _ _)⟩
    · refine ite_f (by simpa using hw3) ?_
      walk_at "d"
      refine i_split ?_
      walk_at "d"
      refine ⟨_, rfl, ?_⟩
      walk_at "d"
      refine ⟨_, rfl, rfl, Nat.le_trans (Nat.add_le_add_right hzl 2) (by decide), ?_⟩
      rw [show Str.ofString "\n" = nl1 from rfl]
      have htot := nl_tot z
      have hne := nl_ne z
      have hla := split_asc hz.asc nl_tl (by decide +kernel)
      generalize Txt.split z nl1 = ls at htot hne hla ⊢
      have hll := len_tot ls
      have hl0 : 0 < ls.length := List.length_pos_iff.mpr hne
      have hlen : ∀ t', (hd t' ++ T).length = 3 + T.length := fun t' => by rw [List.length_append]; rfl
      have hat : ∀ t' (o : O), (hd t' ++ (T ++ [o]))[3 + T.length]? = some o := fun t' o => by rw [← List.append_assoc, ← hlen t', List.getElem?_append_right (Nat.le_refl _), Nat.sub_self]; rfl
      have hset : ∀ t' (o o' : O), (hd t' ++ (T ++ [o])).set (3 + T.length) o' = hd t' ++ (T ++ [o']) := fun t' o o' => by rw [← List.append_assoc, ← hlen t', List.set_append_right _ _ (Nat.le_refl _), Nat.sub_self, List.append_assoc]; rfl
      walk_at "d"
      rw [hlen, List.append_assoc]
      have hS : ∀ t' ys, seqOf (hd t' ++ (T ++ [O.lst ys])) (.ref (3 + T.length)) = some ys := fun t' ys => by simp only [seqOf, lstOf, hat]
      have room3 : ∀ (y : Str) (ys : List Str), y.length = 1 → tot ys ≤ 100000 → (ys.map (·.length)).sum + ys.length * y.length ≤ 16777216 := fun y ys hy h => by
        rw [hy, Nat.mul_one]
        unfold tot at h
        omega
      have last : ∀ t' (ys : List Str), tot ys ≤ 2 * z.length + 20 → (∀ x ∈ ys, ∀ c ∈ tl x, c < 128) → atExit (hd t ++ T) P (.str (Txt.join nl1 ys)) (hd t' ++ (T ++ [O.lst (ys.map .str)])) := fun t' ys h1 h2 =>
        exit_hd (T' := [O.lst (ys.map .str)]) rfl (fun _ => rfl) (post _ t' ⟨Nat.le_trans (join_tot rfl ys) h1, asc_join asc_nl h2⟩)
      refine i_len (hS _ _) ?_
      walk_at "d"
      rw [List.length_map]
      refine i_draw (by omega) (by omega) fun k' t5 k0 k1 => ?_
      obtain ⟨k, rfl⟩ : ∃ n : Nat, k' = n := ⟨k'.toNat, by omega⟩
      have hk : k < ls.length := by omega
      obtain ⟨l, hl⟩ : ∃ l, ls[k]? = some l := ⟨_, List.getElem?_eq_getElem hk⟩
      have hlm := List.mem_of_getElem? hl
      have hltot := tot_mem hlm
      walk_at "d"
      by_cases hw6 : way < 6
      · refine ite_t (decide_eq_true hw6) ?_
        walk_at "d"
        refine i_split ?_
        walk_at "d"
        refine i_ix (hS _ _) (L2.atI_nat (j := k) (v := .str l) (by rw [List.getElem?_map, hl]; rfl)) ?_
        refine ⟨_, rfl, ?_⟩
        walk_at "d"
        refine ⟨_, rfl, rfl, Nat.le_trans (by omega : _ ≤ 20000) (by decide), ?_⟩
        rw [show Str.ofString " " = sp1 from rfl]
        have hwt := sp_tot l
        have hwn := sp_ne l
        have hwa := split_asc (hla l hlm) sp_tl (by decide +kernel)
        generalize Txt.split l sp1 = ws at hwt hwn hwa ⊢
        have hwl := len_tot ws
        have hw0 : 0 < ws.length := List.length_pos_iff.mpr hwn
        walk_at "d"
        walk_at "e"
        walk_at "d"
        rw [List.length_map]
        refine i_draw (by omega) (by omega) fun n' t6 n0 n1 => ?_
        obtain ⟨n, rfl⟩ : ∃ m : Nat, n' = m := ⟨n'.toNat, by omega⟩
        have hn : n < ws.length := by omega
        obtain ⟨wd, hwd⟩ : ∃ l, ws[n]? = some l := ⟨_, List.getElem?_eq_getElem hn⟩
        walk_at "d"
        refine i_draw (by decide) (by decide) fun r2 t7 r20 r21 => ?_
        obtain ⟨od, hod, hol, hoa⟩ : ∃ od : Str, L2.atI [D.str (Str.ofString ""), D.str (Str.ofString "00"), D.str (Str.ofString "1000"), D.str (Str.ofString "999"), D.str (Str.ofString "-1"), D.str (Str.ofString "7"), D.str (Str.ofString "call"), D.str (Str.ofString "fun"), D.str (Str.ofString "rest"), D.str (Str.ofString "Num"), D.str (Str.ofString "tell"), D.str (Str.ofString "03")] r2 = some (.str od) ∧ od.length ≤ 4 ∧ (∀ c ∈ tl od, c < 128) := by
          rcases (show r2 = 0 ∨ r2 = 1 ∨ r2 = 2 ∨ r2 = 3 ∨ r2 = 4 ∨ r2 = 5 ∨ r2 = 6 ∨ r2 = 7 ∨ r2 = 8 ∨ r2 = 9 ∨ r2 = 10 ∨ r2 = 11 by omega) with rfl | rfl | rfl | rfl | rfl | rfl | rfl | rfl | rfl | rfl | rfl | rfl <;> exact ⟨_, rfl, by decide +kernel, by decide +kernel⟩
        refine i_ix rfl hod ?_
        walk_at "d"
        have hn1 : (n : Int) + 1 = ((n + 1 : Nat) : Int) := rfl
        have wl : ∀ xs ys : List D, xs.length ≤ 20000 → ys.length ≤ 20002 → xs.length + ys.length ≤ sizeLine := fun xs ys h1 h2 => Nat.le_trans (by omega : _ ≤ 40002) (by decide)
        refine i_cat rfl rfl (wl _ _ (by rw [c_hi]; simp; omega) (by rw [hn1, c_lo]; simp; omega)) ?_
        walk_at "d"
        refine i_ix rfl (L2.atI_nat (j := n) (v := .str wd) (by rw [List.getElem?_map, hwd]; rfl)) ?_
        walk_at "d"
        refine i_cat rfl rfl (wl _ _ (by rw [c_hi]; simp; omega) (by simp)) ?_
        walk_at "d"
        refine i_cat rfl rfl (wl _ _ (by rw [c_hi]; simp; omega) (by rw [c_lo]; simp; omega)) ?_
        walk_at "d"
        refine i_cat rfl rfl (wl _ _ (by rw [c_hi]; simp; omega) (by simp)) ?_
        walk_at "d"
        refine i_cat rfl rfl (wl _ _ (by rw [c_hi]; simp; omega) (by rw [hn1, c_lo]; simp; omega)) ?_
        walk_at "d"
        rw [c_hi, hn1, c_lo, c_lo]
        have hwm := List.mem_of_getElem? hwd
        have hwdt := tot_mem hwm
        have ta := tot_split ws n
        have tb := tot_split ws (n + 1)
        have hta : ∀ j, ∀ x ∈ ws.take j, ∀ c ∈ tl x, c < 128 := fun j x hx => hwa x (List.mem_of_mem_take hx)
        have hda : ∀ j, ∀ x ∈ ws.drop j, ∀ c ∈ tl x, c < 128 := fun j x hx => hwa x (List.mem_of_mem_drop hx)
        have both : ∀ {a b : List Str}, (∀ x ∈ a, ∀ c ∈ tl x, c < 128) → (∀ x ∈ b, ∀ c ∈ tl x, c < 128) → ∀ x ∈ a ++ b, ∀ c ∈ tl x, c < 128 := fun h1 h2 x hx => (List.mem_append.mp hx).elim (h1 x) (h2 x)
        have one : ∀ {a : Str}, (∀ c ∈ tl a, c < 128) → ∀ x ∈ [a], ∀ c ∈ tl x, c < 128 := fun h x hx => by rw [List.mem_singleton.mp hx]; exact h
        have t1' : ∀ a : Str, tot [a] = a.length + 1 := fun a => by rw [tot_cons, tot_nil]
        obtain ⟨ys, hys, hyt, hya⟩ : ∃ ys : List Str, L2.atI [D.lst ((ws.map D.str).take n ++ (ws.map D.str).drop (n + 1)), D.lst ((ws.map D.str).take n ++ [D.str wd] ++ (ws.map D.str).drop n), D.lst ((ws.map D.str).take n ++ [D.str od] ++ (ws.map D.str).drop (n + 1))] (way - 3) = some (.lst (ys.map .str)) ∧ tot ys ≤ 2 * tot ws + 5 ∧ ∀ x ∈ ys, ∀ c ∈ tl x, c < 128 := by
          rcases (show way = 3 ∨ way = 4 ∨ way = 5 by omega) with rfl | rfl | rfl
          · exact ⟨ws.take n ++ ws.drop (n + 1), by rw [List.map_append, List.map_take, List.map_drop]; rfl, by rw [tot_app]; omega, both (hta _) (hda _)⟩
          · exact ⟨ws.take n ++ [wd] ++ ws.drop n, by rw [List.map_append, List.map_append, List.map_take, List.map_drop]; rfl, by rw [tot_app, tot_app, t1']; omega, both (both (hta _) (one (hwa wd hwm))) (hda _)⟩
          · exact ⟨ws.take n ++ [od] ++ ws.drop (n + 1), by rw [List.map_append, List.map_append, List.map_take, List.map_drop]; rfl, by rw [tot_app, tot_app, t1']; omega, both (both (hta _) (one hoa)) (hda _)⟩
        refine i_m1 ?_
        walk_at "d"
        refine ⟨_, rfl, ?_⟩
        walk_at "d"
        refine i_ix rfl hys ?_
        refine ⟨ys, rfl, room3 _ _ rfl (by omega), ?_⟩
        have hjl := join_tot (y := sp1) rfl ys
        have hja := asc_join asc_sp hya
        generalize Txt.join sp1 ys = nl at hjl hja ⊢
        walk_at "d"
        refine ⟨_, ls.map .str, k, k, rfl, hat _ _, rfl, (by unfold ixN; rw [if_pos (by omega), if_pos (by rw [List.length_map]; omega), Int.toNat_natCast]), ?_⟩
        rw [hset, show (ls.map D.str).set k (.str nl) = (ls.set k nl).map .str by rw [List.map_set]]
        have hts := tot_set' (x := nl) hl
        have hsa : ∀ x ∈ ls.set k nl, ∀ c ∈ tl x, c < 128 := fun x hx => by
          rcases List.mem_or_eq_of_mem_set hx with h | rfl
          · exact hla x h
          · exact hja
        walk_at "d"
        refine i_m1 ?_
        walk_at "d"
        refine ⟨_, rfl, ?_⟩
        walk_at "d"
        refine ⟨ls.set k nl, hS _ _, room3 _ _ rfl (by omega), ?_⟩
        exact last t7 _ (by omega) hsa
      · refine ite_f (by simpa using hw6) ?_
        walk_at "d"
        refine ⟨⟨_, _, rfl, hat _ _⟩, ?_⟩
        walk_at "d"
        refine ⟨_, _, .str l, k, rfl, rfl, hat _ _, by omega, by rw [List.getElem?_map, hl]; rfl, ?_⟩
        rw [hset, show (ls.map D.str).eraseIdx k = (ls.eraseIdx k).map D.str from erase_map _ _ _]
        have het : tot (ls.eraseIdx k) ≤ tot ls := tot_erase k
        have heL : (ls.eraseIdx k).length + 1 = ls.length := by rw [List.length_eraseIdx]; split <;> omega
        have hea : ∀ x ∈ ls.eraseIdx k, ∀ c ∈ tl x, c < 128 := fun x hx => hla x (List.mem_of_mem_eraseIdx hx)
        walk_at "d"
        refine ⟨fun env S' => ∃ (t' : Tok) (ys : List Str), tot ys ≤ 2 * z.length + 2 ∧ (∀ x ∈ ys, ∀ c ∈ tl x, c < 128) ∧ S' = hd t' ++ (T ++ [.lst (ys.map .str)]) ∧ env = [some (.ref 2), some (.str z), some (.int way), some (.int at_), some (.str (prT ++ nl1)), some (.str ⟨#[c]⟩), some (.ref (3 + T.length)), some (.int k), none, none, none, none, some (.str l)], ?_, ?_⟩
        · walk_at "d"
          by_cases hw7 : way = 7
          · refine ite_t (decide_eq_true hw7) ?_
            walk_at "d"
            refine ⟨⟨_, _, rfl, hat _ _⟩, ?_⟩
            walk_at "d"
            refine i_len (hS _ _) ?_
            walk_at "d"
            rw [List.length_map]
            refine i_draw (by omega) (by omega) fun q' t6 q0 q1 => ?_
            obtain ⟨q, rfl⟩ : ∃ n : Nat, q' = n := ⟨q'.toNat, by omega⟩
            walk_at "d"
            refine ⟨_, _, .str l, q, rfl, rfl, hat _ _, by rw [List.length_map]; omega, by rw [List.length_map]; exact Nat.lt_of_lt_of_le (by omega : _ < 100000) (by decide), by omega, ?_⟩
            rw [hset]
            have hsp := tot_split (ls.eraseIdx k) q
            refine ⟨t6, (ls.eraseIdx k).take q ++ l :: (ls.eraseIdx k).drop q, by rw [tot_app, tot_cons]; omega, fun x hx => ?_, by rw [List.map_append, List.map_cons, List.map_take, List.map_drop], rfl⟩
            rcases List.mem_append.mp hx with hx | hx
            · exact hea x (List.mem_of_mem_take hx)
            · rcases List.mem_cons.mp hx with rfl | hx
              · exact hla _ hlm
              · exact hea x (List.mem_of_mem_drop hx)
          · refine ite_f (by simpa using hw7) ?_
            walk_at "d"
            exact ⟨t5, _, by omega, hea, rfl, rfl⟩
        · rintro env S' ⟨t', ys, hyt, hya, rfl, rfl⟩
          have hyl := len_tot ys
          walk_at "d"
          refine i_m1 ?_
          walk_at "d"
          refine ⟨_, rfl, ?_⟩
          walk_at "d"
          by_cases hw7 : way = 7
          · refine ite_t (decide_eq_true hw7) ?_
            walk_at "d"
            refine ⟨ys, hS _ _, room3 _ _ rfl (by omega), ?_⟩
            exact last t' ys (by omega) hya
          · refine ite_f (by simpa using hw7) ?_
            walk_at "d"
            have hk1 : (k : Int) + 1 = ((k + 1 : Nat) : Int) := rfl
            refine ⟨ys.map .str, by simp only [lstOf, hat], ?_⟩
            walk_at "d"
            refine ⟨ys.map .str, by simp only [lstOf, hat], ?_⟩
            rw [c_hi, hk1, c_lo]
            have hta := tot_split ys k
            have htb : tot (ys.drop (k + 1)) ≤ tot (ys.drop k) := by
              have h := tot_split (ys.drop k) 1
              rw [List.drop_drop] at h
              omega
            have hyl1 := len_tot (ys.take k)
            have hyl2 := len_tot (ys.drop (k + 1))
            refine i_cat rfl rfl (Nat.le_trans (show _ ≤ 60000 by rw [List.length_take, List.length_drop, List.length_map]; omega) (by decide)) ?_
            walk_at "d"
            refine ⟨ys.take k ++ ys.drop (k + 1), by rw [List.map_append, List.map_take, List.map_drop]; rfl, room3 _ _ rfl (by rw [tot_app]; omega), ?_⟩
            refine exit_hd (T' := [O.lst (ys.map .str)]) rfl (fun _ => rfl) (post _ t' ⟨Nat.le_trans (join_tot rfl _) (by rw [tot_app]; omega), asc_join asc_nl fun x hx => ?_⟩)
            rcases List.mem_append.mp hx with hx | hx
            · exact hya x (List.mem_of_mem_take hx)
            · exact hya x (List.mem_of_mem_drop hx)
end
abbrev s_Lalike : Stmt := topS 48
abbrev N_Lalike : List Str := ["_law_found", "_law_due", "_law_k"]
theorem sc_Lalike : FnScope N_Lalike ["_law_found", "_law_due"] (defScope s_Lalike) := ⟨rfl, rfl, rfl, by decide +kernel, rfl, by decide +kernel, by decide +kernel⟩
theorem k2_tup : kit2 "tuple" "tuple" "list" = some true := by unfold kit2; rw [kit_tuple_tuple]
theorem k2_int : kit2 "int" "tuple" "list" = some false := by unfold kit2; rw [kit_int_tuple]; exact kit_int_list
theorem k2_str : kit2 "str" "tuple" "list" = some false := by unfold kit2; rw [kit_str_tuple]; exact kit_str_list
theorem k2_lst : kit2 "list" "tuple" "list" = some true := by unfold kit2; rw [kit_list_tuple]; exact kit_list_list
theorem k2_non : kit2 "NoneType" "tuple" "list" = some false := by unfold kit2; rw [kit_NoneType_tuple]; exact kit_NoneType_list
theorem k2_bl : kit2 "bool" "tuple" "list" = some false := by unfold kit2; rw [kit_bool_tuple]; exact kit_bool_list
/-- x, wherever its lists lie, reads as the plain y -/
def sameD (S : Sto) : Nat → D → D → Prop
  | 0, _, _ => False
  | _ + 1, x, .non => x = .non
  | _ + 1, x, .bl b => x = .bl b
  | _ + 1, x, .int i => x = .int i
  | _ + 1, x, .str z => x = .str z
  | n + 1, x, .tup ys => ∃ xs, x = .tup xs ∧ xs.length = ys.length ∧ ys.length ≤ 90000 ∧ ∀ (i : Nat) a b, xs[i]? = some a → ys[i]? = some b → sameD S n a b
  | n + 1, x, .lst ys => ∃ xs, lstOf S x = some xs ∧ xs.length = ys.length ∧ ys.length ≤ 90000 ∧ ∀ (i : Nat) a b, xs[i]? = some a → ys[i]? = some b → sameD S n a b
  | n + 1, x, .ref j => ∃ xs ys, lstOf S x = some xs ∧ lstOf S (.ref j) = some ys ∧ xs.length = ys.length ∧ ys.length ≤ 90000 ∧ ∀ (i : Nat) a b, xs[i]? = some a → ys[i]? = some b → sameD S n a b
  | _ + 1, _, _ => False
theorem lst_facts {S : Sto} {x : D} {xs : List D} (h : lstOf S x = some xs) : tyOf S x = some "list" ∧ seqOf S x = some xs ∧ itemsOf S x = some xs := by
  cases x with
  | lst ys => cases h; exact ⟨rfl, rfl, rfl⟩
  | ref i =>
    dsimp only [lstOf] at h
    cases e : S[i]? with
    | none => rw [e] at h; cases h
    | some o =>
      rw [e] at h
      cases o with
      | lst ys =>
        cases h
        refine ⟨?_, ?_, ?_⟩
        · simp only [tyOf, e]
        · simp only [seqOf, lstOf, e]
        · simp only [itemsOf, seqOf, lstOf, e]
      | _ => cases h
  | _ => cases h
theorem sameD_pln {S : Sto} : ∀ (n : Nat) {d : D}, pln n d = true → sameD S n d d
  | 0, _, h => by simp [pln] at h
  | n + 1, .non, _ => rfl
  | n + 1, .bl _, _ => rfl
  | n + 1, .int _, _ => rfl
  | n + 1, .str _, _ => rfl
  | n + 1, .tup ds, h => by
    rw [pln, Bool.and_eq_true_iff] at h
    refine ⟨ds, rfl, rfl, of_decide_eq_true h.1, fun i a b ha hb => ?_⟩
    rw [ha] at hb
    cases hb
    exact sameD_pln n (plns_mem h.2 _ (List.mem_of_getElem? ha))
  | n + 1, .lst ds, h => by
    rw [pln, Bool.and_eq_true_iff] at h
    refine ⟨ds, rfl, rfl, of_decide_eq_true h.1, fun i a b ha hb => ?_⟩
    rw [ha] at hb
    cases hb
    exact sameD_pln n (plns_mem h.2 _ (List.mem_of_getElem? ha))
  | n + 1, .ref _, h => by simp [pln] at h
  | n + 1, .dct _ _, h => by simp [pln] at h
  | n + 1, .ty _, h => by simp [pln] at h
  | n + 1, .scr _, h => by simp [pln] at h
  | n + 1, .adr _, h => by simp [pln] at h
def spAlike (n : Nat) : DSp := fun ds S P => ∃ x y, ds = [x, y] ∧ sameD S n x y ∧ P (.bl true) S
section
variable {P : Program} {w : World} {K : PySem.W.Frag} {mg : Str → Option Value} {base : Heap}
theorem ok_Lalike {k n : Nat} (at_ : At K mg "_law_alike" s_Lalike ["_law_found", "_law_due"]) (mb : ∀ x, isB x = true → mg x = none) (G_Lalike : Fn P w K mg base "_law_alike" k ["_law_found", "_law_due"] (spAlike n)) :
    Fn P w K mg base "_law_alike" (k + 1) ["_law_found", "_law_due"] (spAlike (n + 1)) := by
  refine fn_at at_ fun f fd F => fn_d F sc_Lalike (fun ds S P h => ?_) ?_
  · obtain ⟨x, y, rfl, _⟩ := h
    rfl
  · rintro X W0 cdv A outer s H E rfl hr
    have hu := hr.units
    refine ⟨_, (dss_cons (ds_if (dt_val (de_isi2 (n1 := "tuple") (n2 := "list") (de_var (pv 1)) (by rfl) (mb "isinstance" rfl) (by decide +kernel) (by rfl) (mb "tuple" rfl) (by decide +kernel) (by rfl) (mb "list" rfl) (by decide +kernel))) (dss_cons (ds_if (dt_w (dw_or (dt_not (dt_val (de_isi2 (n1 := "tuple") (n2 := "list") (de_var (pv 0)) (by rfl) (mb "isinstance" rfl) (by decide +kernel) (by rfl) (mb "tuple" rfl) (by decide +kernel) (by rfl) (mb "list" rfl) (by decide +kernel)))) (dw_or1 (dt_cmp (op_neA hu) do_ne (de_b dc_isi (da_cons (de_var (pv 0)) (da_cons (de_bltn (n := "list") (by rfl) (mb "list" rfl) (by decide +kernel)) da_nil)) (fun h => pe_callB call_isi (by rfl) (mb "isinstance" rfl) (by decide +kernel) h)) (de_b dc_isi (da_cons (de_var (pv 1)) (da_cons (de_bltn (n := "list") (by rfl) (mb "list" rfl) (by decide +kernel)) da_nil)) (fun h => pe_callB call_isi (by rfl) (mb "isinstance" rfl) (by decide +kernel) h)) (nomark _))))) (dss_one (ds_ret de_bl)) dss_nil)
      (dss_cons (ds_if (dt_cmp (op_neA hu) do_ne (de_b dc_len (da_cons (de_var (pv 0)) da_nil) (fun h => pe_callB call_len_seq (by rfl) (mb "len" rfl) PySem.boot_len h)) (de_b dc_len (da_cons (de_var (pv 1)) da_nil) (fun h => pe_callB call_len_seq (by rfl) (mb "len" rfl) PySem.boot_len h)) (nomark _)) (dss_one (ds_ret de_bl)) dss_nil)
      (dss_one (ds_ret (de_cmp (op_eqA hu) do_eq (de_pure (dn_lc (own := [("_law_k", 2)]) (by decide) rfl sc_Lalike.nd (di_range1 (by rfl) (mb "range" rfl) (da_cons (de_b dc_len (da_cons (de_var (pv 1)) da_nil) (fun h => pe_callB call_len_seq (by rfl) (mb "len" rfl) PySem.boot_len h)) da_nil)) (blkOk_by (N := N_Lalike) (sc := defScope s_Lalike) (by decide +kernel)) (fun _ _ _ _ _ => (dg_name (pg_name (i := 2) sc_Lalike.nd rfl (Or.inl rfl)))) (fun _ _ _ _ _ => (dts_one (dt_not (dt_val (de_fn G_Lalike (hr.mono (Nat.le_refl _)) (by rfl) (da_cons (de_ix (de_var (pv 0)) (de_var (pv 2)) (fun _ _ => rfl)) (da_cons (de_ix (de_var (pv 1)) (de_var (pv 2)) (fun _ _ => rfl)) da_nil))))))) (fun _ _ _ _ _ => (de_var (pv 2))))) (de_pure (dn_lst da_nil)) (nomark _)))))) dss_nil)
      (dss_cons (ds_if (dt_cmp op_isN do_isN (de_var (pv 1)) de_non (nomark _)) (dss_one (ds_ret (de_cmp op_isN do_isN (de_var (pv 0)) de_non (nomark _)))) dss_nil)
      (dss_cons (ds_if (dt_val (de_b dc_isi (da_cons (de_var (pv 1)) (da_cons (de_bltn (n := "str") (by rfl) (mb "str" rfl) (by decide +kernel)) da_nil)) (fun h => pe_callB call_isi (by rfl) (mb "isinstance" rfl) (by decide +kernel) h))) (dss_one (ds_ret (de_and (de_b dc_isi (da_cons (de_var (pv 0)) (da_cons (de_bltn (n := "str") (by rfl) (mb "str" rfl) (by decide +kernel)) da_nil)) (fun h => pe_callB call_isi (by rfl) (mb "isinstance" rfl) (by decide +kernel) h)) (de_one (de_cmp (op_eqA hu) do_eq (de_var (pv 0)) (de_var (pv 1)) (nomark _)))))) dss_nil)
      (dss_cons (ds_if (dt_w (dw_or (dt_val (de_b dc_isi (da_cons (de_var (pv 1)) (da_cons (de_bltn (n := "bool") (by rfl) (mb "bool" rfl) (by decide +kernel)) da_nil)) (fun h => pe_callB call_isi (by rfl) (mb "isinstance" rfl) (by decide +kernel) h))) (dw_or1 (dt_val (de_b dc_isi (da_cons (de_var (pv 0)) (da_cons (de_bltn (n := "bool") (by rfl) (mb "bool" rfl) (by decide +kernel)) da_nil)) (fun h => pe_callB call_isi (by rfl) (mb "isinstance" rfl) (by decide +kernel) h)))))) (dss_one (ds_ret (de_and (de_b dc_isi (da_cons (de_var (pv 1)) (da_cons (de_bltn (n := "bool") (by rfl) (mb "bool" rfl) (by decide +kernel)) da_nil)) (fun h => pe_callB call_isi (by rfl) (mb "isinstance" rfl) (by decide +kernel) h)) (de_and (de_b dc_isi (da_cons (de_var (pv 0)) (da_cons (de_bltn (n := "bool") (by rfl) (mb "bool" rfl) (by decide +kernel)) da_nil)) (fun h => pe_callB call_isi (by rfl) (mb "isinstance" rfl) (by decide +kernel) h)) (de_one (de_cmp (op_eqA hu) do_eq (de_var (pv 0)) (de_var (pv 1)) (nomark _))))))) dss_nil)
      (dss_one (ds_ret (de_and (de_b dc_isi (da_cons (de_var (pv 0)) (da_cons (de_bltn (n := "int") (by rfl) (mb "int" rfl) (by decide +kernel)) da_nil)) (fun h => pe_callB call_isi (by rfl) (mb "isinstance" rfl) (by decide +kernel) h)) (de_one (de_cmp (op_eqA hu) do_eq (de_var (pv 0)) (de_var (pv 1)) (nomark _)))))))))), ?_⟩
    rintro ds S P ⟨x, y, rfl, hd, post⟩
    have fin : atExit S P (.bl true) S := exit_pure0 (fun _ => rfl) post
    walk_at "st"
    cases y with
    | tup ys =>
      obtain ⟨xs, rfl, hlen, hl, hds⟩ := hd
      refine i_seq (i_ifS (i_B (i_isi2 ?_)))
      walk_at "d"
      refine ⟨_, _, rfl, k2_tup, ?_⟩
      walk_at "d"
      refine ite_t rfl ?_
      refine i_seq (i_seq (i_ifS (i_or (i_not (i_B (i_isi2 ?_))))))
      walk_at "d"
      refine ⟨_, _, rfl, k2_tup, ?_⟩
      walk_at "d"
      refine ite_f (by decide) ?_
      walk_at "d"
      refine ite_f (by decide) ?_
      walk_at "d"
      refine ite_f (by simp [hlen]) ?_
      walk_at "d"
      refine i_rg1 (by omega) (by omega) ?_
      refine ⟨fun _ acc S2 => S2 = S ∧ acc = [], ⟨rfl, rfl⟩, ?_, ?_, ?_⟩
      · rintro i acc S2 hi ⟨rfl, rfl⟩
        exact ⟨trivial, sz_lt (by simp)⟩
      · rintro i x acc S2 hx ⟨rfl, rfl⟩
        obtain ⟨hi, rfl⟩ := rangeD_get hx
        have hi : i < ys.length := by simpa using hi
        have hi2 : i < xs.length := by omega
        have hix : L2.atI ys (0 + (i : Int)) = some ys[i] := by rw [Int.zero_add]; exact atI_nat (List.getElem?_eq_getElem hi)
        have hix2 : L2.atI xs (0 + (i : Int)) = some xs[i] := by rw [Int.zero_add]; exact atI_nat (List.getElem?_eq_getElem hi2)
        walk_at "d"
        refine i_ix rfl hix2 ?_
        walk_at "d"
        refine i_ix rfl hix ?_
        walk_at "d"
        refine ⟨_, _, rfl, hds i _ _ (List.getElem?_eq_getElem hi2) (List.getElem?_eq_getElem hi), ?_⟩
        walk_at "d"
        refine ite_f (by decide) ?_
        exact ⟨rfl, rfl⟩
      · rintro acc S2 ⟨rfl, rfl⟩
        walk_at "d"
        refine i_eqNil (ns := []) rfl ?_
        exact fin
    | lst ys =>
      obtain ⟨xs, hlst, hlen, hl, hds⟩ := hd
      obtain ⟨hty, hseq, hits⟩ := lst_facts hlst
      refine i_seq (i_ifS (i_B (i_isi2 ?_)))
      walk_at "d"
      refine ⟨_, _, rfl, k2_lst, ?_⟩
      walk_at "d"
      refine ite_t rfl ?_
      refine i_seq (i_seq (i_ifS (i_or (i_not (i_B (i_isi2 ?_))))))
      walk_at "d"
      refine ⟨_, _, hty, k2_lst, ?_⟩
      walk_at "d"
      refine ite_f (by decide) ?_
      walk_at "d"
      refine i_isi hty kit_list_list ?_
      walk_at "d"
      refine ite_f (by decide) ?_
      walk_at "d"
      refine i_len hits ?_
      walk_at "d"
      refine ite_f (by simp [hlen]) ?_
      walk_at "d"
      refine i_rg1 (by omega) (by omega) ?_
      refine ⟨fun _ acc S2 => S2 = S ∧ acc = [], ⟨rfl, rfl⟩, ?_, ?_, ?_⟩
      · rintro i acc S2 hi ⟨rfl, rfl⟩
        exact ⟨trivial, sz_lt (by simp)⟩
      · rintro i x acc S2 hx ⟨rfl, rfl⟩
        obtain ⟨hi, rfl⟩ := rangeD_get hx
        have hi : i < ys.length := by simpa using hi
        have hi2 : i < xs.length := by omega
        have hix : L2.atI ys (0 + (i : Int)) = some ys[i] := by rw [Int.zero_add]; exact atI_nat (List.getElem?_eq_getElem hi)
        have hix2 : L2.atI xs (0 + (i : Int)) = some xs[i] := by rw [Int.zero_add]; exact atI_nat (List.getElem?_eq_getElem hi2)
        walk_at "d"
        refine i_ix hseq hix2 ?_
        walk_at "d"
        refine i_ix rfl hix ?_
        walk_at "d"
        refine ⟨_, _, rfl, hds i _ _ (List.getElem?_eq_getElem hi2) (List.getElem?_eq_getElem hi), ?_⟩
        walk_at "d"
        refine ite_f (by decide) ?_
        exact ⟨rfl, rfl⟩
      · rintro acc S2 ⟨rfl, rfl⟩
        walk_at "d"
        refine i_eqNil (ns := []) rfl ?_
        exact fin
    | ref j =>
      obtain ⟨xs, ys, hlst, hlst', hlen, hl, hds⟩ := hd
      obtain ⟨hty, hseq, hits⟩ := lst_facts hlst
      obtain ⟨hty', hseq', hits'⟩ := lst_facts hlst'
      refine i_seq (i_ifS (i_B (i_isi2 ?_)))
      walk_at "d"
      refine ⟨_, _, hty', k2_lst, ?_⟩
      walk_at "d"
      refine ite_t rfl ?_
      refine i_seq (i_seq (i_ifS (i_or (i_not (i_B (i_isi2 ?_))))))
      walk_at "d"
      refine ⟨_, _, hty, k2_lst, ?_⟩
      walk_at "d"
      refine ite_f (by decide) ?_
      walk_at "d"
      refine i_isi hty kit_list_list ?_
      walk_at "d"
      refine i_isi hty' kit_list_list ?_
      walk_at "d"
      refine ite_f (by decide) ?_
      walk_at "d"
      refine i_len hits ?_
      walk_at "d"
      refine i_len hits' ?_
      walk_at "d"
      refine ite_f (by simp [hlen]) ?_
      walk_at "d"
      refine i_len hits' ?_
      walk_at "d"
      refine i_rg1 (by omega) (by omega) ?_
      refine ⟨fun _ acc S2 => S2 = S ∧ acc = [], ⟨rfl, rfl⟩, ?_, ?_, ?_⟩
      · rintro i acc S2 hi ⟨rfl, rfl⟩
        exact ⟨trivial, sz_lt (by simp)⟩
      · rintro i x acc S2 hx ⟨rfl, rfl⟩
        obtain ⟨hi, rfl⟩ := rangeD_get hx
        have hi : i < ys.length := by simpa using hi
        have hi2 : i < xs.length := by omega
        have hix : L2.atI ys (0 + (i : Int)) = some ys[i] := by rw [Int.zero_add]; exact atI_nat (List.getElem?_eq_getElem hi)
        have hix2 : L2.atI xs (0 + (i : Int)) = some xs[i] := by rw [Int.zero_add]; exact atI_nat (List.getElem?_eq_getElem hi2)
        walk_at "d"
        refine i_ix hseq hix2 ?_
        walk_at "d"
        refine i_ix hseq' hix ?_
        walk_at "d"
        refine ⟨_, _, rfl, hds i _ _ (List.getElem?_eq_getElem hi2) (List.getElem?_eq_getElem hi), ?_⟩
        walk_at "d"
        refine ite_f (by decide) ?_
        exact ⟨rfl, rfl⟩
      · rintro acc S2 ⟨rfl, rfl⟩
        walk_at "d"
        refine i_eqNil (ns := []) rfl ?_
        exact fin
    | int i =>
      obtain rfl : x = .int i := hd
      refine i_seq (i_ifS (i_B (i_isi2 ?_)))
      walk_at "d"
      refine ⟨_, _, rfl, k2_int, ?_⟩
      walk_at "d"
      refine ite_f (by decide) ?_
      walk_at "d"
      refine ite_f (fun z => nomatch (show false = true from z)) ?_
      walk_at "d"
      refine ite_f (by decide) ?_
      walk_at "d"
      refine ite_f (by decide) ?_
      walk_at "d"
      refine ite_f (by decide) ?_
      walk_at "d"
      refine ite_t (by decide) ?_
      walk_at "d"
      rw [show (id (decide (i = i)) : Bool) = true from decide_eq_true rfl]
      exact fin
    | str z =>
      obtain rfl : x = .str z := hd
      refine i_seq (i_ifS (i_B (i_isi2 ?_)))
      walk_at "d"
      refine ⟨_, _, rfl, k2_str, ?_⟩
      walk_at "d"
      refine ite_f (by decide) ?_
      walk_at "d"
      refine ite_f (fun z => nomatch (show false = true from z)) ?_
      walk_at "d"
      refine ite_t (by decide) ?_
      walk_at "d"
      refine ite_t (by decide) ?_
      walk_at "d"
      rw [show (id (decide (z = z)) : Bool) = true from decide_eq_true rfl]
      exact fin
    | non =>
      obtain rfl : x = .non := hd
      refine i_seq (i_ifS (i_B (i_isi2 ?_)))
      walk_at "d"
      refine ⟨_, _, rfl, k2_non, ?_⟩
      walk_at "d"
      refine ite_f (by decide) ?_
      walk_at "d"
      refine ite_t (by exact rfl) ?_
      walk_at "d"
      exact fin
    | bl b =>
      obtain rfl : x = .bl b := hd
      refine i_seq (i_ifS (i_B (i_isi2 ?_)))
      walk_at "d"
      refine ⟨_, _, rfl, k2_bl, ?_⟩
      walk_at "d"
      refine ite_f (by decide) ?_
      walk_at "d"
      refine ite_f (fun z => nomatch (show false = true from z)) ?_
      walk_at "d"
      refine ite_f (by decide) ?_
      walk_at "d"
      refine ite_t (by decide) ?_
      refine ite_t (by decide) ?_
      walk_at "d"
      refine ite_t (by decide) ?_
      walk_at "d"
      refine ite_t (by decide) ?_
      walk_at "d"
      rw [show (id (decide (b = b)) : Bool) = true from decide_eq_true rfl]
      exact fin
    | _ => exact hd.elim
/-- nothing is promised at depth 0 -/
theorem ok_Lalike0 (at_ : At K mg "_law_alike" s_Lalike ["_law_found", "_law_due"]) : Fn P w K mg base "_law_alike" 0 ["_law_found", "_law_due"] (spAlike 0) := by
  have no : ∀ {vs : List V} {H : Hp} {Q : VK} {E : XK}, ¬ liftSp K (spAlike 0) vs H Q E := fun ⟨_, _, _, _, _, _, ⟨_, _, _, hd, _⟩, _⟩ => hd
  exact fn_at at_ fun f fd F => ⟨fun vs H Q E h => (no h).elim, fun _ _ _ _ _ _ _ _ _ _ _ _ _ h => (no h).elim⟩
end
abbrev s_Lword : Stmt := topS 49
abbrev N_Lword : List Str := ["_law_work", "_law_kinds", "_law_words", "_law_word_here", "e"]
theorem sc_Lword : FnScope N_Lword ["_law_work"] (defScope s_Lword) := ⟨rfl, rfl, rfl, by decide +kernel, rfl, by decide +kernel, by decide +kernel⟩
theorem cntW (j : Nat) (h : j < 15) : ([decide (0 = j), decide (1 = j), decide (2 = j), decide (3 = j), decide (4 = j), decide (5 = j), decide (6 = j), decide (7 = j), decide (8 = j), decide (9 = j), decide (10 = j), decide (11 = j), decide (12 = j), decide (13 = j), decide (14 = j)] : List Bool).count true = 1 := by
  rcases (show j = 0 ∨ j = 1 ∨ j = 2 ∨ j = 3 ∨ j = 4 ∨ j = 5 ∨ j = 6 ∨ j = 7 ∨ j = 8 ∨ j = 9 ∨ j = 10 ∨ j = 11 ∨ j = 12 ∨ j = 13 ∨ j = 14 by omega) with rfl | rfl | rfl | rfl | rfl | rfl | rfl | rfl | rfl | rfl | rfl | rfl | rfl | rfl | rfl <;> decide
theorem idxW (j : Nat) (h : j < 15) : ([decide (0 = j), decide (1 = j), decide (2 = j), decide (3 = j), decide (4 = j), decide (5 = j), decide (6 = j), decide (7 = j), decide (8 = j), decide (9 = j), decide (10 = j), decide (11 = j), decide (12 = j), decide (13 = j), decide (14 = j)] : List Bool)[j]? = some true ∧ ∀ m, m < j → ([decide (0 = j), decide (1 = j), decide (2 = j), decide (3 = j), decide (4 = j), decide (5 = j), decide (6 = j), decide (7 = j), decide (8 = j), decide (9 = j), decide (10 = j), decide (11 = j), decide (12 = j), decide (13 = j), decide (14 = j)] : List Bool)[m]? = some false := by
  refine ⟨?_, fun m hm => ?_⟩
  · rcases (show j = 0 ∨ j = 1 ∨ j = 2 ∨ j = 3 ∨ j = 4 ∨ j = 5 ∨ j = 6 ∨ j = 7 ∨ j = 8 ∨ j = 9 ∨ j = 10 ∨ j = 11 ∨ j = 12 ∨ j = 13 ∨ j = 14 by omega) with rfl | rfl | rfl | rfl | rfl | rfl | rfl | rfl | rfl | rfl | rfl | rfl | rfl | rfl | rfl <;> rfl
  · rcases (show m = 0 ∨ m = 1 ∨ m = 2 ∨ m = 3 ∨ m = 4 ∨ m = 5 ∨ m = 6 ∨ m = 7 ∨ m = 8 ∨ m = 9 ∨ m = 10 ∨ m = 11 ∨ m = 12 ∨ m = 13 ∨ m = 14 by omega) with rfl | rfl | rfl | rfl | rfl | rfl | rfl | rfl | rfl | rfl | rfl | rfl | rfl | rfl | rfl <;> (show some (decide (_ = j)) = _; rw [decide_eq_false (by omega)])
/-- where the classes stand -/
structure ClsAt (mg : Str → Option Value) (CS c_BadProgram c_BadCode c_BadHands c_BadOrder c_BadTrace c_BadPlan c_BadLog c_BadText c_BadRound c_BadRule c_BadCost c_NoHand c_NotMade c_NoRound c_Long : Addr) : Prop where
  sl : mg "SlideError" = some (.ref CS)
  m_BadProgram : mg "BadProgram" = some (.ref c_BadProgram)
  m_BadCode : mg "BadCode" = some (.ref c_BadCode)
  m_BadHands : mg "BadHands" = some (.ref c_BadHands)
  m_BadOrder : mg "BadOrder" = some (.ref c_BadOrder)
  m_BadTrace : mg "BadTrace" = some (.ref c_BadTrace)
  m_BadPlan : mg "BadPlan" = some (.ref c_BadPlan)
  m_BadLog : mg "BadLog" = some (.ref c_BadLog)
  m_BadText : mg "BadText" = some (.ref c_BadText)
  m_BadRound : mg "BadRound" = some (.ref c_BadRound)
  m_BadRule : mg "BadRule" = some (.ref c_BadRule)
  m_BadCost : mg "BadCost" = some (.ref c_BadCost)
  m_NoHand : mg "NoHand" = some (.ref c_NoHand)
  m_NotMade : mg "NotMade" = some (.ref c_NotMade)
  m_NoRound : mg "NoRound" = some (.ref c_NoRound)
  m_Long : mg "Long" = some (.ref c_Long)
theorem de_never {X : Cx} {W0 : Bs} {e : Expr} : DE X W0 e (fun _ _ _ => False) := ⟨fun _ _ _ _ _ _ ⟨_, _, _, _, _, _, _, h, _⟩ => h.elim⟩
abbrev suiteW : List Stmt := match defBody s_Lword with
  | [.Try _ [.ExceptHandler _ _ b _] _ _ _] => b
  | _ => []
abbrev cxW (P : Program) (w : World) (K : PySem.W.Frag) (mg : Str → Option Value) (base : Heap) (g : Addr) (cdg : Value) (A : Around) (outer : List Env) (s : Shared) (H : Hp) : Cx := (cxOf C8.CX0 P w K mg base N_Lword "_law_word" (defScope s_Lword) g cdg A outer s H C8.E0).nox
section
variable {P : Program} {w : World} {K : PySem.W.Frag} {mg : Str → Option Value} {base : Heap} {g a C CS c_BadProgram c_BadCode c_BadHands c_BadOrder c_BadTrace c_BadPlan c_BadLog c_BadText c_BadRound c_BadRule c_BadCost c_NoHand c_NotMade c_NoRound c_Long : Addr} {cdg : Value} {A : Around} {outer : List Env} {s : Shared} {H : Hp} {j : Nat} {oe : Obj} {d : Option Addr} {pn : List (Addr × Obj)} {fs : Fs} {y : D} {W0 : Bs}
theorem suite_A (hu : (cxW P w K mg base g cdg A outer s H).A.units + 64 < cLine) (mb : ∀ x, isB x = true → mg x = none) (ca : ClsAt mg CS c_BadProgram c_BadCode c_BadHands c_BadOrder c_BadTrace c_BadPlan c_BadLog c_BadText c_BadRound c_BadRule c_BadCost c_NoHand c_NotMade c_NoRound c_Long) (wf : WdC K [c_BadProgram, c_BadCode, c_BadHands, c_BadOrder, c_BadTrace, c_BadPlan, c_BadLog, c_BadText, c_BadRound, c_BadRule, c_BadCost, c_NoHand, c_NotMade, c_NoRound, c_Long] CS C j) (hz : Zc (.ref C) d oe) (hf : ∃ vs, oe.data = .fields vs) (hx : ExR K W0.W d fs) (hy : wordOf j fs = some y) (hj : j < 2) :
    ∃ T : DTS, DSs ((cxW P w K mg base g cdg A outer s H).suite a ((a, oe) :: pn)) W0 suiteW T ∧ ∀ S P', P' y S → T { nx := fun _ _ => False, rt := P' } [none, none, none, none, some (.adr a)] S := by
  have jl := wf.jl
  obtain ⟨_, m_BadProgram, m_BadCode, m_BadHands, m_BadOrder, m_BadTrace, m_BadPlan, m_BadLog, m_BadText, m_BadRound, m_BadRule, m_BadCost, m_NoHand, m_NotMade, m_NoRound, m_Long⟩ := ca
  obtain ⟨y1, y2, x, hk, hy_function, hy_row, rfl⟩ : ∃ y1 y2 x, kindsW[j]? = some x ∧ fs.lookup ("function" : Str) = some y1 ∧ fs.lookup ("row" : Str) = some y2 ∧ y = .tup [.str x, y1, y2] := by
    unfold wordOf at hy
    cases hk : kindsW[j]? with
    | none => rw [hk] at hy; cases hy
    | some x =>
      rw [hk] at hy
      have hy : formW j x fs = some y := hy
      unfold formW at hy
      rw [if_pos hj] at hy
      cases h1 : fs.lookup ("function" : Str) with
      | none => rw [h1] at hy; cases hy
      | some y1 =>
        cases h2 : fs.lookup ("row" : Str) with
        | none => rw [h1, h2] at hy; cases hy
        | some y2 => rw [h1, h2] at hy; cases hy; exact ⟨y1, y2, x, rfl, rfl, rfl, rfl⟩
  refine ⟨_, (dss_cons (ds_set (i := 1) (de_pure (dn_lst (da_cons (de_isE wf.ex hz hf hx.held (by rfl) (mb "isinstance" rfl) (da_cons (de_var (pv 4)) (da_cons (de_glob (v := .ref c_BadProgram) (d := .adr c_BadProgram) (by rfl) m_BadProgram rfl (fun _ => .adr _)) da_nil))) (da_cons (de_isE wf.ex hz hf hx.held (by rfl) (mb "isinstance" rfl) (da_cons (de_var (pv 4)) (da_cons (de_glob (v := .ref c_BadCode) (d := .adr c_BadCode) (by rfl) m_BadCode rfl (fun _ => .adr _)) da_nil))) (da_cons (de_isE wf.ex hz hf hx.held (by rfl) (mb "isinstance" rfl) (da_cons (de_var (pv 4)) (da_cons (de_glob (v := .ref c_BadHands) (d := .adr c_BadHands) (by rfl) m_BadHands rfl (fun _ => .adr _)) da_nil))) (da_cons (de_isE wf.ex hz hf hx.held (by rfl) (mb "isinstance" rfl) (da_cons (de_var (pv 4)) (da_cons (de_glob (v := .ref c_BadOrder) (d := .adr c_BadOrder) (by rfl) m_BadOrder rfl (fun _ => .adr _)) da_nil))) da_nil)))))) (fun h => ps_set sc_Lword.nd rfl (by first | exact Or.inl rfl | exact Or.inr rfl) h))
      (dss_cons (ds_set (i := 1) (de_pure (dn_add (de_var (pv 1)) (de_pure (dn_lst (da_cons (de_isE wf.ex hz hf hx.held (by rfl) (mb "isinstance" rfl) (da_cons (de_var (pv 4)) (da_cons (de_glob (v := .ref c_BadTrace) (d := .adr c_BadTrace) (by rfl) m_BadTrace rfl (fun _ => .adr _)) da_nil))) (da_cons (de_isE wf.ex hz hf hx.held (by rfl) (mb "isinstance" rfl) (da_cons (de_var (pv 4)) (da_cons (de_glob (v := .ref c_BadPlan) (d := .adr c_BadPlan) (by rfl) m_BadPlan rfl (fun _ => .adr _)) da_nil))) (da_cons (de_isE wf.ex hz hf hx.held (by rfl) (mb "isinstance" rfl) (da_cons (de_var (pv 4)) (da_cons (de_glob (v := .ref c_BadLog) (d := .adr c_BadLog) (by rfl) m_BadLog rfl (fun _ => .adr _)) da_nil))) (da_cons (de_isE wf.ex hz hf hx.held (by rfl) (mb "isinstance" rfl) (da_cons (de_var (pv 4)) (da_cons (de_glob (v := .ref c_BadText) (d := .adr c_BadText) (by rfl) m_BadText rfl (fun _ => .adr _)) da_nil))) da_nil)))))))) (fun h => ps_set sc_Lword.nd rfl (by first | exact Or.inl rfl | exact Or.inr rfl) h))
      (dss_cons (ds_set (i := 1) (de_pure (dn_add (de_var (pv 1)) (de_pure (dn_lst (da_cons (de_isE wf.ex hz hf hx.held (by rfl) (mb "isinstance" rfl) (da_cons (de_var (pv 4)) (da_cons (de_glob (v := .ref c_BadRound) (d := .adr c_BadRound) (by rfl) m_BadRound rfl (fun _ => .adr _)) da_nil))) (da_cons (de_isE wf.ex hz hf hx.held (by rfl) (mb "isinstance" rfl) (da_cons (de_var (pv 4)) (da_cons (de_glob (v := .ref c_BadRule) (d := .adr c_BadRule) (by rfl) m_BadRule rfl (fun _ => .adr _)) da_nil))) (da_cons (de_isE wf.ex hz hf hx.held (by rfl) (mb "isinstance" rfl) (da_cons (de_var (pv 4)) (da_cons (de_glob (v := .ref c_BadCost) (d := .adr c_BadCost) (by rfl) m_BadCost rfl (fun _ => .adr _)) da_nil))) (da_cons (de_isE wf.ex hz hf hx.held (by rfl) (mb "isinstance" rfl) (da_cons (de_var (pv 4)) (da_cons (de_glob (v := .ref c_NoHand) (d := .adr c_NoHand) (by rfl) m_NoHand rfl (fun _ => .adr _)) da_nil))) da_nil)))))))) (fun h => ps_set sc_Lword.nd rfl (by first | exact Or.inl rfl | exact Or.inr rfl) h))
      (dss_cons (ds_set (i := 1) (de_pure (dn_add (de_var (pv 1)) (de_pure (dn_lst (da_cons (de_isE wf.ex hz hf hx.held (by rfl) (mb "isinstance" rfl) (da_cons (de_var (pv 4)) (da_cons (de_glob (v := .ref c_NotMade) (d := .adr c_NotMade) (by rfl) m_NotMade rfl (fun _ => .adr _)) da_nil))) (da_cons (de_isE wf.ex hz hf hx.held (by rfl) (mb "isinstance" rfl) (da_cons (de_var (pv 4)) (da_cons (de_glob (v := .ref c_NoRound) (d := .adr c_NoRound) (by rfl) m_NoRound rfl (fun _ => .adr _)) da_nil))) (da_cons (de_isE wf.ex hz hf hx.held (by rfl) (mb "isinstance" rfl) (da_cons (de_var (pv 4)) (da_cons (de_glob (v := .ref c_Long) (d := .adr c_Long) (by rfl) m_Long rfl (fun _ => .adr _)) da_nil))) da_nil))))))) (fun h => ps_set sc_Lword.nd rfl (by first | exact Or.inl rfl | exact Or.inr rfl) h))
      (dss_cons (ds_set (i := 2) (de_pure (dn_lst (da_cons de_str (da_cons de_str (da_cons de_str (da_cons de_str (da_cons de_str (da_cons de_str (da_cons de_str (da_cons de_str da_nil)))))))))) (fun h => ps_set sc_Lword.nd rfl (by first | exact Or.inl rfl | exact Or.inr rfl) h))
      (dss_cons (ds_set (i := 2) (de_pure (dn_add (de_var (pv 2)) (de_pure (dn_lst (da_cons de_str (da_cons de_str (da_cons de_str (da_cons de_str (da_cons de_str (da_cons de_str (da_cons de_str da_nil))))))))))) (fun h => ps_set sc_Lword.nd rfl (by first | exact Or.inl rfl | exact Or.inr rfl) h))
      (dss_cons (ds_if (dt_w (dw_or (dt_cmp (op_neA hu) do_ne (de_cntB (fun h1 h2 => pe_bm PySem.F.plainAttrs_list PySem.F.slot_list_count PySem.F.type_list_count mt_cntF h1 h2) (de_var (pv 1))) de_int (nomark _)) (dw_or1 (dt_not (dt_val (de_isE wf.ex hz hf hx.held (by rfl) (mb "isinstance" rfl) (da_cons (de_var (pv 4)) (da_cons (de_bltn (n := "ValueError") (by rfl) (mb "ValueError" rfl) (by decide +kernel)) da_nil)))))))) (dss_one (ds_ret (de_tup (da_cons de_str da_nil)))) dss_nil)
      (dss_cons (ds_set (i := 3) (de_ix (de_var (pv 2)) (de_idxB (fun h1 h2 => pe_bm PySem.F.plainAttrs_list PySem.F.slot_list_index PySem.F.type_list_index mt_index h1 h2) (de_var (pv 1))) (fun _ _ => rfl)) (fun h => ps_set sc_Lword.nd rfl (by first | exact Or.inl rfl | exact Or.inr rfl) h))
      (dss_cons (ds_if (dt_w (dw_or (dt_val (de_ix (de_var (pv 1)) de_int (fun _ _ => rfl))) (dw_or1 (dt_val (de_ix (de_var (pv 1)) de_int (fun _ _ => rfl)))))) (dss_one (ds_ret (de_tup (da_cons (de_var (pv 3)) (da_cons (de_xf wf.xf wf.nf hz hf hx hy_function (pv 4)) (da_cons (de_xf wf.xf wf.nr hz hf hx hy_row (pv 4)) da_nil)))))) dss_nil)
      dss_never))))))))), ?_⟩
  intro S P' post
  walk_at "v"
  refine i_isE rfl (wf.is 0 _ rfl) ?_
  walk_at "v"
  refine i_isE rfl (wf.is 1 _ rfl) ?_
  walk_at "v"
  refine i_isE rfl (wf.is 2 _ rfl) ?_
  walk_at "v"
  refine i_isE rfl (wf.is 3 _ rfl) ?_
  walk_at "v"
  walk_at "e"
  refine i_isE rfl (wf.is 4 _ rfl) ?_
  walk_at "v"
  refine i_isE rfl (wf.is 5 _ rfl) ?_
  walk_at "v"
  refine i_isE rfl (wf.is 6 _ rfl) ?_
  walk_at "v"
  refine i_isE rfl (wf.is 7 _ rfl) ?_
  walk_at "v"
  walk_at "e"
  refine i_isE rfl (wf.is 8 _ rfl) ?_
  walk_at "v"
  refine i_isE rfl (wf.is 9 _ rfl) ?_
  walk_at "v"
  refine i_isE rfl (wf.is 10 _ rfl) ?_
  walk_at "v"
  refine i_isE rfl (wf.is 11 _ rfl) ?_
  walk_at "v"
  walk_at "e"
  refine i_isE rfl (wf.is 12 _ rfl) ?_
  walk_at "v"
  refine i_isE rfl (wf.is 13 _ rfl) ?_
  walk_at "v"
  refine i_isE rfl (wf.is 14 _ rfl) ?_
  walk_at "v"
  walk_at "e"
  refine i_cntB ?_
  walk_at "v"
  refine ⟨[decide (0 = j), decide (1 = j), decide (2 = j), decide (3 = j), decide (4 = j), decide (5 = j), decide (6 = j), decide (7 = j), decide (8 = j), decide (9 = j), decide (10 = j), decide (11 = j), decide (12 = j), decide (13 = j), decide (14 = j)], rfl, ?_⟩
  rw [cntW j jl]
  walk_at "v"
  refine ite_f (by decide) ?_
  walk_at "v"
  refine i_isE rfl wf.ve ?_
  walk_at "v"
  refine ite_f (by decide) ?_
  walk_at "v"
  refine i_idxB ?_
  walk_at "v"
  refine ⟨[decide (0 = j), decide (1 = j), decide (2 = j), decide (3 = j), decide (4 = j), decide (5 = j), decide (6 = j), decide (7 = j), decide (8 = j), decide (9 = j), decide (10 = j), decide (11 = j), decide (12 = j), decide (13 = j), decide (14 = j)], j, rfl, (idxW j jl).1, (idxW j jl).2, ?_⟩
  refine i_ix rfl (d := .str x) ?_ ?_
  · rcases (show j = 0 ∨ j = 1 ∨ j = 2 ∨ j = 3 ∨ j = 4 ∨ j = 5 ∨ j = 6 ∨ j = 7 ∨ j = 8 ∨ j = 9 ∨ j = 10 ∨ j = 11 ∨ j = 12 ∨ j = 13 ∨ j = 14 by omega) with rfl | rfl | rfl | rfl | rfl | rfl | rfl | rfl | rfl | rfl | rfl | rfl | rfl | rfl | rfl <;> (cases hk; rfl)
  walk_at "v"
  walk_at "e"
  walk_at "v"
  rcases (show j = 0 ∨ j = 1 by omega) with rfl | rfl
  · refine ite_t (by decide) ?_
    refine ite_t rfl ?_
    walk_at "v"
    refine ⟨rfl, ?_⟩
    refine ⟨rfl, ?_⟩
    walk_at "v"
    exact post
  · refine ite_f (by decide) ?_
    walk_at "v"
    refine ite_t (by decide) ?_
    walk_at "v"
    refine ⟨rfl, ?_⟩
    refine ⟨rfl, ?_⟩
    walk_at "v"
    exact post
theorem suite_B (hu : (cxW P w K mg base g cdg A outer s H).A.units + 64 < cLine) (mb : ∀ x, isB x = true → mg x = none) (ca : ClsAt mg CS c_BadProgram c_BadCode c_BadHands c_BadOrder c_BadTrace c_BadPlan c_BadLog c_BadText c_BadRound c_BadRule c_BadCost c_NoHand c_NotMade c_NoRound c_Long) (wf : WdC K [c_BadProgram, c_BadCode, c_BadHands, c_BadOrder, c_BadTrace, c_BadPlan, c_BadLog, c_BadText, c_BadRound, c_BadRule, c_BadCost, c_NoHand, c_NotMade, c_NoRound, c_Long] CS C j) (hz : Zc (.ref C) d oe) (hf : ∃ vs, oe.data = .fields vs) (hx : ExR K W0.W d fs) (hy : wordOf j fs = some y) (hj : 2 ≤ j ∧ j < 7) :
    ∃ T : DTS, DSs ((cxW P w K mg base g cdg A outer s H).suite a ((a, oe) :: pn)) W0 suiteW T ∧ ∀ S P', P' y S → T { nx := fun _ _ => False, rt := P' } [none, none, none, none, some (.adr a)] S := by
  have jl := wf.jl
  obtain ⟨_, m_BadProgram, m_BadCode, m_BadHands, m_BadOrder, m_BadTrace, m_BadPlan, m_BadLog, m_BadText, m_BadRound, m_BadRule, m_BadCost, m_NoHand, m_NotMade, m_NoRound, m_Long⟩ := ca
  obtain ⟨y1, x, hk, hy_at, rfl⟩ : ∃ y1 x, kindsW[j]? = some x ∧ fs.lookup ("at" : Str) = some y1 ∧ y = .tup [.str x, y1] := by
    unfold wordOf at hy
    cases hk : kindsW[j]? with
    | none => rw [hk] at hy; cases hy
    | some x =>
      rw [hk] at hy
      have hy : formW j x fs = some y := hy
      unfold formW at hy
      rw [if_neg (by omega), if_pos (by omega)] at hy
      cases h1 : fs.lookup ("at" : Str) with
      | none => rw [h1] at hy; cases hy
      | some y1 => rw [h1] at hy; cases hy; exact ⟨y1, x, rfl, rfl, rfl⟩
  refine ⟨_, (dss_cons (ds_set (i := 1) (de_pure (dn_lst (da_cons (de_isE wf.ex hz hf hx.held (by rfl) (mb "isinstance" rfl) (da_cons (de_var (pv 4)) (da_cons (de_glob (v := .ref c_BadProgram) (d := .adr c_BadProgram) (by rfl) m_BadProgram rfl (fun _ => .adr _)) da_nil))) (da_cons (de_isE wf.ex hz hf hx.held (by rfl) (mb "isinstance" rfl) (da_cons (de_var (pv 4)) (da_cons (de_glob (v := .ref c_BadCode) (d := .adr c_BadCode) (by rfl) m_BadCode rfl (fun _ => .adr _)) da_nil))) (da_cons (de_isE wf.ex hz hf hx.held (by rfl) (mb "isinstance" rfl) (da_cons (de_var (pv 4)) (da_cons (de_glob (v := .ref c_BadHands) (d := .adr c_BadHands) (by rfl) m_BadHands rfl (fun _ => .adr _)) da_nil))) (da_cons (de_isE wf.ex hz hf hx.held (by rfl) (mb "isinstance" rfl) (da_cons (de_var (pv 4)) (da_cons (de_glob (v := .ref c_BadOrder) (d := .adr c_BadOrder) (by rfl) m_BadOrder rfl (fun _ => .adr _)) da_nil))) da_nil)))))) (fun h => ps_set sc_Lword.nd rfl (by first | exact Or.inl rfl | exact Or.inr rfl) h))
      (dss_cons (ds_set (i := 1) (de_pure (dn_add (de_var (pv 1)) (de_pure (dn_lst (da_cons (de_isE wf.ex hz hf hx.held (by rfl) (mb "isinstance" rfl) (da_cons (de_var (pv 4)) (da_cons (de_glob (v := .ref c_BadTrace) (d := .adr c_BadTrace) (by rfl) m_BadTrace rfl (fun _ => .adr _)) da_nil))) (da_cons (de_isE wf.ex hz hf hx.held (by rfl) (mb "isinstance" rfl) (da_cons (de_var (pv 4)) (da_cons (de_glob (v := .ref c_BadPlan) (d := .adr c_BadPlan) (by rfl) m_BadPlan rfl (fun _ => .adr _)) da_nil))) (da_cons (de_isE wf.ex hz hf hx.held (by rfl) (mb "isinstance" rfl) (da_cons (de_var (pv 4)) (da_cons (de_glob (v := .ref c_BadLog) (d := .adr c_BadLog) (by rfl) m_BadLog rfl (fun _ => .adr _)) da_nil))) (da_cons (de_isE wf.ex hz hf hx.held (by rfl) (mb "isinstance" rfl) (da_cons (de_var (pv 4)) (da_cons (de_glob (v := .ref c_BadText) (d := .adr c_BadText) (by rfl) m_BadText rfl (fun _ => .adr _)) da_nil))) da_nil)))))))) (fun h => ps_set sc_Lword.nd rfl (by first | exact Or.inl rfl | exact Or.inr rfl) h))
      (dss_cons (ds_set (i := 1) (de_pure (dn_add (de_var (pv 1)) (de_pure (dn_lst (da_cons (de_isE wf.ex hz hf hx.held (by rfl) (mb "isinstance" rfl) (da_cons (de_var (pv 4)) (da_cons (de_glob (v := .ref c_BadRound) (d := .adr c_BadRound) (by rfl) m_BadRound rfl (fun _ => .adr _)) da_nil))) (da_cons (de_isE wf.ex hz hf hx.held (by rfl) (mb "isinstance" rfl) (da_cons (de_var (pv 4)) (da_cons (de_glob (v := .ref c_BadRule) (d := .adr c_BadRule) (by rfl) m_BadRule rfl (fun _ => .adr _)) da_nil))) (da_cons (de_isE wf.ex hz hf hx.held (by rfl) (mb "isinstance" rfl) (da_cons (de_var (pv 4)) (da_cons (de_glob (v := .ref c_BadCost) (d := .adr c_BadCost) (by rfl) m_BadCost rfl (fun _ => .adr _)) da_nil))) (da_cons (de_isE wf.ex hz hf hx.held (by rfl) (mb "isinstance" rfl) (da_cons (de_var (pv 4)) (da_cons (de_glob (v := .ref c_NoHand) (d := .adr c_NoHand) (by rfl) m_NoHand rfl (fun _ => .adr _)) da_nil))) da_nil)))))))) (fun h => ps_set sc_Lword.nd rfl (by first | exact Or.inl rfl | exact Or.inr rfl) h))
      (dss_cons (ds_set (i := 1) (de_pure (dn_add (de_var (pv 1)) (de_pure (dn_lst (da_cons (de_isE wf.ex hz hf hx.held (by rfl) (mb "isinstance" rfl) (da_cons (de_var (pv 4)) (da_cons (de_glob (v := .ref c_NotMade) (d := .adr c_NotMade) (by rfl) m_NotMade rfl (fun _ => .adr _)) da_nil))) (da_cons (de_isE wf.ex hz hf hx.held (by rfl) (mb "isinstance" rfl) (da_cons (de_var (pv 4)) (da_cons (de_glob (v := .ref c_NoRound) (d := .adr c_NoRound) (by rfl) m_NoRound rfl (fun _ => .adr _)) da_nil))) (da_cons (de_isE wf.ex hz hf hx.held (by rfl) (mb "isinstance" rfl) (da_cons (de_var (pv 4)) (da_cons (de_glob (v := .ref c_Long) (d := .adr c_Long) (by rfl) m_Long rfl (fun _ => .adr _)) da_nil))) da_nil))))))) (fun h => ps_set sc_Lword.nd rfl (by first | exact Or.inl rfl | exact Or.inr rfl) h))
      (dss_cons (ds_set (i := 2) (de_pure (dn_lst (da_cons de_str (da_cons de_str (da_cons de_str (da_cons de_str (da_cons de_str (da_cons de_str (da_cons de_str (da_cons de_str da_nil)))))))))) (fun h => ps_set sc_Lword.nd rfl (by first | exact Or.inl rfl | exact Or.inr rfl) h))
      (dss_cons (ds_set (i := 2) (de_pure (dn_add (de_var (pv 2)) (de_pure (dn_lst (da_cons de_str (da_cons de_str (da_cons de_str (da_cons de_str (da_cons de_str (da_cons de_str (da_cons de_str da_nil))))))))))) (fun h => ps_set sc_Lword.nd rfl (by first | exact Or.inl rfl | exact Or.inr rfl) h))
      (dss_cons (ds_if (dt_w (dw_or (dt_cmp (op_neA hu) do_ne (de_cntB (fun h1 h2 => pe_bm PySem.F.plainAttrs_list PySem.F.slot_list_count PySem.F.type_list_count mt_cntF h1 h2) (de_var (pv 1))) de_int (nomark _)) (dw_or1 (dt_not (dt_val (de_isE wf.ex hz hf hx.held (by rfl) (mb "isinstance" rfl) (da_cons (de_var (pv 4)) (da_cons (de_bltn (n := "ValueError") (by rfl) (mb "ValueError" rfl) (by decide +kernel)) da_nil)))))))) (dss_one (ds_ret (de_tup (da_cons de_str da_nil)))) dss_nil)
      (dss_cons (ds_set (i := 3) (de_ix (de_var (pv 2)) (de_idxB (fun h1 h2 => pe_bm PySem.F.plainAttrs_list PySem.F.slot_list_index PySem.F.type_list_index mt_index h1 h2) (de_var (pv 1))) (fun _ _ => rfl)) (fun h => ps_set sc_Lword.nd rfl (by first | exact Or.inl rfl | exact Or.inr rfl) h))
      (dss_cons (ds_if (dt_w (dw_or (dt_val (de_ix (de_var (pv 1)) de_int (fun _ _ => rfl))) (dw_or1 (dt_val (de_ix (de_var (pv 1)) de_int (fun _ _ => rfl)))))) (dss_one ds_never) dss_nil)
      (dss_cons (ds_if (dt_cmp op_in_seq do_in de_bl (de_pure (dn_slice (de_var (pv 1)) (do_some de_int) (do_some de_int))) (by rfl)) (dss_one (ds_ret (de_tup (da_cons (de_var (pv 3)) (da_cons (de_xf wf.xf wf.na hz hf hx hy_at (pv 4)) da_nil))))) dss_nil)
      dss_never)))))))))), ?_⟩
  intro S P' post
  walk_at "v"
  refine i_isE rfl (wf.is 0 _ rfl) ?_
  walk_at "v"
  refine i_isE rfl (wf.is 1 _ rfl) ?_
  walk_at "v"
  refine i_isE rfl (wf.is 2 _ rfl) ?_
  walk_at "v"
  refine i_isE rfl (wf.is 3 _ rfl) ?_
  walk_at "v"
  walk_at "e"
  refine i_isE rfl (wf.is 4 _ rfl) ?_
  walk_at "v"
  refine i_isE rfl (wf.is 5 _ rfl) ?_
  walk_at "v"
  refine i_isE rfl (wf.is 6 _ rfl) ?_
  walk_at "v"
  refine i_isE rfl (wf.is 7 _ rfl) ?_
  walk_at "v"
  walk_at "e"
  refine i_isE rfl (wf.is 8 _ rfl) ?_
  walk_at "v"
  refine i_isE rfl (wf.is 9 _ rfl) ?_
  walk_at "v"
  refine i_isE rfl (wf.is 10 _ rfl) ?_
  walk_at "v"
  refine i_isE rfl (wf.is 11 _ rfl) ?_
  walk_at "v"
  walk_at "e"
  refine i_isE rfl (wf.is 12 _ rfl) ?_
  walk_at "v"
  refine i_isE rfl (wf.is 13 _ rfl) ?_
  walk_at "v"
  refine i_isE rfl (wf.is 14 _ rfl) ?_
  walk_at "v"
  walk_at "e"
  refine i_cntB ?_
  walk_at "v"
  refine ⟨[decide (0 = j), decide (1 = j), decide (2 = j), decide (3 = j), decide (4 = j), decide (5 = j), decide (6 = j), decide (7 = j), decide (8 = j), decide (9 = j), decide (10 = j), decide (11 = j), decide (12 = j), decide (13 = j), decide (14 = j)], rfl, ?_⟩
  rw [cntW j jl]
  walk_at "v"
  refine ite_f (by decide) ?_
  walk_at "v"
  refine i_isE rfl wf.ve ?_
  walk_at "v"
  refine ite_f (by decide) ?_
  walk_at "v"
  refine i_idxB ?_
  walk_at "v"
  refine ⟨[decide (0 = j), decide (1 = j), decide (2 = j), decide (3 = j), decide (4 = j), decide (5 = j), decide (6 = j), decide (7 = j), decide (8 = j), decide (9 = j), decide (10 = j), decide (11 = j), decide (12 = j), decide (13 = j), decide (14 = j)], j, rfl, (idxW j jl).1, (idxW j jl).2, ?_⟩
  refine i_ix rfl (d := .str x) ?_ ?_
  · rcases (show j = 0 ∨ j = 1 ∨ j = 2 ∨ j = 3 ∨ j = 4 ∨ j = 5 ∨ j = 6 ∨ j = 7 ∨ j = 8 ∨ j = 9 ∨ j = 10 ∨ j = 11 ∨ j = 12 ∨ j = 13 ∨ j = 14 by omega) with rfl | rfl | rfl | rfl | rfl | rfl | rfl | rfl | rfl | rfl | rfl | rfl | rfl | rfl | rfl <;> (cases hk; rfl)
  walk_at "v"
  walk_at "e"
  walk_at "v"
  refine ite_f (by rw [decide_eq_false (by omega)]; decide) ?_
  walk_at "v"
  refine ite_f (by rw [decide_eq_false (by omega)]; decide) ?_
  walk_at "v"
  refine i_in rfl rfl rfl ?_
  walk_at "v"
  refine ite_t ?_ ?_
  · rcases (show j = 2 ∨ j = 3 ∨ j = 4 ∨ j = 5 ∨ j = 6 by omega) with rfl | rfl | rfl | rfl | rfl <;> decide
  walk_at "v"
  refine ⟨rfl, ?_⟩
  walk_at "v"
  exact post
theorem suite_C (hu : (cxW P w K mg base g cdg A outer s H).A.units + 64 < cLine) (mb : ∀ x, isB x = true → mg x = none) (ca : ClsAt mg CS c_BadProgram c_BadCode c_BadHands c_BadOrder c_BadTrace c_BadPlan c_BadLog c_BadText c_BadRound c_BadRule c_BadCost c_NoHand c_NotMade c_NoRound c_Long) (wf : WdC K [c_BadProgram, c_BadCode, c_BadHands, c_BadOrder, c_BadTrace, c_BadPlan, c_BadLog, c_BadText, c_BadRound, c_BadRule, c_BadCost, c_NoHand, c_NotMade, c_NoRound, c_Long] CS C j) (hz : Zc (.ref C) d oe) (hf : ∃ vs, oe.data = .fields vs) (hx : ExR K W0.W d fs) (hy : wordOf j fs = some y) (hj : j = 7) :
    ∃ T : DTS, DSs ((cxW P w K mg base g cdg A outer s H).suite a ((a, oe) :: pn)) W0 suiteW T ∧ ∀ S P', P' y S → T { nx := fun _ _ => False, rt := P' } [none, none, none, none, some (.adr a)] S := by
  have jl := wf.jl
  obtain ⟨_, m_BadProgram, m_BadCode, m_BadHands, m_BadOrder, m_BadTrace, m_BadPlan, m_BadLog, m_BadText, m_BadRound, m_BadRule, m_BadCost, m_NoHand, m_NotMade, m_NoRound, m_Long⟩ := ca
  obtain ⟨y1, x, hk, hy_row, rfl⟩ : ∃ y1 x, kindsW[j]? = some x ∧ fs.lookup ("row" : Str) = some y1 ∧ y = .tup [.str x, y1] := by
    unfold wordOf at hy
    cases hk : kindsW[j]? with
    | none => rw [hk] at hy; cases hy
    | some x =>
      rw [hk] at hy
      have hy : formW j x fs = some y := hy
      unfold formW at hy
      rw [if_neg (by omega), if_neg (by omega), if_pos hj] at hy
      cases h1 : fs.lookup ("row" : Str) with
      | none => rw [h1] at hy; cases hy
      | some y1 => rw [h1] at hy; cases hy; exact ⟨y1, x, rfl, rfl, rfl⟩
  refine ⟨_, (dss_cons (ds_set (i := 1) (de_pure (dn_lst (da_cons (de_isE wf.ex hz hf hx.held (by rfl) (mb "isinstance" rfl) (da_cons (de_var (pv 4)) (da_cons (de_glob (v := .ref c_BadProgram) (d := .adr c_BadProgram) (by rfl) m_BadProgram rfl (fun _ => .adr _)) da_nil))) (da_cons (de_isE wf.ex hz hf hx.held (by rfl) (mb "isinstance" rfl) (da_cons (de_var (pv 4)) (da_cons (de_glob (v := .ref c_BadCode) (d := .adr c_BadCode) (by rfl) m_BadCode rfl (fun _ => .adr _)) da_nil))) (da_cons (de_isE wf.ex hz hf hx.held (by rfl) (mb "isinstance" rfl) (da_cons (de_var (pv 4)) (da_cons (de_glob (v := .ref c_BadHands) (d := .adr c_BadHands) (by rfl) m_BadHands rfl (fun _ => .adr _)) da_nil))) (da_cons (de_isE wf.ex hz hf hx.held (by rfl) (mb "isinstance" rfl) (da_cons (de_var (pv 4)) (da_cons (de_glob (v := .ref c_BadOrder) (d := .adr c_BadOrder) (by rfl) m_BadOrder rfl (fun _ => .adr _)) da_nil))) da_nil)))))) (fun h => ps_set sc_Lword.nd rfl (by first | exact Or.inl rfl | exact Or.inr rfl) h))
      (dss_cons (ds_set (i := 1) (de_pure (dn_add (de_var (pv 1)) (de_pure (dn_lst (da_cons (de_isE wf.ex hz hf hx.held (by rfl) (mb "isinstance" rfl) (da_cons (de_var (pv 4)) (da_cons (de_glob (v := .ref c_BadTrace) (d := .adr c_BadTrace) (by rfl) m_BadTrace rfl (fun _ => .adr _)) da_nil))) (da_cons (de_isE wf.ex hz hf hx.held (by rfl) (mb "isinstance" rfl) (da_cons (de_var (pv 4)) (da_cons (de_glob (v := .ref c_BadPlan) (d := .adr c_BadPlan) (by rfl) m_BadPlan rfl (fun _ => .adr _)) da_nil))) (da_cons (de_isE wf.ex hz hf hx.held (by rfl) (mb "isinstance" rfl) (da_cons (de_var (pv 4)) (da_cons (de_glob (v := .ref c_BadLog) (d := .adr c_BadLog) (by rfl) m_BadLog rfl (fun _ => .adr _)) da_nil))) (da_cons (de_isE wf.ex hz hf hx.held (by rfl) (mb "isinstance" rfl) (da_cons (de_var (pv 4)) (da_cons (de_glob (v := .ref c_BadText) (d := .adr c_BadText) (by rfl) m_BadText rfl (fun _ => .adr _)) da_nil))) da_nil)))))))) (fun h => ps_set sc_Lword.nd rfl (by first | exact Or.inl rfl | exact Or.inr rfl) h))
      (dss_cons (ds_set (i := 1) (de_pure (dn_add (de_var (pv 1)) (de_pure (dn_lst (da_cons (de_isE wf.ex hz hf hx.held (by rfl) (mb "isinstance" rfl) (da_cons (de_var (pv 4)) (da_cons (de_glob (v := .ref c_BadRound) (d := .adr c_BadRound) (by rfl) m_BadRound rfl (fun _ => .adr _)) da_nil))) (da_cons (de_isE wf.ex hz hf hx.held (by rfl) (mb "isinstance" rfl) (da_cons (de_var (pv 4)) (da_cons (de_glob (v := .ref c_BadRule) (d := .adr c_BadRule) (by rfl) m_BadRule rfl (fun _ => .adr _)) da_nil))) (da_cons (de_isE wf.ex hz hf hx.held (by rfl) (mb "isinstance" rfl) (da_cons (de_var (pv 4)) (da_cons (de_glob (v := .ref c_BadCost) (d := .adr c_BadCost) (by rfl) m_BadCost rfl (fun _ => .adr _)) da_nil))) (da_cons (de_isE wf.ex hz hf hx.held (by rfl) (mb "isinstance" rfl) (da_cons (de_var (pv 4)) (da_cons (de_glob (v := .ref c_NoHand) (d := .adr c_NoHand) (by rfl) m_NoHand rfl (fun _ => .adr _)) da_nil))) da_nil)))))))) (fun h => ps_set sc_Lword.nd rfl (by first | exact Or.inl rfl | exact Or.inr rfl) h))
      (dss_cons (ds_set (i := 1) (de_pure (dn_add (de_var (pv 1)) (de_pure (dn_lst (da_cons (de_isE wf.ex hz hf hx.held (by rfl) (mb "isinstance" rfl) (da_cons (de_var (pv 4)) (da_cons (de_glob (v := .ref c_NotMade) (d := .adr c_NotMade) (by rfl) m_NotMade rfl (fun _ => .adr _)) da_nil))) (da_cons (de_isE wf.ex hz hf hx.held (by rfl) (mb "isinstance" rfl) (da_cons (de_var (pv 4)) (da_cons (de_glob (v := .ref c_NoRound) (d := .adr c_NoRound) (by rfl) m_NoRound rfl (fun _ => .adr _)) da_nil))) (da_cons (de_isE wf.ex hz hf hx.held (by rfl) (mb "isinstance" rfl) (da_cons (de_var (pv 4)) (da_cons (de_glob (v := .ref c_Long) (d := .adr c_Long) (by rfl) m_Long rfl (fun _ => .adr _)) da_nil))) da_nil))))))) (fun h => ps_set sc_Lword.nd rfl (by first | exact Or.inl rfl | exact Or.inr rfl) h))
      (dss_cons (ds_set (i := 2) (de_pure (dn_lst (da_cons de_str (da_cons de_str (da_cons de_str (da_cons de_str (da_cons de_str (da_cons de_str (da_cons de_str (da_cons de_str da_nil)))))))))) (fun h => ps_set sc_Lword.nd rfl (by first | exact Or.inl rfl | exact Or.inr rfl) h))
      (dss_cons (ds_set (i := 2) (de_pure (dn_add (de_var (pv 2)) (de_pure (dn_lst (da_cons de_str (da_cons de_str (da_cons de_str (da_cons de_str (da_cons de_str (da_cons de_str (da_cons de_str da_nil))))))))))) (fun h => ps_set sc_Lword.nd rfl (by first | exact Or.inl rfl | exact Or.inr rfl) h))
      (dss_cons (ds_if (dt_w (dw_or (dt_cmp (op_neA hu) do_ne (de_cntB (fun h1 h2 => pe_bm PySem.F.plainAttrs_list PySem.F.slot_list_count PySem.F.type_list_count mt_cntF h1 h2) (de_var (pv 1))) de_int (nomark _)) (dw_or1 (dt_not (dt_val (de_isE wf.ex hz hf hx.held (by rfl) (mb "isinstance" rfl) (da_cons (de_var (pv 4)) (da_cons (de_bltn (n := "ValueError") (by rfl) (mb "ValueError" rfl) (by decide +kernel)) da_nil)))))))) (dss_one (ds_ret (de_tup (da_cons de_str da_nil)))) dss_nil)
      (dss_cons (ds_set (i := 3) (de_ix (de_var (pv 2)) (de_idxB (fun h1 h2 => pe_bm PySem.F.plainAttrs_list PySem.F.slot_list_index PySem.F.type_list_index mt_index h1 h2) (de_var (pv 1))) (fun _ _ => rfl)) (fun h => ps_set sc_Lword.nd rfl (by first | exact Or.inl rfl | exact Or.inr rfl) h))
      (dss_cons (ds_if (dt_w (dw_or (dt_val (de_ix (de_var (pv 1)) de_int (fun _ _ => rfl))) (dw_or1 (dt_val (de_ix (de_var (pv 1)) de_int (fun _ _ => rfl)))))) (dss_one ds_never) dss_nil)
      (dss_cons (ds_if (dt_cmp op_in_seq do_in de_bl (de_pure (dn_slice (de_var (pv 1)) (do_some de_int) (do_some de_int))) (by rfl)) (dss_one ds_never) dss_nil)
      (dss_one (ds_ret (de_if (dt_val (de_ix (de_var (pv 1)) de_int (fun _ _ => rfl))) (de_tup (da_cons (de_var (pv 3)) (da_cons (de_xf wf.xf wf.nr hz hf hx hy_row (pv 4)) da_nil))) (de_tup (da_cons (de_var (pv 3)) da_nil))))))))))))))), ?_⟩
  intro S P' post
  walk_at "v"
  refine i_isE rfl (wf.is 0 _ rfl) ?_
  walk_at "v"
  refine i_isE rfl (wf.is 1 _ rfl) ?_
  walk_at "v"
  refine i_isE rfl (wf.is 2 _ rfl) ?_
  walk_at "v"
  refine i_isE rfl (wf.is 3 _ rfl) ?_
  walk_at "v"
  walk_at "e"
  refine i_isE rfl (wf.is 4 _ rfl) ?_
  walk_at "v"
  refine i_isE rfl (wf.is 5 _ rfl) ?_
  walk_at "v"
  refine i_isE rfl (wf.is 6 _ rfl) ?_
  walk_at "v"
  refine i_isE rfl (wf.is 7 _ rfl) ?_
  walk_at "v"
  walk_at "e"
  refine i_isE rfl (wf.is 8 _ rfl) ?_
  walk_at "v"
  refine i_isE rfl (wf.is 9 _ rfl) ?_
  walk_at "v"
  refine i_isE rfl (wf.is 10 _ rfl) ?_
  walk_at "v"
  refine i_isE rfl (wf.is 11 _ rfl) ?_
  walk_at "v"
  walk_at "e"
  refine i_isE rfl (wf.is 12 _ rfl) ?_
  walk_at "v"
  refine i_isE rfl (wf.is 13 _ rfl) ?_
  walk_at "v"
  refine i_isE rfl (wf.is 14 _ rfl) ?_
  walk_at "v"
  walk_at "e"
  refine i_cntB ?_
  walk_at "v"
  refine ⟨[decide (0 = j), decide (1 = j), decide (2 = j), decide (3 = j), decide (4 = j), decide (5 = j), decide (6 = j), decide (7 = j), decide (8 = j), decide (9 = j), decide (10 = j), decide (11 = j), decide (12 = j), decide (13 = j), decide (14 = j)], rfl, ?_⟩
  rw [cntW j jl]
  walk_at "v"
  refine ite_f (by decide) ?_
  walk_at "v"
  refine i_isE rfl wf.ve ?_
  walk_at "v"
  refine ite_f (by decide) ?_
  walk_at "v"
  refine i_idxB ?_
  walk_at "v"
  refine ⟨[decide (0 = j), decide (1 = j), decide (2 = j), decide (3 = j), decide (4 = j), decide (5 = j), decide (6 = j), decide (7 = j), decide (8 = j), decide (9 = j), decide (10 = j), decide (11 = j), decide (12 = j), decide (13 = j), decide (14 = j)], j, rfl, (idxW j jl).1, (idxW j jl).2, ?_⟩
  refine i_ix rfl (d := .str x) ?_ ?_
  · rcases (show j = 0 ∨ j = 1 ∨ j = 2 ∨ j = 3 ∨ j = 4 ∨ j = 5 ∨ j = 6 ∨ j = 7 ∨ j = 8 ∨ j = 9 ∨ j = 10 ∨ j = 11 ∨ j = 12 ∨ j = 13 ∨ j = 14 by omega) with rfl | rfl | rfl | rfl | rfl | rfl | rfl | rfl | rfl | rfl | rfl | rfl | rfl | rfl | rfl <;> (cases hk; rfl)
  walk_at "v"
  walk_at "e"
  walk_at "v"
  subst hj
  refine ite_f (by decide) ?_
  walk_at "v"
  refine ite_f (by decide) ?_
  walk_at "v"
  refine i_in rfl rfl rfl ?_
  walk_at "v"
  refine ite_f (by decide) ?_
  walk_at "v"
  refine ite_t (by decide) ?_
  walk_at "v"
  refine ⟨rfl, ?_⟩
  walk_at "v"
  exact post
theorem suite_D (hu : (cxW P w K mg base g cdg A outer s H).A.units + 64 < cLine) (mb : ∀ x, isB x = true → mg x = none) (ca : ClsAt mg CS c_BadProgram c_BadCode c_BadHands c_BadOrder c_BadTrace c_BadPlan c_BadLog c_BadText c_BadRound c_BadRule c_BadCost c_NoHand c_NotMade c_NoRound c_Long) (wf : WdC K [c_BadProgram, c_BadCode, c_BadHands, c_BadOrder, c_BadTrace, c_BadPlan, c_BadLog, c_BadText, c_BadRound, c_BadRule, c_BadCost, c_NoHand, c_NotMade, c_NoRound, c_Long] CS C j) (hz : Zc (.ref C) d oe) (hf : ∃ vs, oe.data = .fields vs) (hx : ExR K W0.W d fs) (hy : wordOf j fs = some y) (hj : 8 ≤ j) :
    ∃ T : DTS, DSs ((cxW P w K mg base g cdg A outer s H).suite a ((a, oe) :: pn)) W0 suiteW T ∧ ∀ S P', P' y S → T { nx := fun _ _ => False, rt := P' } [none, none, none, none, some (.adr a)] S := by
  have jl := wf.jl
  obtain ⟨_, m_BadProgram, m_BadCode, m_BadHands, m_BadOrder, m_BadTrace, m_BadPlan, m_BadLog, m_BadText, m_BadRound, m_BadRule, m_BadCost, m_NoHand, m_NotMade, m_NoRound, m_Long⟩ := ca
  obtain ⟨x, hk, rfl⟩ : ∃ x, kindsW[j]? = some x ∧ y = .tup [.str x] := by
    unfold wordOf at hy
    cases hk : kindsW[j]? with
    | none => rw [hk] at hy; cases hy
    | some x =>
      rw [hk] at hy
      have hy : formW j x fs = some y := hy
      unfold formW at hy
      rw [if_neg (by omega), if_neg (by omega), if_neg (by omega)] at hy
      cases hy
      exact ⟨x, rfl, rfl⟩
  refine ⟨_, (dss_cons (ds_set (i := 1) (de_pure (dn_lst (da_cons (de_isE wf.ex hz hf hx.held (by rfl) (mb "isinstance" rfl) (da_cons (de_var (pv 4)) (da_cons (de_glob (v := .ref c_BadProgram) (d := .adr c_BadProgram) (by rfl) m_BadProgram rfl (fun _ => .adr _)) da_nil))) (da_cons (de_isE wf.ex hz hf hx.held (by rfl) (mb "isinstance" rfl) (da_cons (de_var (pv 4)) (da_cons (de_glob (v := .ref c_BadCode) (d := .adr c_BadCode) (by rfl) m_BadCode rfl (fun _ => .adr _)) da_nil))) (da_cons (de_isE wf.ex hz hf hx.held (by rfl) (mb "isinstance" rfl) (da_cons (de_var (pv 4)) (da_cons (de_glob (v := .ref c_BadHands) (d := .adr c_BadHands) (by rfl) m_BadHands rfl (fun _ => .adr _)) da_nil))) (da_cons (de_isE wf.ex hz hf hx.held (by rfl) (mb "isinstance" rfl) (da_cons (de_var (pv 4)) (da_cons (de_glob (v := .ref c_BadOrder) (d := .adr c_BadOrder) (by rfl) m_BadOrder rfl (fun _ => .adr _)) da_nil))) da_nil)))))) (fun h => ps_set sc_Lword.nd rfl (by first | exact Or.inl rfl | exact Or.inr rfl) h))
      (dss_cons (ds_set (i := 1) (de_pure (dn_add (de_var (pv 1)) (de_pure (dn_lst (da_cons (de_isE wf.ex hz hf hx.held (by rfl) (mb "isinstance" rfl) (da_cons (de_var (pv 4)) (da_cons (de_glob (v := .ref c_BadTrace) (d := .adr c_BadTrace) (by rfl) m_BadTrace rfl (fun _ => .adr _)) da_nil))) (da_cons (de_isE wf.ex hz hf hx.held (by rfl) (mb "isinstance" rfl) (da_cons (de_var (pv 4)) (da_cons (de_glob (v := .ref c_BadPlan) (d := .adr c_BadPlan) (by rfl) m_BadPlan rfl (fun _ => .adr _)) da_nil))) (da_cons (de_isE wf.ex hz hf hx.held (by rfl) (mb "isinstance" rfl) (da_cons (de_var (pv 4)) (da_cons (de_glob (v := .ref c_BadLog) (d := .adr c_BadLog) (by rfl) m_BadLog rfl (fun _ => .adr _)) da_nil))) (da_cons (de_isE wf.ex hz hf hx.held (by rfl) (mb "isinstance" rfl) (da_cons (de_var (pv 4)) (da_cons (de_glob (v := .ref c_BadText) (d := .adr c_BadText) (by rfl) m_BadText rfl (fun _ => .adr _)) da_nil))) da_nil)))))))) (fun h => ps_set sc_Lword.nd rfl (by first | exact Or.inl rfl | exact Or.inr rfl) h))
      (dss_cons (ds_set (i := 1) (de_pure (dn_add (de_var (pv 1)) (de_pure (dn_lst (da_cons (de_isE wf.ex hz hf hx.held (by rfl) (mb "isinstance" rfl) (da_cons (de_var (pv 4)) (da_cons (de_glob (v := .ref c_BadRound) (d := .adr c_BadRound) (by rfl) m_BadRound rfl (fun _ => .adr _)) da_nil))) (da_cons (de_isE wf.ex hz hf hx.held (by rfl) (mb "isinstance" rfl) (da_cons (de_var (pv 4)) (da_cons (de_glob (v := .ref c_BadRule) (d := .adr c_BadRule) (by rfl) m_BadRule rfl (fun _ => .adr _)) da_nil))) (da_cons (de_isE wf.ex hz hf hx.held (by rfl) (mb "isinstance" rfl) (da_cons (de_var (pv 4)) (da_cons (de_glob (v := .ref c_BadCost) (d := .adr c_BadCost) (by rfl) m_BadCost rfl (fun _ => .adr _)) da_nil))) (da_cons (de_isE wf.ex hz hf hx.held (by rfl) (mb "isinstance" rfl) (da_cons (de_var (pv 4)) (da_cons (de_glob (v := .ref c_NoHand) (d := .adr c_NoHand) (by rfl) m_NoHand rfl (fun _ => .adr _)) da_nil))) da_nil)))))))) (fun h => ps_set sc_Lword.nd rfl (by first | exact Or.inl rfl | exact Or.inr rfl) h))
      (dss_cons (ds_set (i := 1) (de_pure (dn_add (de_var (pv 1)) (de_pure (dn_lst (da_cons (de_isE wf.ex hz hf hx.held (by rfl) (mb "isinstance" rfl) (da_cons (de_var (pv 4)) (da_cons (de_glob (v := .ref c_NotMade) (d := .adr c_NotMade) (by rfl) m_NotMade rfl (fun _ => .adr _)) da_nil))) (da_cons (de_isE wf.ex hz hf hx.held (by rfl) (mb "isinstance" rfl) (da_cons (de_var (pv 4)) (da_cons (de_glob (v := .ref c_NoRound) (d := .adr c_NoRound) (by rfl) m_NoRound rfl (fun _ => .adr _)) da_nil))) (da_cons (de_isE wf.ex hz hf hx.held (by rfl) (mb "isinstance" rfl) (da_cons (de_var (pv 4)) (da_cons (de_glob (v := .ref c_Long) (d := .adr c_Long) (by rfl) m_Long rfl (fun _ => .adr _)) da_nil))) da_nil))))))) (fun h => ps_set sc_Lword.nd rfl (by first | exact Or.inl rfl | exact Or.inr rfl) h))
      (dss_cons (ds_set (i := 2) (de_pure (dn_lst (da_cons de_str (da_cons de_str (da_cons de_str (da_cons de_str (da_cons de_str (da_cons de_str (da_cons de_str (da_cons de_str da_nil)))))))))) (fun h => ps_set sc_Lword.nd rfl (by first | exact Or.inl rfl | exact Or.inr rfl) h))
      (dss_cons (ds_set (i := 2) (de_pure (dn_add (de_var (pv 2)) (de_pure (dn_lst (da_cons de_str (da_cons de_str (da_cons de_str (da_cons de_str (da_cons de_str (da_cons de_str (da_cons de_str da_nil))))))))))) (fun h => ps_set sc_Lword.nd rfl (by first | exact Or.inl rfl | exact Or.inr rfl) h))
      (dss_cons (ds_if (dt_w (dw_or (dt_cmp (op_neA hu) do_ne (de_cntB (fun h1 h2 => pe_bm PySem.F.plainAttrs_list PySem.F.slot_list_count PySem.F.type_list_count mt_cntF h1 h2) (de_var (pv 1))) de_int (nomark _)) (dw_or1 (dt_not (dt_val (de_isE wf.ex hz hf hx.held (by rfl) (mb "isinstance" rfl) (da_cons (de_var (pv 4)) (da_cons (de_bltn (n := "ValueError") (by rfl) (mb "ValueError" rfl) (by decide +kernel)) da_nil)))))))) (dss_one (ds_ret (de_tup (da_cons de_str da_nil)))) dss_nil)
      (dss_cons (ds_set (i := 3) (de_ix (de_var (pv 2)) (de_idxB (fun h1 h2 => pe_bm PySem.F.plainAttrs_list PySem.F.slot_list_index PySem.F.type_list_index mt_index h1 h2) (de_var (pv 1))) (fun _ _ => rfl)) (fun h => ps_set sc_Lword.nd rfl (by first | exact Or.inl rfl | exact Or.inr rfl) h))
      (dss_cons (ds_if (dt_w (dw_or (dt_val (de_ix (de_var (pv 1)) de_int (fun _ _ => rfl))) (dw_or1 (dt_val (de_ix (de_var (pv 1)) de_int (fun _ _ => rfl)))))) (dss_one ds_never) dss_nil)
      (dss_cons (ds_if (dt_cmp op_in_seq do_in de_bl (de_pure (dn_slice (de_var (pv 1)) (do_some de_int) (do_some de_int))) (by rfl)) (dss_one ds_never) dss_nil)
      (dss_one (ds_ret (de_if (dt_val (de_ix (de_var (pv 1)) de_int (fun _ _ => rfl))) de_never (de_tup (da_cons (de_var (pv 3)) da_nil))))))))))))))), ?_⟩
  intro S P' post
  walk_at "v"
  refine i_isE rfl (wf.is 0 _ rfl) ?_
  walk_at "v"
  refine i_isE rfl (wf.is 1 _ rfl) ?_
  walk_at "v"
  refine i_isE rfl (wf.is 2 _ rfl) ?_
  walk_at "v"
  refine i_isE rfl (wf.is 3 _ rfl) ?_
  walk_at "v"
  walk_at "e"
  refine i_isE rfl (wf.is 4 _ rfl) ?_
  walk_at "v"
  refine i_isE rfl (wf.is 5 _ rfl) ?_
  walk_at "v"
  refine i_isE rfl (wf.is 6 _ rfl) ?_
  walk_at "v"
  refine i_isE rfl (wf.is 7 _ rfl) ?_
  walk_at "v"
  walk_at "e"
  refine i_isE rfl (wf.is 8 _ rfl) ?_
  walk_at "v"
  refine i_isE rfl (wf.is 9 _ rfl) ?_
  walk_at "v"
  refine i_isE rfl (wf.is 10 _ rfl) ?_
  walk_at "v"
  refine i_isE rfl (wf.is 11 _ rfl) ?_
  walk_at "v"
  walk_at "e"
  refine i_isE rfl (wf.is 12 _ rfl) ?_
  walk_at "v"
  refine i_isE rfl (wf.is 13 _ rfl) ?_
  walk_at "v"
  refine i_isE rfl (wf.is 14 _ rfl) ?_
  walk_at "v"
  walk_at "e"
  refine i_cntB ?_
  walk_at "v"
  refine ⟨[decide (0 = j), decide (1 = j), decide (2 = j), decide (3 = j), decide (4 = j), decide (5 = j), decide (6 = j), decide (7 = j), decide (8 = j), decide (9 = j), decide (10 = j), decide (11 = j), decide (12 = j), decide (13 = j), decide (14 = j)], rfl, ?_⟩
  rw [cntW j jl]
  walk_at "v"
  refine ite_f (by decide) ?_
  walk_at "v"
  refine i_isE rfl wf.ve ?_
  walk_at "v"
  refine ite_f (by decide) ?_
  walk_at "v"
  refine i_idxB ?_
  walk_at "v"
  refine ⟨[decide (0 = j), decide (1 = j), decide (2 = j), decide (3 = j), decide (4 = j), decide (5 = j), decide (6 = j), decide (7 = j), decide (8 = j), decide (9 = j), decide (10 = j), decide (11 = j), decide (12 = j), decide (13 = j), decide (14 = j)], j, rfl, (idxW j jl).1, (idxW j jl).2, ?_⟩
  refine i_ix rfl (d := .str x) ?_ ?_
  · rcases (show j = 0 ∨ j = 1 ∨ j = 2 ∨ j = 3 ∨ j = 4 ∨ j = 5 ∨ j = 6 ∨ j = 7 ∨ j = 8 ∨ j = 9 ∨ j = 10 ∨ j = 11 ∨ j = 12 ∨ j = 13 ∨ j = 14 by omega) with rfl | rfl | rfl | rfl | rfl | rfl | rfl | rfl | rfl | rfl | rfl | rfl | rfl | rfl | rfl <;> (cases hk; rfl)
  walk_at "v"
  walk_at "e"
  walk_at "v"
  refine ite_f (by rw [decide_eq_false (by omega)]; decide) ?_
  walk_at "v"
  refine ite_f (by rw [decide_eq_false (by omega)]; decide) ?_
  walk_at "v"
  refine i_in rfl rfl rfl ?_
  walk_at "v"
  refine ite_f ?_ ?_
  · rcases (show j = 8 ∨ j = 9 ∨ j = 10 ∨ j = 11 ∨ j = 12 ∨ j = 13 ∨ j = 14 by omega) with rfl | rfl | rfl | rfl | rfl | rfl | rfl <;> decide
  walk_at "v"
  refine ite_f (by rw [decide_eq_false (by omega)]; decide) ?_
  walk_at "v"
  exact post
end
section
variable {P : Program} {w : World} {K : PySem.W.Frag} {mg : Str → Option Value} {base : Heap} {g a C CS c_BadProgram c_BadCode c_BadHands c_BadOrder c_BadTrace c_BadPlan c_BadLog c_BadText c_BadRound c_BadRule c_BadCost c_NoHand c_NotMade c_NoRound c_Long : Addr} {cdg : Value} {A : Around} {outer : List Env} {s : Shared} {H : Hp} {j : Nat} {oe : Obj} {d : Option Addr} {pn : List (Addr × Obj)} {fs : Fs} {y : D} {W0 : Bs}
theorem suite_any (hu : (cxW P w K mg base g cdg A outer s H).A.units + 64 < cLine) (mb : ∀ x, isB x = true → mg x = none) (ca : ClsAt mg CS c_BadProgram c_BadCode c_BadHands c_BadOrder c_BadTrace c_BadPlan c_BadLog c_BadText c_BadRound c_BadRule c_BadCost c_NoHand c_NotMade c_NoRound c_Long) (wf : WdC K [c_BadProgram, c_BadCode, c_BadHands, c_BadOrder, c_BadTrace, c_BadPlan, c_BadLog, c_BadText, c_BadRound, c_BadRule, c_BadCost, c_NoHand, c_NotMade, c_NoRound, c_Long] CS C j) (hz : Zc (.ref C) d oe) (hf : ∃ vs, oe.data = .fields vs) (hx : ExR K W0.W d fs) (hy : wordOf j fs = some y) :
    ∃ T : DTS, DSs ((cxW P w K mg base g cdg A outer s H).suite a ((a, oe) :: pn)) W0 suiteW T ∧ ∀ S P', P' y S → T { nx := fun _ _ => False, rt := P' } [none, none, none, none, some (.adr a)] S := by
  rcases (show j < 2 ∨ (2 ≤ j ∧ j < 7) ∨ j = 7 ∨ 8 ≤ j by omega) with h | h | h | h
  · exact suite_A hu mb ca wf hz hf hx hy h
  · exact suite_B hu mb ca wf hz hf hx hy h
  · exact suite_C hu mb ca wf hz hf hx hy h
  · exact suite_D hu mb ca wf hz hf hx hy h
end
theorem word_gives {X : Cx} {g CS c_BadProgram c_BadCode c_BadHands c_BadOrder c_BadTrace c_BadPlan c_BadLog c_BadText c_BadRound c_BadRule c_BadCost c_NoHand c_NotMade c_NoRound c_Long : Addr} {cdg : Value} {q : Str} {k : Nat} (hr : Room (k + 1) X.A) (mb : ∀ x, isB x = true → X.mg x = none) (ca : ClsAt X.mg CS c_BadProgram c_BadCode c_BadHands c_BadOrder c_BadTrace c_BadPlan c_BadLog c_BadText c_BadRound c_BadRule c_BadCost c_NoHand c_NotMade c_NoRound c_Long) : LamX.GivesTo X N_Lword "_law_word" (defScope s_Lword) g cdg (defBody s_Lword) "_law_work" q (TTw X.K [c_BadProgram, c_BadCode, c_BadHands, c_BadOrder, c_BadTrace, c_BadPlan, c_BadLog, c_BadText, c_BadRound, c_BadRule, c_BadCost, c_NoHand, c_NotMade, c_NoRound, c_Long] CS) := by
  intro f c' s H Q tl act hc ⟨E, hE, h⟩
  have hu : (cxW X.prog X.w X.K X.mg X.base g cdg X.A X.stack s H).A.units + 64 < cLine := (hr.deeper _).units
  refine ⟨_, pss_one (ps_try_as (X := cxW X.prog X.w X.K X.mg X.base g cdg X.A X.stack s H) (i := 4) (c := .ref CS)
    (tb := fun W D σ H => ∃ Ech : XK, (∀ cls d σ' H', σ'.length = 5 → Ech cls d H' → W cls d σ' H') ∧ σ[0]? = some (some (.ref f)) ∧ H c' = some (LamX.CodeO c' q) ∧ tl Ech H D.rt)
    (ts := fun a cls d D σ H' => σ.length = 5 ∧ σ[4]? = some (some (.ref a)) ∧ SuOk X.K [c_BadProgram, c_BadCode, c_BadHands, c_BadOrder, c_BadTrace, c_BadPlan, c_BadLog, c_BadText, c_BadRound, c_BadRule, c_BadCost, c_NoHand, c_NotMade, c_NoRound, c_Long] CS cls d H' D.rt) (Wout := fun _ _ _ _ => False) rfl rfl sc_Lword.nd rfl rfl ⟨by rfl, by decide, .inl ca.sl⟩ LamX.takes0 (fun W pn xe tk _ => ?_) (fun a oe cls d pn hz hf => ?_)), ?_⟩
  · refine ⟨fun pins s' σ H' D I h' => ?_⟩
    obtain ⟨Ech, hW, h1, h2, h3⟩ := h'
    have tk' : Takes ((cxW X.prog X.w X.K X.mg X.base g cdg X.A X.stack s H).tr pn xe) (fun cls d σ' H' => σ'.length = 5 → W cls d σ' H') := fun u s2 ⟨a2, B2, sI2, pins2, σ2, H2, cls2, d2, e2, I2, nb2, up2, sky2, na2, os2, ag2, w2⟩ => tk u s2 ⟨a2, B2, sI2, pins2, σ2, H2, cls2, d2, e2, I2, nb2, up2, sky2, na2, os2, ag2, w2 I2.len⟩
    exact (pss_one (ps_ret (act (fun cls d σ' H' => σ'.length = 5 → W cls d σ' H') pn xe Ech _ _ tk' (fun cls d σ' H' he hl => hW cls d σ' H' hl he)))).run pins s' σ H' D I ⟨h1, h2, h3⟩
  · refine ⟨fun pins s' σ H' D I h' => ?_⟩
    obtain ⟨hl, he, C, j, fs, y, W', S', P', rfl, wf, sim, ex, hy, hp, post⟩ := h'
    obtain ⟨T, hT, hq⟩ := suite_any (W0 := { W := W', H := H' }) (a := a) (pn := pn) hu mb ca wf hz hf ex hy
    refine hT.run pins s' σ H' D I ⟨W', [none, none, none, none, some (.adr a)], S', _, Stp.refl, sim, ⟨hl, fun i dd hi => ?_⟩, hq S' P' hp, ⟨fun _ _ _ _ _ z => z.elim, post, fun _ _ _ _ _ z => z.elim, fun _ _ _ _ _ z => z.elim⟩⟩
    rcases (show i = 0 ∨ i = 1 ∨ i = 2 ∨ i = 3 ∨ i = 4 ∨ 5 ≤ i by omega) with rfl | rfl | rfl | rfl | rfl | hi5
    · cases hi
    · cases hi
    · cases hi
    · cases hi
    · cases hi
      exact ⟨.ref a, he, .adr a⟩
    · rw [List.getElem?_eq_none (by simpa using hi5)] at hi
      cases hi
  · refine ⟨E, fun cls d σ' H' hl he => ?_, rfl, hc, h⟩
    have su := hE cls d H' he
    obtain ⟨C, j, fs, y, W', S', P', rfl, wf, _⟩ := id su
    refine ⟨true, wf.sl, fun _ a _ => ⟨by rw [List.length_set]; exact hl, ?_, su⟩, fun z => nomatch z⟩
    rw [List.getElem?_set_self (by omega)]
abbrev s_xiBadText : Stmt := inClass (topS 9) 0
theorem xs_BadText : XiS PySem.Challenge.rw_slideboxes_k21_texts_refused.prog "BadText.__init__" s_xiBadText ["row"] :=
  ⟨fun _ _ _ _ _ _ _ us hl => match us, hl with | [_, _], _ => rfl, ⟨_, rfl, rfl⟩, by decide +kernel, rfl, rfl, by decide +kernel, by decide +kernel, rfl, rfl, rfl, by decide, by decide, ⟨_, _, _, _, _, _, _, _, _, _, rfl, (Fp.txt (by decide) (Fp.nam (by decide) Fp.nil)), by decide, (Sts.cons Sts.nil), fun _ _ _ _ _ _ _ _ _ => ⟨rfl, _, rfl⟩⟩⟩
abbrev s_law : Stmt := topS 55
abbrev N_law : List Str := ["_law_script", "_law_h", "_law_some", "_law_turn", "_law_text", "_law_change", "_law_again"]
theorem sc_law : FnScope N_law ["_law_script"] (defScope s_law) := ⟨rfl, rfl, rfl, by decide +kernel, rfl, by decide +kernel, by decide +kernel⟩
open TL
def sts : List Str := [Str.ofString "", Str.ofString "\n", Str.ofString "fun 0", Str.ofString "fun 0\n", Str.ofString "\nfun 0", Str.ofString "rest", Str.ofString "fun", Str.ofString "fun 0 0", Str.ofString "fun 3\ncall 1 2", Str.ofString "fun 3\ncall 1", Str.ofString "fun 0\ncall 1 2 3 4 5", Str.ofString "fun 0\ncall 1 2 3 4 5 6", Str.ofString " fun 0", Str.ofString "fun 0 ", Str.ofString "fun  0", Str.ofString "fun 1000", Str.ofString "fun 999"]
theorem sts_all : sts.all (fun z => decide (z.length ≤ 2000) && (tl z).all fun c => decide (c < 128)) = true := by decide +kernel
theorem sts_tx {z : Str} (h : z ∈ sts) : Tx 2000 z := by
  have := List.all_eq_true.mp sts_all z h
  rw [Bool.and_eq_true, decide_eq_true_eq, List.all_eq_true] at this
  exact ⟨this.1, fun c hc => of_decide_eq_true (this.2 c hc)⟩
theorem text_tx {p : List Func} (hp : progTxt p) : Tx 2000 (cutS (textS p) none (some (2000 : Int))) := ⟨cutS_to (textS p) 2000, asc_cut (asc_text hp) _ _⟩
/-- how long a text can be after so many changes -/
def txB : Nat → Nat
  | 0 => 2000
  | n + 1 => 2 * txB n + 20
theorem putL_pl {done : List FD} {x : Ln} (hx : LnOk x) (h : ∀ f ∈ done, ∀ d ∈ f.2, pln 3 d = true) : ∀ f ∈ putL done x, ∀ d ∈ f.2, pln 3 d = true := by
  by_cases hf : x.1 = ("fun" : Str)
  · rw [putL_fun hf]
    intro f hf2 d hd
    rcases List.mem_append.mp hf2 with hf2 | hf2
    · exact h f hf2 d hd
    · rw [List.mem_singleton.mp hf2] at hd
      cases hd
  · rcases List.eq_nil_or_concat done with rfl | ⟨A, l, rfl⟩
    · unfold putL
      rw [if_neg hf]
      exact fun f hf => by cases hf
    · rw [List.concat_eq_append] at h ⊢
      rw [putL_row hf]
      intro f hf2 d hd
      rcases List.mem_append.mp hf2 with hf2 | hf2
      · exact h f (by simp [hf2]) d hd
      · rw [List.mem_singleton.mp hf2] at hd
        rcases List.mem_append.mp hd with hd | hd
        · exact h l (by simp) d hd
        · rw [List.mem_singleton.mp hd]
          exact ln_pln hx
theorem fold_fi : ∀ (xs : List Ln) (done : List FD) (k : Nat), (∀ x ∈ xs, LnOk x) → done.length ≤ k → (∀ f ∈ done, f.2.length ≤ k) → (∀ f ∈ done, ∀ d ∈ f.2, pln 3 d = true) →
    (xs.foldl putL done).length ≤ k + xs.length ∧ (∀ f ∈ xs.foldl putL done, f.2.length ≤ k + xs.length) ∧ ∀ f ∈ xs.foldl putL done, ∀ d ∈ f.2, pln 3 d = true
  | [], done, k, _, h1, h2, h3 => ⟨h1, h2, h3⟩
  | x :: xs, done, k, hx, h1, h2, h3 => by
    obtain ⟨k1, k2⟩ := putL_len (x := x) h1 h2
    have := fold_fi xs (putL done x) (k + 1) (fun y hy => hx y (List.mem_cons_of_mem _ hy)) k1 k2 (putL_pl (hx x List.mem_cons_self) h3)
    rw [List.length_cons, show k + (xs.length + 1) = k + 1 + xs.length by omega]
    exact this
theorem progD_pln {z : Str} {xs : List Ln} (h : readL z = .inr xs) (hz : z.length ≤ 20000) : pln 6 (progD xs) = true := by
  obtain ⟨hxl, hxo, _⟩ := scan_facts _ _ h
  have hl1 := lines_tot z
  have hl2 := len_tot (linesT z)
  obtain ⟨h1, h2, h3⟩ := fold_fi xs [] 0 hxo (Nat.le_refl _) (fun _ z => by cases z) (fun _ z => by cases z)
  unfold progD
  rw [pln, Bool.and_eq_true_iff]
  refine ⟨decide_eq_true (by rw [List.length_map]; omega), plns_of fun d hd => ?_⟩
  obtain ⟨f, hf, rfl⟩ := List.mem_map.mp hd
  have hr : pln 4 (.tup f.2) = true := by
    rw [pln, Bool.and_eq_true_iff]
    exact ⟨decide_eq_true (by have := h2 f hf; omega), plns_of (h3 f hf)⟩
  show pln 5 (.tup [.int f.1, .tup f.2]) = true
  rw [pln, Bool.and_eq_true_iff]
  refine ⟨decide_eq_true (by show 2 ≤ 90000; decide), ?_⟩
  rw [plns, plns, plns, hr]
  rfl
theorem bad_pln (i : Int) : pln 6 (badD i) = true := by
  have e : PyData.strOk "BadText" = true := by decide +kernel
  simp [badD, pln, plns, e]
theorem tup_plain {T : Sto} (t : Tok) (h : T.all plainO = true) : (([.lst (t.cells.map .int), .lst [.int t.m, .ref 1, .int t.n]] : Sto) ++ (O.lst (sts.map .str) :: T)).all plainO = true := by
  have e : (O.lst (sts.map .str) :: T).all plainO = true := by rw [List.all_cons, h]; rfl
  rw [List.all_append, e]
  rfl
section
variable {P : Program} {w : World} {K : PySem.W.Frag} {mg : Str → Option Value} {base : Heap} {c CS c_BadProgram c_BadCode c_BadHands c_BadOrder c_BadTrace c_BadPlan c_BadLog c_BadText c_BadRound c_BadRule c_BadCost c_NoHand c_NotMade c_NoRound c_Long : Addr}
theorem ok_law {f : Addr} {oc kV doc pm ct : Value} {od an : Option Addr} {osl : Array (Option Value)} (lk : K.lookup f = some ⟨oc, od, .func (PySem.W.fnOf "law" "law" (defArgs s_law) (defBody s_law) (defScope s_law) .none kV doc pm an (.ref c) ct), osl⟩) (hcd : PySem.W.codeIn K (.ref c) "law" = true) (TB_law : LamX.TabB base mg c 465)
    (at_w : At K mg "_law_word" s_Lword ["_law_work"]) (ca : ClsAt mg CS c_BadProgram c_BadCode c_BadHands c_BadOrder c_BadTrace c_BadPlan c_BadLog c_BadText c_BadRound c_BadRule c_BadCost c_NoHand c_NotMade c_NoRound c_Long)
    (wd7 : WdC K [c_BadProgram, c_BadCode, c_BadHands, c_BadOrder, c_BadTrace, c_BadPlan, c_BadLog, c_BadText, c_BadRound, c_BadRule, c_BadCost, c_NoHand, c_NotMade, c_NoRound, c_Long] CS c_BadText 7)
    (mb : ∀ x, isB x = true → mg x = none) (G_Lmix : Fn P w K mg base "_law_mix" 1 ["_law_script", "_law_seed"] spMix) (G_Lnext : Fn P w K mg base "_law_next" 1 ["_law_h", "_law_many"] spNext)
    (G_Lprogram : Fn P w K mg base "_law_program" 4 ["_law_h"] spProgram) (G_written : Fn P w K mg base "written" 7 ["program"] spWritten)
    (G_Lspoilt : Fn P w K mg base "_law_spoilt" 2 ["_law_h", "_law_text"] spSpoilt) (G_Lread : Fn P w K mg base "_law_read" 3 ["_law_text"] spLRead)
    (G_read : FnX P w K mg base "read" 4 ["text"] (spRead c_BadText)) (G_Lalike : Fn P w K mg base "_law_alike" 6 ["_law_found", "_law_due"] (spAlike 6)) :
    FnOk P w K mg base CX0 9 f (PySem.W.fnOf "law" "law" (defArgs s_law) (defBody s_law) (defScope s_law) .none kV doc pm an (.ref c) ct) ["_law_script"] (liftSp K spLaw) := by
  obtain ⟨g, fdw, hmw, Fw, hbw⟩ := at_w.ex
  obtain ⟨ocw, odw, kVw, docw, pmw, anw, cdw, ctw, oslw, rfl, lkw, hcw⟩ := Fw.ex
  refine fn_dT lk hcd sc_law (fun ds S P h => ?_) ?_
  · obtain ⟨ns, rfl, _⟩ := h
    rfl
  · rintro X W0 A outer s H E rfl hr
    have hu := hr.units
    refine ⟨_, (dss_cons (ds_set (i := 1) (de_fn G_Lmix (hr.mono (by decide)) (by rfl) (da_cons (de_var (pv 0)) (da_cons de_int da_nil))) (fun h => ps_set sc_law.nd rfl (by first | exact Or.inl rfl | exact Or.inr rfl) h))
      (dss_cons (ds_set (i := 2) (de_pure (dn_lst (da_cons de_str (da_cons de_str (da_cons de_str (da_cons de_str (da_cons de_str (da_cons de_str (da_cons de_str (da_cons de_str (da_cons de_str (da_cons de_str da_nil)))))))))))) (fun h => ps_set sc_law.nd rfl (by first | exact Or.inl rfl | exact Or.inr rfl) h))
      (dss_cons (ds_set (i := 2) (de_new (dn_add (de_var (pv 2)) (de_pure (dn_lst (da_cons de_str (da_cons de_str (da_cons de_str (da_cons de_str (da_cons de_str (da_cons de_str da_nil)))))))))) (fun h => ps_set sc_law.nd rfl (by first | exact Or.inl rfl | exact Or.inr rfl) h))
      (dss_cons (ds_expr (de_mt dm_append (de_var (pv 2)) (da_cons de_str da_nil) (fun h1 h2 => pe_bm PySem.F.plainAttrs_list PySem.F.slot_list_append PySem.F.type_list_append mt_append h1 h2)))
      (dss_cons (ds_for PassesOwn.never rfl (di_range1 (by rfl) (mb "range" rfl) (da_cons de_int da_nil)) (dg_name (pg_name (i := 3) sc_law.nd rfl (by first | exact Or.inl rfl | exact Or.inr rfl))) (dss_cons (ds_set (i := 4) (de_sliceS (de_fn G_written (hr.mono (by decide)) (by rfl) (da_cons (de_fn G_Lprogram (hr.mono (by decide)) (by rfl) (da_cons (de_var (pv 1)) da_nil)) da_nil)) do_none (do_some de_int)) (fun h => ps_set sc_law.nd rfl (by first | exact Or.inl rfl | exact Or.inr rfl) h))
      (dss_cut (ds_if (dt_cmp (op_eqA hu) do_eq (de_fn G_Lnext (hr.mono (by decide)) (by rfl) (da_cons (de_var (pv 1)) (da_cons de_int da_nil))) de_int (nomark _)) (dss_one (ds_set (i := 4) (de_ix (de_var (pv 2)) (de_fn G_Lnext (hr.mono (by decide)) (by rfl) (da_cons (de_var (pv 1)) (da_cons (de_b dc_len (da_cons (de_var (pv 2)) da_nil) (fun h => pe_callB call_len_seq (by rfl) (mb "len" rfl) PySem.boot_len h)) da_nil))) (fun _ _ => rfl)) (fun h => ps_set sc_law.nd rfl (by first | exact Or.inl rfl | exact Or.inr rfl) h))) dss_nil)
      (dss_cons (ds_for PassesOwn.never rfl (di_range1 (by rfl) (mb "range" rfl) (da_cons (de_fn G_Lnext (hr.mono (by decide)) (by rfl) (da_cons (de_var (pv 1)) (da_cons de_int da_nil))) da_nil)) (dg_name (pg_name (i := 5) sc_law.nd rfl (by first | exact Or.inl rfl | exact Or.inr rfl))) (dss_one (ds_set (i := 4) (de_fn G_Lspoilt (hr.mono (by decide)) (by rfl) (da_cons (de_var (pv 1)) (da_cons (de_var (pv 4)) da_nil))) (fun h => ps_set sc_law.nd rfl (by first | exact Or.inl rfl | exact Or.inr rfl) h))))
      (dss_one (ds_for PassesOwn.never rfl (di_range1 (by rfl) (mb "range" rfl) (da_cons de_int da_nil)) (dg_name (pg_name (i := 6) sc_law.nd rfl (by first | exact Or.inl rfl | exact Or.inr rfl))) (dss_one (ds_if (dt_not (dt_val (de_fn G_Lalike (hr.mono (by decide)) (by rfl) (da_cons (de_wordX (k := 6) (Tb := tabs0) (by rfl) hmw Fw.kp lkw hcw hbw sc_Lword rfl (by first | exact .inl rfl | exact .inr (.inl rfl)) (word_gives (k := 0) (hr.mono (by decide)) mb ca) TB_law (tabIn_of (q := "law.<locals>.<lambda>") (by rfl) (by decide +kernel)) (tabUn_of (q := "law.<locals>.<lambda>") (by rfl) (by decide +kernel)) rfl (hr.mono (by decide)) (LamX.lamS_by (sc := defScope s_law) (by decide +kernel)) (by rfl) (fun _ _ _ _ _ => rfl) G_read (by decide) (fun _ _ _ _ _ _ _ => by rfl) (fun A outer s H E f c' B hr => (da_cons (de_var (pv 4)) da_nil)) (fun _ _ _ _ _ _ _ => by rfl) (fun _ _ _ _ _ _ _ => by rfl)) (da_cons (de_fn G_Lread (hr.mono (by decide)) (by rfl) (da_cons (de_var (pv 4)) da_nil)) da_nil))))) (dss_one (ds_ret de_bl)) dss_nil))))))))
      (dss_one (ds_ret de_bl))))))), ?_⟩
    rintro ds S P ⟨ns, rfl, rfl, post⟩
    walk_at "st"
    walk_at "v"
    refine ⟨ns, 79, rfl, rfl, fun m => ?_⟩
    walk_at "v"
    walk_at "e"
    have hlen : ∀ t, (hd t).length = 3 := fun t => rfl
    have hat : ∀ t T (o : O), (hd t ++ (o :: T))[3]? = some o := fun t T o => rfl
    rw [hlen]
    refine i_append (hat _ [] _) (sz_lt (by decide)) ?_
    have e0 : ∀ t (o : O), (hd t ++ [o]).set 3 (O.lst (sts.map .str)) = hd t ++ (O.lst (sts.map .str) :: []) := fun t o => rfl
    refine (?_ : _)
    rw [show (hd ⟨ns, m, 0⟩ ++ [O.lst ([D.str (Str.ofString ""), D.str (Str.ofString "\n"), D.str (Str.ofString "fun 0"), D.str (Str.ofString "fun 0\n"), D.str (Str.ofString "\nfun 0"), D.str (Str.ofString "rest"), D.str (Str.ofString "fun"), D.str (Str.ofString "fun 0 0"), D.str (Str.ofString "fun 3\ncall 1 2"), D.str (Str.ofString "fun 3\ncall 1")] ++ [D.str (Str.ofString "fun 0\ncall 1 2 3 4 5"), D.str (Str.ofString "fun 0\ncall 1 2 3 4 5 6"), D.str (Str.ofString " fun 0"), D.str (Str.ofString "fun 0 "), D.str (Str.ofString "fun  0"), D.str (Str.ofString "fun 1000")])]).set 3 (O.lst (([D.str (Str.ofString ""), D.str (Str.ofString "\n"), D.str (Str.ofString "fun 0"), D.str (Str.ofString "fun 0\n"), D.str (Str.ofString "\nfun 0"), D.str (Str.ofString "rest"), D.str (Str.ofString "fun"), D.str (Str.ofString "fun 0 0"), D.str (Str.ofString "fun 3\ncall 1 2"), D.str (Str.ofString "fun 3\ncall 1")] ++ [D.str (Str.ofString "fun 0\ncall 1 2 3 4 5"), D.str (Str.ofString "fun 0\ncall 1 2 3 4 5 6"), D.str (Str.ofString " fun 0"), D.str (Str.ofString "fun 0 "), D.str (Str.ofString "fun  0"), D.str (Str.ofString "fun 1000")]) ++ [D.str (Str.ofString "fun 999")])) = hd ⟨ns, m, 0⟩ ++ (O.lst (sts.map .str) :: []) from rfl]
    walk_at "v"
    refine i_rg1 (by decide) (by decide) ?_
    refine ⟨fun i env S' => ∃ (t : Tok) (T : Sto) (y3 y4 y5 y6 : Option D), T.all plainO = true ∧ S' = hd t ++ (O.lst (sts.map .str) :: T) ∧ env = [some (.scr ns), some (.ref 2), some (.ref 3), y3, y4, y5, y6], ⟨_, [], _, _, _, _, rfl, rfl, rfl⟩, fun _ _ _ _ _ => trivial, ?_, ?_⟩
    · rintro i x env S' hx ⟨t, T, y3, y4, y5, y6, hT, rfl, rfl⟩
      obtain ⟨hi, rfl⟩ := rangeD_get hx
      walk_at "v"
      walk_at "e"
      refine i_slS ?_
      walk_at "v"
      refine ⟨t, _, rfl, rfl, fun p t1 hp => ?_⟩
      walk_at "v"
      refine ⟨p, rfl, hp, ?_⟩
      walk_at "v"
      have htx := text_tx (prog_txt hp)
      refine i_slZ (Nat.le_trans (text_len (prog_txt hp)) (by decide)) ?_
      walk_at "v"
      refine ⟨fun env S' => ∃ (t : Tok) (z : Str), Tx 2000 z ∧ S' = hd t ++ (O.lst (sts.map .str) :: T) ∧ env = [some (.scr ns), some (.ref 2), some (.ref 3), some (.int (0 + (i : Int))), some (.str z), y5, y6], ?_, ?_⟩
      · walk_at "v"
        refine i_draw (by decide) (by decide) fun r0 t2 r00 r01 => ?_
        walk_at "v"
        by_cases hr0 : r0 = 0
        · refine ite_t (by simp [hr0]) ?_
          walk_at "v"
          refine i_draw (by decide) (by decide) fun r1 t3 r10 r11 => ?_
          obtain ⟨k, rfl⟩ : ∃ n : Nat, r1 = n := ⟨r1.toNat, by omega⟩
          have hk : k < sts.length := by rw [List.length_map] at r11; omega
          obtain ⟨z, hz⟩ : ∃ z, sts[k]? = some z := ⟨_, List.getElem?_eq_getElem hk⟩
          refine i_ix (show seqOf (hd t3 ++ (O.lst (sts.map .str) :: T)) (.ref 3) = some (sts.map .str) from rfl) (L2.atI_nat (j := k) (v := .str z) (by rw [List.getElem?_map, hz]; rfl)) ?_
          walk_at "v"
          exact ⟨t3, z, sts_tx (List.mem_of_getElem? hz), rfl, rfl⟩
        · refine ite_f (by simpa using hr0) ?_
          walk_at "v"
          exact ⟨t2, _, htx, rfl, rfl⟩
      · rintro env S' ⟨t, z, hz, rfl, rfl⟩
        walk_at "v"
        refine i_draw (by decide) (by decide) fun r2 t2 r20 r21 => ?_
        obtain ⟨n, rfl⟩ : ∃ n : Nat, r2 = n := ⟨r2.toNat, by omega⟩
        walk_at "v"
        refine i_rg1 (by omega) (by omega) ?_
        rw [Int.toNat_natCast]
        have hB : ∀ j, j ≤ 3 → txB j ≤ 16140 := fun j hj => by
          rcases (show j = 0 ∨ j = 1 ∨ j = 2 ∨ j = 3 by omega) with rfl | rfl | rfl | rfl <;> decide
        have hB2 : ∀ j, j ≤ 2 → txB j ≤ 10000 := fun j hj => by
          rcases (show j = 0 ∨ j = 1 ∨ j = 2 by omega) with rfl | rfl | rfl <;> decide
        refine ⟨fun j env S' => ∃ (t : Tok) (z : Str) (y5 : Option D), Tx (txB j) z ∧ S' = hd t ++ (O.lst (sts.map .str) :: T) ∧ env = [some (.scr ns), some (.ref 2), some (.ref 3), some (.int (0 + (i : Int))), some (.str z), y5, y6], ⟨_, _, _, hz, rfl, rfl⟩, fun _ _ _ _ _ => trivial, ?_, ?_⟩
        · rintro j x env S' hx ⟨t, z, y5, hz, rfl, rfl⟩
          obtain ⟨hj, rfl⟩ := rangeD_get hx
          walk_at "v"
          refine ⟨t, _, z, rfl, rfl, ⟨Nat.le_trans hz.len (hB2 j (by omega)), hz.asc⟩, fun z' t' hz' => ?_⟩
          walk_at "v"
          exact ⟨t', z', _, ⟨Nat.le_trans hz'.len (by show _ ≤ 2 * txB j + 20; have := hz.len; omega), hz'.asc⟩, rfl, rfl⟩
        · rintro env S' ⟨t, z, y5, hz, rfl, rfl⟩
          rw [rangeD_len] at hz
          have hz20 : z.length ≤ 20000 := Nat.le_trans hz.len (Nat.le_trans (hB n (by omega)) (by decide))
          have hza := hz.asc
          walk_at "v"
          refine i_rg1 (by decide) (by decide) ?_
          refine ⟨fun j env S2 => ∃ (T2 : Sto) (y5 y6 : Option D), T2.all plainO = true ∧ S2 = hd t ++ (O.lst (sts.map .str) :: T2) ∧ env = [some (.scr ns), some (.ref 2), some (.ref 3), some (.int (0 + (i : Int))), some (.str z), y5, y6], ⟨T, _, _, hT, rfl, rfl⟩, fun _ _ _ _ _ => trivial, ?_, ?_⟩
          · rintro j x env S2 hx2 ⟨T2, y5, y6, hT2, rfl, rfl⟩
            obtain ⟨hj, rfl⟩ := rangeD_get hx2
            walk_at "v"
            walk_at "e"
            refine i_word (S' := [.lst (t.cells.map .int), .lst [.int t.m, .ref 1, .int t.n]] ++ (O.lst (sts.map .str) :: T2)) rfl (tup_plain t hT2) ?_
            walk_at "v"
            refine ⟨z, rfl, hz20, ?_⟩
            cases hread : readL z with
            | inl q =>
              have hrd : readD z = badD q := by unfold readD; rw [hread]
              refine ⟨7, _, wd7, rfl, ?_⟩
              walk_at "v"
              refine ⟨z, rfl, hz20, hza, ?_⟩
              rw [hrd]
              walk_at "v"
              refine ⟨_, _, rfl, sameD_pln 6 (bad_pln q), ?_⟩
              walk_at "v"
              refine ite_f Bool.false_ne_true ?_
              walk_at "v"
              exact ⟨T2, _, _, hT2, rfl, rfl⟩
            | inr xs =>
              have hrd : readD z = progD xs := by unfold readD; rw [hread]
              dsimp only
              walk_at "v"
              refine ⟨z, rfl, hz20, hza, ?_⟩
              rw [hrd]
              walk_at "v"
              refine ⟨_, _, rfl, sameD_pln 6 (progD_pln hread hz20), ?_⟩
              walk_at "v"
              refine ite_f Bool.false_ne_true ?_
              walk_at "v"
              exact ⟨T2, _, _, hT2, rfl, rfl⟩
          · rintro env S2 ⟨T2, y5, y6, hT2, rfl, rfl⟩
            exact ⟨t, T2, _, _, _, _, hT2, rfl, rfl⟩
    · rintro env S' ⟨t, T, y3, y4, y5, y6, hT, rfl, rfl⟩
      walk_at "v"
      exact exit_pure (S := [.tab 465 "law.<locals>.<lambda>"]) (T' := [.lst (t.cells.map .int), .lst [.int t.m, .ref 1, .int t.n]] ++ (O.lst (sts.map .str) :: T)) (by simp [hd, tabs0, tabO]) (fun _ => rfl) post
end
theorem law_all {w : World} {K : PySem.W.Frag} {mg : Str → Option Value} {base : Heap} (mb : ∀ x, isB x = true → mg x = none) (gi : ∀ x n, isG x = some n → ∃ t, mg x = some (.int n t)) (pr : PrTab PySem.Challenge.rw_slideboxes_k21_texts_refused.prog w K mg) (ca : ClsAt mg 24 46 67 88 109 130 151 172 193 205 217 229 241 253 265 277) (wd7 : WdC K [46, 67, 88, 109, 130, 151, 172, 193, 205, 217, 229, 241, 253, 265, 277] 24 193 7) (xiBT : XiC PySem.Challenge.rw_slideboxes_k21_texts_refused.prog K 193 "BadText.__init__" s_xiBadText ["row"]) (zs : mg "super" = none) (mxBT : mg "BadText" = some (.ref 193))
    (at_whole : At K mg "whole" s_whole ["value"])
    (at_below : At K mg "below" s_below ["value", "bound"])
    (at_allbelow : At K mg "all_below" s_allbelow ["values", "bound"])
    (at_functioncanbe : At K mg "function_can_be" s_functioncanbe ["function", "most"])
    (at_firstbadfunction : At K mg "first_bad_function" s_firstbadfunction ["functions", "most"])
    (at_rowcanbe : At K mg "row_can_be" s_rowcanbe ["row", "shapes", "bounds", "manys"])
    (at_firstbad : At K mg "first_bad" s_firstbad ["functions", "shapes", "boxes", "most"])
    (at_checkprogram : At K mg "check_program" s_checkprogram ["program"])
    (at_lineof : At K mg "line_of" s_lineof ["row"])
    (at_written : At K mg "written" s_written ["program"])
    (at_isnumber : At K mg "is_number" s_isnumber ["part"])
    (at_canhave : At K mg "can_have" s_canhave ["word", "count"])
    (at_rowof : At K mg "row_of" s_rowof ["line"])
    (at_rowsof : At K mg "rows_of" s_rowsof ["text"])
    (at_read : At K mg "read" s_read ["text"])
    (at_Lmix : At K mg "_law_mix" s_Lmix ["_law_script", "_law_seed"])
    (at_Lnext : At K mg "_law_next" s_Lnext ["_law_h", "_law_many"])
    (at_Lplainrow : At K mg "_law_plain_row" s_Lplainrow ["_law_h"])
    (at_Lcounter : At K mg "_law_counter" s_Lcounter ["_law_h", "_law_me", "_law_often"])
    (at_Ldrawn : At K mg "_law_drawn" s_Ldrawn ["_law_h", "_law_me", "_law_counts"])
    (at_Lprogram : At K mg "_law_program" s_Lprogram ["_law_h"])
    (at_Lalike : At K mg "_law_alike" s_Lalike ["_law_found", "_law_due"])
    (at_Lword : At K mg "_law_word" s_Lword ["_law_work"])
    (at_Lprintable : At K mg "_law_printable" s_Lprintable [])
    (at_Lnumber : At K mg "_law_number" s_Lnumber ["_law_word_here"])
    (at_Lrow : At K mg "_law_row" s_Lrow ["_law_line"])
    (at_Lread : At K mg "_law_read" s_Lread ["_law_text"])
    (at_Lspoilt : At K mg "_law_spoilt" s_Lspoilt ["_law_h", "_law_text"])
    {f : Addr} {oc kV doc pm ct : Value} {od an : Option Addr} {osl : Array (Option Value)} (lk : K.lookup f = some ⟨oc, od, .func (PySem.W.fnOf "law" "law" (defArgs s_law) (defBody s_law) (defScope s_law) .none kV doc pm an (.ref 469) ct), osl⟩) (hcd : PySem.W.codeIn K (.ref 469) "law" = true) (TB_law : LamX.TabB base mg 469 465) :
    FnOk PySem.Challenge.rw_slideboxes_k21_texts_refused.prog w K mg base CX0 9 f (PySem.W.fnOf "law" "law" (defArgs s_law) (defBody s_law) (defScope s_law) .none kV doc pm an (.ref 469) ct) ["_law_script"] (liftSp K spLaw) := by
  have g1 := ok_Lnext (P := PySem.Challenge.rw_slideboxes_k21_texts_refused.prog) (w := w) (base := base) at_Lnext mb
  have g2 := ok_Lplainrow at_Lplainrow mb g1
  have g3 := ok_Lcounter at_Lcounter mb g1
  have g4 := ok_Ldrawn at_Ldrawn mb g1 g2
  have g5 := ok_Lprogram at_Lprogram mb g1 g4 g3
  have g6 := ok_whole (P := PySem.Challenge.rw_slideboxes_k21_texts_refused.prog) (w := w) (base := base) at_whole mb
  have g7 := ok_below at_below mb g6
  have g8 := ok_allbelow at_allbelow mb g7
  have g11 := ok_functioncanbe at_functioncanbe mb gi g7
  have g12 := ok_firstbadfunction at_firstbadfunction mb gi g11
  have g13 := ok_rowcanbe at_rowcanbe mb g7 g8
  have g14 := ok_firstbad at_firstbad mb gi g12 g13
  have g15 := ok_checkprogram at_checkprogram mb gi pr g14
  have w1 := ok_lineof (P := PySem.Challenge.rw_slideboxes_k21_texts_refused.prog) (w := w) (base := base) at_lineof mb
  have w2 := ok_written at_written mb g15 w1
  have n1 := ok_isnumber (P := PySem.Challenge.rw_slideboxes_k21_texts_refused.prog) (w := w) (base := base) at_isnumber mb gi
  have n2 := ok_canhave (P := PySem.Challenge.rw_slideboxes_k21_texts_refused.prog) (w := w) (base := base) at_canhave mb gi pr
  have n3 := ok_rowof at_rowof mb n1 n2
  have n4 := ok_rowsof at_rowsof mb zs mxBT xiBT n3
  have n5 := ok_read at_read mb n4
  have m1 := ok_Lnumber (P := PySem.Challenge.rw_slideboxes_k21_texts_refused.prog) (w := w) (base := base) at_Lnumber mb
  have m2 := ok_Lrow at_Lrow mb m1
  have m3 := ok_Lread at_Lread mb m2
  have p0 := ok_Lprintable (P := PySem.Challenge.rw_slideboxes_k21_texts_refused.prog) (w := w) (base := base) at_Lprintable
  have p9 := ok_Lspoilt at_Lspoilt mb g1 p0
  have a0 := ok_Lalike0 (P := PySem.Challenge.rw_slideboxes_k21_texts_refused.prog) (w := w) (base := base) at_Lalike
  have a6 := ok_Lalike at_Lalike mb (ok_Lalike at_Lalike mb (ok_Lalike at_Lalike mb (ok_Lalike at_Lalike mb (ok_Lalike at_Lalike mb (ok_Lalike at_Lalike mb a0)))))
  have g18 := ok_Lmix (P := PySem.Challenge.rw_slideboxes_k21_texts_refused.prog) (w := w) (base := base) at_Lmix mb
  exact ok_law lk hcd TB_law at_Lword ca wd7 mb g18 g1 g5 w2 p9 m3 n5 a6
end K21
open PySem PySem.W PyProof.Rows L2 DL K21
local macro_rules | `(tactic| walk_at "kr") => `(tactic| first
  | exact KRs.nil
  | exact KEs.nil
  | exact KR.int _ _
  | exact KR.str _ _
  | (refine' KRs.cons ?ka ?kb; (case ka => walk_at "kr"); (case kb => walk_at "kr"))
  | (refine' KR.tup ?ka ?kb ?kc; (case ka => k_is); (case kb => decide); (case kc => walk_at "kr"))
  | (refine' KEs.cons ?ka ?kb ?kc; (case ka => exact rfl); (case kb => walk_at "kr"); (case kc => walk_at "kr")))

set_option maxHeartbeats 0 in
theorem PySem.Challenge.cw_slideboxes_k21_texts_refused_holds : PySem.Challenge.rw_slideboxes_k21_texts_refused.Holds := by
  w_on; o_law; k_head; (case hw => w_witness2)
  k_fill
  refine' walk_tabs (l := PySem.Challenge.rw_slideboxes_k21_texts_refused) (n := 63) (k := 9) (x := "_law_script") (sp := K21.spLaw) [("law", 469, 465)] K21.tabs0 rfl (by decide) rfl ⟨rfl, by decide, by decide⟩ (fun w h Y => PySem.W.km_in_of Y) ?hrec rfl (by decide) ?F (fun ns => ⟨ns, rfl, rfl, rfl⟩)
  case hrec => first | kernel_rfl | decide +kernel
  case F =>
    intro w mg fa h KX G hmg
    refine' with_at KX G "whole" (topS 24) ["value"] ?aa1 ?ll1 ?cc1 ?kk1 (fun _ _ _ _ _ _ us hl => match us, hl with | [_], _ => rfl) ?qq1
    (case aa1 => k_is); (case ll1 => k_is); (case cc1 => k_is); (case kk1 => k_is)
    intro at_whole
    refine' with_at KX G "below" (topS 25) ["value", "bound"] ?aa2 ?ll2 ?cc2 ?kk2 (fun _ _ _ _ _ _ us hl => match us, hl with | [_, _], _ => rfl) ?qq2
    (case aa2 => k_is); (case ll2 => k_is); (case cc2 => k_is); (case kk2 => k_is)
    intro at_below
    refine' with_at KX G "all_below" (topS 26) ["values", "bound"] ?aa3 ?ll3 ?cc3 ?kk3 (fun _ _ _ _ _ _ us hl => match us, hl with | [_, _], _ => rfl) ?qq3
    (case aa3 => k_is); (case ll3 => k_is); (case cc3 => k_is); (case kk3 => k_is)
    intro at_allbelow
    refine' with_at KX G "function_can_be" (topS 27) ["function", "most"] ?aa4 ?ll4 ?cc4 ?kk4 (fun _ _ _ _ _ _ us hl => match us, hl with | [_, _], _ => rfl) ?qq4
    (case aa4 => k_is); (case ll4 => k_is); (case cc4 => k_is); (case kk4 => k_is)
    intro at_functioncanbe
    refine' with_at KX G "first_bad_function" (topS 28) ["functions", "most"] ?aa5 ?ll5 ?cc5 ?kk5 (fun _ _ _ _ _ _ us hl => match us, hl with | [_, _], _ => rfl) ?qq5
    (case aa5 => k_is); (case ll5 => k_is); (case cc5 => k_is); (case kk5 => k_is)
    intro at_firstbadfunction
    refine' with_at KX G "row_can_be" (topS 29) ["row", "shapes", "bounds", "manys"] ?aa6 ?ll6 ?cc6 ?kk6 (fun _ _ _ _ _ _ us hl => match us, hl with | [_, _, _, _], _ => rfl) ?qq6
    (case aa6 => k_is); (case ll6 => k_is); (case cc6 => k_is); (case kk6 => k_is)
    intro at_rowcanbe
    refine' with_at KX G "first_bad" (topS 30) ["functions", "shapes", "boxes", "most"] ?aa7 ?ll7 ?cc7 ?kk7 (fun _ _ _ _ _ _ us hl => match us, hl with | [_, _, _, _], _ => rfl) ?qq7
    (case aa7 => k_is); (case ll7 => k_is); (case cc7 => k_is); (case kk7 => k_is)
    intro at_firstbad
    refine' with_at KX G "check_program" (topS 31) ["program"] ?aa8 ?ll8 ?cc8 ?kk8 (fun _ _ _ _ _ _ us hl => match us, hl with | [_], _ => rfl) ?qq8
    (case aa8 => k_is); (case ll8 => k_is); (case cc8 => k_is); (case kk8 => k_is)
    intro at_checkprogram
    refine' with_at KX G "line_of" (topS 34) ["row"] ?aa9 ?ll9 ?cc9 ?kk9 (fun _ _ _ _ _ _ us hl => match us, hl with | [_], _ => rfl) ?qq9
    (case aa9 => k_is); (case ll9 => k_is); (case cc9 => k_is); (case kk9 => k_is)
    intro at_lineof
    refine' with_at KX G "written" (topS 35) ["program"] ?aa10 ?ll10 ?cc10 ?kk10 (fun _ _ _ _ _ _ us hl => match us, hl with | [_], _ => rfl) ?qq10
    (case aa10 => k_is); (case ll10 => k_is); (case cc10 => k_is); (case kk10 => k_is)
    intro at_written
    refine' with_at KX G "is_number" (topS 36) ["part"] ?aa11 ?ll11 ?cc11 ?kk11 (fun _ _ _ _ _ _ us hl => match us, hl with | [_], _ => rfl) ?qq11
    (case aa11 => k_is); (case ll11 => k_is); (case cc11 => k_is); (case kk11 => k_is)
    intro at_isnumber
    refine' with_at KX G "can_have" (topS 37) ["word", "count"] ?aa12 ?ll12 ?cc12 ?kk12 (fun _ _ _ _ _ _ us hl => match us, hl with | [_, _], _ => rfl) ?qq12
    (case aa12 => k_is); (case ll12 => k_is); (case cc12 => k_is); (case kk12 => k_is)
    intro at_canhave
    refine' with_at KX G "row_of" (topS 38) ["line"] ?aa13 ?ll13 ?cc13 ?kk13 (fun _ _ _ _ _ _ us hl => match us, hl with | [_], _ => rfl) ?qq13
    (case aa13 => k_is); (case ll13 => k_is); (case cc13 => k_is); (case kk13 => k_is)
    intro at_rowof
    refine' with_at KX G "rows_of" (topS 39) ["text"] ?aa14 ?ll14 ?cc14 ?kk14 (fun _ _ _ _ _ _ us hl => match us, hl with | [_], _ => rfl) ?qq14
    (case aa14 => k_is); (case ll14 => k_is); (case cc14 => k_is); (case kk14 => k_is)
    intro at_rowsof
    refine' with_at KX G "read" (topS 40) ["text"] ?aa15 ?ll15 ?cc15 ?kk15 (fun _ _ _ _ _ _ us hl => match us, hl with | [_], _ => rfl) ?qq15
    (case aa15 => k_is); (case ll15 => k_is); (case cc15 => k_is); (case kk15 => k_is)
    intro at_read
    refine' with_at KX G "_law_mix" (topS 42) ["_law_script", "_law_seed"] ?aa16 ?ll16 ?cc16 ?kk16 (fun _ _ _ _ _ _ us hl => match us, hl with | [_, _], _ => rfl) ?qq16
    (case aa16 => k_is); (case ll16 => k_is); (case cc16 => k_is); (case kk16 => k_is)
    intro at_Lmix
    refine' with_at KX G "_law_next" (topS 43) ["_law_h", "_law_many"] ?aa17 ?ll17 ?cc17 ?kk17 (fun _ _ _ _ _ _ us hl => match us, hl with | [_, _], _ => rfl) ?qq17
    (case aa17 => k_is); (case ll17 => k_is); (case cc17 => k_is); (case kk17 => k_is)
    intro at_Lnext
    refine' with_at KX G "_law_plain_row" (topS 44) ["_law_h"] ?aa18 ?ll18 ?cc18 ?kk18 (fun _ _ _ _ _ _ us hl => match us, hl with | [_], _ => rfl) ?qq18
    (case aa18 => k_is); (case ll18 => k_is); (case cc18 => k_is); (case kk18 => k_is)
    intro at_Lplainrow
    refine' with_at KX G "_law_counter" (topS 45) ["_law_h", "_law_me", "_law_often"] ?aa19 ?ll19 ?cc19 ?kk19 (fun _ _ _ _ _ _ us hl => match us, hl with | [_, _, _], _ => rfl) ?qq19
    (case aa19 => k_is); (case ll19 => k_is); (case cc19 => k_is); (case kk19 => k_is)
    intro at_Lcounter
    refine' with_at KX G "_law_drawn" (topS 46) ["_law_h", "_law_me", "_law_counts"] ?aa20 ?ll20 ?cc20 ?kk20 (fun _ _ _ _ _ _ us hl => match us, hl with | [_, _, _], _ => rfl) ?qq20
    (case aa20 => k_is); (case ll20 => k_is); (case cc20 => k_is); (case kk20 => k_is)
    intro at_Ldrawn
    refine' with_at KX G "_law_program" (topS 47) ["_law_h"] ?aa21 ?ll21 ?cc21 ?kk21 (fun _ _ _ _ _ _ us hl => match us, hl with | [_], _ => rfl) ?qq21
    (case aa21 => k_is); (case ll21 => k_is); (case cc21 => k_is); (case kk21 => k_is)
    intro at_Lprogram
    refine' with_at KX G "_law_alike" (topS 48) ["_law_found", "_law_due"] ?aa22 ?ll22 ?cc22 ?kk22 (fun _ _ _ _ _ _ us hl => match us, hl with | [_, _], _ => rfl) ?qq22
    (case aa22 => k_is); (case ll22 => k_is); (case cc22 => k_is); (case kk22 => k_is)
    intro at_Lalike
    refine' with_at KX G "_law_word" (topS 49) ["_law_work"] ?aa23 ?ll23 ?cc23 ?kk23 (fun _ _ _ _ _ _ us hl => match us, hl with | [_], _ => rfl) ?qq23
    (case aa23 => k_is); (case ll23 => k_is); (case cc23 => k_is); (case kk23 => k_is)
    intro at_Lword
    refine' with_at KX G "_law_printable" (topS 50) [] ?aa24 ?ll24 ?cc24 ?kk24 (fun _ _ _ _ _ _ us hl => match us, hl with | [], _ => rfl) ?qq24
    (case aa24 => k_is); (case ll24 => k_is); (case cc24 => k_is); (case kk24 => k_is)
    intro at_Lprintable
    refine' with_at KX G "_law_number" (topS 51) ["_law_word_here"] ?aa25 ?ll25 ?cc25 ?kk25 (fun _ _ _ _ _ _ us hl => match us, hl with | [_], _ => rfl) ?qq25
    (case aa25 => k_is); (case ll25 => k_is); (case cc25 => k_is); (case kk25 => k_is)
    intro at_Lnumber
    refine' with_at KX G "_law_row" (topS 52) ["_law_line"] ?aa26 ?ll26 ?cc26 ?kk26 (fun _ _ _ _ _ _ us hl => match us, hl with | [_], _ => rfl) ?qq26
    (case aa26 => k_is); (case ll26 => k_is); (case cc26 => k_is); (case kk26 => k_is)
    intro at_Lrow
    refine' with_at KX G "_law_read" (topS 53) ["_law_text"] ?aa27 ?ll27 ?cc27 ?kk27 (fun _ _ _ _ _ _ us hl => match us, hl with | [_], _ => rfl) ?qq27
    (case aa27 => k_is); (case ll27 => k_is); (case cc27 => k_is); (case kk27 => k_is)
    intro at_Lread
    refine' with_at KX G "_law_spoilt" (topS 54) ["_law_h", "_law_text"] ?aa28 ?ll28 ?cc28 ?kk28 (fun _ _ _ _ _ _ us hl => match us, hl with | [_, _], _ => rfl) ?qq28
    (case aa28 => k_is); (case ll28 => k_is); (case cc28 => k_is); (case kk28 => k_is)
    intro at_Lspoilt
    refine' with_at KX G "law" (topS 55) ["_law_script"] ?aa29 ?ll29 ?cc29 ?kk29 (fun _ _ _ _ _ _ us hl => match us, hl with | [_], _ => rfl) ?qq29
    (case aa29 => k_is); (case ll29 => k_is); (case cc29 => k_is); (case kk29 => k_is)
    intro at_law
    refine' with_none KX G "len" ?aa30 ?qq30
    (case aa30 => k_is)
    intro z_len
    refine' with_none KX G "max" ?aa31 ?qq31
    (case aa31 => k_is)
    intro z_max
    refine' with_none KX G "min" ?aa32 ?qq32
    (case aa32 => k_is)
    intro z_min
    refine' with_none KX G "sum" ?aa33 ?qq33
    (case aa33 => k_is)
    intro z_sum
    refine' with_none KX G "all" ?aa34 ?qq34
    (case aa34 => k_is)
    intro z_all
    refine' with_none KX G "tuple" ?aa35 ?qq35
    (case aa35 => k_is)
    intro z_tuple
    refine' with_none KX G "list" ?aa36 ?qq36
    (case aa36 => k_is)
    intro z_list
    refine' with_none KX G "isinstance" ?aa37 ?qq37
    (case aa37 => k_is)
    intro z_isinstance
    refine' with_none KX G "range" ?aa38 ?qq38
    (case aa38 => k_is)
    intro z_range
    refine' with_none KX G "enumerate" ?aa39 ?qq39
    (case aa39 => k_is)
    intro z_enumerate
    refine' with_none KX G "zip" ?aa40 ?qq40
    (case aa40 => k_is)
    intro z_zip
    refine' with_none KX G "sorted" ?aa41 ?qq41
    (case aa41 => k_is)
    intro z_sorted
    refine' with_none KX G "set" ?aa42 ?qq42
    (case aa42 => k_is)
    intro z_set
    refine' with_none KX G "int" ?aa43 ?qq43
    (case aa43 => k_is)
    intro z_int
    refine' with_none KX G "str" ?aa44 ?qq44
    (case aa44 => k_is)
    intro z_str
    refine' with_none KX G "bool" ?aa45 ?qq45
    (case aa45 => k_is)
    intro z_bool
    refine' with_none KX G "dict" ?aa46 ?qq46
    (case aa46 => k_is)
    intro z_dict
    refine' with_none KX G "reversed" ?aa47 ?qq47
    (case aa47 => k_is)
    intro z_reversed
    refine' with_none KX G "ValueError" ?aa48 ?qq48
    (case aa48 => k_is)
    intro z_ValueError
    refine' with_none KX G "super" ?aa49 ?qq49
    (case aa49 => k_is)
    intro z_super
    refine' with_int KX G "MOST_FUNCTIONS" 8 ?aa50 ?qq50
    (case aa50 => k_is)
    intro i_MOST_FUNCTIONS
    refine' with_int KX G "MOST_ARGUMENTS" 3 ?aa51 ?qq51
    (case aa51 => k_is)
    intro i_MOST_ARGUMENTS
    refine' with_int KX G "MOST_PROGRAM_ROWS" 30 ?aa52 ?qq52
    (case aa52 => k_is)
    intro i_MOST_PROGRAM_ROWS
    refine' with_int KX G "PROGRAM_BOXES" 8 ?aa53 ?qq53
    (case aa53 => k_is)
    intro i_PROGRAM_BOXES
    refine' with_int KX G "NUMBERS" 1000 ?aa54 ?qq54
    (case aa54 => k_is)
    intro i_NUMBERS
    refine' with_int KX G "MOST_FIGURES" 3 ?aa55 ?qq55
    (case aa55 => k_is)
    intro i_MOST_FIGURES
    refine' with_dict (P := PySem.Challenge.rw_slideboxes_k21_texts_refused.prog) (w := w) KX G "PROGRAM_ROWS" ["num", "plus", "less", "times", "call", "skip", "say", "rest", "tell"] (prDs) ?aa56 ?ll56 ?ee56 ?tt56 ?oo56 (by decide) (by decide) ?qq56
    (case aa56 => k_is); (case ll56 => k_is)
    (case ee56 => walk_at "kr")
    (case tt56 => exact ⟨⟨_, _, rfl, rfl⟩, ⟨_, _, rfl, rfl⟩, ⟨_, _, rfl, rfl⟩, ⟨_, _, rfl, rfl⟩, ⟨_, _, rfl, rfl⟩, ⟨_, _, rfl, rfl⟩, ⟨_, _, rfl, rfl⟩, ⟨_, _, rfl, rfl⟩, ⟨_, _, rfl, rfl⟩, trivial⟩); (case oo56 => decide)
    intro d_PROGRAM_ROWS
    have mb := nones (mg := mg) (l := ["len", "max", "min", "sum", "all", "tuple", "list", "isinstance", "range", "enumerate", "zip", "sorted", "set", "int", "str", "bool", "dict", "reversed", "ValueError", "super"]) (by simp only [List.forall_mem_cons]; exact ⟨z_len, z_max, z_min, z_sum, z_all, z_tuple, z_list, z_isinstance, z_range, z_enumerate, z_zip, z_sorted, z_set, z_int, z_str, z_bool, z_dict, z_reversed, z_ValueError, z_super, fun _ h => absurd h List.not_mem_nil⟩)
    have gi := ints_of_top (mg := mg) (l := [("MOST_FUNCTIONS", 8), ("MOST_ARGUMENTS", 3), ("MOST_PROGRAM_ROWS", 30), ("PROGRAM_BOXES", 8), ("NUMBERS", 1000), ("MOST_FIGURES", 3)]) (by simp only [List.forall_mem_cons]; exact ⟨i_MOST_FUNCTIONS, i_MOST_ARGUMENTS, i_MOST_PROGRAM_ROWS, i_PROGRAM_BOXES, i_NUMBERS, i_MOST_FIGURES, fun _ h => absurd h List.not_mem_nil⟩)
    refine' with_clsA KX G "SlideError" (C := 24) ?aa_SlideError ?qq_SlideError
    (case aa_SlideError => k_is)
    intro mx_SlideError
    refine' with_clsA KX G "BadProgram" (C := 46) ?aa_BadProgram ?qq_BadProgram
    (case aa_BadProgram => k_is)
    intro mx_BadProgram
    refine' with_clsA KX G "BadCode" (C := 67) ?aa_BadCode ?qq_BadCode
    (case aa_BadCode => k_is)
    intro mx_BadCode
    refine' with_clsA KX G "BadHands" (C := 88) ?aa_BadHands ?qq_BadHands
    (case aa_BadHands => k_is)
    intro mx_BadHands
    refine' with_clsA KX G "BadOrder" (C := 109) ?aa_BadOrder ?qq_BadOrder
    (case aa_BadOrder => k_is)
    intro mx_BadOrder
    refine' with_clsA KX G "BadTrace" (C := 130) ?aa_BadTrace ?qq_BadTrace
    (case aa_BadTrace => k_is)
    intro mx_BadTrace
    refine' with_clsA KX G "BadPlan" (C := 151) ?aa_BadPlan ?qq_BadPlan
    (case aa_BadPlan => k_is)
    intro mx_BadPlan
    refine' with_clsA KX G "BadLog" (C := 172) ?aa_BadLog ?qq_BadLog
    (case aa_BadLog => k_is)
    intro mx_BadLog
    refine' with_clsA KX G "BadText" (C := 193) ?aa_BadText ?qq_BadText
    (case aa_BadText => k_is)
    intro mx_BadText
    refine' with_clsA KX G "BadRound" (C := 205) ?aa_BadRound ?qq_BadRound
    (case aa_BadRound => k_is)
    intro mx_BadRound
    refine' with_clsA KX G "BadRule" (C := 217) ?aa_BadRule ?qq_BadRule
    (case aa_BadRule => k_is)
    intro mx_BadRule
    refine' with_clsA KX G "BadCost" (C := 229) ?aa_BadCost ?qq_BadCost
    (case aa_BadCost => k_is)
    intro mx_BadCost
    refine' with_clsA KX G "NoHand" (C := 241) ?aa_NoHand ?qq_NoHand
    (case aa_NoHand => k_is)
    intro mx_NoHand
    refine' with_clsA KX G "NotMade" (C := 253) ?aa_NotMade ?qq_NotMade
    (case aa_NotMade => k_is)
    intro mx_NotMade
    refine' with_clsA KX G "NoRound" (C := 265) ?aa_NoRound ?qq_NoRound
    (case aa_NoRound => k_is)
    intro mx_NoRound
    refine' with_clsA KX G "Long" (C := 277) ?aa_Long ?qq_Long
    (case aa_Long => k_is)
    intro mx_Long
    have ca : ClsAt mg 24 46 67 88 109 130 151 172 193 205 217 229 241 253 265 277 := ⟨mx_SlideError, mx_BadProgram, mx_BadCode, mx_BadHands, mx_BadOrder, mx_BadTrace, mx_BadPlan, mx_BadLog, mx_BadText, mx_BadRound, mx_BadRule, mx_BadCost, mx_NoHand, mx_NotMade, mx_NoRound, mx_Long⟩
    refine' with_none KX G "super" ?aa_super ?qq_super
    (case aa_super => k_is)
    intro z_super
    refine' with_xiK KX 193 K21.xs_BadText ?lC_BadText ?vb_BadText ?sa_BadText ?exC_BadText ?tyC_BadText ?kC_BadText ?iC_BadText ?tI_BadText ?lI_BadText ?cI_BadText ?lc_BadText ?hv_BadText ?hf_BadText ?lcc_BadText ?mro_BadText ?sub_BadText ?opq_BadText ?sup_BadText ?nf_BadText ?qx_BadText
    (case lC_BadText => k_is)
    (case vb_BadText => first | rfl | decide +kernel)
    (case sa_BadText => k_is)
    (case exC_BadText => k_is)
    (case tyC_BadText => k_is)
    (case kC_BadText => k_is)
    (case iC_BadText => k_is)
    (case tI_BadText => k_is)
    (case lI_BadText => k_is)
    (case cI_BadText => k_is)
    (case lc_BadText => k_is)
    (case hv_BadText => exact rfl)
    (case hf_BadText => first | rfl | decide +kernel | kernel_rfl)
    (case lcc_BadText => k_is)
    (case mro_BadText => k_is)
    (case sub_BadText => k_is)
    (case opq_BadText => k_is)
    (case sup_BadText => first | ks_is | kernel_rfl)
    (case nf_BadText => (simp only [List.forall_mem_cons]; refine ⟨?_, fun _ h => absurd h List.not_mem_nil⟩ <;> k_is))
    intro xi_BadText
    refine' with_wdK KX (cs := [46, 67, 88, 109, 130, 151, 172, 193, 205, 217, 229, 241, 253, 265, 277]) (CS := 24) (C := 193) 7 ⟨?whg_BadText, ?whk_BadText, ?whs_BadText, ?whd_BadText, ?wha_BadText, ?whn_BadText, ?wht_BadText, ?whm_BadText⟩ (by decide) ?wsl_BadText ?wis_BadText ?wve_BadText ?wnf_BadText ?wnr_BadText ?wna_BadText ?qw_BadText
    (case whg_BadText => k_is)
    (case whk_BadText => k_is)
    (case whs_BadText => k_is)
    (case whd_BadText => k_is)
    (case wha_BadText => k_is)
    (case whn_BadText => k_is)
    (case wht_BadText => k_is)
    (case whm_BadText => k_is)
    (case wsl_BadText => first | kernel_rfl | decide +kernel)
    (case wis_BadText => first | kernel_rfl | decide +kernel)
    (case wve_BadText => first | kernel_rfl | decide +kernel)
    (case wnf_BadText => k_is)
    (case wnr_BadText => k_is)
    (case wna_BadText => k_is)
    intro wd7
    refine' with_tab KX G "law" (c := 469) (P := 465) ?ta_law ?tl_law ?thc_law ?tlc_law ?thv_law ?tno_law ?tq_law
    (case ta_law => k_is); (case tl_law => k_is); (case thc_law => exact rfl); (case tlc_law => k_is); (case thv_law => exact rfl); (case tno_law => first | rfl | kernel_rfl)
    intro tf_law
    obtain ⟨f, oc, kV, doc, pm, ct, od, an, osl, g1, lk, hcd, kp, hb⟩ := Fun.code at_law tf_law
    have ef := hmg.symm.trans g1
    cases ef
    refine ⟨?tfs, _, fun s u => .of_eq rfl, fun base _ _ tb => law_all mb gi d_PROGRAM_ROWS ca wd7 xi_BadText z_super mx_BadText  at_whole at_below at_allbelow at_functioncanbe at_firstbadfunction at_rowcanbe at_firstbad at_checkprogram at_lineof at_written at_isnumber at_canhave at_rowof at_rowsof at_read at_Lmix at_Lnext at_Lplainrow at_Lcounter at_Ldrawn at_Lprogram at_Lalike at_Lword at_Lprintable at_Lnumber at_Lrow at_Lread at_Lspoilt lk hcd (tb _ List.mem_cons_self)⟩
    case tfs => simp only [List.forall_mem_cons]; exact ⟨tf_law, fun _ h => absurd h List.not_mem_nil⟩

