import PyProof.Rows.All
import Wide.All
import OpenK.AllK
import Wide.FinOn
import HandS.ForMost
import HandS.ForExc
import HandS.Evl
import HandS.Wide
import HandS.WideBits
import HandS.Gcd
import HandS.IsInst
import HandS.ExcIs
import HandS.Rev
import HandS.Zip
import HandS.TupAny
import HandS.Deep
import HandS.TryOnly
import HandS.ExcOwn
import HandS.WordsExc
import OpenK.KOwn
import KE.KMathGC
import HandS.Iter
import HandS.Flow
import PySem.Challenge.RW_rootpeg_k09_compared
set_option Elab.async false
set_option linter.all false
set_option maxRecDepth 100000
set_option maxHeartbeats 4000000
/-! Kit of my own: a def's reading told by data (PyData), not by values and heaps. -/
namespace Rt
open PySem L2 Evl

/-! ### steps of a heap: G the part that never changes, H the whole -/
structure Step (G H G2 H2 : Hp) : Prop where
  g : Ex G G2
  h : Ex H H2
  gh : Ex G2 H2
  new : ∀ p, G2 p ≠ none → G p = none → H p = none
section
variable {G H G2 H2 G3 H3 : Hp} {p : Addr} {o : HO}
theorem Step.refl (e : Ex G H) : Step G H G H := ⟨Ex.refl G, Ex.refl H, e, fun p h1 h2 => absurd h2 h1⟩
theorem Step.trans (a : Step G H G2 H2) (b : Step G2 H2 G3 H3) : Step G H G3 H3 :=
  ⟨a.g.trans b.g, a.h.trans b.h, b.gh, fun p h1 h2 => by
    by_cases h : G2 p = none
    · exact fresh_back a.h (b.new p h1 h)
    · exact a.new p h h2⟩
theorem Ex.upd2 (e : Ex G H) (o : HO) (p : Addr) : Ex (upd G p o) (upd H p o) := fun b u hb => by
  by_cases h : b = p
  · subst h; rw [upd_same] at hb ⊢; exact hb
  · rw [upd_ne h] at hb ⊢; exact e b u hb
theorem Step.alloc (e : Ex G H) (hp : H p = none) : Step G H (upd G p o) (upd H p o) :=
  ⟨Ex.new (fresh_back e hp), Ex.new hp, Ex.upd2 e o p, fun q h1 h2 => by
    by_cases h : q = p
    · rw [h]; exact hp
    · rw [upd_ne h] at h1; exact absurd h2 h1⟩
/-- a new object outside of the frozen part -/
theorem Step.allocO (e : Ex G H) (hp : H p = none) : Step G H G (upd H p o) :=
  ⟨Ex.refl G, Ex.new hp, e.trans (Ex.new hp), fun q h1 h2 => absurd h2 h1⟩
/-- an object outside of both changes -/
theorem Step.mutO (s : Step G H G2 H2) (h1 : H p = none) (h2 : G2 p = none) : Step G H G2 (upd H2 p o) :=
  ⟨s.g, Ex.mut s.h h1, Ex.mut s.gh h2, s.new⟩
/-- an object outside of the first is frozen -/
theorem Step.frz (s : Step G H G2 H2) (h1 : H p = none) (h2 : H2 p = some o) : Step G H (upd G2 p o) H2 := by
  refine ⟨fun b u hb => ?_, s.h, fun b u hb => ?_, fun q h3 h4 => ?_⟩
  · by_cases h : b = p
    · subst h
      have := s.h
      have e1 : G2 b = some u := s.g b u hb
      have e2 := s.gh b u e1
      rw [upd_same]; rw [h2] at e2; exact e2
    · rw [upd_ne h]; exact s.g b u hb
  · by_cases h : b = p
    · subst h; rw [upd_same] at hb; rw [h2]; exact hb
    · rw [upd_ne h] at hb; exact s.gh b u hb
  · by_cases h : q = p
    · rw [h]; exact h1
    · rw [upd_ne h] at h3; exact s.new q h3 h4
end

/-! ### data -/
section
variable {K : PySem.W.Frag} {G G' : Hp}
mutual
theorem dp_mono (e : Ex G G') : ∀ (d : PyData) (v : V), Dp K G v d → Dp K G' v d
  | .none, _, h => by cases h; exact .non
  | .bool b, _, h => by cases h; exact .bl _
  | .int i, _, h => by cases h; exact .int _
  | .str x, _, h => by cases h; exact .str _
  | .list ds, _, h => by
    cases h with
    | lst hs ha => exact .lst (ex_l e hs) (dpa_mono e ds _ ha)
  | .tuple ds, _, h => by
    cases h with
    | tup hs ha => exact .tup (ex_t e hs) (dpa_mono e ds _ ha)
  | .dict _, _, h => by cases h
theorem dpa_mono (e : Ex G G') : ∀ (ds : List PyData) (vs : List V), DpAll K G vs ds → DpAll K G' vs ds
  | [], _, h => by cases h; exact .nil
  | d :: ds, _, h => by
    cases h with
    | cons h1 h2 => exact .cons (dp_mono e d _ h1) (dpa_mono e ds _ h2)
end
end
end Rt
namespace L2
open PySem Evl
section
variable {K : PySem.W.Frag} {G G' : Hp}
theorem DpAll.len : ∀ {vs : List V} {ds : List PyData}, DpAll K G vs ds → vs.length = ds.length
  | _, _, .nil => rfl
  | _, _, .cons _ t => by rw [List.length_cons, List.length_cons, DpAll.len t]
theorem DpAll.get : ∀ {vs : List V} {ds : List PyData} {i : Nat} {d : PyData}, DpAll K G vs ds → ds[i]? = some d → ∃ v, vs[i]? = some v ∧ Dp K G v d
  | _, _, _, _, .nil, e => by simp at e
  | _, _, 0, _, .cons h _, e => by simp at e; subst e; exact ⟨_, rfl, h⟩
  | _, _, i + 1, d, .cons _ t, e => by
    obtain ⟨v, h1, h2⟩ := DpAll.get (i := i) (d := d) t (by simpa using e)
    exact ⟨v, by simpa using h1, h2⟩
theorem DpAll.getV : ∀ {vs : List V} {ds : List PyData} {i : Nat} {v : V}, DpAll K G vs ds → vs[i]? = some v → ∃ d, ds[i]? = some d ∧ Dp K G v d
  | _, _, _, _, .nil, e => by simp at e
  | _, _, 0, _, .cons h _, e => by simp at e; subst e; exact ⟨_, rfl, h⟩
  | _, _, i + 1, v, .cons _ t, e => by
    obtain ⟨d, h1, h2⟩ := DpAll.getV (i := i) (v := v) t (by simpa using e)
    exact ⟨d, by simpa using h1, h2⟩
theorem DpAll.app : ∀ {vs ws : List V} {ds es : List PyData}, DpAll K G vs ds → DpAll K G ws es → DpAll K G (vs ++ ws) (ds ++ es)
  | _, _, _, _, .nil, s => s
  | _, _, _, _, .cons h t, s => .cons h (DpAll.app t s)
theorem DpAll.tk : ∀ {vs : List V} {ds : List PyData} (n : Nat), DpAll K G vs ds → DpAll K G (vs.take n) (ds.take n)
  | _, _, 0, _ => .nil
  | _, _, _ + 1, .nil => .nil
  | _, _, n + 1, .cons h t => .cons h (DpAll.tk n t)
theorem DpAll.dr : ∀ {vs : List V} {ds : List PyData} (n : Nat), DpAll K G vs ds → DpAll K G (vs.drop n) (ds.drop n)
  | _, _, 0, h => h
  | _, _, _ + 1, .nil => .nil
  | _, _, n + 1, .cons _ t => DpAll.dr n t
theorem DpAll.rev {vs : List V} {ds : List PyData} (h : DpAll K G vs ds) : DpAll K G vs.reverse ds.reverse := by
  induction ds generalizing vs with
  | nil => cases h; exact .nil
  | cons d ds ih =>
    cases h with
    | cons h1 h2 =>
      rw [List.reverse_cons, List.reverse_cons]
      exact DpAll.app (ih h2) (.cons h1 .nil)
theorem DpAll.st : ∀ {vs : List V} {ds : List PyData} {v : V} {d : PyData} (i : Nat), DpAll K G vs ds → Dp K G v d → DpAll K G (vs.set i v) (ds.set i d)
  | _, _, _, _, _, .nil, _ => .nil
  | _, _, _, _, 0, .cons _ t, h => .cons h t
  | _, _, _, _, i + 1, .cons q t, h => .cons q (DpAll.st i t h)
theorem DpAll.dl {vs : List V} {ds : List PyData} (h : DpAll K G vs ds) : DpAll K G vs.dropLast ds.dropLast := by
  rw [List.dropLast_eq_take, List.dropLast_eq_take, h.len]
  exact h.tk _
end
end L2
namespace Rt
open PySem L2 Evl
section
variable {K : PySem.W.Frag} {G G' : Hp}
/-- ints -/
theorem dpa_ints : ∀ {xs : List Int}, DpAll K G (xs.map V.int) (xs.map PyData.int)
  | [] => .nil
  | _ :: _ => .cons (.int _) dpa_ints
theorem dp_int {v : V} {i : Int} (h : Dp K G v (.int i)) : v = .int i := by cases h; rfl
theorem dp_bl {v : V} {b : Bool} (h : Dp K G v (.bool b)) : v = .bl b := by cases h; rfl
end

/-- a list or a tuple of ds -/
inductive SeqD : PyData → List PyData → Prop
  | l (ds : List PyData) : SeqD (.list ds) ds
  | t (ds : List PyData) : SeqD (.tuple ds) ds
theorem SeqD.of {K : PySem.W.Frag} {G : Hp} {v : V} {d : PyData} {ds : List PyData} (s : SeqD d ds) (h : Dp K G v d) : ∃ a xs, v = .ref a ∧ (SqL K G a xs ∨ SqT K G a xs) ∧ DpAll K G xs ds := by
  cases s with
  | l =>
    cases h with
    | lst hs ha => exact ⟨_, _, rfl, .inl hs, ha⟩
  | t =>
    cases h with
    | tup hs ha => exact ⟨_, _, rfl, .inr hs, ha⟩

/-! ### the slots -/
inductive SV where
  | d (x : PyData)
  | own (xs : List PyData)
  | v (x : V)
abbrev Rho := List (Option SV)
structure Env (K : PySem.W.Frag) (G H : Hp) (σ : L2.St) (ρ : Rho) : Prop where
  gh : Ex G H
  len : σ.length = ρ.length
  dat : ∀ (i : Nat) x, ρ[i]? = some (some (.d x)) → ∃ v, σ[i]? = some (some v) ∧ Dp K G v x
  own : ∀ (i : Nat) xs, ρ[i]? = some (some (.own xs)) → ∃ p vs, σ[i]? = some (some (.ref p)) ∧ H p = some (.lst vs) ∧ G p = none ∧ DpAll K G vs xs
  raw : ∀ (i : Nat) x, ρ[i]? = some (some (.v x)) → σ[i]? = some (some x)
  sep : ∀ (i j : Nat) xs ys p, i ≠ j → ρ[i]? = some (some (.own xs)) → ρ[j]? = some (some (.own ys)) → σ[i]? = some (some (.ref p)) → σ[j]? ≠ some (some (.ref p))
/-- what is owned is not the caller's -/
structure Base (B0 B G H : Hp) (σ : L2.St) (ρ : Rho) : Prop where
  st : Step B0 B G H
  own : ∀ (i : Nat) xs p, ρ[i]? = some (some (.own xs)) → σ[i]? = some (some (.ref p)) → B p = none
section
variable {K : PySem.W.Frag} {G H G2 H2 B0 B : Hp} {σ : L2.St} {ρ : Rho} {i : Nat} {v : V} {d : PyData} {ds : List PyData} {p : Addr}
theorem Env.step (I : Env K G H σ ρ) (s : Step G H G2 H2) : Env K G2 H2 σ ρ := by
  refine ⟨s.gh, I.len, fun i x h => ?_, fun i xs h => ?_, I.raw, I.sep⟩
  · obtain ⟨v, h1, h2⟩ := I.dat i x h
    exact ⟨v, h1, dp_mono s.g _ _ h2⟩
  · obtain ⟨p, vs, h1, h2, h3, h4⟩ := I.own i xs h
    refine ⟨p, vs, h1, s.h _ _ h2, ?_, dpa_mono s.g _ _ h4⟩
    by_cases q : G2 p = none
    · exact q
    · have := s.new p q h3
      rw [h2] at this; cases this
theorem Base.step (b : Base B0 B G H σ ρ) (s : Step G H G2 H2) : Base B0 B G2 H2 σ ρ := ⟨b.st.trans s, b.own⟩
theorem getset {α : Type} {l : List α} {i j : Nat} {a b : α} (h : (l.set i a)[j]? = some b) : (j = i ∧ b = a) ∨ (j ≠ i ∧ l[j]? = some b) := by
  by_cases e : i = j
  · subst e
    rw [List.getElem?_set_self'] at h
    cases q : l[i]? with
    | none => rw [q] at h; cases h
    | some c => rw [q] at h; exact .inl ⟨rfl, (Option.some.inj h).symm⟩
  · rw [List.getElem?_set_ne e] at h
    exact .inr ⟨fun q => e q.symm, h⟩
theorem Env.lt (I : Env K G H σ ρ) {i : Nat} {a b : Option SV} (h : (ρ.set i a)[i]? = some b) : i < σ.length := by
  obtain ⟨h1, _⟩ := List.getElem?_eq_some_iff.mp h
  rw [List.length_set] at h1
  rw [I.len]; exact h1
/-- data is stored -/
theorem Env.set (I : Env K G H σ ρ) (hv : Dp K G v d) (i : Nat) : Env K G H (σ.set i (some v)) (ρ.set i (some (.d d))) := by
  refine ⟨I.gh, by rw [List.length_set, List.length_set]; exact I.len, fun j x h => ?_, fun j xs h => ?_, fun j x h => by
    rcases getset h with ⟨rfl, e⟩ | ⟨ne, h'⟩
    · cases e
    · rw [List.getElem?_set_ne (Ne.symm ne)]; exact I.raw j x h', fun j k xs ys q hjk h1 h2 h3 => ?_⟩
  · rcases getset h with ⟨rfl, e⟩ | ⟨ne, h'⟩
    · cases e
      exact ⟨v, by rw [List.getElem?_set_self (I.lt h)], hv⟩
    · rw [List.getElem?_set_ne (Ne.symm ne)]; exact I.dat j x h'
  · rcases getset h with ⟨rfl, e⟩ | ⟨ne, h'⟩
    · cases e
    · rw [List.getElem?_set_ne (Ne.symm ne)]; exact I.own j xs h'
  · rcases getset h1 with ⟨rfl, e⟩ | ⟨ne, h1'⟩
    · cases e
    · rcases getset h2 with ⟨rfl, e⟩ | ⟨ne2, h2'⟩
      · cases e
      · rw [List.getElem?_set_ne (Ne.symm ne)] at h3
        rw [List.getElem?_set_ne (Ne.symm ne2)]
        exact I.sep j k xs ys q hjk h1' h2' h3
/-- a value that is no data -/
theorem Env.setV (I : Env K G H σ ρ) (i : Nat) : Env K G H (σ.set i (some v)) (ρ.set i (some (.v v))) := by
  refine ⟨I.gh, by rw [List.length_set, List.length_set]; exact I.len, fun j x h => ?_, fun j xs h => ?_, fun j x h => ?_, fun j k xs ys q hjk h1 h2 h3 => ?_⟩
  · rcases getset h with ⟨rfl, e⟩ | ⟨ne, h'⟩
    · cases e
    · rw [List.getElem?_set_ne (Ne.symm ne)]; exact I.dat j x h'
  · rcases getset h with ⟨rfl, e⟩ | ⟨ne, h'⟩
    · cases e
    · rw [List.getElem?_set_ne (Ne.symm ne)]; exact I.own j xs h'
  · rcases getset h with ⟨rfl, e⟩ | ⟨ne, h'⟩
    · cases e; rw [List.getElem?_set_self (I.lt h)]
    · rw [List.getElem?_set_ne (Ne.symm ne)]; exact I.raw j x h'
  · rcases getset h1 with ⟨rfl, e⟩ | ⟨ne, h1'⟩
    · cases e
    · rcases getset h2 with ⟨rfl, e⟩ | ⟨ne2, h2'⟩
      · cases e
      · rw [List.getElem?_set_ne (Ne.symm ne)] at h3
        rw [List.getElem?_set_ne (Ne.symm ne2)]
        exact I.sep j k xs ys q hjk h1' h2' h3
theorem Base.setV (b : Base B0 B G H σ ρ) (i : Nat) : Base B0 B G H (σ.set i (some v)) (ρ.set i (some (.v v))) := ⟨b.st, fun j xs q h1 h2 => by
  rcases getset h1 with ⟨rfl, e⟩ | ⟨ne, h1'⟩
  · cases e
  · rw [List.getElem?_set_ne (Ne.symm ne)] at h2
    exact b.own j xs q h1' h2⟩
theorem Base.set (b : Base B0 B G H σ ρ) (i : Nat) : Base B0 B G H (σ.set i (some v)) (ρ.set i (some (.d d))) := ⟨b.st, fun j xs q h1 h2 => by
  rcases getset h1 with ⟨rfl, e⟩ | ⟨ne, h1'⟩
  · cases e
  · rw [List.getElem?_set_ne (Ne.symm ne)] at h2
    exact b.own j xs q h1' h2⟩
/-- a new list of one's own is stored -/
theorem Env.setO {vs : List V} (I : Env K G H σ ρ) (s : Step G H G2 H2) (hp : H p = none) (hg : G2 p = none) (hl : H2 p = some (.lst vs)) (hd : DpAll K G2 vs ds) (i : Nat) : Env K G2 H2 (σ.set i (some (.ref p))) (ρ.set i (some (.own ds))) := by
  have I2 := I.step s
  have nw : ∀ (j : Nat) xs, ρ[j]? = some (some (.own xs)) → σ[j]? ≠ some (some (.ref p)) := fun j xs h e => by
    obtain ⟨q, ws, h1, h2, _⟩ := I.own j xs h
    rw [e] at h1
    cases h1
    rw [hp] at h2; cases h2
  refine ⟨I2.gh, by rw [List.length_set, List.length_set]; exact I.len, fun j x h => ?_, fun j xs h => ?_, fun j x h => by
    rcases getset h with ⟨rfl, e⟩ | ⟨ne, h'⟩
    · cases e
    · rw [List.getElem?_set_ne (Ne.symm ne)]; exact I.raw j x h', fun j k xs ys q hjk h1 h2 h3 => ?_⟩
  · rcases getset h with ⟨rfl, e⟩ | ⟨ne, h'⟩
    · cases e
    · rw [List.getElem?_set_ne (Ne.symm ne)]; exact I2.dat j x h'
  · rcases getset h with ⟨rfl, e⟩ | ⟨ne, h'⟩
    · cases e
      exact ⟨p, vs, by rw [List.getElem?_set_self (I.lt h)], hl, hg, hd⟩
    · rw [List.getElem?_set_ne (Ne.symm ne)]; exact I2.own j xs h'
  · rcases getset h1 with ⟨rfl, e⟩ | ⟨ne, h1'⟩
    · rcases getset h2 with ⟨e2, _⟩ | ⟨ne2, h2'⟩
      · exact absurd e2.symm hjk
      · rw [List.getElem?_set_self (I.lt h1)] at h3
        cases h3
        rw [List.getElem?_set_ne (Ne.symm ne2)]
        exact nw k ys h2'
    · rw [List.getElem?_set_ne (Ne.symm ne)] at h3
      rcases getset h2 with ⟨rfl, e⟩ | ⟨ne2, h2'⟩
      · rw [List.getElem?_set_self (I.lt h2)]
        intro z
        cases z
        exact nw j xs h1' h3
      · rw [List.getElem?_set_ne (Ne.symm ne2)]
        exact I.sep j k xs ys q hjk h1' h2' h3
theorem Base.setO (b : Base B0 B G H σ ρ) (I : Env K G H σ ρ) (s : Step G H G2 H2) (hp : H p = none) (i : Nat) : Base B0 B G2 H2 (σ.set i (some (.ref p))) (ρ.set i (some (.own ds))) := ⟨b.st.trans s, fun j xs q h1 h2 => by
  rcases getset h1 with ⟨rfl, e⟩ | ⟨ne, h1'⟩
  · rw [List.getElem?_set_self (I.lt h1)] at h2
    cases h2
    exact fresh_back b.st.h hp
  · rw [List.getElem?_set_ne (Ne.symm ne)] at h2
    exact b.own j xs q h1' h2⟩
/-- an owned list is written -/
theorem Env.mut {ds' : List PyData} {vs' : List V} (I : Env K G H σ ρ) (h : ρ[i]? = some (some (.own ds))) (hs : σ[i]? = some (some (.ref p))) (hd : DpAll K G vs' ds') : Env K G (upd H p (.lst vs')) σ (ρ.set i (some (.own ds'))) := by
  obtain ⟨p', vs, h1, h2, h3, h4⟩ := I.own i ds h
  rw [hs] at h1; cases h1
  refine ⟨Ex.mut I.gh h3, by rw [List.length_set]; exact I.len, fun j x hj => ?_, fun j xs hj => ?_, fun j x hj => by
    rcases getset hj with ⟨rfl, e⟩ | ⟨ne, h'⟩
    · cases e
    · exact I.raw j x h', fun j k xs ys q hjk a1 a2 a3 => ?_⟩
  · rcases getset hj with ⟨rfl, e⟩ | ⟨ne, h'⟩
    · cases e
    · exact I.dat j x h'
  · rcases getset hj with ⟨rfl, e⟩ | ⟨ne, h'⟩
    · cases e
      exact ⟨p, vs', hs, upd_same, h3, hd⟩
    · obtain ⟨q, ws, b1, b2, b3, b4⟩ := I.own j xs h'
      refine ⟨q, ws, b1, ?_, b3, b4⟩
      have nq : q ≠ p := fun e => by
        subst e
        exact I.sep i j ds xs q (Ne.symm ne) h h' hs b1
      rw [upd_ne nq]; exact b2
  · have r : ∀ (j : Nat) xs, (ρ.set i (some (.own ds')))[j]? = some (some (.own xs)) → ∃ ys, ρ[j]? = some (some (.own ys)) := fun j xs hj => by
      rcases getset hj with ⟨rfl, _⟩ | ⟨_, h'⟩
      · exact ⟨ds, h⟩
      · exact ⟨xs, h'⟩
    obtain ⟨xs', r1⟩ := r j xs a1
    obtain ⟨ys', r2⟩ := r k ys a2
    exact I.sep j k xs' ys' q hjk r1 r2 a3
theorem Base.mut {ds' : List PyData} {vs' : List V} (b : Base B0 B G H σ ρ) (I : Env K G H σ ρ) (h : ρ[i]? = some (some (.own ds))) (hs : σ[i]? = some (some (.ref p))) : Base B0 B G (upd H p (.lst vs')) σ (ρ.set i (some (.own ds'))) := by
  obtain ⟨p', vs, h1, h2, h3, h4⟩ := I.own i ds h
  rw [hs] at h1; cases h1
  refine ⟨b.st.mutO (b.own i ds p h hs) h3, fun j xs q hj hq => ?_⟩
  rcases getset hj with ⟨rfl, _⟩ | ⟨_, h'⟩
  · exact b.own j ds q h hq
  · exact b.own j xs q h' hq
/-- an owned list is given up -/
theorem Env.frz (I : Env K G H σ ρ) (b : Base B0 B G H σ ρ) (h : ρ[i]? = some (some (.own ds))) : ∃ G2, Ex G G2 ∧ Env K G2 H σ (ρ.set i (some (.d (.list ds)))) ∧ Base B0 B G2 H σ (ρ.set i (some (.d (.list ds)))) := by
  obtain ⟨p, vs, h1, h2, h3, h4⟩ := I.own i ds h
  have eg : Ex G (upd G p (.lst vs)) := Ex.new h3
  refine ⟨upd G p (.lst vs), eg, ⟨fun c u hc => ?_, by rw [List.length_set]; exact I.len, fun j x hj => ?_, fun j xs hj => ?_, fun j x hj => by
    rcases getset hj with ⟨rfl, e⟩ | ⟨ne, h'⟩
    · cases e
    · exact I.raw j x h', fun j k xs ys q hjk a1 a2 a3 => ?_⟩, ⟨b.st.frz (b.own i ds p h h1) h2, fun j xs q hj hq => ?_⟩⟩
  · by_cases e : c = p
    · subst e; rw [upd_same] at hc; cases hc; exact h2
    · rw [upd_ne e] at hc; exact I.gh c u hc
  · rcases getset hj with ⟨rfl, e⟩ | ⟨ne, h'⟩
    · cases e
      exact ⟨.ref p, h1, .lst (sq_of upd_same) (dpa_mono eg _ _ h4)⟩
    · obtain ⟨v, q1, q2⟩ := I.dat j x h'
      exact ⟨v, q1, dp_mono eg _ _ q2⟩
  · rcases getset hj with ⟨rfl, e⟩ | ⟨ne, h'⟩
    · cases e
    · obtain ⟨q, ws, b1, b2, b3, b4⟩ := I.own j xs h'
      have nq : q ≠ p := fun e => by
        subst e
        exact I.sep i j ds xs q (Ne.symm ne) h h' h1 b1
      exact ⟨q, ws, b1, b2, by rw [upd_ne nq]; exact b3, dpa_mono eg _ _ b4⟩
  · rcases getset a1 with ⟨rfl, e⟩ | ⟨ne, a1'⟩
    · cases e
    · rcases getset a2 with ⟨rfl, e⟩ | ⟨ne2, a2'⟩
      · cases e
      · exact I.sep j k xs ys q hjk a1' a2' a3
  · rcases getset hj with ⟨rfl, e⟩ | ⟨ne, h'⟩
    · cases e
    · exact b.own j xs q h' hq
end

/-! ### what an expression is, as data -/
section
variable (K : PySem.W.Frag)
def ED (te : TE) (ρ : Rho) (d : PyData) : Prop := ∀ G H σ, Env K G H σ ρ → ∀ Q : VK, (∀ v G2 H2, Step G H G2 H2 → Dp K G2 v d → Q v H2) → te σ H Q
/-- a new list -/
def EF (te : TE) (ρ : Rho) (ds : List PyData) : Prop := ∀ G H σ, Env K G H σ ρ → ∀ Q : VK, (∀ p vs G2 H2, Step G H G2 H2 → H p = none → G2 p = none → H2 p = some (.lst vs) → DpAll K G2 vs ds → Q (.ref p) H2) → te σ H Q
def TD (t : TT) (ρ : Rho) (b : Bool) : Prop := ∀ G H σ, Env K G H σ ρ → ∀ Q : Bool → Hp → Prop, (∀ G2 H2, Step G H G2 H2 → Q b H2) → t σ H Q
def AD (ta : TA) (ρ : Rho) (ds : List PyData) : Prop := ∀ G H σ, Env K G H σ ρ → ∀ Q : List V → Hp → Prop, (∀ vs G2 H2, Step G H G2 H2 → DpAll K G2 vs ds → Q vs H2) → ta σ H Q
end
section
variable {K : PySem.W.Frag} {ρ : Rho} {ta tb tc te : TE} {t u : TT} {d e f : PyData} {ds es : List PyData} {i j : Int}
theorem EF.ed (h : EF K te ρ ds) : ED K te ρ (.list ds) := fun G H σ I Q q => h G H σ I Q fun p vs G2 H2 s hp hg hl hd =>
  q (.ref p) (upd G2 p (.lst vs)) H2 (s.frz hp hl) (.lst (sq_of upd_same) (dpa_mono (Ex.new hg) _ _ hd))
theorem ED.cast (h : ED K te ρ d) (e1 : d = e) : ED K te ρ e := e1 ▸ h
theorem EF.cast (h : EF K te ρ ds) (e1 : ds = es) : EF K te ρ es := e1 ▸ h
theorem TD.cast {a b : Bool} (h : TD K t ρ a) (e1 : a = b) : TD K t ρ b := e1 ▸ h
theorem ed_var {n : Nat} (h : ρ[n]? = some (some (.d d))) : ED K (tVar n) ρ d := fun G H σ I Q q => by
  obtain ⟨v, h1, h2⟩ := I.dat n d h
  exact ⟨v, h1, q v G H (Step.refl I.gh) h2⟩
theorem ed_int : ED K (tC (.int i)) ρ (.int i) := fun G H σ I Q q => q _ G H (Step.refl I.gh) (.int i)
theorem ed_bl {b : Bool} : ED K (tC (.bl b)) ρ (.bool b) := fun G H σ I Q q => q _ G H (Step.refl I.gh) (.bl b)
theorem ed_non : ED K (tC .non) ρ .none := fun G H σ I Q q => q _ G H (Step.refl I.gh) .non
theorem ed_op {r : R2} (ha : ED K ta ρ d) (hb : ED K tb ρ e) (hr : ∀ x y G H, Ex G H → Dp K G x d → Dp K G y e → ∀ Q : VK, (∀ v G2 H2, Step G H G2 H2 → Dp K G2 v f → Q v H2) → r x y H Q) : ED K (tOp r ta tb) ρ f := fun G H σ I Q q =>
  ha G H σ I _ fun x G1 H1 s1 h1 => hb G1 H1 σ (I.step s1) _ fun y G2 H2 s2 h2 => hr x y G2 H2 s2.gh (dp_mono s2.g _ _ h1) h2 Q fun v G3 H3 s3 h3 => q v G3 H3 ((s1.trans s2).trans s3) h3
theorem ef_op {r : R2} (ha : ED K ta ρ d) (hb : ED K tb ρ e) (hr : ∀ x y G H, Ex G H → Dp K G x d → Dp K G y e → ∀ Q : VK, (∀ p vs G2 H2, Step G H G2 H2 → H p = none → G2 p = none → H2 p = some (.lst vs) → DpAll K G2 vs ds → Q (.ref p) H2) → r x y H Q) : EF K (tOp r ta tb) ρ ds := fun G H σ I Q q =>
  ha G H σ I _ fun x G1 H1 s1 h1 => hb G1 H1 σ (I.step s1) _ fun y G2 H2 s2 h2 => hr x y G2 H2 s2.gh (dp_mono s2.g _ _ h1) h2 Q fun p vs G3 H3 s3 hp hg hl hd => q p vs G3 H3 ((s1.trans s2).trans s3) (fresh_back (s1.trans s2).h hp) hg hl hd
/-- two ints -/
theorem ed_I0 {g : Int → Int → Int} (ha : ED K ta ρ (.int i)) (hb : ED K tb ρ (.int j)) : ED K (tOp (rI0 fun i j => .int (g i j)) ta tb) ρ (.int (g i j)) :=
  ed_op ha hb fun x y G H e hx hy Q q => by
    cases dp_int hx; cases dp_int hy
    exact ⟨i, j, rfl, rfl, q _ G H (Step.refl e) (.int _)⟩
theorem ed_I {C : Int → Int → Prop} {g : Int → Int → Int} (ha : ED K ta ρ (.int i)) (hb : ED K tb ρ (.int j)) (hc : C i j) : ED K (tOp (rI C fun i j => .int (g i j)) ta tb) ρ (.int (g i j)) :=
  ed_op ha hb fun x y G H e hx hy Q q => by
    cases dp_int hx; cases dp_int hy
    exact ⟨i, j, rfl, rfl, hc, q _ G H (Step.refl e) (.int _)⟩
theorem ed_B0 {g : Int → Int → Bool} (ha : ED K ta ρ (.int i)) (hb : ED K tb ρ (.int j)) : ED K (tOp (rI0 fun i j => .bl (g i j)) ta tb) ρ (.bool (g i j)) :=
  ed_op ha hb fun x y G H e hx hy Q q => by
    cases dp_int hx; cases dp_int hy
    exact ⟨i, j, rfl, rfl, q _ G H (Step.refl e) (.bl _)⟩
theorem ed_add (ha : ED K ta ρ (.int i)) (hb : ED K tb ρ (.int j)) : ED K (tOp (rI0 fun i j => .int (i + j)) ta tb) ρ (.int (i + j)) := ed_I0 (g := fun i j => i + j) ha hb
theorem ed_sub (ha : ED K ta ρ (.int i)) (hb : ED K tb ρ (.int j)) : ED K (tOp (rI0 fun i j => .int (i - j)) ta tb) ρ (.int (i - j)) := ed_I0 (g := fun i j => i - j) ha hb
theorem ed_mul (ha : ED K ta ρ (.int i)) (hb : ED K tb ρ (.int j)) (hc : CMulX i j) : ED K (tOp (rI CMulX fun i j => .int (i * j)) ta tb) ρ (.int (i * j)) := ed_I (g := fun i j => i * j) ha hb hc
theorem ed_mod (ha : ED K ta ρ (.int i)) (hb : ED K tb ρ (.int j)) (hc : j ≠ 0) : ED K (tOp (rI (fun _ j => j ≠ 0) fun i j => .int (i.fmod j)) ta tb) ρ (.int (i.fmod j)) := ed_I (C := fun _ j => j ≠ 0) (g := fun i j => i.fmod j) ha hb hc
theorem ed_fdiv (ha : ED K ta ρ (.int i)) (hb : ED K tb ρ (.int j)) (hc : j ≠ 0) : ED K (tOp (rI (fun _ j => j ≠ 0) fun i j => .int (i.fdiv j)) ta tb) ρ (.int (i.fdiv j)) := ed_I (C := fun _ j => j ≠ 0) (g := fun i j => i.fdiv j) ha hb hc
theorem ed_pow (ha : ED K ta ρ (.int i)) (hb : ED K tb ρ (.int j)) (hc : CPow i j) : ED K (tOp (rI CPow fun i j => .int (i ^ j.toNat)) ta tb) ρ (.int (i ^ j.toNat)) := ed_I (g := fun i j => i ^ j.toNat) ha hb hc
theorem ed_lt (ha : ED K ta ρ (.int i)) (hb : ED K tb ρ (.int j)) : ED K (tOp (rI0 fun i j => .bl (decide (i < j))) ta tb) ρ (.bool (decide (i < j))) := ed_B0 (g := fun i j => decide (i < j)) ha hb
theorem ed_le (ha : ED K ta ρ (.int i)) (hb : ED K tb ρ (.int j)) : ED K (tOp (rI0 fun i j => .bl (decide (i ≤ j))) ta tb) ρ (.bool (decide (i ≤ j))) := ed_B0 (g := fun i j => decide (i ≤ j)) ha hb
theorem ed_gt (ha : ED K ta ρ (.int i)) (hb : ED K tb ρ (.int j)) : ED K (tOp (rI0 fun i j => .bl (decide (j < i))) ta tb) ρ (.bool (decide (j < i))) := ed_B0 (g := fun i j => decide (j < i)) ha hb
theorem ed_ge (ha : ED K ta ρ (.int i)) (hb : ED K tb ρ (.int j)) : ED K (tOp (rI0 fun i j => .bl (decide (j ≤ i))) ta tb) ρ (.bool (decide (j ≤ i))) := ed_B0 (g := fun i j => decide (j ≤ i)) ha hb
theorem ed_eqD (ha : ED K ta ρ d) (hb : ED K tb ρ e) (h1 : SeqAt.shaped d = true) (h2 : SeqAt.shaped e = true) : ED K (tOp (rEqD K) ta tb) ρ (.bool (PyData.eqv d e)) :=
  ed_op ha hb fun x y G H ex hx hy Q q => ⟨d, e, dp_mono ex _ _ hx, dp_mono ex _ _ hy, h1, h2, q _ G H (Step.refl ex) (.bl _)⟩
theorem ed_neD (ha : ED K ta ρ d) (hb : ED K tb ρ e) (h1 : SeqAt.shaped d = true) (h2 : SeqAt.shaped e = true) : ED K (tOp (rNeD K) ta tb) ρ (.bool (!PyData.eqv d e)) :=
  ed_op ha hb fun x y G H ex hx hy Q q => ⟨d, e, dp_mono ex _ _ hx, dp_mono ex _ _ hy, h1, h2, q _ G H (Step.refl ex) (.bl _)⟩
theorem eqv_int (i j : Int) : PyData.eqv (.int i) (.int j) = decide (i = j) := by
  show (i == j) = decide (i = j)
  rfl
theorem eqv_bool (a b : Bool) : PyData.eqv (.bool a) (.bool b) = decide (a = b) := by
  show (a == b) = decide (a = b)
  cases a <;> cases b <;> rfl
theorem ed_eqI (ha : ED K ta ρ (.int i)) (hb : ED K tb ρ (.int j)) : ED K (tOp (rEqD K) ta tb) ρ (.bool (decide (i = j))) := (ed_eqD ha hb rfl rfl).cast (by rw [eqv_int])
theorem ed_neI (ha : ED K ta ρ (.int i)) (hb : ED K tb ρ (.int j)) : ED K (tOp (rNeD K) ta tb) ρ (.bool (!decide (i = j))) := (ed_neD ha hb rfl rfl).cast (by rw [eqv_int])
theorem ed_eqB {a b : Bool} (ha : ED K ta ρ (.bool a)) (hb : ED K tb ρ (.bool b)) : ED K (tOp (rEqD K) ta tb) ρ (.bool (decide (a = b))) := (ed_eqD ha hb rfl rfl).cast (by rw [eqv_bool])
theorem ed_neB {a b : Bool} (ha : ED K ta ρ (.bool a)) (hb : ED K tb ρ (.bool b)) : ED K (tOp (rNeD K) ta tb) ρ (.bool (!decide (a = b))) := (ed_neD ha hb rfl rfl).cast (by rw [eqv_bool])
theorem ed_un {r : V → Hp → VK → Prop} (ha : ED K ta ρ d) (hr : ∀ x G H, Ex G H → Dp K G x d → ∀ Q : VK, (∀ v G2 H2, Step G H G2 H2 → Dp K G2 v f → Q v H2) → r x H Q) : ED K (tUn r ta) ρ f := fun G H σ I Q q =>
  ha G H σ I _ fun x G1 H1 s1 h1 => hr x G1 H1 s1.gh h1 Q fun v G3 H3 s3 h3 => q v G3 H3 (s1.trans s3) h3
theorem ed_neg (ha : ED K ta ρ (.int i)) : ED K (tUn (rU fun i => .int (-i)) ta) ρ (.int (-i)) := ed_un ha fun x G H e hx Q q => by
  cases dp_int hx
  exact ⟨i, rfl, q _ G H (Step.refl e) (.int _)⟩
/-! tests -/
theorem td_test {b : Bool} (h : ED K te ρ (.bool b)) : TD K (tTest te) ρ b := fun G H σ I Q q => h G H σ I _ fun v G2 H2 s hv => by
  cases dp_bl hv
  exact ⟨b, rfl, q G2 H2 s⟩
theorem td_B {b : Bool} (h : ED K te ρ (.bool b)) : TD K (tB te) ρ b := fun G H σ I Q q => h G H σ I _ fun v G2 H2 s hv => by
  cases dp_bl hv
  exact ⟨b, rfl, q G2 H2 s⟩
def tTruth (K : PySem.W.Frag) (ta : TE) : TT := fun σ H Q => ta σ H fun x H' => ∃ k, TruV K x H' k ∧ Q k H'
theorem td_seq (h : ED K te ρ d) (s : SeqD d ds) : TD K (tTruth K te) ρ (!ds.isEmpty) := fun G H σ I Q q => h G H σ I _ fun v G2 H2 st hv => by
  obtain ⟨a, xs, rfl, hs, hd⟩ := s.of hv
  have e : (!xs.isEmpty) = !ds.isEmpty := by
    have := hd.len
    cases xs <;> cases ds <;> simp_all
  refine ⟨!ds.isEmpty, ?_, q G2 H2 st⟩
  rcases hs with hs | hs
  · exact .inl ⟨xs, ex_l st.gh hs, e.symm⟩
  · exact .inr (.inl ⟨xs, ex_t st.gh hs, e.symm⟩)
theorem td_int (h : ED K te ρ (.int i)) : TD K (tTruth K te) ρ (i != 0) := fun G H σ I Q q => h G H σ I _ fun v G2 H2 st hv => by
  cases dp_int hv
  exact ⟨i != 0, rfl, q G2 H2 st⟩
theorem td_bool {b : Bool} (h : ED K te ρ (.bool b)) : TD K (tTruth K te) ρ b := fun G H σ I Q q => h G H σ I _ fun v G2 H2 st hv => by
  cases dp_bl hv
  exact ⟨b, rfl, q G2 H2 st⟩
/-- a value's truth -/
inductive Truth : PyData → Bool → Prop
  | bool (b : Bool) : Truth (.bool b) b
  | int (i : Int) : Truth (.int i) (i != 0)
  | l (ds : List PyData) : Truth (.list ds) (!ds.isEmpty)
  | t (ds : List PyData) : Truth (.tuple ds) (!ds.isEmpty)
theorem td_truth {b : Bool} (h : ED K te ρ d) (k : Truth d b) : TD K (tTruth K te) ρ b := by
  cases k with
  | bool b => exact td_bool h
  | int i => exact td_int h
  | l ds => exact td_seq h (.l _)
  | t ds => exact td_seq h (.t _)
theorem td_and {a b : Bool} (h1 : TD K t ρ a) (h2 : a = true → TD K u ρ b) : TD K (tAnd t u) ρ (a && b) := fun G H σ I Q q => h1 G H σ I _ fun G2 H2 s => by
  cases a with
  | true =>
    show u σ H2 Q
    exact h2 rfl G2 H2 σ (I.step s) Q fun G3 H3 s3 => q G3 H3 (s.trans s3)
  | false =>
    show Q false H2
    exact q G2 H2 s
theorem td_or {a b : Bool} (h1 : TD K t ρ a) (h2 : a = false → TD K u ρ b) : TD K (tOr t u) ρ (a || b) := fun G H σ I Q q => h1 G H σ I _ fun G2 H2 s => by
  cases a with
  | false =>
    show u σ H2 Q
    exact h2 rfl G2 H2 σ (I.step s) Q fun G3 H3 s3 => q G3 H3 (s.trans s3)
  | true =>
    show Q true H2
    exact q G2 H2 s
theorem td_not {a : Bool} (h : TD K t ρ a) : TD K (tNot t) ρ (!a) := fun G H σ I Q q => h G H σ I _ fun G2 H2 s => q G2 H2 s
theorem td_yes : TD K tYes ρ true := fun G H σ I Q q => q G H (Step.refl I.gh)
theorem ed_andV {a b : Bool} (h1 : ED K ta ρ (.bool a)) (h2 : a = true → ED K tb ρ (.bool b)) : ED K (tAndV ta tb) ρ (.bool (a && b)) := fun G H σ I Q q => h1 G H σ I _ fun v G2 H2 s hv => by
  cases dp_bl hv
  refine ⟨a, rfl, ?_⟩
  cases a with
  | true =>
    show tb σ H2 Q
    exact h2 rfl G2 H2 σ (I.step s) Q fun v G3 H3 s3 => q v G3 H3 (s.trans s3)
  | false =>
    show Q (.bl false) H2
    exact q _ G2 H2 s (.bl false)
theorem ed_orV {a b : Bool} (h1 : ED K ta ρ (.bool a)) (h2 : a = false → ED K tb ρ (.bool b)) : ED K (tOrV ta tb) ρ (.bool (a || b)) := fun G H σ I Q q => h1 G H σ I _ fun v G2 H2 s hv => by
  cases dp_bl hv
  refine ⟨a, rfl, ?_⟩
  cases a with
  | false =>
    show tb σ H2 Q
    exact h2 rfl G2 H2 σ (I.step s) Q fun v G3 H3 s3 => q v G3 H3 (s.trans s3)
  | true =>
    show Q (.bl true) H2
    exact q _ G2 H2 s (.bl true)
theorem ed_notV {a : Bool} (h1 : ED K ta ρ (.bool a)) : ED K (tNotV ta) ρ (.bool (!a)) := fun G H σ I Q q => h1 G H σ I _ fun v G2 H2 s hv => by
  cases dp_bl hv
  exact ⟨a, rfl, q _ G2 H2 s (.bl _)⟩
theorem ed_if {b : Bool} (h : TD K t ρ b) (h1 : b = true → ED K ta ρ d) (h2 : b = false → ED K tb ρ d) : ED K (tIf t ta tb) ρ d := fun G H σ I Q q => h G H σ I _ fun G2 H2 s => by
  cases b with
  | true =>
    show ta σ H2 Q
    exact h1 rfl G2 H2 σ (I.step s) Q fun v G3 H3 s3 => q v G3 H3 (s.trans s3)
  | false =>
    show tb σ H2 Q
    exact h2 rfl G2 H2 σ (I.step s) Q fun v G3 H3 s3 => q v G3 H3 (s.trans s3)
/-! arguments, displays -/
theorem ad_nil : AD K tNil ρ [] := fun G H σ I Q q => q [] G H (Step.refl I.gh) .nil
theorem ad_cons {tr : TA} (h : ED K ta ρ d) (hr : AD K tr ρ ds) : AD K (tCons ta tr) ρ (d :: ds) := fun G H σ I Q q =>
  h G H σ I _ fun v G1 H1 s1 h1 => hr G1 H1 σ (I.step s1) _ fun vs G2 H2 s2 h2 => q (v :: vs) G2 H2 (s1.trans s2) (.cons (dp_mono s2.g _ _ h1) h2)
theorem ed_tup {tr : TA} (h : AD K tr ρ ds) (hl : ds.length ≤ 100000) : ED K (tTup tr) ρ (.tuple ds) := fun G H σ I Q q =>
  h G H σ I _ fun vs G1 H1 s1 h1 => ⟨by rw [h1.len]; exact sz_of hl, fun p hp =>
    q (.ref p) (upd G1 p (.tup vs)) _ (s1.trans (Step.alloc s1.gh hp)) (.tup (st_of upd_same) (dpa_mono (Ex.new (fresh_back s1.gh hp)) _ _ h1))⟩
theorem ef_lst {tr : TA} (h : AD K tr ρ ds) (hl : ds.length ≤ 100000) : EF K (tLst tr) ρ ds := fun G H σ I Q q =>
  h G H σ I _ fun vs G1 H1 s1 h1 => ⟨by rw [h1.len]; exact sz_of hl, fun p hp =>
    q p vs G1 _ (s1.trans (Step.allocO s1.gh hp)) (fresh_back s1.h hp) (fresh_back s1.gh hp) upd_same h1⟩
end

/-! ### sequences -/
section
variable {K : PySem.W.Frag} {ρ : Rho} {ta tb tc te : TE} {t u : TT} {d e f : PyData} {ds es : List PyData} {i j : Int} {n : Nat}
theorem atI_get {α : Type} {xs : List α} {i : Int} {a : α} (h : atI xs i = some a) : ∃ k, ixN xs.length i = some k ∧ xs[k]? = some a := by
  unfold atI at h
  cases q : ixN xs.length i with
  | none => rw [q] at h; cases h
  | some k => rw [q] at h; exact ⟨k, rfl, h⟩
theorem atI_mk {α : Type} {xs : List α} {i : Int} {a : α} {k : Nat} (h1 : ixN xs.length i = some k) (h2 : xs[k]? = some a) : atI xs i = some a := by
  unfold atI; rw [h1]; exact h2
theorem atI_dp {G : Hp} {vs : List V} (h : DpAll K G vs ds) (a : atI ds i = some d) : ∃ v, atI vs i = some v ∧ Dp K G v d := by
  obtain ⟨k, h1, h2⟩ := atI_get a
  obtain ⟨v, h3, h4⟩ := h.get h2
  exact ⟨v, atI_mk (by rw [h.len]; exact h1) h3, h4⟩
theorem ed_ix (ha : ED K ta ρ d) (s : SeqD d ds) (hb : ED K tb ρ (.int i)) (h : atI ds i = some f) : ED K (tOp (rIx K) ta tb) ρ f :=
  ed_op ha hb fun x y G H ex hx hy Q q => by
    cases dp_int hy
    obtain ⟨a, xs, rfl, hs, hd⟩ := s.of hx
    obtain ⟨v, h1, h2⟩ := atI_dp hd h
    rcases hs with hs | hs
    · exact .inl ⟨a, xs, i, v, rfl, rfl, ex_l ex hs, h1, q v G H (Step.refl ex) h2⟩
    · exact .inr (.inl ⟨a, xs, i, v, rfl, rfl, ex_t ex hs, h1, q v G H (Step.refl ex) h2⟩)
/-- an item of a list of one's own -/
theorem ed_ixO {k : Nat} (ho : ρ[k]? = some (some (.own ds))) (hb : ED K tb ρ (.int i)) (h : atI ds i = some f) : ED K (tOp (rIx K) (tVar k) tb) ρ f := fun G H σ I Q q => by
  obtain ⟨p, vs, h1, h2, h3, h4⟩ := I.own k ds ho
  refine ⟨_, h1, hb G H σ I _ fun y G2 H2 s hy => ?_⟩
  cases dp_int hy
  obtain ⟨v, a1, a2⟩ := atI_dp h4 h
  exact .inl ⟨p, vs, i, v, rfl, rfl, sq_of (s.h _ _ h2), a1, q v G2 H2 s (dp_mono s.g _ _ a2)⟩
def tLen (K : PySem.W.Frag) (ta : TE) : TE := tCB (rLenS K) (tCons ta tNil)
theorem ed_len (ha : ED K ta ρ d) (s : SeqD d ds) : ED K (tLen K ta) ρ (.int ds.length) := fun G H σ I Q q => ha G H σ I _ fun v G2 H2 st hv => by
  obtain ⟨a, xs, rfl, hs, hd⟩ := s.of hv
  refine ⟨a, xs, rfl, ?_, ?_⟩
  · rcases hs with hs | hs
    · exact .inl (ex_l st.gh hs)
    · exact .inr (ex_t st.gh hs)
  · rw [hd.len]; exact q _ G2 H2 st (.int _)
theorem ed_lenO {k : Nat} (ho : ρ[k]? = some (some (.own ds))) : ED K (tLen K (tVar k)) ρ (.int ds.length) := fun G H σ I Q q => by
  obtain ⟨p, vs, h1, h2, h3, h4⟩ := I.own k ds ho
  refine ⟨_, h1, p, vs, rfl, .inl (sq_of h2), ?_⟩
  rw [h4.len]; exact q _ G H (Step.refl I.gh) (.int _)
theorem ef_list (ha : ED K ta ρ d) (s : SeqD d ds) : EF K (tCB (rListS K) (tCons ta tNil)) ρ ds := fun G H σ I Q q => ha G H σ I _ fun v G2 H2 st hv => by
  obtain ⟨a, xs, rfl, hs, hd⟩ := s.of hv
  refine ⟨a, xs, rfl, ?_, fun l hl => q l xs G2 _ (st.trans (Step.allocO st.gh hl)) (fresh_back st.h hl) (fresh_back st.gh hl) upd_same hd⟩
  rcases hs with hs | hs
  · exact .inl (ex_l st.gh hs)
  · exact .inr (ex_t st.gh hs)
def rTupS (K : PySem.W.Frag) : List V → Hp → VK → Prop := fun xs H Q => ∃ p ys, xs = [.ref p] ∧ ((SqL K H p ys ∧ ∀ l, H l = none → Q (.ref l) (upd H l (.tup ys))) ∨ (SqT K H p ys ∧ Q (.ref p) H))
theorem ed_tuple (ha : ED K ta ρ d) (s : SeqD d ds) : ED K (tCB (rTupS K) (tCons ta tNil)) ρ (.tuple ds) := fun G H σ I Q q => ha G H σ I _ fun v G2 H2 st hv => by
  obtain ⟨a, xs, rfl, hs, hd⟩ := s.of hv
  refine ⟨a, xs, rfl, ?_⟩
  rcases hs with hs | hs
  · exact .inl ⟨ex_l st.gh hs, fun l hl => q (.ref l) (upd G2 l (.tup xs)) _ (st.trans (Step.alloc st.gh hl)) (.tup (st_of upd_same) (dpa_mono (Ex.new (fresh_back st.gh hl)) _ _ hd))⟩
  · exact .inr ⟨ex_t st.gh hs, q (.ref a) G2 H2 st (.tup hs hd)⟩
/-- slices -/
def OD (K : PySem.W.Frag) (to : TO) (ρ : Rho) (o : Option Int) : Prop := ∀ G H σ, Env K G H σ ρ → ∀ Q : Option Int → Hp → Prop, (∀ G2 H2, Step G H G2 H2 → Q o H2) → to σ H Q
theorem od_none : OD K tNoPart ρ none := fun G H σ I Q q => q G H (Step.refl I.gh)
theorem od_some (h : ED K te ρ (.int i)) : OD K (tPart te) ρ (some i) := fun G H σ I Q q => h G H σ I _ fun v G2 H2 s hv => by
  cases dp_int hv
  exact ⟨i, rfl, q G2 H2 s⟩
def cutD (xs : List PyData) (lo hi : Option Int) : List PyData := (xs.drop (HT.sIx xs.length 0 lo)).take (HT.sIx xs.length xs.length hi - HT.sIx xs.length 0 lo)
theorem cut_dp {G : Hp} {vs : List V} (h : DpAll K G vs ds) (lo hi : Option Int) : DpAll K G (cutV vs lo hi) (cutD ds lo hi) := by
  unfold cutV cutD
  rw [h.len]
  exact (h.dr _).tk _
/-- a slice of a list or of a tuple -/
def rSlS (K : PySem.W.Frag) : V → Option Int → Option Int → Hp → VK → Prop := fun x lo hi H Q => rSlL K x lo hi H Q ∨ rSlA K x lo hi H Q
theorem sl_seq {X : Cx} : SlR X (rSlS X.K) := SlR.or sl_list sl_tupA
theorem ef_sl {tl th : TO} {lo hi : Option Int} (ha : ED K te ρ (.list ds)) (h1 : OD K tl ρ lo) (h2 : OD K th ρ hi) : EF K (tSl (rSlS K) te tl th) ρ (cutD ds lo hi) := fun G H σ I Q q =>
  ha G H σ I _ fun v G1 H1 s1 hv => h1 G1 H1 σ (I.step s1) _ fun G2 H2 s2 => h2 G2 H2 σ (I.step (s1.trans s2)) _ fun G3 H3 s3 => by
    have sA := (s1.trans s2).trans s3
    obtain ⟨a, xs, rfl, hs, hd⟩ := (SeqD.l ds).of hv
    cases hv with
    | lst hq ha2 =>
      rename_i xs'
      exact .inl ⟨a, _, rfl, ex_l ((s2.trans s3).g.trans s3.gh) hq, fun p hp => q p _ G3 _ (sA.trans (Step.allocO s3.gh hp)) (fresh_back sA.h hp) (fresh_back s3.gh hp) upd_same (dpa_mono (s2.trans s3).g _ _ (cut_dp ha2 lo hi))⟩
theorem cutV_whole {xs : List V} {lo hi : Option Int} (h : HT.sIx xs.length 0 lo = 0 ∧ HT.sIx xs.length xs.length hi = xs.length) : cutV xs lo hi = xs := by
  unfold cutV
  rw [h.1, h.2, List.drop_zero, Nat.sub_zero, List.take_length]
theorem ed_slT {tl th : TO} {lo hi : Option Int} (ha : ED K te ρ (.tuple ds)) (h1 : OD K tl ρ lo) (h2 : OD K th ρ hi) : ED K (tSl (rSlS K) te tl th) ρ (.tuple (cutD ds lo hi)) := fun G H σ I Q q =>
  ha G H σ I _ fun v G1 H1 s1 hv => h1 G1 H1 σ (I.step s1) _ fun G2 H2 s2 => h2 G2 H2 σ (I.step (s1.trans s2)) _ fun G3 H3 s3 => by
    have sA := (s1.trans s2).trans s3
    have s23 := s2.trans s3
    cases hv with
    | tup hq ha2 =>
      have cd := cut_dp ha2 lo hi
      refine .inr ⟨_, _, rfl, ex_t (s23.g.trans s3.gh) hq, fun w => ?_, fun w p hp => ?_⟩
      · rw [cutV_whole w] at cd
        exact q _ G3 H3 sA (.tup (ex_t s23.g hq) (dpa_mono s23.g _ _ cd))
      · exact q (.ref p) (upd G3 p (.tup _)) _ (sA.trans (Step.alloc s3.gh hp)) (.tup (st_of upd_same) (dpa_mono (s23.g.trans (Ex.new (fresh_back s3.gh hp))) _ _ cd))
/-- list + list -/
def rCatS (K : PySem.W.Frag) : R2 := fun x y H Q => ∃ l b xs zs, x = .ref l ∧ y = .ref b ∧ SqL K H l xs ∧ SqL K H b zs ∧ xs.length + zs.length ≤ sizeLine ∧ ∀ p, H p = none → Q (.ref p) (upd H p (.lst (xs ++ zs)))
theorem op_catS {X : Cx} : OpR X (binaryOp .Add) (rCatS X.K) := by
  intro pins s σ H x y v u Q I rx ry h
  obtain ⟨l, b, xs, zs, rfl, rfl, hH, hB, hz, q⟩ := h
  cases rx
  cases ry
  obtain ⟨its, r, pl, z⟩ := I.list hH
  obtain ⟨its2, r2, pl2, z2⟩ := I.list hB
  obtain ⟨⟨cls, dd, data, sl⟩, n, ho, hc, hdd, hd⟩ := pl
  obtain ⟨⟨cls2, dd2, data2, sl2⟩, n2, ho2, hc2, hdd2, hd2⟩ := pl2
  simp only at hc hd hc2 hd2
  subst hc hd hc2 hd2
  have e1 := r.length
  have e2 := r2.length
  refine PySem.concat_meets ⟨_, ho, rfl⟩ ⟨_, ho2, rfl⟩ PySem.noFill_list_add PySem.seq_list_add F.slot_list_add F.entry_list_add (F.args_list_add_2 _ _)
    (PyProof.Rows.list_addW l b its.toArray its2.toArray n n2 dd dd2 sl sl2 (by rw [List.size_toArray, List.size_toArray]; omega)) ⟨ho, ho2, ?_⟩
  have ea : its.toArray ++ its2.toArray = (its ++ its2).toArray := by simp
  rw [ea]
  exact ⟨.ref _, _, I.lnew (t' := s.toks) (r.append r2) (by rw [List.length_append]; omega), rfl, q _ I.fresh⟩
theorem ef_cat (ha : ED K ta ρ (.list ds)) (hb : ED K tb ρ (.list es)) (hz : ds.length + es.length ≤ 100000) : EF K (tOp (rCatS K) ta tb) ρ (ds ++ es) :=
  ef_op ha hb fun x y G H ex hx hy Q q => by
    cases hx with
    | lst h1 h2 =>
      cases hy with
      | lst h3 h4 =>
        exact ⟨_, _, _, _, rfl, rfl, ex_l ex h1, ex_l ex h3, by rw [h2.len, h4.len]; exact sz_of hz, fun p hp => q p _ G _ (Step.allocO ex hp) hp (fresh_back ex hp) upd_same (h2.app h4)⟩
/-- abs, gcd -/
def rAbs : List V → Hp → VK → Prop := fun xs H Q => ∃ i, xs = [.int i] ∧ Q (.int (if i < 0 then -i else i)) H
theorem ed_abs (ha : ED K ta ρ (.int i)) : ED K (tCB rAbs (tCons ta tNil)) ρ (.int (if i < 0 then -i else i)) := fun G H σ I Q q => ha G H σ I _ fun v G2 H2 s hv => by
  cases dp_int hv
  exact ⟨i, rfl, q _ G2 H2 s (.int _)⟩
theorem ed_gcd (ha : ED K ta ρ (.int i)) (hb : ED K tb ρ (.int j)) : ED K (tCB rGcd (tCons ta (tCons tb tNil))) ρ (.int ((Nat.gcd i.natAbs j.natAbs : Nat) : Int)) := fun G H σ I Q q =>
  ha G H σ I _ fun v G1 H1 s1 hv => hb G1 H1 σ (I.step s1) _ fun y G2 H2 s2 hy => by
    cases dp_int hv; cases dp_int hy
    exact ⟨i, j, rfl, q _ G2 H2 (s1.trans s2) (.int _)⟩
/-- isinstance(x, T), T built in -/
def tyN : PyData → String
  | .none => "NoneType" | .bool _ => "bool" | .int _ => "int" | .str _ => "str" | .list _ => "list" | .tuple _ => "tuple" | .dict _ => "dict"
theorem dp_ty {G : Hp} {v : V} (h : Dp K G v d) : TyX K G v (.type (tyN d)) := by
  cases d with
  | none => cases h; exact .base .non
  | bool b => cases h; exact .base (.bl b)
  | int b => cases h; exact .base (.int b)
  | str b => cases h; exact .base (.str b)
  | list b =>
    cases h with
    | lst hs _ =>
      rcases hs with (h | ⟨o, h⟩) | ⟨o, its, n, hk, hc, _⟩
      · exact .base (.lst h)
      · exact .base (.frz h)
      · exact .kList hk hc
  | tuple b =>
    cases h with
    | tup hs _ =>
      rcases hs with (h | ⟨o, h⟩) | ⟨o, its, n, hk, hc, _⟩
      · exact .base (.tup h)
      · exact .fTuple h
      · exact .kTuple hk hc
  | dict _ => cases h
theorem ty_mono {G H : Hp} {v : V} {t : String} (e : Ex G H) (h : Dp K G v d) (ht : tyN d = t) : TyX K H v (.type t) := ht ▸ dp_ty (dp_mono e _ _ h)
theorem ed_isi {T : String} {b : Bool} (ha : ED K ta ρ d) (h : kitB (tyN d) T = some b) : ED K (tCB (rIsi K) (tCons ta (tCons (tC (.ty T)) tNil))) ρ (.bool b) := fun G H σ I Q q => ha G H σ I _ fun v G2 H2 s hv =>
  ⟨v, .ty T, .type (tyN d), .type T, b, rfl, .ty T, ty_mono s.gh hv rfl, kit_ty h, q _ G2 H2 s (.bl b)⟩
end

/-! ### results and calls -/
inductive Res where
  | rt (d : PyData)
  | rf (ds : List PyData)
  | xc (C : Addr)
def RP (K : PySem.W.Frag) (r : Res) (G B : Hp) (Q : VK) (E : XK) : Prop := match r with
  | .rt d => ∀ v G2 H2, Step G B G2 H2 → Dp K G2 v d → Q v H2
  | .rf ds => ∀ p vs G2 H2, Step G B G2 H2 → B p = none → G2 p = none → H2 p = some (.lst vs) → DpAll K G2 vs ds → Q (.ref p) H2
  | .xc C => ∀ G2 H2, Step G B G2 H2 → E (.ref C) none H2
/-- a promise by data -/
def spD (K : PySem.W.Frag) (n : Nat) (F : List PyData → Res → Prop) : Sp := fun vs H Q E => vs.length = n ∧ ∃ G ds r, Ex G H ∧ DpAll K G vs ds ∧ F ds r ∧ RP K r G H Q E
section
variable {K : PySem.W.Frag} {ρ : Rho} {ta : TA} {d : PyData} {ds es : List PyData} {n : Nat} {F : List PyData → Res → Prop} {E : XK}
theorem ed_call (ha : AD K ta ρ ds) (h : F ds (.rt d)) (hn : ds.length = n) : ED K (tCall (spD K n F) [] E ta) ρ d := fun G H σ I Q q => ha G H σ I _ fun vs G2 H2 s hv => by
  rw [List.append_nil]
  exact ⟨hv.len.trans hn, G2, ds, .rt d, s.gh, hv, h, fun v G3 H3 s3 h3 => q v G3 H3 (s.trans s3) h3⟩
theorem ef_call (ha : AD K ta ρ ds) (h : F ds (.rf es)) (hn : ds.length = n) : EF K (tCall (spD K n F) [] E ta) ρ es := fun G H σ I Q q => ha G H σ I _ fun vs G2 H2 s hv => by
  rw [List.append_nil]
  exact ⟨hv.len.trans hn, G2, ds, .rf es, s.gh, hv, h, fun p ws G3 H3 s3 hp hg hl hd => q p ws G3 H3 (s.trans s3) (fresh_back s.h hp) hg hl hd⟩
end

/-! ### statements -/
inductive Out where
  | nx (ρ : Rho)
  | rt (d : PyData)
  | rf (ds : List PyData)
  | bk (ρ : Rho)
  | ct (ρ : Rho)
section
variable (K : PySem.W.Frag) (B0 B : Hp)
def Post (G : Hp) (D : Ends) : Out → Prop
  | .nx ρ => ∀ G2 H2 σ2, Ex G G2 → Env K G2 H2 σ2 ρ → Base B0 B G2 H2 σ2 ρ → D.nx σ2 H2
  | .bk ρ => ∀ G2 H2 σ2, Ex G G2 → Env K G2 H2 σ2 ρ → Base B0 B G2 H2 σ2 ρ → D.bk σ2 H2
  | .ct ρ => ∀ G2 H2 σ2, Ex G G2 → Env K G2 H2 σ2 ρ → Base B0 B G2 H2 σ2 ρ → D.ct σ2 H2
  | .rt d => ∀ v G2 H2, Step B0 B G2 H2 → Dp K G2 v d → D.rt v H2
  | .rf ds => ∀ p vs G2 H2, Step B0 B G2 H2 → B p = none → G2 p = none → H2 p = some (.lst vs) → DpAll K G2 vs ds → D.rt (.ref p) H2
def SD (t : TS) (ρ : Rho) (P : Out → Prop) : Prop := ∀ G H σ D, Env K G H σ ρ → Base B0 B G H σ ρ → (∀ o, P o → Post K B0 B G D o) → t D σ H
end
section
variable {K : PySem.W.Frag} {B0 B : Hp} {ρ : Rho} {ta te : TE} {c : TT} {t u : TS} {d e : PyData} {ds es : List PyData} {P R : Out → Prop} {i : Nat}
theorem Post.mono {G G2 : Hp} {D : Ends} {o : Out} (e : Ex G G2) (h : Post K B0 B G D o) : Post K B0 B G2 D o := by
  cases o with
  | nx ρ => exact fun G3 H3 σ3 e3 => h G3 H3 σ3 (e.trans e3)
  | bk ρ => exact fun G3 H3 σ3 e3 => h G3 H3 σ3 (e.trans e3)
  | ct ρ => exact fun G3 H3 σ3 e3 => h G3 H3 σ3 (e.trans e3)
  | rt d => exact h
  | rf ds => exact h
theorem SD.imp (h : SD K B0 B t ρ P) (k : ∀ o, P o → R o) : SD K B0 B t ρ R := fun G H σ D I b q => h G H σ D I b fun o po => q o (k o po)
/-- what follows a statement -/
def Then (K : PySem.W.Frag) (B0 B : Hp) (u : TS) (P : Out → Prop) : Out → Prop
  | .nx ρ => SD K B0 B u ρ P
  | o => P o
theorem sd_seq (h : SD K B0 B t ρ (Then K B0 B u P)) : SD K B0 B (tSeq t u) ρ P := fun G H σ D I b q => h G H σ { D with nx := u D } I b fun o po => by
  cases o with
  | nx ρ2 => exact fun G2 H2 σ2 e I2 b2 => po G2 H2 σ2 D I2 b2 fun o' po' => (q o' po').mono e
  | rt d => exact q _ po
  | rf ds => exact q _ po
  | bk ρ2 => exact q _ po
  | ct ρ2 => exact q _ po
theorem sd_next (h : P (.nx ρ)) : SD K B0 B tNext ρ P := fun G H σ D I b q => q _ h G H σ (Ex.refl G) I b
theorem sd_brk (h : P (.bk ρ)) : SD K B0 B tBreak ρ P := fun G H σ D I b q => q _ h G H σ (Ex.refl G) I b
theorem sd_cont (h : P (.ct ρ)) : SD K B0 B tCont ρ P := fun G H σ D I b q => q _ h G H σ (Ex.refl G) I b
theorem sd_set (h : ED K te ρ d) (k : P (.nx (ρ.set i (some (.d d))))) : SD K B0 B (tAsg te (gName i)) ρ P := fun G H σ D I b q =>
  h G H σ I _ fun v G2 H2 s hv => q _ k G2 H2 _ s.g ((I.step s).set hv i) ((b.step s).set i)
theorem sd_setF (h : EF K te ρ ds) (k : P (.nx (ρ.set i (some (.own ds))))) : SD K B0 B (tAsg te (gName i)) ρ P := fun G H σ D I b q =>
  h G H σ I _ fun p vs G2 H2 s hp hg hl hd => q _ k G2 H2 _ s.g (I.setO s hp hg hl hd i) (b.setO I s hp i)
theorem sd_drop (h : ED K te ρ d) (k : P (.nx ρ)) : SD K B0 B (tDrop te) ρ P := fun G H σ D I b q =>
  h G H σ I _ fun v G2 H2 s hv => q _ k G2 H2 _ s.g (I.step s) (b.step s)
theorem sd_if {b : Bool} (h : TD K c ρ b) (h1 : b = true → SD K B0 B t ρ P) (h2 : b = false → SD K B0 B u ρ P) : SD K B0 B (tIfS c t u) ρ P := fun G H σ D I bb q =>
  h G H σ I _ fun G2 H2 s => by
    cases b with
    | true =>
      show t D σ H2
      exact h1 rfl G2 H2 σ D (I.step s) (bb.step s) fun o po => (q o po).mono s.g
    | false =>
      show u D σ H2
      exact h2 rfl G2 H2 σ D (I.step s) (bb.step s) fun o po => (q o po).mono s.g
theorem sd_ret (h : ED K te ρ d) (k : P (.rt d)) : SD K B0 B (tRet te) ρ P := fun G H σ D I b q =>
  h G H σ I _ fun v G2 H2 s hv => q _ k v G2 H2 (b.st.trans s) hv
theorem sd_retF (h : EF K te ρ ds) (k : P (.rf ds)) : SD K B0 B (tRet te) ρ P := fun G H σ D I b q =>
  h G H σ I _ fun p vs G2 H2 s hp hg hl hd => q _ k p vs G2 H2 (b.st.trans s) (fresh_back b.st.h hp) hg hl hd
/-- a list of one's own is handed back -/
theorem sd_retO (h : ρ[i]? = some (some (.own ds))) (k : P (.rf ds)) : SD K B0 B (tRet (tVar i)) ρ P := fun G H σ D I b q => by
  obtain ⟨p, vs, h1, h2, h3, h4⟩ := I.own i ds h
  exact ⟨_, h1, q _ k p vs G H b.st (b.own i ds p h h1) h3 h2 h4⟩
theorem sd_frz (h : ρ[i]? = some (some (.own ds))) (k : SD K B0 B t (ρ.set i (some (.d (.list ds)))) P) : SD K B0 B t ρ P := fun G H σ D I b q => by
  obtain ⟨G2, e, I2, b2⟩ := I.frz b h
  exact k G2 H σ D I2 b2 fun o po => (q o po).mono e
theorem sd_app (h : ρ[i]? = some (some (.own ds))) (he : ED K te ρ d) (hl : ds.length < 100000) (k : P (.nx (ρ.set i (some (.own (ds ++ [d])))))) : SD K B0 B (tDrop (tBM K "list" rAppend (tVar i) (tCons te tNil))) ρ P := fun G H σ D I b q => by
  obtain ⟨p, vs, h1, h2, h3, h4⟩ := I.own i ds h
  refine ⟨_, h1, .inl ⟨rfl, _, sq_of h2⟩, he G H σ I _ fun v G2 H2 s hv => ?_⟩
  have I2 := I.step s
  have b2 := b.step s
  obtain ⟨p', vs', g1, g2, g3, g4⟩ := I2.own i ds h
  rw [h1] at g1; cases g1
  refine ⟨p, vs', v, rfl, rfl, g2, by rw [g4.len]; exact sz_lt hl, ?_⟩
  exact q _ k G2 _ σ s.g (I2.mut h h1 (g4.app (.cons hv .nil))) (b2.mut I2 h h1)
theorem sd_rev (h : ρ[i]? = some (some (.own ds))) (k : P (.nx (ρ.set i (some (.own ds.reverse))))) : SD K B0 B (tDrop (tBM0 K "list" rReverse (tVar i))) ρ P := fun G H σ D I b q => by
  obtain ⟨p, vs, h1, h2, h3, h4⟩ := I.own i ds h
  refine ⟨_, h1, .inl ⟨rfl, _, sq_of h2⟩, p, vs, rfl, rfl, h2, ?_⟩
  exact q _ k G _ σ (Ex.refl G) (I.mut h h1 h4.rev) (b.mut I h h1)
/-- xs[k] = e -/
theorem sd_setI {tk : TE} {k : Int} {m : Nat} (h : ρ[i]? = some (some (.own ds))) (he : ED K te ρ d) (hk : ED K tk ρ (.int k)) (hm : ixN ds.length k = some m) (kk : P (.nx (ρ.set i (some (.own (ds.set m d)))))) : SD K B0 B (tAsg te (gSub (tVar i) tk rSetL)) ρ P := fun G H σ D I b q =>
  he G H σ I _ fun v G1 H1 s1 hv => by
    have I1 := I.step s1
    obtain ⟨p, vs, h1, h2, h3, h4⟩ := I1.own i ds h
    refine ⟨_, h1, hk G1 H1 σ I1 _ fun y G2 H2 s2 hy => ?_⟩
    cases dp_int hy
    have I2 := I1.step s2
    have b2 := (b.step s1).step s2
    obtain ⟨p', vs', g1, g2, g3, g4⟩ := I2.own i ds h
    rw [h1] at g1; cases g1
    refine ⟨p, vs', k, m, rfl, rfl, g2, by rw [g4.len]; exact hm, ?_⟩
    exact q _ kk G2 _ σ (s1.trans s2).g (I2.mut h h1 (g4.st m (dp_mono s2.g _ _ hv))) (b2.mut I2 h h1)
theorem sd_aug {f : Int → Int → Int} {a b : Int} (hx : ρ[i]? = some (some (.d (.int a)))) (h : ED K te ρ (.int b)) (k : P (.nx (ρ.set i (some (.d (.int (f a b))))))) : SD K B0 B (tAug i te (ipI f)) ρ P := fun G H σ D I bb q => by
  obtain ⟨v, h1, h2⟩ := I.dat i _ hx
  cases dp_int h2
  refine ⟨_, h1, h G H σ I _ fun y G2 H2 s hy => ?_⟩
  cases dp_int hy
  exact ⟨a, b, rfl, rfl, q _ k G2 H2 _ s.g ((I.step s).set (.int _) i) ((bb.step s).set i)⟩
theorem sd_par {j : Nat} {tr : TA} (h : AD K tr ρ [d, e]) (k : P (.nx ((ρ.set i (some (.d d))).set j (some (.d e))))) : SD K B0 B (tPar i j tr) ρ P := fun G H σ D I b q =>
  h G H σ I _ fun vs G2 H2 s hv => by
    cases hv with
    | cons h1 h2 =>
      cases h2 with
      | cons h2 h3 =>
        cases h3
        exact ⟨_, _, rfl, q _ k G2 H2 _ s.g (((I.step s).set h1 i).set h2 j) (((b.step s).set i).set j)⟩
theorem sd_raise {C : Addr} {E : XK} (h : ∀ G H, Step B0 B G H → E (.ref C) none H) : SD K B0 B (fun _ _ H => E (.ref C) none H) ρ P := fun G H σ D I b q => h G H b.st
/-- what a loop's turn leads to -/
def Turn (N : Rho → Prop) (P : Out → Prop) : Out → Prop
  | .nx ρ => N ρ
  | .ct ρ => N ρ
  | .bk ρ => P (.nx ρ)
  | .rt d => P (.rt d)
  | .rf ds => P (.rf ds)
theorem sd_while (W : Nat → Rho → Prop) (m0 : Nat) (h0 : W m0 ρ)
    (hs : ∀ m ρ', W m ρ' → ∃ b, TD K c ρ' b ∧ (b = true → SD K B0 B t ρ' (Turn (fun ρ2 => ∃ m', m' < m ∧ W m' ρ2) P)) ∧ (b = false → P (.nx ρ'))) : SD K B0 B (tWhile c t) ρ P := fun G0 H0 σ0 D I0 b0 q => by
  refine ⟨fun m σ H => ∃ G ρ', Ex G0 G ∧ Env K G H σ ρ' ∧ Base B0 B G H σ ρ' ∧ W m ρ', ⟨m0, G0, ρ, Ex.refl G0, I0, b0, h0⟩, ?_⟩
  rintro m σ H ⟨G, ρ', eg, I, bb, w⟩
  obtain ⟨b, h1, h2, h3⟩ := hs m ρ' w
  refine h1 G H σ I _ fun G2 H2 s => ?_
  cases b with
  | true =>
    refine ⟨fun σ3 H3 => ∃ G3 ρ3, Ex G0 G3 ∧ Env K G3 H3 σ3 ρ3 ∧ Base B0 B G3 H3 σ3 ρ3 ∧ ∃ m', m' < m ∧ W m' ρ3, fun σ3 H3 ⟨G3, ρ3, e3, I3, b3, m', lt, w3⟩ => ⟨m', lt, G3, ρ3, e3, I3, b3, w3⟩, ?_⟩
    have e02 : Ex G0 G2 := eg.trans s.g
    refine h2 rfl G2 H2 σ _ (I.step s) (bb.step s) fun o po => ?_
    cases o with
    | nx ρ3 => exact fun G3 H3 σ3 e3 I3 b3 => ⟨G3, ρ3, e02.trans e3, I3, b3, po⟩
    | ct ρ3 => exact fun G3 H3 σ3 e3 I3 b3 => ⟨G3, ρ3, e02.trans e3, I3, b3, po⟩
    | bk ρ3 => exact fun G3 H3 σ3 e3 I3 b3 => q _ po G3 H3 σ3 (e02.trans e3) I3 b3
    | rt d => exact q _ po
    | rf ds => exact q _ po
  | false => exact q _ (h3 rfl) G2 H2 σ (eg.trans s.g) (I.step s) (bb.step s)
end

/-! ### what is walked -/
def Its (K : PySem.W.Frag) (J : It) (G : Hp) (ds : List PyData) : Prop :=
  (∀ i G' H', Ex G G' → Ex G' H' → ds.length ≤ i → J.stop i H') ∧
  (∀ i d G' H', Ex G G' → Ex G' H' → ds[i]? = some d → J.go i H' ∧ ∀ x H2, J.yld i H' x H2 → ∃ G2, Step G' H' G2 H2 ∧ Dp K G2 x d)
def ID (K : PySem.W.Frag) (wi : TI) (ρ : Rho) (ds : List PyData) : Prop := ∀ G H σ, Env K G H σ ρ → ∀ R : It → Hp → Prop, (∀ J G2 H2, Step G H G2 H2 → Its K J G2 ds → R J H2) → wi σ H R
/-- a list or a tuple -/
def iSeq (K : PySem.W.Frag) (tl : TE) : TI := fun σ H R => tl σ H fun x H1 => ∃ a, x = .ref a ∧ (((∃ xs, SqL K H1 a xs) ∧ R (Itl K a) H1) ∨ ((∃ xs, SqT K H1 a xs) ∧ R (Itt K a) H1))
theorem pi_seq {X : Cx} {tg l : Expr} {tl : TE} (hl : PE X l tl) : PI X tg l (iSeq X.K tl) := by
  refine ⟨fun pins s σ H R I h => ?_⟩
  refine thn (hl.run pins s σ H _ I h) fun v s1 ⟨x, H1, I1, r1, q1⟩ => ?_
  obtain ⟨a, e, q1⟩ := q1
  subst e
  cases r1
  rcases q1 with ⟨⟨xs, hq⟩, q⟩ | ⟨⟨xs, hq⟩, q⟩
  · obtain ⟨its, rv, p, hz⟩ := I1.list hq
    refine wpAny_pyIter_list p.isList ?_
    refine ⟨s1.heap.objs.size, [s1.heap.objs.size], _, _, H1, rfl, I1.kept (t' := s1.toks) fun b o e => Heap.get?_push_of_some _ e, turn_list a _, ⟨_, Heap.get?_push_size _ rfl, rfl, rfl⟩, fun b hb => ?_, q⟩
    have e : b = s1.heap.objs.size := by simpa using hb
    subst e
    exact I1.fpOk (Nat.le_refl _) (I1.hok.fresh (Nat.le_refl _))
  · obtain ⟨its, rv, p, hz⟩ := I1.tuple hq
    refine wpAny_pyIter_tuple (show s1.heap.IsTuple a its.toArray from p) ?_
    refine ⟨s1.heap.objs.size, [s1.heap.objs.size], _, _, H1, rfl, I1.kept (t' := s1.toks) fun b o e => Heap.get?_push_of_some _ e, turn_tuple a _, ⟨_, Heap.get?_push_size _ rfl, rfl, rfl⟩, fun b hb => ?_, q⟩
    have e : b = s1.heap.objs.size := by simpa using hb
    subst e
    exact I1.fpOk (Nat.le_refl _) (I1.hok.fresh (Nat.le_refl _))
section
variable {K : PySem.W.Frag} {B0 B : Hp} {ρ : Rho} {te : TE} {ta : TA} {c tt : TT} {t u : TS} {d e : PyData} {ds es : List PyData} {P R : Out → Prop} {i j : Nat} {wi : TI}
theorem its_l {G : Hp} {a : Addr} {xs : List V} (h : SqL K G a xs) (hd : DpAll K G xs ds) : Its K (Itl K a) G ds := by
  refine ⟨fun i G' H' e1 e2 hi => ⟨xs, ex_l (e1.trans e2) h, by rw [hd.len]; exact hi⟩, fun i d G' H' e1 e2 hi => ?_⟩
  obtain ⟨v, h1, h2⟩ := hd.get hi
  refine ⟨⟨xs, v, ex_l (e1.trans e2) h, h1⟩, fun x H2 hy => ?_⟩
  obtain ⟨rfl, hy⟩ := hy
  have := hy xs (ex_l (e1.trans e2) h)
  rw [h1] at this; cases this
  exact ⟨G', Step.refl e2, dp_mono e1 _ _ h2⟩
theorem its_t {G : Hp} {a : Addr} {xs : List V} (h : SqT K G a xs) (hd : DpAll K G xs ds) : Its K (Itt K a) G ds := by
  refine ⟨fun i G' H' e1 e2 hi => ⟨xs, ex_t (e1.trans e2) h, by rw [hd.len]; exact hi⟩, fun i d G' H' e1 e2 hi => ?_⟩
  obtain ⟨v, h1, h2⟩ := hd.get hi
  refine ⟨⟨xs, v, ex_t (e1.trans e2) h, h1⟩, fun x H2 hy => ?_⟩
  obtain ⟨rfl, hy⟩ := hy
  have := hy xs (ex_t (e1.trans e2) h)
  rw [h1] at this; cases this
  exact ⟨G', Step.refl e2, dp_mono e1 _ _ h2⟩
theorem id_seq (h : ED K te ρ d) (s : SeqD d ds) : ID K (iSeq K te) ρ ds := fun G H σ I R q => h G H σ I _ fun v G2 H2 st hv => by
  obtain ⟨a, xs, rfl, hs, hd⟩ := s.of hv
  refine ⟨a, rfl, ?_⟩
  rcases hs with hs | hs
  · exact .inl ⟨⟨xs, ex_l st.gh hs⟩, q _ G2 H2 st (its_l hs hd)⟩
  · exact .inr ⟨⟨xs, ex_t st.gh hs⟩, q _ G2 H2 st (its_t hs hd)⟩
theorem id_revA (h : ED K te ρ d) (s : SeqD d ds) : ID K (RT.iRevA K te) ρ ds.reverse := fun G H σ I R q => h G H σ I _ fun v G2 H2 st hv => by
  obtain ⟨a, xs, rfl, hs, hd⟩ := s.of hv
  have ln := hd.len
  have back : ∀ i d, ds.reverse[i]? = some d → i < xs.length ∧ ∃ v, xs[xs.length - 1 - i]? = some v ∧ Dp K G2 v d := fun i d hi => by
    have hlt : i < ds.length := by have := (List.getElem?_eq_some_iff.mp hi).1; rwa [List.length_reverse] at this
    rw [List.getElem?_reverse hlt] at hi
    obtain ⟨v, h1, h2⟩ := hd.get hi
    exact ⟨by omega, v, by rw [ln]; exact h1, h2⟩
  refine ⟨a, xs, rfl, ?_⟩
  rcases hs with hs | hs
  · refine .inl ⟨ex_l st.gh hs, q _ G2 H2 st ⟨fun i G' H' e1 e2 hi => ?_, fun i d G' H' e1 e2 hi => ?_⟩⟩
    · rw [List.length_reverse] at hi
      exact (by show xs.length ≤ i; omega)
    · obtain ⟨lt, v, h1, h2⟩ := back i d hi
      refine ⟨⟨lt, xs, v, ex_l (e1.trans e2) hs, h1⟩, fun x H3 hy => ?_⟩
      obtain ⟨rfl, hy⟩ := hy
      have := hy xs (ex_l (e1.trans e2) hs)
      rw [h1] at this; cases this
      exact ⟨G', Step.refl e2, dp_mono e1 _ _ h2⟩
  · refine .inr ⟨ex_t st.gh hs, q _ G2 H2 st ⟨fun i G' H' e1 e2 hi => ?_, fun i d G' H' e1 e2 hi => ?_⟩⟩
    · rw [List.length_reverse] at hi
      exact (by show xs.length ≤ i; omega)
    · obtain ⟨lt, v, h1, h2⟩ := back i d hi
      refine ⟨⟨lt, xs, v, ex_t (e1.trans e2) hs, h1⟩, fun x H3 hy => ?_⟩
      obtain ⟨rfl, hy⟩ := hy
      have := hy xs (ex_t (e1.trans e2) hs)
      rw [h1] at this; cases this
      exact ⟨G', Step.refl e2, dp_mono e1 _ _ h2⟩
def intsD (lo : Int) (n : Nat) : List PyData := (List.range n).map fun k => .int (lo + (k : Nat))
theorem its_r {G : Hp} (lo : Int) (n : Nat) : Its K (Itr lo n) G (intsD lo n) := by
  refine ⟨fun i G' H' e1 e2 hi => ?_, fun i d G' H' e1 e2 hi => ?_⟩
  · unfold intsD at hi
    rw [List.length_map, List.length_range] at hi
    exact hi
  · have hlt : i < n := by have := (List.getElem?_eq_some_iff.mp hi).1; unfold intsD at this; rwa [List.length_map, List.length_range] at this
    refine ⟨hlt, fun x H2 hy => ?_⟩
    obtain ⟨rfl, rfl⟩ := hy
    unfold intsD at hi
    rw [List.getElem?_map, List.getElem?_range hlt] at hi
    cases hi
    exact ⟨G', Step.refl e2, .int _⟩
theorem id_rng1 {n : Int} (h : AD K ta ρ [.int n]) (h1 : n < 2 ^ 62) (h0 : -(2 ^ 62) ≤ n) : ID K (iRng1 ta) ρ (intsD 0 n.toNat) := fun G H σ I R q => h G H σ I _ fun vs G2 H2 s hv => by
  cases hv with
  | cons a b =>
    cases b
    cases dp_int a
    exact ⟨n, rfl, h0, h1, q _ G2 H2 s (its_r 0 _)⟩
theorem id_rng2 {m n : Int} (h : AD K ta ρ [.int m, .int n]) (h1 : -(2 ^ 62) ≤ m ∧ m < 2 ^ 62 ∧ -(2 ^ 62) ≤ n ∧ n < 2 ^ 62) : ID K (iRng2 ta) ρ (intsD m (n - m).toNat) := fun G H σ I R q => h G H σ I _ fun vs G2 H2 s hv => by
  cases hv with
  | cons a b =>
    cases b with
    | cons b c =>
      cases c
      cases dp_int a; cases dp_int b
      exact ⟨m, n, rfl, h1, q _ G2 H2 s (its_r m _)⟩
/-- zip of two lists, of two tuples -/
def pairs (ds es : List PyData) : List PyData := (List.zip ds es).map fun p => .tuple [p.1, p.2]
theorem pairs_get {k : Nat} {d : PyData} (h : (pairs ds es)[k]? = some d) : ∃ a b, d = .tuple [a, b] ∧ ds[k]? = some a ∧ es[k]? = some b := by
  unfold pairs at h
  rw [List.getElem?_map] at h
  cases q : (List.zip ds es)[k]? with
  | none => rw [q] at h; cases h
  | some p =>
    rw [q] at h; cases h
    obtain ⟨a, b⟩ := p
    rw [List.getElem?_zip_eq_some] at q
    exact ⟨a, b, rfl, q.1, q.2⟩
theorem pairs_len : (pairs ds es).length = min ds.length es.length := by unfold pairs; rw [List.length_map, List.length_zip]
theorem its_z {G : Hp} {a b : Addr} {xs ys : List V} (h : SqL K G a xs) (h2 : SqL K G b ys) (hd : DpAll K G xs ds) (he : DpAll K G ys es) : Its K (Itz K a b) G (pairs ds es) := by
  refine ⟨fun i G' H' e1 e2 hi => ⟨xs, ys, ex_l (e1.trans e2) h, ex_l (e1.trans e2) h2, ?_⟩, fun i d G' H' e1 e2 hi => ?_⟩
  · rw [pairs_len] at hi
    rw [hd.len, he.len]
    omega
  · obtain ⟨x, y, rfl, g1, g2⟩ := pairs_get hi
    obtain ⟨v, p1, p2⟩ := hd.get g1
    obtain ⟨w, q1, q2⟩ := he.get g2
    refine ⟨⟨xs, ys, v, w, ex_l (e1.trans e2) h, ex_l (e1.trans e2) h2, p1, q1⟩, fun z H2 hy => ?_⟩
    obtain ⟨T, x', y', rfl, hT, rfl, hx, hy⟩ := hy
    have r1 := hx xs (ex_l (e1.trans e2) h)
    have r2 := hy ys (ex_l (e1.trans e2) h2)
    rw [p1] at r1; rw [q1] at r2
    cases r1; cases r2
    have en : Ex G' (upd G' T (.tup [v, w])) := Ex.new (fresh_back e2 hT)
    exact ⟨upd G' T (.tup [v, w]), Step.alloc e2 hT, .tup (st_of upd_same) (.cons (dp_mono (e1.trans en) _ _ p2) (.cons (dp_mono (e1.trans en) _ _ q2) .nil))⟩
theorem its_zT {G : Hp} {a b : Addr} {xs ys : List V} (h : SqT K G a xs) (h2 : SqT K G b ys) (hd : DpAll K G xs ds) (he : DpAll K G ys es) : Its K (RZ.ItzT K a b) G (pairs ds es) := by
  refine ⟨fun i G' H' e1 e2 hi => ⟨xs, ys, ex_t (e1.trans e2) h, ex_t (e1.trans e2) h2, ?_⟩, fun i d G' H' e1 e2 hi => ?_⟩
  · rw [pairs_len] at hi
    rw [hd.len, he.len]
    omega
  · obtain ⟨x, y, rfl, g1, g2⟩ := pairs_get hi
    obtain ⟨v, p1, p2⟩ := hd.get g1
    obtain ⟨w, q1, q2⟩ := he.get g2
    refine ⟨⟨xs, ys, v, w, ex_t (e1.trans e2) h, ex_t (e1.trans e2) h2, p1, q1⟩, fun z H2 hy => ?_⟩
    obtain ⟨T, x', y', rfl, hT, rfl, hx, hy⟩ := hy
    have r1 := hx xs (ex_t (e1.trans e2) h)
    have r2 := hy ys (ex_t (e1.trans e2) h2)
    rw [p1] at r1; rw [q1] at r2
    cases r1; cases r2
    have en : Ex G' (upd G' T (.tup [v, w])) := Ex.new (fresh_back e2 hT)
    exact ⟨upd G' T (.tup [v, w]), Step.alloc e2 hT, .tup (st_of upd_same) (.cons (dp_mono (e1.trans en) _ _ p2) (.cons (dp_mono (e1.trans en) _ _ q2) .nil))⟩
theorem id_zip (h : AD K ta ρ [d, e]) (s : (d = .list ds ∧ e = .list es) ∨ (d = .tuple ds ∧ e = .tuple es)) : ID K (RZ.iZipA K ta) ρ (pairs ds es) := fun G H σ I R q => h G H σ I _ fun vs G2 H2 st hv => by
  cases hv with
  | cons h1 h2 =>
    cases h2 with
    | cons h2 h3 =>
      cases h3
      rcases s with ⟨rfl, rfl⟩ | ⟨rfl, rfl⟩
      · cases h1 with
        | lst a1 a2 =>
          cases h2 with
          | lst b1 b2 => exact ⟨_, _, _, _, rfl, .inl ⟨ex_l st.gh a1, ex_l st.gh b1, q _ G2 H2 st (its_z a1 b1 a2 b2)⟩⟩
      · cases h1 with
        | tup a1 a2 =>
          cases h2 with
          | tup b1 b2 => exact ⟨_, _, _, _, rfl, .inr ⟨ex_t st.gh a1, ex_t st.gh b1, q _ G2 H2 st (its_zT a1 b1 a2 b2)⟩⟩

/-! targets -/
def OwnSub (σ : L2.St) (ρ : Rho) (σ2 : L2.St) (ρ2 : Rho) : Prop := ∀ (i : Nat) xs p, ρ2[i]? = some (some (.own xs)) → σ2[i]? = some (some (.ref p)) → ρ[i]? = some (some (.own xs)) ∧ σ[i]? = some (some (.ref p))
def GD (K : PySem.W.Frag) (g : TG) (d : PyData) (ρ ρ2 : Rho) : Prop := ∀ G H σ v, Env K G H σ ρ → Dp K G v d → ∀ Q : L2.St → Hp → Prop, (∀ σ2, Env K G H σ2 ρ2 → OwnSub σ ρ σ2 ρ2 → Q σ2 H) → g v σ H Q
theorem ownSub_set {σ : L2.St} {v : V} : OwnSub σ ρ (σ.set i (some v)) (ρ.set i (some (.d d))) := fun k xs p h1 h2 => by
  rcases getset h1 with ⟨rfl, e⟩ | ⟨ne, h1'⟩
  · cases e
  · rw [List.getElem?_set_ne (Ne.symm ne)] at h2
    exact ⟨h1', h2⟩
theorem OwnSub.trans {σ σ2 σ3 : L2.St} {ρ2 ρ3 : Rho} (a : OwnSub σ ρ σ2 ρ2) (b : OwnSub σ2 ρ2 σ3 ρ3) : OwnSub σ ρ σ3 ρ3 := fun i xs p h1 h2 =>
  let ⟨x, y⟩ := b i xs p h1 h2
  a i xs p x y
theorem Base.sub {G H : Hp} {σ σ2 : L2.St} {ρ2 : Rho} (b : Base B0 B G H σ ρ) (s : OwnSub σ ρ σ2 ρ2) : Base B0 B G H σ2 ρ2 := ⟨b.st, fun i xs p h1 h2 => let ⟨x, y⟩ := s i xs p h1 h2; b.own i xs p x y⟩
theorem gd_name : GD K (gName i) d ρ (ρ.set i (some (.d d))) := fun G H σ v I hv Q q => q _ (I.set hv i) ownSub_set
theorem gd_pair : GD K (gTup K 2 (gCons (gName i) (gCons (gName j) gNil))) (.tuple [d, e]) ρ ((ρ.set i (some (.d d))).set j (some (.d e))) := fun G H σ v I hv Q q => by
  cases hv with
  | tup h1 h2 =>
    cases h2 with
    | cons h2 h3 =>
      cases h3 with
      | cons h3 h4 =>
        cases h4
        exact ⟨_, _, rfl, ex_t I.gh h1, rfl, _, _, rfl, _, _, rfl, rfl, q _ ((I.set h2 i).set h3 j) (ownSub_set.trans ownSub_set)⟩
theorem sd_asg {g : TG} {ρ2 : Rho} (h : ED K te ρ d) (hg : GD K g d ρ ρ2) (k : P (.nx ρ2)) : SD K B0 B (tAsg te g) ρ P := fun G H σ D I b q =>
  h G H σ I _ fun v G2 H2 s hv => hg G2 H2 σ v (I.step s) hv _ fun σ2 I2 os => q _ k G2 H2 σ2 s.g I2 ((b.step s).sub os)
/-- for -/
theorem sd_for {g : TG} (h : ID K wi ρ ds) (Inv : Nat → Rho → Prop) (h0 : Inv 0 ρ)
    (hs : ∀ i d ρ', ds[i]? = some d → Inv i ρ' → ∃ ρ2, GD K g d ρ' ρ2 ∧ SD K B0 B t ρ2 (Turn (Inv (i + 1)) P)) (hd : ∀ ρ', Inv ds.length ρ' → P (.nx ρ')) : SD K B0 B (tFor wi g t) ρ P := fun G0 H0 σ0 D I0 b0 q =>
  h G0 H0 σ0 I0 _ fun J G1 H1 s1 its => by
    refine ⟨fun i m σ H => m = ds.length - i ∧ i ≤ ds.length ∧ ∃ G ρ', Ex G1 G ∧ Env K G H σ ρ' ∧ Base B0 B G H σ ρ' ∧ Inv i ρ', ⟨ds.length, rfl, Nat.zero_le _, G1, ρ, Ex.refl G1, I0.step s1, b0.step s1, h0⟩, ?_⟩
    rintro i m σ H ⟨rfl, hi, G, ρ', eg, I, bb, w⟩
    by_cases hlt : i < ds.length
    · have hx : ds[i]? = some ds[i] := List.getElem?_eq_getElem hlt
      obtain ⟨go, yl⟩ := its.2 i _ G H eg I.gh hx
      refine .inr ⟨go, fun σ3 H3 => ∃ G3 ρ3, Ex G1 G3 ∧ Env K G3 H3 σ3 ρ3 ∧ Base B0 B G3 H3 σ3 ρ3 ∧ Inv (i + 1) ρ3, fun σ3 H3 h3 => ⟨ds.length - (i + 1), by omega, rfl, hlt, h3⟩, fun x H' hy => ?_⟩
      obtain ⟨G2, s2, hv⟩ := yl x H' hy
      obtain ⟨ρ2, hg, body⟩ := hs i _ ρ' hx w
      have e12 : Ex G1 G2 := eg.trans s2.g
      refine hg G2 H' σ x (I.step s2) hv _ fun σ2 I2 os => ?_
      refine body G2 H' σ2 _ I2 ((bb.step s2).sub os) fun o po => ?_
      cases o with
      | nx ρ3 => exact fun G3 H3 σ3 e3 I3 b3 => ⟨G3, ρ3, e12.trans e3, I3, b3, po⟩
      | ct ρ3 => exact fun G3 H3 σ3 e3 I3 b3 => ⟨G3, ρ3, e12.trans e3, I3, b3, po⟩
      | bk ρ3 => exact fun G3 H3 σ3 e3 I3 b3 => q _ po G3 H3 σ3 ((s1.g.trans e12).trans e3) I3 b3
      | rt d => exact q _ po
      | rf ds => exact q _ po
    · have e : i = ds.length := by omega
      subst e
      exact .inl ⟨its.1 _ G H eg I.gh (Nat.le_refl _), q _ (hd ρ' w) G H σ (s1.g.trans eg) I bb⟩
/-- comprehensions -/
def wipeR (ρ : Rho) : List Nat → Rho
  | [] => ρ
  | v :: vs => (wipeR ρ vs).set v none
theorem Env.wipe1 {G H : Hp} {σ : L2.St} (I : Env K G H σ ρ) (i : Nat) : Env K G H (σ.set i none) (ρ.set i none) := by
  refine ⟨I.gh, by rw [List.length_set, List.length_set]; exact I.len, fun j x h => ?_, fun j xs h => ?_, fun j x h => by
    rcases getset h with ⟨rfl, e⟩ | ⟨ne, h'⟩
    · cases e
    · rw [List.getElem?_set_ne (Ne.symm ne)]; exact I.raw j x h', fun j k xs ys q hjk h1 h2 h3 => ?_⟩
  · rcases getset h with ⟨rfl, e⟩ | ⟨ne, h'⟩
    · cases e
    · rw [List.getElem?_set_ne (Ne.symm ne)]; exact I.dat j x h'
  · rcases getset h with ⟨rfl, e⟩ | ⟨ne, h'⟩
    · cases e
    · rw [List.getElem?_set_ne (Ne.symm ne)]; exact I.own j xs h'
  · rcases getset h1 with ⟨rfl, e⟩ | ⟨ne, h1'⟩
    · cases e
    · rcases getset h2 with ⟨rfl, e⟩ | ⟨ne2, h2'⟩
      · cases e
      · rw [List.getElem?_set_ne (Ne.symm ne)] at h3
        rw [List.getElem?_set_ne (Ne.symm ne2)]
        exact I.sep j k xs ys q hjk h1' h2' h3
theorem Env.wipe {G H : Hp} {σ : L2.St} (I : Env K G H σ ρ) : ∀ vs : List Nat, Env K G H (wipe σ vs) (wipeR ρ vs)
  | [] => I
  | v :: vs => (I.wipe vs).wipe1 v
/-- a target within a comprehension -/
def GC (K : PySem.W.Frag) (g : TG) (d : PyData) (vs : List Nat) (ρ ρ2 : Rho) : Prop := ∀ G H σ v, Env K G H σ ρ → Dp K G v d → ∀ Q : L2.St → Hp → Prop, (∀ σ2, Env K G H σ2 ρ2 → wipe σ2 vs = wipe σ vs → Q σ2 H) → g v (wipe σ vs) H Q
theorem gc_name : GC K (gName i) d [i] ρ ((wipeR ρ [i]).set i (some (.d d))) := fun G H σ v I hv Q q => q _ ((I.wipe [i]).set hv i) (by simp [wipe, List.set_set])
theorem gc_pair (hij : i ≠ j) : GC K (gTup K 2 (gCons (gName i) (gCons (gName j) gNil))) (.tuple [d, e]) [i, j] ρ (((wipeR ρ [i, j]).set i (some (.d d))).set j (some (.d e))) := fun G H σ v I hv Q q => by
  have W := I.wipe [i, j]
  cases hv with
  | tup h1 h2 =>
    cases h2 with
    | cons h2 h3 =>
      cases h3 with
      | cons h3 h4 =>
        cases h4
        refine ⟨_, _, rfl, ex_t I.gh h1, rfl, _, _, rfl, _, _, rfl, rfl, q _ ((W.set h2 i).set h3 j) ?_⟩
        simp only [wipe]
        apply List.ext_getElem?
        intro n
        by_cases a : n = i
        · subst a
          simp [List.getElem?_set, hij, Ne.symm hij]
        · by_cases b : n = j
          · subst b
            simp [List.getElem?_set, hij, Ne.symm hij]
          · simp [List.getElem?_set, Ne.symm a, Ne.symm b]
theorem ef_lcG {g : TG} {vs : List Nat} (b : Nat → Bool) (f : Nat → PyData) (h : ID K wi ρ ds) (hz : ds.length ≤ 100000)
    (hs : ∀ i d, ds[i]? = some d → ∃ ρ2, GC K g d vs ρ ρ2 ∧ TD K tt ρ2 (b i) ∧ (b i = true → ED K te ρ2 (f i))) : EF K (tLc wi g tt te vs) ρ (((List.range ds.length).filter b).map f) := fun G0 H0 σ0 I0 Q q =>
  h G0 H0 σ0 I0 _ fun J G1 H1 s1 its D hD => by
    let done (i : Nat) : List PyData := ((List.range i).filter b).map f
    have dl : ∀ i, (done i).length ≤ i := fun i => by
      show (((List.range i).filter b).map f).length ≤ i
      rw [List.length_map]
      have := List.length_filter_le b (List.range i)
      rwa [List.length_range] at this
    have I1 := I0.step s1
    refine ⟨fun i m H => m = ds.length - i ∧ i ≤ ds.length ∧ ∃ G acc, Step G1 H1 G H ∧ G D = none ∧ H D = some (.lst acc) ∧ DpAll K G acc (done i),
      ⟨ds.length, rfl, Nat.zero_le _, G1, [], Step.allocO s1.gh hD, fresh_back s1.gh hD, upd_same, .nil⟩, ?_⟩
    rintro i m H ⟨rfl, hi, G, acc, st, gD, hDl, hacc⟩
    by_cases hlt : i < ds.length
    · have hx : ds[i]? = some ds[i] := List.getElem?_eq_getElem hlt
      obtain ⟨go, yl⟩ := its.2 i _ G H st.g st.gh hx
      refine .inr ⟨go, fun H3 => ∃ G3 acc3, Step G1 H1 G3 H3 ∧ G3 D = none ∧ H3 D = some (.lst acc3) ∧ DpAll K G3 acc3 (done (i + 1)), fun H3 h3 => ⟨ds.length - (i + 1), by omega, rfl, hlt, h3⟩, fun x H' hy => ?_⟩
      obtain ⟨G2, s2, hv⟩ := yl x H' hy
      obtain ⟨ρ2, hg, ht, he⟩ := hs i _ hx
      have I2 : Env K G2 H' σ0 ρ := (I1.step st).step s2
      have noD : ∀ {G' H'' : Hp}, Step G H G' H'' → G' D = none := fun {G' H''} s => by
        by_cases z : G' D = none
        · exact z
        · have := s.new D z gD
          rw [hDl] at this; cases this
      refine hg G2 H' σ0 x I2 hv _ fun σ2 I3 hw => ⟨hw, ht G2 H' σ2 I3 _ fun G4 H4 s4 => ?_⟩
      have sA : Step G H G4 H4 := s2.trans s4
      cases hb : b i with
      | true =>
        show te σ2 H4 _
        refine he hb G4 H4 σ2 (I3.step s4) _ fun y G5 H5 s5 hy5 => ?_
        have sB := sA.trans s5
        have nD := noD sB
        refine ⟨acc, sB.h _ _ hDl, by rw [hacc.len]; exact sz_lt (Nat.lt_of_le_of_lt (dl i) (by omega)), G5, acc ++ [y], (st.trans sB).mutO hD nD, nD, upd_same, ?_⟩
        have ed : done (i + 1) = done i ++ [f i] := by
          show ((List.range (i + 1)).filter b).map f = _
          rw [List.range_succ, List.filter_append, List.map_append, List.filter_cons, if_pos hb]; rfl
        rw [ed]
        exact (dpa_mono sB.g _ _ hacc).app (.cons hy5 .nil)
      | false =>
        show ∃ G3 acc3, _
        have ed : done (i + 1) = done i := by
          show ((List.range (i + 1)).filter b).map f = _
          rw [List.range_succ, List.filter_append, List.map_append, List.filter_cons, if_neg (by rw [hb]; decide)]
          show _ ++ [] = _
          rw [List.append_nil]
        refine ⟨G4, acc, st.trans sA, noD sA, sA.h _ _ hDl, ?_⟩
        rw [ed]
        exact dpa_mono sA.g _ _ hacc
    · have e : i = ds.length := by omega
      subst e
      exact .inl ⟨its.1 _ G H st.g st.gh (Nat.le_refl _), q D acc G H (s1.trans st) (fresh_back s1.h hD) gD hDl hacc⟩
theorem ef_lc {g : TG} {vs : List Nat} (f : Nat → PyData) (h : ID K wi ρ ds) (hz : ds.length ≤ 100000)
    (hs : ∀ i d, ds[i]? = some d → ∃ ρ2, GC K g d vs ρ ρ2 ∧ ED K te ρ2 (f i)) : EF K (tLc wi g tYes te vs) ρ ((List.range ds.length).map f) := by
  have := ef_lcG (tt := tYes) (b := fun _ => true) f h hz (g := g) (vs := vs) (te := te) fun i d hi => by
    obtain ⟨ρ2, h1, h2⟩ := hs i d hi
    exact ⟨ρ2, h1, td_yes, fun _ => h2⟩
  rwa [List.filter_eq_self.mpr (fun _ _ => rfl)] at this
end
end Rt

namespace Rt
open PySem PySem.Spec PyProof.Rows L2 Evl

/-! ### operators of my own -/
def CDivQ (i j : Int) : Prop := j ≠ 0 ∧ Builtin.divisionGoesByPylong i j = false
theorem op_fdivP {X : Cx} : OpR X (binaryOp .FloorDiv) (rI CDivQ fun i j => .int (i.fdiv j)) := opI fun _ _ _ _ _ _ _ hc q => PyProof.Rows.floordiv_int hc.1 q (.inl hc.2)
theorem cdivQ_of {i j : Int} {n : Nat} (h : j ≠ 0) (hb : j.natAbs < 2 ^ n) (h0 : 0 < n) (h9 : n ≤ 9000) : CDivQ i j := ⟨h, PyProof.noPylong_of_log2 (Nat.lt_of_lt_of_le (PySem.Flt.log2_lt_of h0 hb) h9)⟩
theorem cmulX_of {i j : Int} {a b : Nat} (ha : i.natAbs < 2 ^ a) (hb : j.natAbs < 2 ^ b) (h0 : 0 < a) (h1 : 0 < b) (h : a + b ≤ 134217728) : CMulX i j := by
  have x := PySem.Flt.log2_lt_of h0 ha
  have y := PySem.Flt.log2_lt_of h1 hb
  have bb : ∀ x : Int, Builtin.Int.intBits x ≤ x.natAbs.log2 + 1 := fun x => by
    unfold Builtin.Int.intBits
    split <;> omega
  have p := bb i
  have q := bb j
  unfold CMulX
  omega
theorem _root_.L2.Room.units65 {k : Nat} {A : Around} (r : Room k A) : A.units + 65 < cLine := by have := r.un; omega
section
variable {K : PySem.W.Frag} {ρ : Rho} {ta tb te : TE} {d e : PyData} {ds es : List PyData} {i j : Int} {n : Nat}
theorem ed_fdivP (ha : ED K ta ρ (.int i)) (hb : ED K tb ρ (.int j)) (hc : CDivQ i j) : ED K (tOp (rI CDivQ fun i j => .int (i.fdiv j)) ta tb) ρ (.int (i.fdiv j)) := ed_I (g := fun i j => i.fdiv j) ha hb hc
def rInt1 : List V → Hp → VK → Prop := fun xs H Q => (∃ i, xs = [.int i] ∧ Q (.int i) H) ∨ ∃ k, xs = [.bl k] ∧ Q (.int (if k then 1 else 0)) H
theorem ed_int1B {b : Bool} (ha : ED K ta ρ (.bool b)) : ED K (tCB rInt1 (tCons ta tNil)) ρ (.int (if b then 1 else 0)) := fun G H σ I Q q => ha G H σ I _ fun v G2 H2 s hv => by
  cases dp_bl hv
  exact .inr ⟨b, rfl, q _ G2 H2 s (.int _)⟩
theorem ed_int1I (ha : ED K ta ρ (.int i)) : ED K (tCB rInt1 (tCons ta tNil)) ρ (.int i) := fun G H σ I Q q => ha G H σ I _ fun v G2 H2 s hv => by
  cases dp_int hv
  exact .inl ⟨i, rfl, q _ G2 H2 s (.int _)⟩
/-- in, not in over data -/
theorem ed_inD (ha : ED K ta ρ d) (hb : ED K tb ρ (.list ds)) (h1 : SeqAt.shaped d = true) (h2 : SeqAt.shaped (.list ds) = true) : ED K (tOp (rInD K) ta tb) ρ (.bool (ds.any fun z => PyData.eqv z d)) :=
  ed_op ha hb fun x y G H ex hx hy Q q => ⟨d, ds, dp_mono ex _ _ hx, dp_mono ex _ _ hy, h1, h2, q _ G H (Step.refl ex) (.bl _)⟩
theorem ed_notInD (ha : ED K ta ρ d) (hb : ED K tb ρ (.list ds)) (h1 : SeqAt.shaped d = true) (h2 : SeqAt.shaped (.list ds) = true) : ED K (tOp (rNotInD K) ta tb) ρ (.bool (!ds.any fun z => PyData.eqv z d)) :=
  ed_op ha hb fun x y G H ex hx hy Q q => ⟨d, ds, dp_mono ex _ _ hx, dp_mono ex _ _ hy, h1, h2, q _ G H (Step.refl ex) (.bl _)⟩
/-- over a list of one's own -/
theorem ed_notInO {k : Nat} (ho : ρ[k]? = some (some (.own ds))) (ha : ED K ta ρ d) (h1 : SeqAt.shaped d = true) (h2 : SeqAt.shaped (.list ds) = true) : ED K (tOp (rNotInD K) ta (tVar k)) ρ (.bool (!ds.any fun z => PyData.eqv z d)) := fun G H σ I Q q =>
  ha G H σ I _ fun x G2 H2 s hx => by
    obtain ⟨p, vs, g1, g2, g3, g4⟩ := (I.step s).own k ds ho
    exact ⟨_, g1, d, ds, dp_mono s.gh _ _ hx, .lst (sq_of g2) (dpa_mono s.gh _ _ g4), h1, h2, q _ G2 H2 s (.bl _)⟩
end

/-! ### a def that is called -/
structure Cal (P : Program) (w : World) (K : PySem.W.Frag) (mg : Str → Option Value) (base : Heap) (CX : CXT) (k : Nat) (x : Str) (ps : List Str) (sp : Sp) : Prop where
  ex : ∃ f fd, FnOk P w K mg base CX k f fd ps sp ∧ mg x = some (.ref f) ∧ PySem.W.keepIn K (.ref f) = true ∧ Binds K fd ps []
theorem pe_cal0 {X : Cx} {k : Nat} {x : Str} {ps : List Str} {sp : Sp} {e : Expr} {es : List Expr} {t : TA} {p pos : Pos} (C : Cal X.prog X.w X.K X.mg X.base CX0 k x ps sp) (hr : Room k X.A) (hg : Gl X x) (ha : PA X (e :: es) t)
    (hdb : (x == ("__debug__" : Str)) = false := by decide) (he : starEach (e :: es) X.env = (false, eval e X.env) :: starEach es X.env := by rfl) (hpl : (backTo pos (starEach es X.env)).any (·.1) = false := by rfl) : PE X (.Call (.Name x p) (e :: es) [] pos) (tCall sp [] E0 t) := by
  obtain ⟨f, fd, F, hm, hk, hb⟩ := C.ex
  exact pe_call F hr hg hm hk hb .nil pass0 ha hdb he hpl
theorem pe_calX {X : Cx} {k : Nat} {x : Str} {ps : List Str} {sp : Sp} {e : Expr} {es : List Expr} {t : TA} {p pos : Pos} (C : Cal X.prog X.w X.K X.mg X.base (L2.CX X.prog X.w) k x ps sp) (hr : Room k X.A) (hg : Gl X x) (ha : PA X (e :: es) t)
    (hdb : (x == ("__debug__" : Str)) = false := by decide) (he : starEach (e :: es) X.env = (false, eval e X.env) :: starEach es X.env := by rfl) (hpl : (backTo pos (starEach es X.env)).any (·.1) = false := by rfl) : PE X (.Call (.Name x p) (e :: es) [] pos) (tCall sp [] E0 t) := by
  obtain ⟨f, fd, F, hm, hk, hb⟩ := C.ex
  exact pe_call F hr hg hm hk hb .nil passL ha hdb he hpl
/-- within a try -/
theorem pe_calS {X : Cx} {k : Nat} {x : Str} {ps : List Str} {sp : Sp} {e : Expr} {es : List Expr} {t : TA} {p pos : Pos} {E : L2.St → XK} (C : Cal X.prog X.w X.K X.mg X.base (L2.CX X.prog X.w) k x ps sp) (hr : Room k X.A) (hg : Gl X x) (hx : ∀ σ, PassesAt (L2.CX X.prog X.w) X σ (E σ)) (ha : PA X (e :: es) t)
    (hdb : (x == ("__debug__" : Str)) = false := by decide) (he : starEach (e :: es) X.env = (false, eval e X.env) :: starEach es X.env := by rfl) (hpl : (backTo pos (starEach es X.env)).any (·.1) = false := by rfl) : PE X (.Call (.Name x p) (e :: es) [] pos) (tCallS sp E t) := by
  obtain ⟨f, fd, F, hm, hk, hb⟩ := C.ex
  exact pe_callS F hr hg hm hk hb hx ha hdb he hpl

/-! ### a def's body -/
def startR (N : List Str) (ds : List PyData) : Rho := ds.map (fun d => some (.d d)) ++ List.replicate (N.length - ds.length) none
def fin : Res → Out → Prop
  | .rt d, .rt d' => d' = d
  | .rf ds, .rf ds' => ds' = ds
  | .rt d, .nx _ => d = .none
  | _, _ => False
theorem env_start {K : PySem.W.Frag} {G H : Hp} {N : List Str} {vs : List V} {ds : List PyData} (e : Ex G H) (h : DpAll K G vs ds) : Env K G H (L2.start N vs) (startR N ds) := by
  have hl := h.len
  have own : ∀ (i : Nat) xs, (startR N ds)[i]? ≠ some (some (.own xs)) := fun i xs q => by
    unfold startR at q
    rw [List.getElem?_append] at q
    split at q
    · rw [List.getElem?_map] at q
      cases z : ds[i]? with
      | none => rw [z] at q; cases q
      | some d => rw [z] at q; cases q
    · rw [List.getElem?_replicate] at q
      split at q <;> cases q
  have raw : ∀ (i : Nat) x, (startR N ds)[i]? ≠ some (some (.v x)) := fun i x q => by
    unfold startR at q
    rw [List.getElem?_append] at q
    split at q
    · rw [List.getElem?_map] at q
      cases z : ds[i]? with
      | none => rw [z] at q; cases q
      | some d => rw [z] at q; cases q
    · rw [List.getElem?_replicate] at q
      split at q <;> cases q
  refine ⟨e, ?_, fun i x q => ?_, fun i xs q => absurd q (own i xs), fun i x q => absurd q (raw i x), fun i j xs ys p _ q => absurd q (own i xs)⟩
  · unfold L2.start startR
    rw [List.length_append, List.length_append, List.length_map, List.length_map, List.length_replicate, List.length_replicate, hl]
  · unfold startR at q
    rw [List.getElem?_append] at q
    split at q
    · rename_i lt
      rw [List.getElem?_map] at q
      cases z : ds[i]? with
      | none => rw [z] at q; cases q
      | some d =>
        rw [z] at q; cases q
        obtain ⟨v, h1, h2⟩ := h.get z
        refine ⟨v, ?_, h2⟩
        unfold L2.start
        rw [List.getElem?_append_left (by rw [List.length_map, hl]; rw [List.length_map] at lt; exact lt), List.getElem?_map, h1]
        rfl
    · rw [List.getElem?_replicate] at q
      split at q <;> cases q
theorem base_start {K : PySem.W.Frag} {G H : Hp} {N : List Str} {vs : List V} {ds : List PyData} (e : Ex G H) : Base G H G H (L2.start N vs) (startR N ds) := by
  refine ⟨Step.refl e, fun i xs p q => ?_⟩
  unfold startR at q
  rw [List.getElem?_append] at q
  split at q
  · rw [List.getElem?_map] at q
    cases z : ds[i]? with
    | none => rw [z] at q; cases q
    | some d => rw [z] at q; cases q
  · rw [List.getElem?_replicate] at q
    split at q <;> cases q
/-- the reading of a body by data -/
theorem body_ok {K : PySem.W.Frag} {n : Nat} {F : List PyData → Res → Prop} {N : List Str} {t : TS} {vs : List V} {H : Hp} {Q : VK} {E : XK} {G : Hp} {ds : List PyData} {r : Res} (e : Ex G H) (hd : DpAll K G vs ds) (rp : RP K r G H Q E)
    (h : SD K G H t (startR N ds) (fin r)) : t { nx := fun _ H' => Q .non H', rt := Q } (L2.start N vs) H := by
  refine h G H _ _ (env_start e hd) (base_start (K := K) e) fun o po => ?_
  cases r with
  | rt d =>
    cases o with
    | rt d' =>
      cases po
      exact fun v G2 H2 s hv => rp v G2 H2 s hv
    | nx ρ =>
      cases po
      exact fun G2 H2 σ2 _ I2 b2 => rp .non G2 H2 b2.st .non
    | rf ds => cases po
    | bk ρ => cases po
    | ct ρ => cases po
  | rf ds =>
    cases o with
    | rf ds' =>
      cases po
      exact fun p vs G2 H2 s hp hg hl hdd => rp p vs G2 H2 s hp hg hl hdd
    | nx ρ => cases po
    | rt ds => cases po
    | bk ρ => cases po
    | ct ρ => cases po
  | xc C => cases o <;> cases po
section
variable {P : Program} {w : World} {K : PySem.W.Frag} {mg : Str → Option Value} {base : Heap} {x qual : Str} {st : Stmt} {f : Addr} {fd : FuncData} {N ps : List Str} {k n : Nat} {F : List PyData → Res → Prop}
theorem fun_ok {t : TS} (Fn : Fun K x qual st f fd) (S : FnScope N ps (defScope st)) (hn : n = ps.length)
    (hb : ∀ (cdv : Value) (A : Around) (outer : List PySem.Env) (s : Shared) (H : Hp) (E : XK), Room k (A.deeper (envOfC qual (defScope st) s.heap.objs.size f cdv)) → PSs (cxOf CX0 P w K mg base N qual (defScope st) f cdv A outer s H E).nox (defBody st) t)
    (hp : ∀ ds r, F ds r → ∀ B0 B, SD K B0 B t (startR N ds) (fin r)) : FnOk P w K mg base CX0 (k + 1) f fd ps (spD K n F) := by
  refine Fn.ok S (fun vs H Q E h => h.1.trans hn) fun cdv A outer s H vs Q E hr h => ?_
  obtain ⟨hl, G, ds, r, e, hd, hF, rp⟩ := h
  exact ⟨t, hb cdv A outer s H E hr, body_ok (n := n) (F := F) e hd rp (hp ds r hF G H)⟩
theorem fun_okX {t : XK → TS} (Fn : Fun K x qual st f fd) (S : FnScope N ps (defScope st)) (hn : n = ps.length)
    (hb : ∀ (cdv : Value) (A : Around) (outer : List PySem.Env) (s : Shared) (H : Hp) (E : XK), Room k (A.deeper (envOfC qual (defScope st) s.heap.objs.size f cdv)) → PSs (cxOf (L2.CX P w) P w K mg base N qual (defScope st) f cdv A outer s H E) (defBody st) (t E))
    (hp : ∀ ds r, F ds r → ∀ B0 B (E : XK), (∀ C, r = .xc C → ∀ G H, Step B0 B G H → E (.ref C) none H) → SD K B0 B (t E) (startR N ds) (fin r)) : FnOk P w K mg base (L2.CX P w) (k + 1) f fd ps (spD K n F) := by
  refine Fn.okX S (fun vs H Q E h => h.1.trans hn) fun cdv A outer s H vs Q E hr h => ?_
  obtain ⟨hl, G, ds, r, e, hd, hF, rp⟩ := h
  refine ⟨t E, hb cdv A outer s H E hr, body_ok (n := n) (F := F) e hd rp (hp ds r hF G H E fun C hc => ?_)⟩
  subst hc
  exact rp
end

/-! ### isinstance of a caught error -/
def rIsX (K : PySem.W.Frag) (a : Addr) (cls : Value) (d : Option Addr) : List V → Hp → VK → Prop := fun xs H Q => ∃ D, cls = .ref D ∧ d = none ∧ ExcC K D ∧
  ((∃ c cv b, xs = [.ref a, c] ∧ ClsV c cv ∧ PySem.W.kitOne K (.ref D) cv = some b ∧ Q (.bl b) H) ∨
   ∃ tp cs us b, xs = [.ref a, .ref tp] ∧ H tp = some (.tup cs) ∧ Paired ClsV cs us ∧ PySem.W.kitAny K (.ref D) us = some b ∧ Q (.bl b) H)
theorem call_isX {X : Cx} {a : Addr} {oe : Obj} {cls : Value} {d : Option Addr} {pn : List (Addr × Obj)} (hz : Zc cls d oe) (hf : ∃ vs, oe.data = .fields vs) : CallR (X.suite a ((a, oe) :: pn)) (.builtin "isinstance") (rIsX X.K a cls d) := by
  intro pins s σ H xs us Q I r h
  obtain ⟨D, rfl, rfl, C, h⟩ := h
  rcases h with ⟨c, cv, b, rfl, hcv, e, q⟩ | ⟨tp, cs, ws, b, rfl, hT, k, e, q⟩
  · exact call_isE C hz hf pins s σ H _ us Q I r ⟨c, cv, b, rfl, fun u ru => hcv.eq ru, e, q⟩
  · obtain ⟨u1, u2, rfl, r1, r2⟩ := vals2 r
    cases (show u1 = Value.ref a from r1)
    cases (show u2 = Value.ref tp from r2)
    obtain ⟨hget, _⟩ := I.pin (a, oe) (List.mem_append.mpr (.inl List.mem_cons_self))
    obtain ⟨vs, hv⟩ := hf
    have J : PySem.W.InstAt s.heap a oe D none := by
      obtain ⟨oc, od, oda, osl⟩ := oe
      obtain ⟨h1, h2⟩ := hz
      dsimp only at h1 h2 hv
      subst h1 h2 hv
      exact ⟨hget, rfl, rfl, trivial⟩
    obtain ⟨_, its, rv, o, h1, h2, n, h3⟩ := (show ObjOk X.prog X.w H s.heap tp (.tup cs) from I.hok tp _ hT)
    have e3 := ClsV.all k rv
    subst e3
    obtain ⟨oc, od, dt, sl⟩ := o
    simp only at h2 h3
    subst h2 h3
    exact PySem.W.kia_tup (PySem.W.handS_kitx_exc C.hg C.hk C.hs C.hd C.ha C.hn C.ht C.hm) I.kIn J h1 e (fun z => nomatch z) fun tk => ⟨.bl b, H, I.kept (t' := tk) fun _ _ z => z, rfl, q⟩
/-- the suite: if isinstance(e, (..)): return False; return isinstance(e, S) and isinstance(e, V) -/
def tSuite (K : PySem.W.Frag) (i : Nat) (tt : TA) (c1 c2 : V) : Addr → Value → Option Addr → TS := fun a cls d =>
  tSeq (tIfS (tTruth K (tCB (rIsX K a cls d) (tCons (tVar i) (tCons (tTup tt) tNil)))) (tRet (tC (.bl false))) tNext)
    (tRet (tAndV (tCB (rIsX K a cls d) (tCons (tVar i) (tCons (tC c1) tNil))) (tCB (rIsX K a cls d) (tCons (tVar i) (tCons (tC c2) tNil)))))
def tRef (K : PySem.W.Frag) (sp : Sp) (i : Nat) (Cx : Addr) (ta tt : TA) (c1 c2 : V) : TS := fun D σ H =>
  (fun W => tDrop (tCallS sp (WE W) ta)) (wAs K (.ref Cx) i (tSuite K i tt c1 c2) (fun _ _ _ _ => False) D) D σ H
/-- a written tuple of classes -/
def tCls : List V → TA
  | [] => tNil
  | v :: vs => tCons (tC v) (tCls vs)
theorem tCls_ok : ∀ (vs : List V) (σ : L2.St) (H : Hp) (Q : List V → Hp → Prop), Q vs H → tCls vs σ H Q
  | [], _, _, _, q => q
  | v :: vs, σ, H, Q, q => tCls_ok vs σ H (fun xs H2 => Q (v :: xs) H2) q
theorem sd_ref {K : PySem.W.Frag} {B0 B : Hp} {ρ : Rho} {ta : TA} {ds : List PyData} {n i : Nat} {F : List PyData → Res → Prop} {P : Out → Prop} {C Cx : Addr} {cs : List V} {us : List Value} {c1 c2 : V} {u1 u2 : Value} (ha : AD K ta ρ ds) (hF : F ds (.xc C)) (hn : ds.length = n)
    (hi : i < ρ.length) (hm : PySem.W.exmOne K (.ref C) (.ref Cx) = some true) (X : ExcC K C) (hcs : Paired ClsV cs us) (hl : cs.length ≤ 1000) (k0 : PySem.W.kitAny K (.ref C) us = some false) (hc1 : ClsV c1 u1) (k1 : PySem.W.kitOne K (.ref C) u1 = some true) (hc2 : ClsV c2 u2) (k2 : PySem.W.kitOne K (.ref C) u2 = some true)
    (k : P (.rt (.bool true))) : SD K B0 B (tRef K (spD K n F) i Cx ta (tCls cs) c1 c2) ρ P := fun G H σ D I b q => by
  show tDrop (tCallS _ _ ta) D σ H
  refine ha G H σ I _ fun vs G2 H2 s hv => ⟨hv.len.trans hn, G2, ds, .xc C, s.gh, hv, hF, fun G3 H3 s3 => ?_⟩
  have sA := s.trans s3
  refine ⟨true, hm, fun _ a hna => ?_, fun z => nomatch z⟩
  have hs : (σ.set i (some (.ref a)))[i]? = some (some (.ref a)) := by rw [List.getElem?_set_self (by rw [I.len]; exact hi)]
  refine ⟨_, hs, tCls_ok cs _ _ _ ⟨Nat.le_trans hl (by decide), fun p hp => ?_⟩⟩
  refine ⟨C, rfl, rfl, X, .inr ⟨p, cs, us, false, rfl, upd_same, hcs, k0, false, rfl, ?_⟩⟩
  show tNext _ _ _
  refine ⟨_, hs, C, rfl, rfl, X, .inl ⟨c1, u1, true, rfl, hc1, k1, true, rfl, ?_⟩⟩
  refine iteT ?_
  refine ⟨_, hs, C, rfl, rfl, X, .inl ⟨c2, u2, true, rfl, hc2, k2, ?_⟩⟩
  exact q _ k (.bl true) G3 _ (b.st.trans (sA.trans (Step.allocO s3.gh hp))) (.bl true)
end Rt

namespace Rt
open PySem PySem.Spec PyProof.Rows L2 Evl
/-! ### the mathematics -/
theorem natAbs_fmod_lt (a : Int) {b : Int} (hb : b ≠ 0) : (a.fmod b).natAbs < b.natAbs := by
  rw [Int.fmod_eq_emod]
  have h1 := Int.emod_nonneg a hb
  have h2 := Int.emod_lt a hb
  by_cases h : 0 ≤ b ∨ b ∣ a
  · rw [if_pos h]; omega
  · rw [if_neg h]
    have h3 : ¬ 0 ≤ b := fun z => h (.inl z)
    have h4 : a % b ≠ 0 := fun z => h (.inr (Int.dvd_of_emod_eq_zero z))
    omega
theorem gcd_fmod (a b : Int) : Int.gcd b (a.fmod b) = Int.gcd a b := by
  rw [Int.fmod_def, Int.mul_comm b, Int.gcd_sub_mul_right_right, Int.gcd_comm]
/-- the part that a is of b, by its greatest common divisor with the sign of b -/
def partS (a b : Int) : Int := if b < 0 then -(Int.gcd a b : Int) else (Int.gcd a b : Int)
def partV (a b : Int) : Int × Int := (a.fdiv (partS a b), b.fdiv (partS a b))
theorem gcd_pos {a b : Int} (hb : b ≠ 0) : 0 < Int.gcd a b := Int.gcd_pos_of_ne_zero_right a hb
theorem partS_ne {a b : Int} (hb : b ≠ 0) : partS a b ≠ 0 := by
  have := gcd_pos (a := a) hb
  unfold partS; split <;> omega
theorem partS_abs (a b : Int) : (partS a b).natAbs = Int.gcd a b := by unfold partS; split <;> omega
theorem partS_le {a b : Int} (hb : b ≠ 0) : (partS a b).natAbs ≤ b.natAbs := by
  rw [partS_abs]; exact Nat.le_of_dvd (by omega) (Nat.gcd_dvd_right _ _)
theorem partS_dl (a b : Int) : partS a b ∣ a := by
  unfold partS; split
  · exact Int.neg_dvd.mpr (Int.gcd_dvd_left a b)
  · exact Int.gcd_dvd_left a b
theorem partS_dr (a b : Int) : partS a b ∣ b := by
  unfold partS; split
  · exact Int.neg_dvd.mpr (Int.gcd_dvd_right a b)
  · exact Int.gcd_dvd_right a b
theorem fdiv_mul_of_dvd {a s : Int} (h : s ∣ a) : s * a.fdiv s = a := by
  rw [Int.fdiv_eq_ediv_of_dvd h, Int.mul_ediv_cancel' h]
theorem natAbs_fdiv_le {a s : Int} (h : s ∣ a) (hs : s ≠ 0) : (a.fdiv s).natAbs ≤ a.natAbs := by
  have e := congrArg Int.natAbs (fdiv_mul_of_dvd h)
  rw [Int.natAbs_mul] at e
  have : 1 ≤ s.natAbs := by omega
  calc (a.fdiv s).natAbs = 1 * (a.fdiv s).natAbs := (Nat.one_mul _).symm
    _ ≤ s.natAbs * (a.fdiv s).natAbs := Nat.mul_le_mul_right _ this
    _ = a.natAbs := e
theorem partV_pos {a b : Int} (hb : b ≠ 0) : 0 < (partV a b).2 := by
  have e := fdiv_mul_of_dvd (partS_dr a b)
  have s0 := partS_ne (a := a) hb
  have g := gcd_pos (a := a) hb
  show 0 < b.fdiv (partS a b)
  by_cases h : b < 0
  · have s1 : partS a b < 0 := by unfold partS; rw [if_pos h]; omega
    by_cases q : 0 < b.fdiv (partS a b)
    · exact q
    · have := Int.mul_nonneg_of_nonpos_of_nonpos (Int.le_of_lt s1) (Int.not_lt.mp q)
      omega
  · have s1 : 0 < partS a b := by unfold partS; rw [if_neg h]; omega
    by_cases q : 0 < b.fdiv (partS a b)
    · exact q
    · have := Int.mul_nonpos_of_nonneg_of_nonpos (Int.le_of_lt s1) (Int.not_lt.mp q)
      omega
theorem partV_cross {a b : Int} (hb : b ≠ 0) : (partV a b).1 * b = a * (partV a b).2 := by
  have e1 := fdiv_mul_of_dvd (partS_dl a b)
  have e2 := fdiv_mul_of_dvd (partS_dr a b)
  show a.fdiv (partS a b) * b = a * b.fdiv (partS a b)
  generalize a.fdiv (partS a b) = x at e1 ⊢
  generalize b.fdiv (partS a b) = y at e2 ⊢
  calc x * b = x * (partS a b * y) := by rw [e2]
    _ = (partS a b * x) * y := by rw [← Int.mul_assoc, Int.mul_comm x]
    _ = a * y := by rw [e1]
theorem partV_gcd {a b : Int} (hb : b ≠ 0) : Int.gcd (partV a b).1 (partV a b).2 = 1 := by
  have e1 := fdiv_mul_of_dvd (partS_dl a b)
  have e2 := fdiv_mul_of_dvd (partS_dr a b)
  show Int.gcd (a.fdiv (partS a b)) (b.fdiv (partS a b)) = 1
  have h := Int.gcd_mul_left (partS a b) (a.fdiv (partS a b)) (b.fdiv (partS a b))
  rw [e1, e2, partS_abs] at h
  have g := gcd_pos (a := a) hb
  exact Nat.eq_of_mul_eq_mul_left g (by rw [Nat.mul_one]; exact h.symm)
theorem partV_le {a b : Int} (hb : b ≠ 0) : (partV a b).1.natAbs ≤ a.natAbs ∧ (partV a b).2.natAbs ≤ b.natAbs := ⟨natAbs_fdiv_le (partS_dl a b) (partS_ne hb), natAbs_fdiv_le (partS_dr a b) (partS_ne hb)⟩
def pD (x : Int × Int) : PyData := .tuple [.int x.1, .int x.2]
/-- below 2 ^ n either way -/
def Lt2 (n : Nat) (a : Int) : Prop := a.natAbs < 2 ^ n
theorem Lt2.zero {n : Nat} : Lt2 n 0 := Nat.pow_pos (by decide)
theorem Lt2.mono {n m : Nat} {a : Int} (h : Lt2 n a) (k : n ≤ m) : Lt2 m a := Nat.lt_of_lt_of_le h (Nat.pow_le_pow_right (by decide) k)
theorem Lt2.mul {n m : Nat} {a b : Int} (h : Lt2 n a) (k : Lt2 m b) : Lt2 (n + m) (a * b) := by
  unfold Lt2
  rw [Int.natAbs_mul, Nat.pow_add]
  exact Nat.mul_lt_mul'' h k
theorem Lt2.add {n : Nat} {a b : Int} (h : Lt2 n a) (k : Lt2 n b) : Lt2 (n + 1) (a + b) := by
  unfold Lt2 at *
  have := Int.natAbs_add_le a b
  rw [Nat.pow_succ]; omega
theorem Lt2.sub {n : Nat} {a b : Int} (h : Lt2 n a) (k : Lt2 n b) : Lt2 (n + 1) (a - b) := by
  unfold Lt2 at *
  have := Int.natAbs_sub_le a b
  rw [Nat.pow_succ]; omega
theorem Lt2.of_le {n : Nat} {a b : Int} (h : Lt2 n a) (k : b.natAbs ≤ a.natAbs) : Lt2 n b := Nat.lt_of_le_of_lt k h
theorem Lt2.cm {n m : Nat} {a b : Int} (h : Lt2 n a) (k : Lt2 m b) (z : n + m + 2 ≤ 134217728) : CMulX a b := cmulX_of (h.mono (Nat.le_succ n)) (k.mono (Nat.le_succ m)) (Nat.succ_pos _) (Nat.succ_pos _) (by omega)
theorem Lt2.cd {n : Nat} {a b : Int} (hb : b ≠ 0) (k : Lt2 n b) (z : n < 9000) : CDivQ a b := cdivQ_of hb (k.mono (Nat.le_succ n)) (Nat.succ_pos _) (by omega)
theorem cellI_at {ns : List Int} {k : Int} (h0 : 0 ≤ k) (h : k < ns.length) : atI (ns.map PyData.int) k = some (.int (ns.getD k.toNat 0)) := by
  have h1 : k.toNat < ns.length := by omega
  refine atI_mk (k := k.toNat) ?_ ?_
  · unfold ixN
    rw [if_pos h0, List.length_map, if_pos (by omega)]
  · rw [List.getElem?_map, List.getElem?_eq_getElem h1]
    show some (PyData.int _) = some (PyData.int _)
    rw [List.getD_eq_getElem?_getD, List.getElem?_eq_getElem h1]; rfl
theorem cellI_out {ns : List Int} {k : Int} (h0 : 0 ≤ k) (h : ¬ k < ns.length) : ns.getD k.toNat 0 = 0 := by
  rw [List.getD_eq_getElem?_getD, List.getElem?_eq_none_iff.mpr (by omega)]; rfl
theorem Lt2.of_lt {n : Nat} {a : Int} (h : a.natAbs < 2 ^ n) : Lt2 n a := h
theorem fm_lt (a : Int) {m : Int} (h : 0 < m) {n : Nat} (k : m.natAbs < 2 ^ n) : Lt2 n (a.fmod m) := by
  have h1 := Int.fmod_nonneg_of_pos a h
  have h2 := Int.fmod_lt_of_pos a h
  unfold Lt2; omega
theorem fm2 (a : Int) : a.fmod 2 = 0 ∨ a.fmod 2 = 1 := by
  have h1 := Int.fmod_nonneg_of_pos a (b := 2) (by decide)
  have h2 := Int.fmod_lt_of_pos a (b := 2) (by decide)
  omega
theorem partS_of_pos {a b : Int} (hb : 0 < b) : partS a b = (Int.gcd a b : Int) := by unfold partS; rw [if_neg (by omega)]
theorem shaped_pD (x : Int × Int) : SeqAt.shaped (pD x) = true := rfl
theorem eqv_pD (x y : Int × Int) : PyData.eqv (pD x) (pD y) = decide (x = y) := by
  obtain ⟨a, b⟩ := x
  obtain ⟨c, d⟩ := y
  show ((a == c) && ((b == d) && true)) = _
  rw [Bool.and_true]
  by_cases h1 : a = c <;> by_cases h2 : b = d <;> simp [h1, h2]
/-- rows -/
def rD (xs : List Int) : List PyData := xs.map .int
theorem rD_len (xs : List Int) : (rD xs).length = xs.length := List.length_map _
theorem rD_get {xs : List Int} {i : Nat} {d : PyData} (h : (rD xs)[i]? = some d) : ∃ a, xs[i]? = some a ∧ d = .int a := by
  unfold rD at h
  rw [List.getElem?_map] at h
  cases q : xs[i]? with
  | none => rw [q] at h; cases h
  | some a => rw [q] at h; cases h; exact ⟨a, rfl, rfl⟩
theorem rD_at {xs : List Int} {k : Int} (h0 : 0 ≤ k) (h : k < xs.length) : atI (rD xs) k = some (.int (xs.getD k.toNat 0)) := cellI_at h0 h
theorem rD_last {xs : List Int} (h : xs ≠ []) : atI (rD xs) (-1) = some (.int (xs.getLast h)) := by
  have hl : 0 < xs.length := List.length_pos_iff.mpr h
  refine atI_mk (k := xs.length - 1) ?_ ?_
  · unfold ixN
    rw [if_neg (by omega), rD_len, if_pos (by omega)]
    congr 1; omega
  · unfold rD
    rw [List.getElem?_map, ← List.getLast?_eq_getElem?, List.getLast?_eq_some_getLast h]; rfl
theorem canLayAll_rD : ∀ xs : List Int, PyData.canLayAll0 (rD xs) = true
  | [] => rfl
  | _ :: xs => by show (true && PyData.canLayAll0 (rD xs)) = true; rw [canLayAll_rD xs]; rfl
theorem depthAll_rD : ∀ xs : List Int, PyData.depthAll (rD xs) = 0
  | [] => rfl
  | _ :: xs => by show max 0 (PyData.depthAll (rD xs)) = 0; rw [depthAll_rD xs]; rfl
theorem shaped_l (xs : List Int) : SeqAt.shaped (.list (rD xs)) = true := by
  show (PyData.canLayAll0 (rD xs) && decide (PyData.depthAll (rD xs) + 1 ≤ 64)) = true
  rw [canLayAll_rD, depthAll_rD]; rfl
theorem shaped_t (xs : List Int) : SeqAt.shaped (.tuple (rD xs)) = true := shaped_l xs
theorem eqvAll_rD : ∀ xs ys : List Int, PyData.eqvAll (rD xs) (rD ys) = decide (xs = ys)
  | [], [] => rfl
  | [], _ :: _ => rfl
  | _ :: _, [] => rfl
  | x :: xs, y :: ys => by
    show ((x == y) && PyData.eqvAll (rD xs) (rD ys)) = _
    rw [eqvAll_rD xs ys]
    by_cases h1 : x = y <;> by_cases h2 : xs = ys <;> simp [h1, h2]
theorem eqv_l (xs ys : List Int) : PyData.eqv (.list (rD xs)) (.list (rD ys)) = decide (xs = ys) := eqvAll_rD xs ys
theorem cut_rD (xs : List Int) (a b : Nat) : cutD (rD xs) (some (a : Int)) (some (b : Int)) = rD ((xs.drop a).take (b - a)) := by
  unfold cutD
  rw [HT.sIx_nat, HT.sIx_nat, rD_len]
  unfold rD
  rw [← List.map_drop, ← List.map_take]
  congr 1
  apply List.ext_getElem?
  intro i
  rw [List.getElem?_take, List.getElem?_take, List.getElem?_drop, List.getElem?_drop]
  by_cases h : a ≤ xs.length
  · rw [Nat.min_eq_left h]
    by_cases h2 : b ≤ xs.length
    · rw [Nat.min_eq_left h2]
    · rw [Nat.min_eq_right (by omega)]
      by_cases h3 : a + i < xs.length
      · split <;> split <;> first | rfl | (exfalso; omega)
      · rw [List.getElem?_eq_none_iff.mpr (by omega)]
        split <;> split <;> rfl
  · rw [Nat.min_eq_right (show xs.length ≤ a by omega)]
    rw [List.getElem?_eq_none_iff.mpr (show xs.length ≤ xs.length + i by omega), List.getElem?_eq_none_iff.mpr (show xs.length ≤ a + i by omega)]
    split <;> split <;> rfl
theorem cut_rD_lo (xs : List Int) (a : Nat) : cutD (rD xs) (some (a : Int)) none = rD (xs.drop a) := by
  unfold cutD
  rw [HT.sIx_nat, HT.sIx_none, rD_len]
  unfold rD
  rw [← List.map_drop, ← List.map_take]
  congr 1
  by_cases h : a ≤ xs.length
  · rw [Nat.min_eq_left h, ← List.length_drop, List.take_length]
  · rw [Nat.min_eq_right (by omega), List.drop_eq_nil_of_le (Nat.le_refl _), List.drop_eq_nil_of_le (by omega), List.take_nil]
theorem cut_rD_hi (xs : List Int) (b : Nat) : cutD (rD xs) none (some (b : Int)) = rD (xs.take b) := by
  unfold cutD
  rw [HT.sIx_nat, HT.sIx_none, rD_len]
  unfold rD
  rw [List.drop_zero, ← List.map_take, Nat.sub_zero]
  congr 1
  by_cases h : b ≤ xs.length
  · rw [Nat.min_eq_left h]
  · rw [Nat.min_eq_right (by omega), List.take_length, List.take_of_length_le (by omega)]
theorem cut_rD_m1 (xs : List Int) : cutD (rD xs) none (some (-1)) = rD xs.dropLast := by
  unfold cutD
  have e : HT.sIx xs.length xs.length (some (-1)) = ((-1) + (xs.length : Int)).toNat := rfl
  rw [HT.sIx_none, rD_len, e, List.drop_zero, Nat.sub_zero, List.dropLast_eq_take]
  unfold rD
  rw [← List.map_take]
  congr 2; omega
theorem cut_I (xs : List Int) {a b : Int} (ha : 0 ≤ a) (hb : 0 ≤ b) : cutD (rD xs) (some a) (some b) = rD ((xs.drop a.toNat).take (b.toNat - a.toNat)) := by
  have := cut_rD xs a.toNat b.toNat
  rwa [Int.toNat_of_nonneg ha, Int.toNat_of_nonneg hb] at this
theorem cut_lo (xs : List Int) {a : Int} (ha : 0 ≤ a) : cutD (rD xs) (some a) none = rD (xs.drop a.toNat) := by
  have := cut_rD_lo xs a.toNat
  rwa [Int.toNat_of_nonneg ha] at this
theorem cut_hi (xs : List Int) {b : Int} (hb : 0 ≤ b) : cutD (rD xs) none (some b) = rD (xs.take b.toNat) := by
  have := cut_rD_hi xs b.toNat
  rwa [Int.toNat_of_nonneg hb] at this
theorem ed_lenR {K : PySem.W.Frag} {ρ : Rho} {ta : TE} {d : PyData} {xs : List Int} (ha : ED K ta ρ d) (s : SeqD d (rD xs)) : ED K (tLen K ta) ρ (.int xs.length) := (ed_len ha s).cast (by rw [rD_len])
theorem ed_lenRO {K : PySem.W.Frag} {ρ : Rho} {k : Nat} {xs : List Int} (h : ρ[k]? = some (some (.own (rD xs)))) : ED K (tLen K (tVar k)) ρ (.int xs.length) := (ed_lenO h).cast (by rw [rD_len])
theorem map_range {α : Type} {f : Nat → α} {xs : List Int} {g : Int → α} (h : ∀ i a, xs[i]? = some a → f i = g a) : (List.range xs.length).map f = xs.map g := by
  apply List.ext_getElem?
  intro i
  rw [List.getElem?_map, List.getElem?_map]
  by_cases hi : i < xs.length
  · rw [List.getElem?_range hi, List.getElem?_eq_getElem hi]
    show some (f i) = some (g _)
    rw [h i _ (List.getElem?_eq_getElem hi)]
  · rw [List.getElem?_eq_none_iff.mpr (by rw [List.length_range]; omega), List.getElem?_eq_none_iff.mpr (by omega)]; rfl
/-- the sign of a number -/
def sgn (a : Int) : Int := if a < 0 then -1 else if 0 < a then 1 else 0
/-- the row's value at t by b, times b to the power of one less than its length; and b to the power of its length -/
def hor (t b : Int) : List Int → Int × Int
  | [] => (0, 1)
  | x :: xs => ((hor t b xs).1 * t + x * (hor t b xs).2, (hor t b xs).2 * b)
theorem hor_lt {n m : Nat} {t b : Int} (ht : Lt2 m t) (hb : Lt2 m b) (hm : 1 ≤ m) : ∀ {xs : List Int}, (∀ x ∈ xs, Lt2 n x) → Lt2 (n + xs.length * (m + 1)) (hor t b xs).1 ∧ Lt2 (xs.length * m + 1) (hor t b xs).2
  | [], _ => ⟨Lt2.zero, Lt2.of_lt (by show 1 < 2 ^ (0 * m + 1); rw [Nat.zero_mul]; decide)⟩
  | x :: xs, h => by
    obtain ⟨h1, h2⟩ := hor_lt ht hb hm (xs := xs) fun y hy => h y (List.mem_cons_of_mem _ hy)
    have hx := h x List.mem_cons_self
    have e1 : (xs.length + 1) * (m + 1) = xs.length * (m + 1) + (m + 1) := Nat.succ_mul _ _
    have e2 : (xs.length + 1) * m = xs.length * m + m := Nat.succ_mul _ _
    have e3 : xs.length * (m + 1) = xs.length * m + xs.length := Nat.mul_succ _ _
    refine ⟨?_, ?_⟩
    · have a1 : Lt2 (n + xs.length * (m + 1) + m) ((hor t b xs).1 * t) := h1.mul ht
      have a2 : Lt2 (n + xs.length * (m + 1) + m) (x * (hor t b xs).2) := (hx.mul h2).mono (by omega)
      show Lt2 (n + (xs.length + 1) * (m + 1)) _
      exact (a1.add a2).mono (by omega)
    · show Lt2 ((xs.length + 1) * m + 1) _
      exact (h2.mul hb).mono (by omega)
end Rt

namespace Rt
open PySem PySem.Spec PyProof.Rows L2 Evl
/-! the steps that need no thought; «walk_at "ev"» goes on till it is stuck -/
local macro_rules | `(tactic| walk_at "rt1") => `(tactic| first
  | ((with_reducible show _ = true → ED _ _ _ _); intro _) | ((with_reducible show _ = false → ED _ _ _ _); intro _) | ((with_reducible show _ = true → TD _ _ _ _); intro _) | ((with_reducible show _ = false → TD _ _ _ _); intro _)
  | with_reducible exact ed_int | with_reducible exact ed_bl | with_reducible exact ed_non | with_reducible exact ad_nil | with_reducible exact od_none | with_reducible exact td_yes
  | ((with_reducible apply ed_var); exact rfl)
  | (with_reducible apply ad_cons)
  | (with_reducible apply td_test) | (with_reducible apply td_truth) | (with_reducible apply td_not) | (with_reducible apply td_and) | (with_reducible apply td_or)
  | (with_reducible apply ed_add) | (with_reducible apply ed_sub) | (with_reducible apply ed_mul) | (with_reducible apply ed_mod) | (with_reducible apply ed_fdivP) | (with_reducible apply ed_pow) | (with_reducible apply ed_neg)
  | (with_reducible apply ed_lt) | (with_reducible apply ed_le) | (with_reducible apply ed_gt) | (with_reducible apply ed_ge)
  | (with_reducible apply ed_eqD) | (with_reducible apply ed_neD)
  | (with_reducible apply ed_ix) | (with_reducible apply ed_len) | (with_reducible apply ed_abs) | (with_reducible apply ed_gcd) | (with_reducible apply ed_isi)
  | (with_reducible apply ed_tup) | (with_reducible apply ed_tuple) | (with_reducible apply ed_andV) | (with_reducible apply ed_orV) | (with_reducible apply ed_notV)
  | (with_reducible apply od_some)
  | (with_reducible apply ef_lst) | (with_reducible apply ef_list) | (with_reducible apply ef_sl) | (with_reducible apply ef_cat)
  | (with_reducible apply EF.ed; with_reducible apply ef_lst) | (with_reducible apply EF.ed; with_reducible apply ef_list) | (with_reducible apply EF.ed; with_reducible apply ef_sl) | (with_reducible apply EF.ed; with_reducible apply ef_cat)
  | (with_reducible apply ed_call)
  | ((with_reducible show SeqD _ _); first | exact SeqD.l _ | exact SeqD.t _ | assumption)
  | ((with_reducible show Truth _ _); first | exact Truth.bool _ | exact Truth.int _ | exact Truth.l _ | exact Truth.t _)
  | ((with_reducible show SeqAt.shaped _ = true); exact rfl)
  | ((with_reducible show atI _ _ = some _); first | exact rfl | assumption)
  | ((with_reducible show kitB _ _ = some _); first | exact rfl | decide +kernel)
  | ((with_reducible show List.length _ = _); rfl)
  | ((with_reducible show List.length _ ≤ 100000); first | exact Nat.le_of_ble_eq_true rfl | (simp; done) | (simp; omega)))
local macro_rules | `(tactic| walk_at "ev") => `(tactic| repeat' walk_at "rt1")
/-! ### the promises -/
def F__law_whole (ds : List PyData) (r : Res) : Prop := ∃ a : Int, ds = [.int a] ∧ r = .rt (.bool true)
def F__law_cell_at (ds : List PyData) (r : Res) : Prop := ∃ (ns : List Int) (k : Int), ds = [.list (rD ns), .int k] ∧ 0 ≤ k ∧ r = .rt (.int (ns.getD k.toNat 0))
def F__law_divisor (ds : List PyData) (r : Res) : Prop := ∃ a b : Int, ds = [.int a, .int b] ∧ r = .rt (.int (Int.gcd a b))
def F__law_part (ds : List PyData) (r : Res) : Prop := ∃ a b : Int, ds = [.int a, .int b] ∧ b ≠ 0 ∧ Lt2 8000 b ∧ r = .rt (pD (partV a b))
def F_sign (ds : List PyData) (r : Res) : Prop := ∃ a : Int, ds = [.int a] ∧ r = .rt (.int (sgn a))
def F_sign_at (ds : List PyData) (r : Res) : Prop := ∃ (d : PyData) (xs : List Int) (t b : Int) (n m : Nat), ds = [d, pD (t, b)] ∧ SeqD d (rD xs) ∧ (∀ x ∈ xs, Lt2 n x) ∧ Lt2 m t ∧ Lt2 m b ∧ 1 ≤ m ∧ n + (xs.length + 2) * (m + 1) ≤ 100000000 ∧ r = .rt (.int (sgn (hor t b xs).1))
abbrev sp__law_whole (K : PySem.W.Frag) : Sp := spD K 1 F__law_whole
abbrev sp__law_cell_at (K : PySem.W.Frag) : Sp := spD K 2 F__law_cell_at
abbrev sp__law_divisor (K : PySem.W.Frag) : Sp := spD K 2 F__law_divisor
abbrev sp__law_part (K : PySem.W.Frag) : Sp := spD K 2 F__law_part
abbrev sp_sign (K : PySem.W.Frag) : Sp := spD K 1 F_sign
abbrev sp_sign_at (K : PySem.W.Frag) : Sp := spD K 2 F_sign_at
def t__law_whole (K : PySem.W.Frag) : TS := (tRet (tAndV (tCB (rIsi K) (tCons (tVar 0) (tCons (tC (.ty "int")) tNil))) (tNotV (tCB (rIsi K) (tCons (tVar 0) (tCons (tC (.ty "bool")) tNil))))))
abbrev N__law_whole : List Str := ["_law_found"]
def t__law_cell_at (K : PySem.W.Frag) : TS := (tSeq (tIfS (tTest (tOp (rI0 fun i j => .bl (decide (i < j))) (tVar 1) (tLen K (tVar 0)))) (tRet (tOp (rIx K) (tVar 0) (tVar 1))) tNext)
  (tRet (tC (.int 0))))
abbrev N__law_cell_at : List Str := ["_law_script", "_law_k"]
def t__law_divisor (K : PySem.W.Frag) : TS := (tSeq (tWhile (tTest (tOp (rNeD K) (tVar 1) (tC (.int 0)))) (tSeq (tAsg (tOp (rI (fun _ j => j ≠ 0) fun i j => .int (i.fmod j)) (tVar 0) (tVar 1)) (gName 2))
  (tSeq (tAsg (tVar 1) (gName 0))
  (tAsg (tVar 2) (gName 1)))))
  (tRet (tCB rAbs (tCons (tVar 0) tNil))))
abbrev N__law_divisor : List Str := ["_law_one", "_law_other", "_law_over"]
def t__law_part (K : PySem.W.Frag) : TS := (tSeq (tAsg (tCall (sp__law_divisor K) [] E0 (tCons (tVar 0) (tCons (tVar 1) tNil))) (gName 2))
  (tSeq (tIfS (tTest (tOp (rI0 fun i j => .bl (decide (i < j))) (tVar 1) (tC (.int 0)))) (tAsg (tOp (rI0 fun i j => .int (i - j)) (tC (.int 0)) (tVar 2)) (gName 2)) tNext)
  (tRet (tTup (tCons (tOp (rI CDivQ fun i j => .int (i.fdiv j)) (tVar 0) (tVar 2)) (tCons (tOp (rI CDivQ fun i j => .int (i.fdiv j)) (tVar 1) (tVar 2)) tNil))))))
abbrev N__law_part : List Str := ["_law_top", "_law_bottom", "_law_by"]
def t_sign (K : PySem.W.Frag) : TS := (tSeq (tIfS (tTest (tOp (rI0 fun i j => .bl (decide (i < j))) (tVar 0) (tC (.int 0)))) (tRet (tUn (rU fun i => .int (-i)) (tC (.int 1)))) tNext)
  (tSeq (tIfS (tTest (tOp (rI0 fun i j => .bl (decide (j < i))) (tVar 0) (tC (.int 0)))) (tRet (tC (.int 1))) tNext)
  (tRet (tC (.int 0)))))
abbrev N_sign : List Str := ["number"]
def t_sign_at (K : PySem.W.Frag) : TS := (tSeq (tAsg (tVar 1) (gTup K 2 (gCons (gName 2) (gCons (gName 3) gNil))))
  (tSeq (tAsg (tC (.int 0)) (gName 4))
  (tSeq (tAsg (tC (.int 1)) (gName 5))
  (tSeq (tFor (RT.iRevA K (tVar 0)) (gName 6) (tSeq (tAsg (tOp (rI0 fun i j => .int (i + j)) (tOp (rI CMulX fun i j => .int (i * j)) (tVar 4) (tVar 2)) (tOp (rI CMulX fun i j => .int (i * j)) (tVar 6) (tVar 5))) (gName 4))
  (tAsg (tOp (rI CMulX fun i j => .int (i * j)) (tVar 5) (tVar 3)) (gName 5))))
  (tRet (tCall (sp_sign K) [] E0 (tCons (tVar 4) tNil)))))))
abbrev N_sign_at : List Str := ["row", "at", "top", "bottom", "value", "scale", "number"]
section
variable {K : PySem.W.Frag}
theorem pure__law_whole (ds : List PyData) (r : Res) (h : F__law_whole ds r) (B0 B : Hp) : SD K B0 B (t__law_whole K) (startR N__law_whole ds) (fin r) := by
  obtain ⟨a, rfl, rfl⟩ := h
  unfold t__law_whole
  apply sd_ret; (case h => walk_at "ev" )
  rfl
theorem pure__law_cell_at (ds : List PyData) (r : Res) (h : F__law_cell_at ds r) (B0 B : Hp) : SD K B0 B (t__law_cell_at K) (startR N__law_cell_at ds) (fin r) := by
  obtain ⟨ns, k, rfl, h0, rfl⟩ := h
  unfold t__law_cell_at
  apply sd_seq; apply sd_if; (case h => walk_at "ev" ); all_goals intro hb
  · have hb : k < ns.length := by simpa [rD_len] using hb
    apply sd_ret; (case h => walk_at "ev" <;> (first | (exact cellI_at h0 hb) | walk_at "rt1"))
    rfl
  · have hb : ¬ k < ns.length := by simpa [rD_len] using hb
    rw [cellI_out h0 hb]
    refine sd_next ?_
    apply sd_ret; (case h => walk_at "ev" )
    rfl
theorem pure__law_divisor (ds : List PyData) (r : Res) (h : F__law_divisor ds r) (B0 B : Hp) : SD K B0 B (t__law_divisor K) (startR N__law_divisor ds) (fin r) := by
  obtain ⟨a, b, rfl, rfl⟩ := h
  unfold t__law_divisor
  refine sd_seq (sd_while (fun m ρ => ∃ x y : Int, ∃ z, ρ = [some (.d (.int x)), some (.d (.int y)), z] ∧ Int.gcd x y = Int.gcd a b ∧ m = y.natAbs) b.natAbs ⟨a, b, none, rfl, rfl, rfl⟩ ?_)
  rintro m ρ ⟨x, y, z, rfl, hg, rfl⟩
  refine ⟨_, (by walk_at "ev"), fun hb => ?_, fun hb => ?_⟩
  · have hb : y ≠ 0 := by simpa [eqv_int] using hb
    apply sd_seq; apply sd_set; (case h => walk_at "ev" <;> (first | (exact hb) | walk_at "rt1"))
    apply sd_seq; apply sd_set; (case h => walk_at "ev" )
    apply sd_set; (case h => walk_at "ev" )
    exact ⟨_, natAbs_fmod_lt x hb, y, x.fmod y, _, rfl, by rw [gcd_fmod, hg], rfl⟩
  · have hb : y = 0 := by simpa [eqv_int] using hb
    subst hb
    show SD K B0 B _ _ _
    apply sd_ret; (case h => walk_at "ev" )
    show PyData.int _ = PyData.int _
    have e : ((Int.gcd a b : Nat) : Int) = (x.natAbs : Int) := by rw [← hg, Int.gcd_zero_right]
    rw [e]
    congr 1
    split <;> omega
theorem pure__law_part (ds : List PyData) (r : Res) (h : F__law_part ds r) (B0 B : Hp) : SD K B0 B (t__law_part K) (startR N__law_part ds) (fin r) := by
  obtain ⟨a, b, rfl, hb, hz, rfl⟩ := h
  have s0 := partS_ne (a := a) (b := b) hb
  have sz : Lt2 8000 (partS a b) := hz.of_le (partS_le hb)
  unfold t__law_part
  apply sd_seq; apply sd_set; (case h => walk_at "ev" <;> (first | (exact ⟨a, b, rfl, rfl⟩) | walk_at "rt1"))
  apply sd_seq; apply sd_if; (case h => walk_at "ev" ); all_goals intro hb
  · have hc : b < 0 := of_decide_eq_true hb
    have es : partS a b = 0 - (Int.gcd a b : Int) := by unfold partS; rw [if_pos hc]; omega
    apply sd_set; (case h => walk_at "ev" )
    rw [← es]
    apply sd_ret; (case h => walk_at "ev" <;> (first | (exact sz.cd s0 (by decide)) | walk_at "rt1"))
    rfl
  · have hc : ¬ b < 0 := of_decide_eq_false hb
    have es : partS a b = (Int.gcd a b : Int) := by unfold partS; rw [if_neg hc]
    rw [← es]
    refine sd_next ?_
    apply sd_ret; (case h => walk_at "ev" <;> (first | (exact sz.cd s0 (by decide)) | walk_at "rt1"))
    rfl
theorem pure_sign (ds : List PyData) (r : Res) (h : F_sign ds r) (B0 B : Hp) : SD K B0 B (t_sign K) (startR N_sign ds) (fin r) := by
  obtain ⟨a, rfl, rfl⟩ := h
  unfold t_sign sgn
  apply sd_seq; apply sd_if; (case h => walk_at "ev" ); all_goals intro hb
  · have hb : a < 0 := of_decide_eq_true hb
    rw [if_pos hb]
    apply sd_ret; (case h => walk_at "ev" )
    rfl
  · have h1 : ¬ a < 0 := of_decide_eq_false hb
    rw [if_neg h1]
    refine sd_next ?_
    apply sd_seq; apply sd_if; (case h => walk_at "ev" ); all_goals intro hb
    · have hb : 0 < a := of_decide_eq_true hb
      rw [if_pos hb]
      apply sd_ret; (case h => walk_at "ev" )
      rfl
    · have hb : ¬ 0 < a := of_decide_eq_false hb
      rw [if_neg hb]
      refine sd_next ?_
      apply sd_ret; (case h => walk_at "ev" )
      rfl
theorem rev_drop {xs : List Int} {i : Nat} {a : Int} (h : xs.reverse[i]? = some a) : xs.drop (xs.length - (i + 1)) = a :: xs.drop (xs.length - i) := by
  have hi : i < xs.length := by have := (List.getElem?_eq_some_iff.mp h).1; rwa [List.length_reverse] at this
  rw [List.getElem?_reverse hi] at h
  have e : xs.length - (i + 1) = xs.length - 1 - i := by omega
  obtain ⟨hl, ha⟩ := List.getElem?_eq_some_iff.mp h
  rw [e, List.drop_eq_getElem_cons hl, ha]
  congr 2; omega
theorem pure_sign_at (ds : List PyData) (r : Res) (h : F_sign_at ds r) (B0 B : Hp) : SD K B0 B (t_sign_at K) (startR N_sign_at ds) (fin r) := by
  obtain ⟨d, xs, t, b, n, m, rfl, hs, hx, ht, hb, hm, hz, rfl⟩ := h
  unfold t_sign_at
  refine sd_seq (sd_asg (ed_var rfl) (gd_pair (d := .int t) (e := .int b)) ?_)
  apply sd_seq; apply sd_set; (case h => walk_at "ev" )
  apply sd_seq; apply sd_set; (case h => walk_at "ev" )
  refine sd_seq (sd_for (id_revA (ed_var rfl) hs) (fun i ρ => ∃ z, ρ = [some (.d d), some (.d (pD (t, b))), some (.d (.int t)), some (.d (.int b)), some (.d (.int (hor t b (xs.drop (xs.length - i))).1)), some (.d (.int (hor t b (xs.drop (xs.length - i))).2)), z]) ⟨none, ?_⟩ ?_ ?_)
  · rw [Nat.sub_zero, List.drop_length]; rfl
  · rintro i x ρ' hi ⟨z, rfl⟩
    have hi' : (rD xs.reverse)[i]? = some x := by unfold rD; rw [List.map_reverse]; exact hi
    obtain ⟨a, ha, rfl⟩ := rD_get hi'
    have hlt : i < xs.length := by have := (List.getElem?_eq_some_iff.mp ha).1; rwa [List.length_reverse] at this
    refine ⟨_, gd_name, ?_⟩
    have e := rev_drop ha
    have hmem : a ∈ xs := List.mem_reverse.mp (List.mem_of_getElem? ha)
    obtain ⟨b1, b2⟩ := hor_lt (n := n) ht hb hm (xs := xs.drop (xs.length - i)) fun y hy => hx y (List.mem_of_mem_drop hy)
    have hll : (xs.drop (xs.length - i)).length = i := by rw [List.length_drop]; omega
    rw [hll] at b1 b2
    have e1 : i * (m + 1) ≤ xs.length * (m + 1) := Nat.mul_le_mul_right _ (by omega)
    have e2 : i * (m + 1) = i * m + i := Nat.mul_succ _ _
    have e3 : (xs.length + 2) * (m + 1) = xs.length * (m + 1) + 2 * (m + 1) := Nat.add_mul _ _ _
    have ek : hor t b (xs.drop (xs.length - (i + 1))) = ((hor t b (xs.drop (xs.length - i))).1 * t + a * (hor t b (xs.drop (xs.length - i))).2, (hor t b (xs.drop (xs.length - i))).2 * b) := by rw [e]; rfl
    apply sd_seq; apply sd_set; (case h => walk_at "ev" <;> (first | (first | exact b1.cm ht (by omega) | exact (hx a hmem).cm b2 (by omega)) | walk_at "rt1"))
    apply sd_set; (case h => walk_at "ev" <;> (first | (exact b2.cm hb (by omega)) | walk_at "rt1"))
    exact ⟨_, by rw [ek]; rfl⟩
  · rintro ρ' ⟨z, rfl⟩
    show SD K B0 B _ _ _
    rw [List.length_reverse, rD_len, Nat.sub_self, List.drop_zero]
    apply sd_ret; (case h => walk_at "ev" <;> (first | (exact ⟨_, rfl, rfl⟩) | walk_at "rt1"))
    rfl
end
end Rt

namespace Rt
open PySem PySem.Spec PyProof.Rows L2 Evl
/-- what a division of very large numbers asks of the program and of the ground -/
structure Seer (P : Program) (base : Heap) : Prop where
  st : ∃ mc, base.Ns cStatics mc ∧ mc "sys.audit-hooks" = none ∧ mc "sys.dict" = none
  mods : ∃ mm, base.Ns sysModules mm ∧ mm "_pylong" = none
  main : ∃ mg bm ob, base.Ns mainGlobals mg ∧ mg "__builtins__" = some (.ref bm) ∧ base.get? bm = some ob ∧ ob.cls = .type "module" ∧ ob.dict = some builtinsNs
  tr : P.given.tree = none
/-- the frame that runs is a plain def's -/
def Plain (X : Cx) : Prop := ∃ (env : PySem.Env) (l : List PySem.Env), X.stack = env :: l ∧ env.scope.isGenerator = false ∧ env.scope.isCoroutine = false ∧ env.builtins = builtinsNs ∧ env.globals = mainGlobals
theorem op_fdivS {X : Cx} (S : Seer X.prog X.base) (hp : Plain X) (hr : Room 40 X.A) : OpR X (binaryOp .FloorDiv) (rI (fun _ j => j ≠ 0) fun i j => .int (i.fdiv j)) := by
  intro pins s σ H x y v u Q I rx ry h
  obtain ⟨i, j, rfl, rfl, hc, q⟩ := h
  obtain ⟨t, rfl⟩ := rx
  obtain ⟨t2, rfl⟩ := ry
  obtain ⟨env, l, h1, h2, h3, h4, h5⟩ := hp
  have hN : s.heap.NoSeer := Heap.NoSeer.keeps ⟨S.st, S.mods, I.ok.mod.blt, S.main⟩ I.bk
  have hA : SeerAt (model X.prog X.w) X.A s.heap := SeerAt.of (env := env) (l := l) hN S.tr (by rw [I.ok.frames, h1]) h2 h3 h4 h5
  have hd := hr.dp
  exact PyProof.Rows.floordiv_int hc ⟨.int _, H, I.tok _, ⟨_, rfl⟩, q⟩ (.inr (PylongRoom.of I.nolimit (by show X.A.depth + 100 < 1000; have : recursionLimit = 1000 := rfl; omega) hA))
/-- from the written part -/
theorem seer_of {P : Program} {K : PySem.W.Frag} {mg : Str → Option Value} {base : Heap} {bm : Addr} {obd : Data} {obs : Array (Option Value)} (ht : P.given.tree = none) (X : K.In base) (G : base.Ns mainGlobals mg)
    (k1 : PySem.W.nsOkIn K cStatics = true) (q1 : PySem.W.nsIn K cStatics "sys.audit-hooks" = some none) (q2 : PySem.W.nsIn K cStatics "sys.dict" = some none)
    (k3 : PySem.W.nsOkIn K sysModules = true) (q3 : PySem.W.nsIn K sysModules "_pylong" = some none)
    (q4 : PySem.W.nsIn K mainGlobals "__builtins__" = some (some (.ref bm))) (q5 : K.lookup bm = some ⟨.type "module", some builtinsNs, obd, obs⟩) : Seer P base := by
  have n1 := Heap.Ns.of_isNs (PySem.W.isNs_of_in X k1)
  have n3 := Heap.Ns.of_isNs (PySem.W.isNs_of_in X k3)
  exact ⟨⟨_, n1, PySem.W.ns_none_of X n1 q1, PySem.W.ns_none_of X n1 q2⟩, ⟨_, n3, PySem.W.ns_none_of X n3 q3⟩, ⟨mg, bm, _, G, PySem.W.mg_of X G q4, X _ _ q5, rfl, rfl⟩, ht⟩
end Rt

/-! polynomials as rows, lowest first; what is told of them is told of their values at whole numbers -/
namespace Rt
def ev : List Int → Int → Int
  | [], _ => 0
  | a :: p, x => a + x * ev p x
def addL : List Int → List Int → List Int
  | [], q => q
  | p, [] => p
  | a :: p, b :: q => (a + b) :: addL p q
def smul (k : Int) (p : List Int) : List Int := p.map fun a => k * a
def mulL : List Int → List Int → List Int
  | [], _ => []
  | a :: p, q => addL (smul a q) (0 :: mulL p q)
theorem ev_addL : ∀ (p q : List Int) (x : Int), ev (addL p q) x = ev p x + ev q x
  | [], q, x => by simp [addL, ev]
  | a :: p, [], x => by simp [addL, ev]
  | a :: p, b :: q, x => by
    show (a + b) + x * ev (addL p q) x = _
    rw [ev_addL p q x]; simp only [ev]; grind
theorem ev_smul (k : Int) : ∀ (p : List Int) (x : Int), ev (smul k p) x = k * ev p x
  | [], x => by simp [smul, ev]
  | a :: p, x => by
    show k * a + x * ev (smul k p) x = _
    rw [ev_smul k p x]; simp only [ev]; grind
theorem ev_mulL : ∀ (p q : List Int) (x : Int), ev (mulL p q) x = ev p x * ev q x
  | [], q, x => by simp [mulL, ev]
  | a :: p, q, x => by
    show ev (addL (smul a q) (0 :: mulL p q)) x = _
    rw [ev_addL, ev_smul]; simp only [ev]; rw [ev_mulL p q x]; grind
theorem addL_len : ∀ p q : List Int, (addL p q).length = max p.length q.length
  | [], q => by simp [addL]
  | a :: p, [] => by simp [addL]
  | a :: p, b :: q => by
    show (addL p q).length + 1 = max (p.length + 1) (q.length + 1)
    rw [addL_len p q]; omega
theorem mulL_len : ∀ {p q : List Int}, p ≠ [] → q ≠ [] → (mulL p q).length + 1 = p.length + q.length
  | [], _, h, _ => absurd rfl h
  | [a], q, _, hq => by
    show (addL (smul a q) (0 :: [])).length + 1 = 1 + q.length
    have := List.length_pos_iff.mpr hq
    rw [addL_len]; simp only [smul, List.length_map, List.length_cons, List.length_nil]; omega
  | a :: b :: p, q, _, hq => by
    show (addL (smul a q) (0 :: mulL (b :: p) q)).length + 1 = p.length + 1 + 1 + q.length
    have ih := mulL_len (p := b :: p) (q := q) (by simp) hq
    rw [addL_len]; simp only [smul, List.length_map, List.length_cons] at *; omega
/-- the last number -/
def lastZ (p : List Int) : Int := p.getLast?.getD 0
theorem lastZ_cons (a b : Int) (p : List Int) : lastZ (a :: b :: p) = lastZ (b :: p) := by simp [lastZ]
theorem lastZ_one (a : Int) : lastZ [a] = a := rfl
theorem lastZ_ne {p : List Int} (h : lastZ p ≠ 0) : p ≠ [] := by rintro rfl; exact h rfl
theorem lastZ_smul (k : Int) : ∀ p : List Int, lastZ (smul k p) = k * lastZ p
  | [] => by simp [smul, lastZ]
  | [a] => rfl
  | a :: b :: p => by
    show lastZ (k * a :: k * b :: smul k p) = k * lastZ (a :: b :: p)
    rw [lastZ_cons, lastZ_cons]; exact lastZ_smul k (b :: p)
theorem lastZ_addL_lt : ∀ {p q : List Int}, p.length < q.length → lastZ (addL p q) = lastZ q
  | [], q, _ => by simp [addL]
  | [a], [b], h => by simp at h
  | [a], b :: c :: q, _ => by simp [addL, lastZ]
  | a :: a' :: p, [b], h => by simp at h
  | a :: a' :: p, b :: b' :: q, h => by
    show lastZ ((a + b) :: (a' + b') :: addL p q) = _
    rw [lastZ_cons, lastZ_cons]
    exact lastZ_addL_lt (p := a' :: p) (q := b' :: q) (by simpa using h)
theorem lastZ_mulL : ∀ {p q : List Int}, p ≠ [] → q ≠ [] → lastZ (mulL p q) = lastZ p * lastZ q
  | [], _, h, _ => absurd rfl h
  | [a], q, _, hq => by
    show lastZ (addL (smul a q) [0]) = a * lastZ q
    cases q with
    | nil => exact absurd rfl hq
    | cons b q =>
      cases q with
      | nil => show lastZ [a * b + 0] = a * b; simp [lastZ]
      | cons c q =>
        show lastZ ((a * b + 0) :: addL (smul a (c :: q)) []) = _
        have : addL (smul a (c :: q)) [] = smul a (c :: q) := rfl
        rw [this, show smul a (c :: q) = a * c :: smul a q from rfl, lastZ_cons, lastZ_cons]
        exact lastZ_smul a (c :: q)
  | a :: b :: p, q, _, hq => by
    show lastZ (addL (smul a q) (0 :: mulL (b :: p) q)) = lastZ (a :: b :: p) * lastZ q
    have hl := mulL_len (p := b :: p) (q := q) (by simp) hq
    have hq0 := List.length_pos_iff.mpr hq
    have ih := lastZ_mulL (p := b :: p) (q := q) (by simp) hq
    rw [lastZ_addL_lt (by simp only [smul, List.length_map, List.length_cons] at *; omega), lastZ_cons a b p, ← ih]
    cases e : mulL (b :: p) q with
    | nil => rw [e] at hl; simp only [List.length_nil, List.length_cons] at hl; omega
    | cons c r => exact lastZ_cons 0 c r

/-! ### values far out -/
theorem far_ne : ∀ {p : List Int}, lastZ p ≠ 0 → ∃ N : Nat, ∀ n : Nat, N ≤ n → ev p n ≠ 0
  | [], h => absurd rfl h
  | [a], h => ⟨0, fun x _ => by
    have h' : a ≠ 0 := h
    simpa [ev] using h'⟩
  | a :: b :: p, h => by
    rw [lastZ_cons] at h
    obtain ⟨N, hN⟩ := far_ne h
    refine ⟨max N (a.natAbs + 1), fun n hn e => ?_⟩
    have hv := hN n (by omega)
    have e' : a + (n : Int) * ev (b :: p) n = 0 := e
    generalize ev (b :: p) n = v at *
    have e2 : ((n : Int) * v).natAbs = a.natAbs := by omega
    rw [Int.natAbs_mul, Int.natAbs_natCast] at e2
    have : n * 1 ≤ n * v.natAbs := Nat.mul_le_mul_left _ (by omega)
    omega
theorem far_gt : ∀ {p : List Int}, lastZ p ≠ 0 → 2 ≤ p.length → ∀ K : Nat, ∃ N : Nat, ∀ n : Nat, N ≤ n → K * n ^ (p.length - 2) < (ev p n).natAbs
  | [], h, _, _ => absurd rfl h
  | [a], _, h, _ => by simp at h
  | [a, b], h, _, K => by
    have hb : b ≠ 0 := h
    refine ⟨K + a.natAbs + 1, fun n hn => ?_⟩
    show K * n ^ 0 < (a + (n : Int) * (b + (n : Int) * 0)).natAbs
    have e2 : ((n : Int) * b).natAbs = n * b.natAbs := by rw [Int.natAbs_mul, Int.natAbs_natCast]
    have : n * 1 ≤ n * b.natAbs := Nat.mul_le_mul_left _ (by omega)
    rw [Int.mul_zero, Int.add_zero, Nat.pow_zero, Nat.mul_one]
    omega
  | a :: b :: c :: p, h, _, K => by
    rw [lastZ_cons] at h
    obtain ⟨N, hN⟩ := far_gt h (by simp) (K + 1)
    refine ⟨max N (a.natAbs + 1), fun n hn => ?_⟩
    have hv := hN n (by omega)
    show K * n ^ (p.length + 1) < (a + (n : Int) * ev (b :: c :: p) n).natAbs
    have hv' : (K + 1) * n ^ p.length < (ev (b :: c :: p) n).natAbs := hv
    generalize ev (b :: c :: p) n = v at *
    have e2 : ((n : Int) * v).natAbs = n * v.natAbs := by rw [Int.natAbs_mul, Int.natAbs_natCast]
    have h1 : n * ((K + 1) * n ^ p.length) ≤ n * v.natAbs := Nat.mul_le_mul_left _ (Nat.le_of_lt hv')
    have h2 : n * ((K + 1) * n ^ p.length) = K * n ^ (p.length + 1) + n ^ (p.length + 1) := by
      rw [Nat.pow_succ]; generalize n ^ p.length = q; grind
    rw [h2, ← e2] at h1
    generalize (n : Int) * v = m at *
    have h3 : n ^ 1 ≤ n ^ (p.length + 1) := Nat.pow_le_pow_right (by omega) (by omega)
    rw [Nat.pow_one] at h3
    omega
def absS : List Int → Nat
  | [] => 0
  | a :: p => a.natAbs + absS p
theorem ev_le : ∀ (p : List Int) {n : Nat}, 1 ≤ n → (ev p n).natAbs ≤ absS p * n ^ (p.length - 1)
  | [], n, _ => by simp [ev, absS]
  | [a], n, _ => by simp [ev, absS]
  | a :: b :: p, n, hn => by
    have ih := ev_le (b :: p) hn
    show (a + (n : Int) * ev (b :: p) n).natAbs ≤ (a.natAbs + absS (b :: p)) * n ^ (p.length + 1)
    have ih' : (ev (b :: p) n).natAbs ≤ absS (b :: p) * n ^ p.length := ih
    generalize ev (b :: p) n = v at *
    generalize absS (b :: p) = s at *
    have e2 : ((n : Int) * v).natAbs = n * v.natAbs := by rw [Int.natAbs_mul, Int.natAbs_natCast]
    have h1 : n * v.natAbs ≤ n * (s * n ^ p.length) := Nat.mul_le_mul_left _ ih'
    have h2 : n * (s * n ^ p.length) = s * n ^ (p.length + 1) := by rw [Nat.pow_succ]; generalize n ^ p.length = q; grind
    have h3 : 1 ≤ n ^ (p.length + 1) := Nat.pow_pos hn
    have h4 : a.natAbs * 1 ≤ a.natAbs * n ^ (p.length + 1) := Nat.mul_le_mul_left _ h3
    rw [Nat.add_mul]
    omega
theorem ev_tail (p : List Int) (x : Int) : ev p x = p.getD 0 0 + x * ev p.tail x := by
  cases p with
  | nil => simp [ev]
  | cons a p => rfl
theorem small_dvd {a : Int} {n : Nat} (h : a.natAbs < n) (k : Int) (e : a = n * k) : a = 0 := by
  have e2 : a.natAbs = n * k.natAbs := by rw [e, Int.natAbs_mul, Int.natAbs_natCast]
  by_cases z : k = 0
  · subst z; simpa using e
  · have : n * 1 ≤ n * k.natAbs := Nat.mul_le_mul_left _ (by omega)
    omega
/-- two rows of the same values far out are the same, but for noughts behind -/
theorem same_of : ∀ (i : Nat) {p q : List Int} {N : Nat}, (∀ n : Nat, N ≤ n → ev p n = ev q n) → p.getD i 0 = q.getD i 0
  | 0, p, q, N, h => by
    have e := h (max N ((p.getD 0 0 - q.getD 0 0).natAbs + 1)) (by omega)
    rw [ev_tail p, ev_tail q] at e
    generalize hn : max N ((p.getD 0 0 - q.getD 0 0).natAbs + 1) = n at *
    have := small_dvd (a := p.getD 0 0 - q.getD 0 0) (n := n) (by omega) (ev q.tail n - ev p.tail n) (by grind)
    omega
  | i + 1, p, q, N, h => by
    have h0 := same_of 0 h
    have hp : p.getD (i + 1) 0 = p.tail.getD i 0 := by cases p <;> simp
    have hq : q.getD (i + 1) 0 = q.tail.getD i 0 := by cases q <;> simp
    rw [hp, hq]
    refine same_of i (N := N + 1) fun n hn => ?_
    have e := h n (by omega)
    rw [ev_tail p, ev_tail q, h0] at e
    have e2 : (n : Int) * ev p.tail n = (n : Int) * ev q.tail n := by omega
    exact Int.eq_of_mul_eq_mul_left (by omega) e2
theorem lastZ_getD : ∀ {p : List Int}, p ≠ [] → p.getD (p.length - 1) 0 = lastZ p
  | [], h => absurd rfl h
  | [a], _ => rfl
  | a :: b :: p, _ => by
    rw [lastZ_cons, ← lastZ_getD (p := b :: p) (by simp)]; simp
theorem eq_of_same {p q : List Int} (hp : lastZ p ≠ 0) (hq : lastZ q ≠ 0) (h : ∀ i, p.getD i 0 = q.getD i 0) : p = q := by
  have np := lastZ_ne hp
  have nq := lastZ_ne hq
  have lp := List.length_pos_iff.mpr np
  have lq := List.length_pos_iff.mpr nq
  have e : p.length = q.length := by
    rcases Nat.lt_trichotomy p.length q.length with c | c | c
    · have := h (q.length - 1)
      rw [lastZ_getD nq, List.getD_eq_getElem?_getD, List.getElem?_eq_none_iff.mpr (by omega)] at this
      exact absurd this.symm hq
    · exact c
    · have := h (p.length - 1)
      rw [lastZ_getD np, List.getD_eq_getElem?_getD (l := q), List.getElem?_eq_none_iff.mpr (by omega)] at this
      exact absurd this hp
  apply List.ext_getElem e
  intro i h1 h2
  have := h i
  rwa [List.getD_eq_getElem?_getD, List.getD_eq_getElem?_getD, List.getElem?_eq_getElem h1, List.getElem?_eq_getElem h2] at this

/-! ### divisors of all numbers of a row -/
def cont : List Int → Nat
  | [] => 0
  | a :: p => Nat.gcd a.natAbs (cont p)
def DvL (d : Nat) (p : List Int) : Prop := ∀ i, (d : Int) ∣ p.getD i 0
theorem dvl_tail {d : Nat} {a : Int} {p : List Int} : DvL d (a :: p) ↔ (d : Int) ∣ a ∧ DvL d p := by
  constructor
  · intro h
    exact ⟨by simpa using h 0, fun i => by simpa using h (i + 1)⟩
  · rintro ⟨h1, h2⟩ i
    cases i with
    | zero => simpa using h1
    | succ i => simpa using h2 i
theorem dvl_nil {d : Nat} : DvL d [] := fun i => by simp
theorem dvl_cont : ∀ {d : Nat} {p : List Int}, DvL d p ↔ d ∣ cont p
  | d, [] => ⟨fun _ => Nat.dvd_zero d, fun _ => dvl_nil⟩
  | d, a :: p => by
    rw [dvl_tail, dvl_cont]
    show _ ↔ d ∣ Nat.gcd a.natAbs (cont p)
    rw [Nat.dvd_gcd_iff, Int.ofNat_dvd_left]
def Pr (p : Nat) : Prop := 2 ≤ p ∧ ∀ a b : Int, (p : Int) ∣ a * b → (p : Int) ∣ a ∨ (p : Int) ∣ b
theorem pr_of {n : Nat} (h2 : 2 ≤ n) (h : ∀ d, d ∣ n → d = 1 ∨ d = n) : Pr n := ⟨h2, fun a b hab => by
  rw [Int.ofNat_dvd_left, Int.natAbs_mul] at hab
  rw [Int.ofNat_dvd_left, Int.ofNat_dvd_left]
  rcases h _ (Nat.gcd_dvd_left n a.natAbs) with c | c
  · exact .inr (Nat.Coprime.dvd_of_dvd_mul_left c hab)
  · exact .inl (Nat.gcd_eq_left_iff_dvd.mp c)⟩
theorem has_pr : ∀ (n : Nat), 2 ≤ n → ∃ p, Pr p ∧ p ∣ n := fun n => by
  induction n using Nat.strongRecOn with
  | ind n ih =>
    intro h2
    by_cases h : ∃ d, d ∣ n ∧ d ≠ 1 ∧ d ≠ n
    · obtain ⟨d, h1, h3, h4⟩ := h
      have hd0 : d ≠ 0 := by rintro rfl; have := Nat.eq_zero_of_zero_dvd h1; omega
      have hl := Nat.le_of_dvd (by omega) h1
      obtain ⟨p, hp, hd⟩ := ih d (by omega) (by omega)
      exact ⟨p, hp, Nat.dvd_trans hd h1⟩
    · refine ⟨n, pr_of h2 fun d hd => ?_, Nat.dvd_refl n⟩
      by_cases h5 : d = 1
      · exact .inl h5
      · by_cases h6 : d = n
        · exact .inr h6
        · exact absurd ⟨d, hd, h5, h6⟩ h
theorem getD_addL : ∀ (p q : List Int) (i : Nat), (addL p q).getD i 0 = p.getD i 0 + q.getD i 0
  | [], q, i => by simp [addL]
  | a :: p, [], i => by simp [addL]
  | a :: p, b :: q, 0 => by simp [addL]
  | a :: p, b :: q, i + 1 => by
    have := getD_addL p q i
    simpa [addL] using this
theorem getD_smul (k : Int) (p : List Int) (i : Nat) : (smul k p).getD i 0 = k * p.getD i 0 := by
  unfold smul
  rw [List.getD_eq_getElem?_getD, List.getD_eq_getElem?_getD, List.getElem?_map]
  cases p[i]? <;> simp
theorem mul_cons (p : List Int) (b : Int) (q : List Int) (i : Nat) : (mulL p (b :: q)).getD i 0 = b * p.getD i 0 + (0 :: mulL p q).getD i 0 := by
  induction p generalizing i with
  | nil => cases i <;> simp [mulL]
  | cons a p ih =>
    show (addL (smul a (b :: q)) (0 :: mulL p (b :: q))).getD i 0 = b * (a :: p).getD i 0 + (0 :: addL (smul a q) (0 :: mulL p q)).getD i 0
    rw [getD_addL]
    cases i with
    | zero => simp [smul]; grind
    | succ i =>
      have := ih i
      simp only [List.getD_cons_succ] at *
      rw [this, getD_addL, show smul a (b :: q) = a * b :: smul a q from rfl, List.getD_cons_succ]
      omega
theorem gauss {p : Nat} (hp : Pr p) : ∀ (n : Nat) (f g : List Int), f.length + g.length ≤ n → DvL p (mulL f g) → DvL p f ∨ DvL p g
  | _, [], _, _, _ => .inl dvl_nil
  | _, _ :: _, [], _, _ => .inr dvl_nil
  | 0, a :: f, b :: g, h, _ => by simp at h
  | n + 1, a :: f, b :: g, h, hd => by
    have h0 : (p : Int) ∣ a * b := by
      have := hd 0
      show (p : Int) ∣ a * b
      have e : (mulL (a :: f) (b :: g)).getD 0 0 = a * b := by
        show (addL (smul a (b :: g)) (0 :: mulL f (b :: g))).getD 0 0 = a * b
        rw [getD_addL]; simp [smul]
      rwa [e] at this
    simp only [List.length_cons] at h
    rcases hp.2 a b h0 with ha | hb
    · have h1 : DvL p (mulL f (b :: g)) := fun i => by
        have := hd (i + 1)
        have e : (mulL (a :: f) (b :: g)).getD (i + 1) 0 = a * (b :: g).getD (i + 1) 0 + (mulL f (b :: g)).getD i 0 := by
          show (addL (smul a (b :: g)) (0 :: mulL f (b :: g))).getD (i + 1) 0 = _
          rw [getD_addL, getD_smul]; simp
        rw [e] at this
        have h2 : (p : Int) ∣ a * (b :: g).getD (i + 1) 0 := Int.dvd_trans ha (Int.dvd_mul_right _ _)
        exact (Int.dvd_iff_dvd_of_dvd_add this).mp h2
      rcases gauss hp n f (b :: g) (by simp only [List.length_cons]; omega) h1 with c | c
      · exact .inl (dvl_tail.mpr ⟨ha, c⟩)
      · exact .inr c
    · have h1 : DvL p (mulL (a :: f) g) := fun i => by
        have := hd (i + 1)
        rw [mul_cons, List.getD_cons_succ] at this
        have h2 : (p : Int) ∣ b * (a :: f).getD (i + 1) 0 := Int.dvd_trans hb (Int.dvd_mul_right _ _)
        exact (Int.dvd_iff_dvd_of_dvd_add this).mp h2
      rcases gauss hp n (a :: f) g (by simp only [List.length_cons]; omega) h1 with c | c
      · exact .inl c
      · exact .inr (dvl_tail.mpr ⟨hb, c⟩)
theorem cont_mul {f g : List Int} (hf : cont f = 1) (hg : cont g = 1) : cont (mulL f g) = 1 := by
  by_cases h : cont (mulL f g) = 1
  · exact h
  · exfalso
    obtain ⟨p, hp, hd⟩ : ∃ p, Pr p ∧ p ∣ cont (mulL f g) := by
      by_cases z : cont (mulL f g) = 0
      · obtain ⟨p, hp, _⟩ := has_pr 2 (by decide)
        exact ⟨p, hp, by rw [z]; exact Nat.dvd_zero p⟩
      · exact has_pr _ (by omega)
    rcases gauss hp _ f g (Nat.le_refl _) (dvl_cont.mpr hd) with c | c
    · have := dvl_cont.mp c
      rw [hf] at this
      have := Nat.dvd_one.mp this
      have := hp.1; omega
    · have := dvl_cont.mp c
      rw [hg] at this
      have := Nat.dvd_one.mp this
      have := hp.1; omega
theorem cont_smul (k : Int) : ∀ p : List Int, cont (smul k p) = k.natAbs * cont p
  | [] => by simp [smul, cont]
  | a :: p => by
    show Nat.gcd (k * a).natAbs (cont (smul k p)) = k.natAbs * Nat.gcd a.natAbs (cont p)
    rw [cont_smul k p, Int.natAbs_mul, Nat.gcd_mul_left]

/-! ### one row divides another, but for a whole number -/
def Dv (p q : List Int) : Prop := ∃ a : Int, a ≠ 0 ∧ ∀ x : Int, ev p x ∣ a * ev q x
theorem Dv.refl (p : List Int) : Dv p p := ⟨1, by decide, fun x => ⟨1, by grind⟩⟩
theorem Dv.len {p q : List Int} (h : Dv p q) (hp : lastZ p ≠ 0) (hq : lastZ q ≠ 0) : p.length ≤ q.length := by
  by_cases c : p.length ≤ q.length
  · exact c
  · exfalso
    obtain ⟨a, ha, hd⟩ := h
    have lq := List.length_pos_iff.mpr (lastZ_ne hq)
    obtain ⟨N1, h1⟩ := far_ne hq
    obtain ⟨N2, h2⟩ := far_gt hp (by omega) (a.natAbs * absS q)
    have n1 := h1 (N1 + N2 + 1) (by omega)
    have n2 := h2 (N1 + N2 + 1) (by omega)
    have n3 := ev_le q (n := N1 + N2 + 1) (by omega)
    have n4 := hd ((N1 + N2 + 1 : Nat) : Int)
    have n0 : 1 ≤ N1 + N2 + 1 := by omega
    generalize N1 + N2 + 1 = n at *
    have n5 : (ev p n).natAbs ≤ a.natAbs * (ev q n).natAbs := by
      rw [← Int.natAbs_mul]
      refine Nat.le_of_dvd ?_ (Int.natAbs_dvd_natAbs.mpr n4)
      rw [Int.natAbs_mul]
      exact Nat.mul_pos (by omega) (by omega)
    have n6 : a.natAbs * (ev q n).natAbs ≤ a.natAbs * (absS q * n ^ (q.length - 1)) := Nat.mul_le_mul_left _ n3
    have n7 : n ^ (q.length - 1) ≤ n ^ (p.length - 2) := Nat.pow_le_pow_right n0 (by omega)
    have n8 : a.natAbs * (absS q * n ^ (q.length - 1)) ≤ a.natAbs * absS q * n ^ (p.length - 2) := by
      rw [← Nat.mul_assoc]; exact Nat.mul_le_mul_left _ n7
    omega
/-- pigeons: none of finitely many is nought far out, unless one is nought everywhere -/
theorem far_all (f : Int → Nat → Int) (hf : ∀ h : Int, (∃ N : Nat, ∀ n : Nat, N ≤ n → f h n ≠ 0) ∨ ∀ n : Nat, 1 ≤ n → f h n = 0) : ∀ M : Nat, (∃ N : Nat, ∀ h : Int, h.natAbs ≤ M → ∀ n : Nat, N ≤ n → f h n ≠ 0) ∨ ∃ h : Int, h.natAbs ≤ M ∧ ∀ n : Nat, 1 ≤ n → f h n = 0
  | 0 => by
    rcases hf 0 with ⟨N, hN⟩ | h
    · exact .inl ⟨N, fun h hh n hn => by rw [show h = 0 by omega]; exact hN n hn⟩
    · exact .inr ⟨0, by decide, h⟩
  | M + 1 => by
    rcases far_all f hf M with ⟨N, hN⟩ | ⟨h, h1, h2⟩
    · rcases hf (M + 1 : Nat) with ⟨N1, hN1⟩ | h
      · rcases hf (-(M + 1 : Nat)) with ⟨N2, hN2⟩ | h
        · refine .inl ⟨max N (max N1 N2), fun h hh n hn => ?_⟩
          by_cases c : h.natAbs ≤ M
          · exact hN h c n (by omega)
          · by_cases d : h = ((M + 1 : Nat) : Int)
            · rw [d]; exact hN1 n (by omega)
            · rw [show h = -((M + 1 : Nat) : Int) by omega]; exact hN2 n (by omega)
        · exact .inr ⟨_, by omega, h⟩
      · exact .inr ⟨_, by omega, h⟩
    · exact .inr ⟨h, by omega, h2⟩
def trimL (p : List Int) : List Int := (p.reverse.dropWhile (· == 0)).reverse
theorem trimL_nil : trimL [] = [] := rfl
theorem trimL_snoc (p : List Int) (a : Int) : trimL (p ++ [a]) = if a = 0 then trimL p else p ++ [a] := by
  unfold trimL
  rw [List.reverse_append, List.reverse_cons, List.reverse_nil, List.nil_append, List.singleton_append, List.dropWhile_cons]
  by_cases h : a = 0
  · subst h; simp
  · have h2 : (a == 0) = false := by simpa using h
    rw [if_neg (by rw [h2]; decide), if_neg h]; simp
theorem ev_snoc (p : List Int) (a x : Int) : ev (p ++ [a]) x = ev p x + a * x ^ p.length := by
  induction p with
  | nil => simp [ev]
  | cons b p ih =>
    show b + x * ev (p ++ [a]) x = b + x * ev p x + a * x ^ (p.length + 1)
    rw [ih, Int.pow_succ]; generalize x ^ p.length = q; grind
theorem snoc_ind {P : List Int → Prop} (h0 : P []) (h1 : ∀ p a, P p → P (p ++ [a])) : ∀ p, P p := fun p => by
  have : ∀ q : List Int, P q.reverse := fun q => by
    induction q with
    | nil => exact h0
    | cons a q ih => rw [List.reverse_cons]; exact h1 _ _ ih
  have e := this p.reverse
  rwa [List.reverse_reverse] at e
theorem ev_trimL (p : List Int) (x : Int) : ev (trimL p) x = ev p x := by
  revert p
  refine snoc_ind rfl fun p a ih => ?_
  rw [trimL_snoc]
  split
  · rename_i h; subst h; rw [ih, ev_snoc]; simp
  · rfl
theorem trimL_last (p : List Int) : trimL p = [] ∨ lastZ (trimL p) ≠ 0 := by
  revert p
  refine snoc_ind (.inl rfl) fun p a ih => ?_
  rw [trimL_snoc]
  split
  · exact ih
  · rename_i h
    right; unfold lastZ; simpa using h
theorem trimL_pre (p : List Int) : ∃ k, p = trimL p ++ List.replicate k 0 := by
  revert p
  refine snoc_ind ⟨0, rfl⟩ fun p a ih => ?_
  rw [trimL_snoc]
  split
  · rename_i h
    subst h
    obtain ⟨k, hk⟩ := ih
    refine ⟨k + 1, ?_⟩
    rw [List.replicate_succ', ← List.append_assoc, ← hk]
  · exact ⟨0, by simp⟩
theorem trimL_of : ∀ {p : List Int}, lastZ p ≠ 0 → trimL p = p := fun {p} => by
  refine snoc_ind (P := fun p => lastZ p ≠ 0 → trimL p = p) (fun h => absurd rfl h) (fun p a _ h => ?_) p
  have : a ≠ 0 := by unfold lastZ at h; simpa using h
  rw [trimL_snoc, if_neg this]
/-- D and G divide each other, both are without a common divisor, both last numbers above nought: the same -/
theorem eq_of_dv {D G : List Int} (h1 : Dv D G) (h2 : Dv G D) (hD : 0 < lastZ D) (hG : 0 < lastZ G) (cD : cont D = 1) (cG : cont G = 1) : D = G := by
  obtain ⟨a, ha, da⟩ := h1
  obtain ⟨b, hb, db⟩ := h2
  obtain ⟨N1, f1⟩ := far_ne (p := D) (by omega)
  obtain ⟨N2, f2⟩ := far_ne (p := G) (by omega)
  -- h is what a * G is of D; it divides a * b
  let f : Int → Nat → Int := fun h n => ev (addL (smul a G) (smul (-h) D)) n
  have hf : ∀ h : Int, (∃ N : Nat, ∀ n : Nat, N ≤ n → f h n ≠ 0) ∨ ∀ n : Nat, 1 ≤ n → f h n = 0 := fun h => by
    rcases trimL_last (addL (smul a G) (smul (-h) D)) with z | z
    · exact .inr fun n _ => by show ev (addL (smul a G) (smul (-h) D)) n = 0; rw [← ev_trimL, z]; rfl
    · obtain ⟨N, hN⟩ := far_ne z
      exact .inl ⟨N, fun n hn => by show ev (addL (smul a G) (smul (-h) D)) n ≠ 0; rw [← ev_trimL]; exact hN n hn⟩
  rcases far_all f hf (a * b).natAbs with ⟨N, hN⟩ | ⟨h, _, hz⟩
  · exfalso
    have g1 := f1 (N + N1 + N2) (by omega)
    have g2 := f2 (N + N1 + N2) (by omega)
    obtain ⟨k, hk⟩ := da ((N + N1 + N2 : Nat) : Int)
    obtain ⟨l, hl⟩ := db ((N + N1 + N2 : Nat) : Int)
    have hn := fun h hh => hN h hh (N + N1 + N2) (by omega)
    have fe : ∀ h : Int, f h (N + N1 + N2) = a * ev G ((N + N1 + N2 : Nat) : Int) + (-h) * ev D ((N + N1 + N2 : Nat) : Int) := fun h => by
      show ev (addL (smul a G) (smul (-h) D)) _ = _
      rw [ev_addL, ev_smul, ev_smul]
    generalize ((N + N1 + N2 : Nat) : Int) = x at *
    -- a G = D k, b D = G l: k * l = a * b
    have e : k * l = a * b := by
      have e1 : ev D x * (ev G x * (k * l)) = ev D x * (ev G x * (a * b)) := by
        have : (ev D x * k) * (ev G x * l) = (a * ev G x) * (b * ev D x) := by rw [← hk, ← hl]
        grind
      exact Int.eq_of_mul_eq_mul_left g2 (Int.eq_of_mul_eq_mul_left g1 e1)
    have kb : k.natAbs ≤ (a * b).natAbs := by
      rw [← e, Int.natAbs_mul]
      have : l ≠ 0 := by rintro rfl; rw [Int.mul_zero] at e; exact absurd e.symm (Int.mul_ne_zero ha hb)
      exact Nat.le_mul_of_pos_right _ (by omega)
    refine hn k kb ?_
    rw [fe, hk]; grind
  · have ev0 : ∀ n : Nat, 1 ≤ n → ev (smul a G) n = ev (smul h D) n := fun n hn => by
      have := hz n hn
      have e : ev (addL (smul a G) (smul (-h) D)) n = 0 := this
      rw [ev_addL, ev_smul, ev_smul] at e
      rw [ev_smul, ev_smul]; grind
    have h0 : h ≠ 0 := by
      rintro rfl
      have := ev0 (N2 + 1) (by omega)
      rw [ev_smul, ev_smul, Int.zero_mul] at this
      rcases Int.mul_eq_zero.mp this with c | c
      · exact ha c
      · exact f2 _ (by omega) c
    have es : smul a G = smul h D := eq_of_same (by rw [lastZ_smul]; exact Int.mul_ne_zero ha (by omega)) (by rw [lastZ_smul]; exact Int.mul_ne_zero h0 (by omega)) fun i => same_of i ev0
    have ec := congrArg cont es
    rw [cont_smul, cont_smul, cG, cD, Nat.mul_one, Nat.mul_one] at ec
    have el := congrArg lastZ es
    rw [lastZ_smul, lastZ_smul] at el
    have eh : h = a := by
      rcases (by omega : h = a ∨ h = -a) with c | c
      · exact c
      · exfalso
        subst c
        have : a * (lastZ G + lastZ D) = 0 := by grind
        rcases Int.mul_eq_zero.mp this with d | d
        · exact ha d
        · omega
    subst eh
    refine eq_of_same (by omega) (by omega) fun i => ?_
    have : (smul h G).getD i 0 = (smul h D).getD i 0 := by rw [es]
    rw [getD_smul, getD_smul] at this
    exact (Int.eq_of_mul_eq_mul_left ha this).symm
end Rt

namespace Rt
theorem lastZ_snoc (p : List Int) (a : Int) : lastZ (p ++ [a]) = a := by unfold lastZ; simp
theorem snoc_of {p : List Int} (h : p ≠ []) : ∃ q, p = q ++ [lastZ p] := by
  refine ⟨p.dropLast, ?_⟩
  have e := (List.dropLast_concat_getLast h).symm
  have : lastZ p = p.getLast h := by unfold lastZ; rw [List.getLast?_eq_some_getLast h]; rfl
  rw [this]; exact e
/-- without a common divisor, the last number above nought -/
def Good (p : List Int) : Prop := 0 < lastZ p ∧ cont p = 1
theorem Good.ne {p : List Int} (h : Good p) : lastZ p ≠ 0 := by have := h.1; omega
/-! ### bare -/
def barS (p : List Int) : Int := if lastZ p < 0 then -(cont p : Int) else (cont p : Int)
def bareL (p : List Int) : List Int := p.map fun a => a.fdiv (barS p)
theorem cont_pos : ∀ {p : List Int}, lastZ p ≠ 0 → 0 < cont p
  | [], h => absurd rfl h
  | [a], h => by
    have h' : a ≠ 0 := h
    show 0 < Nat.gcd a.natAbs 0
    rw [Nat.gcd_zero_right]; omega
  | a :: b :: p, h => by
    rw [lastZ_cons] at h
    exact Nat.gcd_pos_of_pos_right _ (cont_pos h)
theorem barS_ne {p : List Int} (h : lastZ p ≠ 0) : barS p ≠ 0 := by
  have := cont_pos h
  unfold barS; split <;> omega
theorem barS_abs (p : List Int) : (barS p).natAbs = cont p := by unfold barS; split <;> omega
theorem barS_dvd {p : List Int} {a : Int} (ha : a ∈ p) : barS p ∣ a := by
  have h : DvL (cont p) p := dvl_cont.mpr (Nat.dvd_refl _)
  obtain ⟨i, hi⟩ := List.getElem?_of_mem ha
  have := h i
  rw [List.getD_eq_getElem?_getD, hi] at this
  unfold barS; split
  · exact Int.neg_dvd.mpr this
  · exact this
theorem smul_bare (p : List Int) : smul (barS p) (bareL p) = p := by
  unfold smul bareL
  rw [List.map_map]
  have : ∀ a ∈ p, ((fun a => barS p * a) ∘ fun a => a.fdiv (barS p)) a = a := fun a ha => by
    show barS p * a.fdiv (barS p) = a
    rw [Int.fdiv_eq_ediv_of_dvd (barS_dvd ha), Int.mul_ediv_cancel' (barS_dvd ha)]
  rw [List.map_congr_left this]; exact List.map_id' p
theorem bare_good {p : List Int} (h : lastZ p ≠ 0) : Good (bareL p) := by
  have e := smul_bare p
  have s0 := barS_ne h
  have el := congrArg lastZ e
  have ec := congrArg cont e
  rw [lastZ_smul] at el
  rw [cont_smul, barS_abs] at ec
  have cp := cont_pos h
  refine ⟨?_, Nat.eq_of_mul_eq_mul_left cp (by rw [ec, Nat.mul_one])⟩
  by_cases c : lastZ p < 0
  · have s1 : barS p < 0 := by unfold barS; rw [if_pos c]; omega
    by_cases q : 0 < lastZ (bareL p)
    · exact q
    · have := Int.mul_nonneg_of_nonpos_of_nonpos (Int.le_of_lt s1) (Int.not_lt.mp q)
      omega
  · have s1 : 0 < barS p := by unfold barS; rw [if_neg c]; omega
    by_cases q : 0 < lastZ (bareL p)
    · exact q
    · have := Int.mul_nonpos_of_nonneg_of_nonpos (Int.le_of_lt s1) (Int.not_lt.mp q)
      omega
theorem ev_bare (p : List Int) (x : Int) : barS p * ev (bareL p) x = ev p x := by
  have := ev_smul (barS p) (bareL p) x
  rw [smul_bare] at this; exact this.symm
theorem smul_inj {k : Int} (hk : k ≠ 0) {p q : List Int} (h : smul k p = smul k q) : p = q := by
  unfold smul at h
  refine (List.map_inj_right fun a b e => Int.eq_of_mul_eq_mul_left hk e).mp h
theorem bare_smul {k : Int} (hk : k ≠ 0) {p : List Int} (h : Good p) : bareL (smul k p) = p := by
  have hl : lastZ (smul k p) = k * lastZ p := lastZ_smul k p
  have hc : cont (smul k p) = k.natAbs := by rw [cont_smul, h.2, Nat.mul_one]
  have hs : barS (smul k p) = k := by
    unfold barS
    rw [hl, hc]
    by_cases c : k < 0
    · rw [if_pos (Int.mul_neg_of_neg_of_pos c h.1)]; omega
    · have := Int.mul_pos (show 0 < k by omega) h.1
      rw [if_neg (by omega)]; omega
  have e := smul_bare (smul k p)
  rw [hs] at e
  exact smul_inj hk e
theorem bare_nil : bareL [] = [] := rfl
/-! ### lowered -/
def lowL (row other : List Int) (f : Int) : List Int := row.take (row.length - other.length) ++ (List.zipWith (fun a b => a - f * b) (row.drop (row.length - other.length)) other).dropLast
theorem low_len {row other : List Int} (f : Int) (h : other.length ≤ row.length) (h0 : other ≠ []) : (lowL row other f).length + 1 = row.length := by
  have := List.length_pos_iff.mpr h0
  unfold lowL
  rw [List.length_append, List.length_take, List.length_dropLast, List.length_zipWith, List.length_drop]
  omega
theorem ev_app (p q : List Int) (x : Int) : ev (p ++ q) x = ev p x + x ^ p.length * ev q x := by
  induction p with
  | nil => simp [ev]
  | cons a p ih =>
    show a + x * ev (p ++ q) x = a + x * ev p x + x ^ (p.length + 1) * ev q x
    rw [ih, Int.pow_succ]; generalize x ^ p.length = r; grind
theorem ev_zip (f x : Int) : ∀ {p q : List Int}, p.length = q.length → ev (List.zipWith (fun a b => a - f * b) p q) x = ev p x - f * ev q x
  | [], [], _ => by simp [ev]
  | a :: p, b :: q, h => by
    show (a - f * b) + x * ev (List.zipWith _ p q) x = a + x * ev p x - f * (b + x * ev q x)
    rw [ev_zip f x (p := p) (q := q) (by simpa using h)]; grind
  | [], _ :: _, h => by simp at h
  | _ :: _, [], h => by simp at h
theorem lastZ_zip (f : Int) : ∀ {p q : List Int}, p.length = q.length → p ≠ [] → lastZ (List.zipWith (fun a b => a - f * b) p q) = lastZ p - f * lastZ q
  | [], _, _, h => absurd rfl h
  | [a], [b], _, _ => rfl
  | [a], [], h, _ => by simp at h
  | [a], _ :: _ :: _, h, _ => by simp at h
  | a :: a' :: p, [], h, _ => by simp at h
  | a :: a' :: p, [b], h, _ => by simp at h
  | a :: a' :: p, b :: b' :: q, h, _ => by
    show lastZ ((a - f * b) :: (a' - f * b') :: List.zipWith _ p q) = _
    rw [lastZ_cons, lastZ_cons, lastZ_cons]
    exact lastZ_zip f (p := a' :: p) (q := b' :: q) (by simpa using h) (by simp)
theorem lastZ_drop {p : List Int} {k : Nat} (h : k < p.length) : lastZ (p.drop k) = lastZ p := by
  unfold lastZ
  rw [List.getLast?_drop, if_neg (by omega)]
theorem ev_dropLast {p : List Int} (h : p ≠ []) (h0 : lastZ p = 0) (x : Int) : ev p.dropLast x = ev p x := by
  obtain ⟨q, hq⟩ := snoc_of h
  rw [h0] at hq
  rw [hq, List.dropLast_concat, ev_snoc, Int.zero_mul, Int.add_zero]
theorem ev_low {row other : List Int} {f : Int} (h : other.length ≤ row.length) (h0 : other ≠ []) (hf : lastZ row = f * lastZ other) (x : Int) : ev (lowL row other f) x = ev row x - f * (x ^ (row.length - other.length) * ev other x) := by
  have lo := List.length_pos_iff.mpr h0
  have hl : (row.drop (row.length - other.length)).length = other.length := by rw [List.length_drop]; omega
  have hne : row.drop (row.length - other.length) ≠ [] := by intro z; rw [z] at hl; rw [← hl] at lo; exact absurd lo (by simp)
  have hz : lastZ (List.zipWith (fun a b => a - f * b) (row.drop (row.length - other.length)) other) = 0 := by
    rw [lastZ_zip f hl hne, lastZ_drop (p := row) (k := row.length - other.length) (by omega), hf]; omega
  have hzne : List.zipWith (fun a b => a - f * b) (row.drop (row.length - other.length)) other ≠ [] := by
    intro z
    have := congrArg List.length z
    rw [List.length_zipWith, hl, List.length_nil] at this; omega
  have e := ev_app (row.take (row.length - other.length)) (row.drop (row.length - other.length)) x
  rw [List.take_append_drop] at e
  have ht : (row.take (row.length - other.length)).length = row.length - other.length := by rw [List.length_take]; omega
  unfold lowL
  rw [ev_app, ev_dropLast hzne hz, ev_zip f x hl, e, ht]
  generalize x ^ (row.length - other.length) = r; grind
/-! ### the remainder -/
def gcdI (a b : Int) : Int := (Nat.gcd a.natAbs b.natAbs : Nat)
def remStep (left other : List Int) : List Int :=
  trimL (lowL (left.map fun n => n * (lastZ other).fdiv (gcdI (lastZ left) (lastZ other))) other ((lastZ left).fdiv (gcdI (lastZ left) (lastZ other))))
def remL : Nat → List Int → List Int → List Int
  | 0, left, _ => left
  | n + 1, left, other => if left.length < other.length then left else remL n (remStep left other) other
theorem map_smul (k : Int) (p : List Int) : (p.map fun n => n * k) = smul k p := by
  unfold smul; exact List.map_congr_left fun a _ => Int.mul_comm a k
theorem gcdI_pos {a b : Int} (h : b ≠ 0) : 0 < gcdI a b := by
  unfold gcdI
  have := Nat.gcd_pos_of_pos_right a.natAbs (show 0 < b.natAbs by omega)
  omega
theorem gcdI_dl (a b : Int) : gcdI a b ∣ a := Int.ofNat_dvd_left.mpr (Nat.gcd_dvd_left _ _)
theorem gcdI_dr (a b : Int) : gcdI a b ∣ b := Int.ofNat_dvd_left.mpr (Nat.gcd_dvd_right _ _)
theorem fdiv_gcd {a c : Int} (h : c ∣ a) : c * a.fdiv c = a := by rw [Int.fdiv_eq_ediv_of_dvd h, Int.mul_ediv_cancel' h]
theorem remStep_ok {left other : List Int} (ho : lastZ other ≠ 0) (h : other.length ≤ left.length) :
    (remStep left other = [] ∨ lastZ (remStep left other) ≠ 0) ∧ (remStep left other).length < left.length ∧ ∃ a : Int, a ≠ 0 ∧ ∀ x : Int, ∃ u, a * ev left x = u * ev other x + ev (remStep left other) x := by
  have c0 := gcdI_pos (a := lastZ left) ho
  have e1 := fdiv_gcd (gcdI_dl (lastZ left) (lastZ other))
  have e2 := fdiv_gcd (gcdI_dr (lastZ left) (lastZ other))
  refine ⟨trimL_last _, ?_, ?_⟩
  · obtain ⟨k, hk⟩ := trimL_pre (lowL (left.map fun n => n * (lastZ other).fdiv (gcdI (lastZ left) (lastZ other))) other ((lastZ left).fdiv (gcdI (lastZ left) (lastZ other))))
    have hl := congrArg List.length hk
    have l2 := low_len (row := left.map fun n => n * (lastZ other).fdiv (gcdI (lastZ left) (lastZ other))) (other := other) ((lastZ left).fdiv (gcdI (lastZ left) (lastZ other))) (by rw [List.length_map]; exact h) (lastZ_ne ho)
    rw [List.length_append, List.length_replicate] at hl
    rw [List.length_map] at l2
    unfold remStep; omega
  · unfold remStep
    generalize gcdI (lastZ left) (lastZ other) = c at *
    have hf : lastZ (left.map fun n => n * (lastZ other).fdiv c) = (lastZ left).fdiv c * lastZ other := by
      rw [map_smul, lastZ_smul]
      generalize (lastZ left).fdiv c = p at *
      generalize (lastZ other).fdiv c = q at *
      rw [← e1, ← e2]; grind
    refine ⟨(lastZ other).fdiv c, ?_, fun x => ⟨(lastZ left).fdiv c * x ^ (left.length - other.length), ?_⟩⟩
    · intro z; rw [z, Int.mul_zero] at e2; exact ho e2.symm
    · rw [ev_trimL, ev_low (by rw [List.length_map]; exact h) (lastZ_ne ho) hf, map_smul, ev_smul]
      have : (smul ((lastZ other).fdiv c) left).length = left.length := by unfold smul; rw [List.length_map]
      rw [this]
      generalize x ^ (left.length - other.length) = r
      grind
theorem rem_ok : ∀ (n : Nat) {left other : List Int}, left.length ≤ n → lastZ other ≠ 0 → (left = [] ∨ lastZ left ≠ 0) →
    (remL n left other = [] ∨ lastZ (remL n left other) ≠ 0) ∧ (remL n left other).length < other.length ∧ ∃ a : Int, a ≠ 0 ∧ ∀ x : Int, ∃ u, a * ev left x = u * ev other x + ev (remL n left other) x
  | 0, left, other, hn, ho, hl => by
    have := List.length_pos_iff.mpr (lastZ_ne ho)
    exact ⟨hl, by show left.length < _; omega, 1, by decide, fun x => ⟨0, by show 1 * ev left x = 0 * ev other x + ev left x; grind⟩⟩
  | n + 1, left, other, hn, ho, hl => by
    have h0 := List.length_pos_iff.mpr (lastZ_ne ho)
    unfold remL
    by_cases c : left.length < other.length
    · rw [if_pos c]
      exact ⟨hl, c, 1, by decide, fun x => ⟨0, by grind⟩⟩
    · rw [if_neg c]
      obtain ⟨s1, s2, a, ha, s3⟩ := remStep_ok (left := left) ho (by omega)
      obtain ⟨r1, r2, b, hb, r3⟩ := rem_ok n (left := remStep left other) (by omega) ho s1
      refine ⟨r1, r2, b * a, Int.mul_ne_zero hb ha, fun x => ?_⟩
      obtain ⟨u, hu⟩ := s3 x
      obtain ⟨v, hv⟩ := r3 x
      exact ⟨b * u + v, by grind⟩
/-! ### the common row -/
def comL : Nat → List Int → List Int → List Int
  | 0, one, _ => one
  | n + 1, one, other => if other.length = 0 then one else comL n other (bareL (remL one.length one other))
theorem dv_zero (p : List Int) : Dv p [] := ⟨1, by decide, fun x => ⟨0, by simp [ev]⟩⟩
theorem dv_bare {p r : List Int} (h : Dv p (bareL r)) : Dv p r := by
  obtain ⟨a, ha, d⟩ := h
  exact ⟨a, ha, fun x => by rw [← ev_bare r x]; obtain ⟨k, hk⟩ := d x; exact ⟨barS r * k, by grind⟩⟩
theorem bare_dv {p r : List Int} (hr : r = [] ∨ lastZ r ≠ 0) (h : Dv p r) : Dv p (bareL r) := by
  rcases hr with rfl | hr
  · exact dv_zero p
  · obtain ⟨a, ha, d⟩ := h
    refine ⟨a * barS r, Int.mul_ne_zero ha (barS_ne hr), fun x => ?_⟩
    obtain ⟨k, hk⟩ := d x
    exact ⟨k, by rw [← hk, ← ev_bare r x]; grind⟩
theorem com_ok : ∀ (n : Nat) {one other : List Int}, other.length ≤ n → Good one → (other = [] ∨ Good other) →
    Good (comL n one other) ∧ (∀ D, Dv D one → Dv D other → Dv D (comL n one other)) ∧ Dv (comL n one other) one ∧ Dv (comL n one other) other
  | 0, one, other, hn, h1, h2 => by
    have : other = [] := List.length_eq_zero_iff.mp (by omega)
    subst this
    exact ⟨h1, fun D a _ => a, Dv.refl one, dv_zero one⟩
  | n + 1, one, other, hn, h1, h2 => by
    unfold comL
    by_cases c : other.length = 0
    · rw [if_pos c]
      have : other = [] := List.length_eq_zero_iff.mp c
      subst this
      exact ⟨h1, fun D a _ => a, Dv.refl one, dv_zero one⟩
    · rw [if_neg c]
      have g2 : Good other := h2.resolve_left (by rintro rfl; exact c rfl)
      obtain ⟨r1, r2, a, ha, r3⟩ := rem_ok one.length (left := one) (other := other) (Nat.le_refl _) g2.ne (.inr h1.ne)
      generalize remL one.length one other = r at *
      have gb : bareL r = [] ∨ Good (bareL r) := by
        rcases r1 with rfl | r1
        · exact .inl rfl
        · exact .inr (bare_good r1)
      have lb : (bareL r).length = r.length := by unfold bareL; rw [List.length_map]
      obtain ⟨q1, q2, q3, q4⟩ := com_ok n (one := other) (other := bareL r) (by omega) g2 gb
      refine ⟨q1, fun D d1 d2 => q2 D d2 (bare_dv r1 ?_), ?_, q3⟩
      · obtain ⟨b, hb, e1⟩ := d1
        obtain ⟨b', hb', e2⟩ := d2
        refine ⟨b * b', Int.mul_ne_zero hb hb', fun x => ?_⟩
        obtain ⟨u, hu⟩ := r3 x
        obtain ⟨k, hk⟩ := e1 x
        obtain ⟨l, hl⟩ := e2 x
        exact ⟨a * b' * k - b * u * l, by grind⟩
      · obtain ⟨b, hb, e1⟩ := q3
        obtain ⟨b', hb', e2⟩ := dv_bare q4
        refine ⟨a * b * b', Int.mul_ne_zero (Int.mul_ne_zero ha hb) hb', fun x => ?_⟩
        obtain ⟨u, hu⟩ := r3 x
        obtain ⟨k, hk⟩ := e1 x
        obtain ⟨l, hl⟩ := e2 x
        generalize comL n other (bareL r) = g at *
        exact ⟨b' * u * k + b * l, by grind⟩
/-! ### the slope -/
def slopeL (p : List Int) : List Int := (List.range (p.length - 1)).map fun k : Nat => ((k : Int) + 1) * p.getD (k + 1) 0
def der : List Int → Int → Int
  | [], _ => 0
  | _ :: p, x => ev p x + x * der p x
theorem der_addL (x : Int) : ∀ p q : List Int, der (addL p q) x = der p x + der q x
  | [], q => by simp [addL, der]
  | a :: p, [] => by simp [addL, der]
  | a :: p, b :: q => by
    show ev (addL p q) x + x * der (addL p q) x = _
    rw [ev_addL, der_addL x p q]; simp only [der]; grind
theorem der_smul (k x : Int) : ∀ p : List Int, der (smul k p) x = k * der p x
  | [] => by simp [smul, der]
  | a :: p => by
    show ev (smul k p) x + x * der (smul k p) x = _
    rw [ev_smul, der_smul k x p]; simp only [der]; grind
theorem der_mulL (x : Int) : ∀ p q : List Int, der (mulL p q) x = der p x * ev q x + ev p x * der q x
  | [], q => by simp [mulL, der, ev]
  | a :: p, q => by
    show der (addL (smul a q) (0 :: mulL p q)) x = _
    rw [der_addL, der_smul]
    show a * der q x + (ev (mulL p q) x + x * der (mulL p q) x) = _
    rw [ev_mulL, der_mulL x p q]; simp only [der, ev]; grind
theorem ev_rangeC (g : Nat → Int) (x : Int) : ∀ n, ev ((List.range (n + 1)).map g) x = g 0 + x * ev ((List.range n).map fun k => g (k + 1)) x := fun n => by
  rw [List.range_succ_eq_map, List.map_cons, List.map_map]; rfl
theorem ev_slope (x : Int) : ∀ (p : List Int) (m : Int), ev ((List.range p.length).map fun k : Nat => ((k : Int) + m) * p.getD k 0) x = m * ev p x + x * der p x
  | [], m => by simp [ev, der]
  | a :: p, m => by
    show ev ((List.range (p.length + 1)).map _) x = _
    rw [ev_rangeC]
    have : (fun k : Nat => (((k + 1 : Nat) : Int) + m) * (a :: p).getD (k + 1) 0) = fun k : Nat => ((k : Int) + (m + 1)) * p.getD k 0 := by
      funext k; rw [List.getD_cons_succ]; congr 1; omega
    rw [this, ev_slope x p (m + 1)]
    simp only [ev, der, List.getD_cons_zero]
    grind
theorem slope_ev (p : List Int) (x : Int) : ev (slopeL p) x = der p x := by
  cases p with
  | nil => rfl
  | cons a p =>
    have := ev_slope x p 1
    show ev ((List.range p.length).map fun k : Nat => ((k : Int) + 1) * (a :: p).getD (k + 1) 0) x = _
    have e : (fun k : Nat => ((k : Int) + 1) * (a :: p).getD (k + 1) 0) = fun k : Nat => ((k : Int) + 1) * p.getD k 0 := by funext k; rw [List.getD_cons_succ]
    rw [e, this]; simp only [der]; grind
theorem slope_len (p : List Int) : (slopeL p).length = p.length - 1 := by unfold slopeL; rw [List.length_map, List.length_range]
theorem slope_last {p : List Int} (h : 2 ≤ p.length) : lastZ (slopeL p) = ((p.length - 1 : Nat) : Int) * lastZ p := by
  have hne : slopeL p ≠ [] := by intro z; have := slope_len p; rw [z] at this; simp at this; omega
  rw [← lastZ_getD hne, slope_len, ← lastZ_getD (p := p) (by intro z; rw [z] at h; simp at h)]
  unfold slopeL
  rw [List.getD_eq_getElem?_getD, List.getElem?_map, List.getElem?_range (by omega)]
  show ((p.length - 1 - 1 : Nat) + 1 : Int) * p.getD (p.length - 1 - 1 + 1) 0 = _
  rw [show p.length - 1 - 1 + 1 = p.length - 1 by omega]
  congr 1; omega
/-! ### the quotient -/
def quoL : Nat → List Int → List Int → List Int
  | 0, _, _ => []
  | n + 1, left, other => if left.length < other.length then [] else quoL n (lowL left other ((lastZ left).fdiv (lastZ other))) other ++ [(lastZ left).fdiv (lastZ other)]
theorem eq_of_ev {p q : List Int} (hl : p.length = q.length) (h : ∀ x, ev p x = ev q x) : p = q := by
  apply List.ext_getElem hl
  intro i h1 h2
  have := same_of i (p := p) (q := q) (N := 0) fun n _ => h n
  rwa [List.getD_eq_getElem?_getD, List.getD_eq_getElem?_getD, List.getElem?_eq_getElem h1, List.getElem?_eq_getElem h2] at this
theorem quo_ok {D : List Int} (hD : lastZ D ≠ 0) : ∀ (n : Nat) {P left : List Int}, left.length ≤ n → left.length + 1 = P.length + D.length → (P ≠ [] → ∀ x, ev left x = ev P x * ev D x) → quoL n left D = P
  | 0, P, left, hn, hl, he => by
    have := List.length_pos_iff.mpr (lastZ_ne hD)
    have : P = [] := List.length_eq_zero_iff.mp (by omega)
    subst this; rfl
  | n + 1, P, left, hn, hl, he => by
    have d0 := List.length_pos_iff.mpr (lastZ_ne hD)
    unfold quoL
    by_cases c : left.length < D.length
    · rw [if_pos c]
      exact (List.length_eq_zero_iff.mp (by omega)).symm
    · rw [if_neg c]
      have hP : P ≠ [] := by intro z; rw [z] at hl; simp at hl; omega
      have em : left = mulL P D := eq_of_ev (by have := mulL_len hP (lastZ_ne hD); omega) fun x => by rw [he hP, ev_mulL]
      have el : lastZ left = lastZ P * lastZ D := by rw [em]; exact lastZ_mulL hP (lastZ_ne hD)
      have ef : (lastZ left).fdiv (lastZ D) = lastZ P := by rw [el, Int.mul_comm]; exact Int.mul_fdiv_cancel_left _ hD
      rw [ef]
      obtain ⟨P', hP'⟩ := snoc_of hP
      have ll := low_len (row := left) (other := D) (lastZ P) (by omega) (lastZ_ne hD)
      have lP : P.length = P'.length + 1 := by rw [hP']; simp
      have := quo_ok hD n (P := P') (left := lowL left D (lastZ P)) (by omega) (by omega) fun hne x => by
        rw [ev_low (by omega) (lastZ_ne hD) el, he hP]
        have e3 : ev P x = ev P' x + lastZ P * x ^ P'.length := by
          have := ev_snoc P' (lastZ P) x
          rwa [← hP'] at this
        rw [e3, show left.length - D.length = P'.length by omega]
        generalize x ^ P'.length = r; grind
      rw [this, ← hP']
end Rt

namespace Rt
/-- no common root, by values: some whole number but nought is made of both, everywhere -/
def Cop (p q : Int → Int) : Prop := ∃ k : Int, k ≠ 0 ∧ ∀ x, ∃ u v : Int, u * p x + v * q x = k
theorem Cop.symm {p q : Int → Int} (h : Cop p q) : Cop q p := by
  obtain ⟨k, hk, h⟩ := h
  exact ⟨k, hk, fun x => let ⟨u, v, e⟩ := h x; ⟨v, u, by omega⟩⟩
theorem Cop.mul {p q r : Int → Int} (h1 : Cop p q) (h2 : Cop p r) : Cop p (fun x => q x * r x) := by
  obtain ⟨k, hk, h1⟩ := h1
  obtain ⟨l, hl, h2⟩ := h2
  refine ⟨k * l, Int.mul_ne_zero hk hl, fun x => ?_⟩
  obtain ⟨u, v, e1⟩ := h1 x
  obtain ⟨u', v', e2⟩ := h2 x
  exact ⟨u * u' * p x + u * v' * r x + v * u' * q x, v * v', by rw [← e1, ← e2]; grind⟩
theorem Cop.one (p : Int → Int) : Cop p (fun _ => 1) := ⟨1, by decide, fun x => ⟨0, 1, by show 0 * p x + 1 * 1 = 1; omega⟩⟩
/-- factors, each with one less than how often it stands -/
abbrev Facs := List (List Int × Nat)
def mulN : Nat → List Int → List Int → List Int
  | 0, _, q => q
  | e + 1, f, q => mulL f (mulN e f q)
def wL : Facs → List Int
  | [] => [1]
  | (f, e) :: r => mulN (e + 1) f (wL r)
def dL : Facs → List Int
  | [] => [1]
  | (f, e) :: r => mulN e f (dL r)
def pL : Facs → List Int
  | [] => [1]
  | (f, _) :: r => mulL f (pL r)
def tV : Facs → Int → Int
  | [], _ => 0
  | (f, e) :: r, x => ((e : Int) + 1) * der f x * ev (pL r) x + ev f x * tV r x
theorem ev_mulN (f q : List Int) (x : Int) : ∀ e, ev (mulN e f q) x = ev f x ^ e * ev q x
  | 0 => by simp [mulN]
  | e + 1 => by
    show ev (mulL f (mulN e f q)) x = _
    rw [ev_mulL, ev_mulN f q x e, Int.pow_succ]; generalize ev f x ^ e = r; grind
theorem der_mulN (f q : List Int) (x : Int) : ∀ e : Nat, der (mulN (e + 1) f q) x = ev f x ^ e * (((e : Int) + 1) * der f x * ev q x + ev f x * der q x)
  | 0 => by
    show der (mulL f q) x = _
    rw [der_mulL, Int.pow_zero]; grind
  | e + 1 => by
    show der (mulL f (mulN (e + 1) f q)) x = _
    rw [der_mulL, der_mulN f q x e, ev_mulN, Int.pow_succ]; generalize ev f x ^ e = r; grind
theorem ev_wL : ∀ (fs : Facs) (x : Int), ev (wL fs) x = ev (pL fs) x * ev (dL fs) x
  | [], x => by simp [wL, pL, dL, ev]
  | (f, e) :: r, x => by
    show ev (mulN (e + 1) f (wL r)) x = ev (mulL f (pL r)) x * ev (mulN e f (dL r)) x
    rw [ev_mulN, ev_mulL, ev_mulN, ev_wL r x, Int.pow_succ]; generalize ev f x ^ e = s; grind
theorem der_wL : ∀ (fs : Facs) (x : Int), der (wL fs) x = ev (dL fs) x * tV fs x
  | [], x => by simp [wL, dL, der, ev, tV]
  | (f, e) :: r, x => by
    show der (mulN (e + 1) f (wL r)) x = ev (mulN e f (dL r)) x * tV ((f, e) :: r) x
    rw [der_mulN, ev_mulN, ev_wL r x, der_wL r x]
    simp only [tV]; generalize ev f x ^ e = s; grind
theorem Good.mul {p q : List Int} (hp : Good p) (hq : Good q) : Good (mulL p q) := ⟨by rw [lastZ_mulL (lastZ_ne hp.ne) (lastZ_ne hq.ne)]; exact Int.mul_pos hp.1 hq.1, cont_mul hp.2 hq.2⟩
theorem good_one : Good [1] := ⟨by decide, rfl⟩
theorem Good.mulN {f q : List Int} (hf : Good f) (hq : Good q) : ∀ e, Good (Rt.mulN e f q)
  | 0 => hq
  | e + 1 => hf.mul (Good.mulN hf hq e)
inductive Nice : Facs → Prop
  | nil : Nice []
  | cons {f : List Int} {e : Nat} {r : Facs} : Good f → 2 ≤ f.length → Cop (ev f) (der f) → (∀ g ∈ r, Cop (ev f) (ev g.1)) → Nice r → Nice ((f, e) :: r)
theorem Nice.w : ∀ {fs : Facs}, Nice fs → Good (wL fs)
  | _, .nil => good_one
  | _, .cons h _ _ _ t => h.mulN t.w _
theorem Nice.d : ∀ {fs : Facs}, Nice fs → Good (dL fs)
  | _, .nil => good_one
  | _, .cons h _ _ _ t => h.mulN t.d _
theorem Nice.p : ∀ {fs : Facs}, Nice fs → Good (pL fs)
  | _, .nil => good_one
  | _, .cons h _ _ _ t => h.mul t.p
theorem cop_all {f : Int → Int} : ∀ {r : Facs}, (∀ g ∈ r, Cop f (ev g.1)) → Cop f (ev (pL r))
  | [], _ => by
    have : ev (pL []) = fun _ => 1 := by funext x; simp [pL, ev]
    rw [this]; exact Cop.one f
  | (g, e) :: r, h => by
    have : ev (pL ((g, e) :: r)) = fun x => ev g x * ev (pL r) x := by funext x; exact ev_mulL g (pL r) x
    rw [this]
    exact (h (g, e) List.mem_cons_self).mul (cop_all fun g' hg => h g' (List.mem_cons_of_mem _ hg))
theorem cop_t : ∀ {fs : Facs}, Nice fs → Cop (tV fs) (ev (pL fs))
  | _, .nil => by
    have : ev (pL []) = fun _ => 1 := by funext x; simp [pL, ev]
    rw [this]; exact Cop.one _
  | _, @Nice.cons f e r hf _ hd hr t => by
    have : ev (pL ((f, e) :: r)) = fun x => ev f x * ev (pL r) x := by funext x; exact ev_mulL f (pL r) x
    rw [this]
    have fP := cop_all hr
    have ih := cop_t t
    refine Cop.mul ?_ ?_
    · obtain ⟨k, hk, h⟩ := hd.mul fP
      refine ⟨((e : Int) + 1) * k, Int.mul_ne_zero (by omega) hk, fun x => ?_⟩
      obtain ⟨u, v, e1⟩ := h x
      exact ⟨v, ((e : Int) + 1) * u - v * tV r x, by rw [← e1]; simp only [tV]; grind⟩
    · obtain ⟨k, hk, h⟩ := fP.symm.mul ih.symm
      refine ⟨k, hk, fun x => ?_⟩
      obtain ⟨u, v, e1⟩ := h x
      exact ⟨v, u - v * ((e : Int) + 1) * der f x, by rw [← e1]; simp only [tV]; grind⟩
theorem mulN_len {f q : List Int} (hf : 2 ≤ f.length) (hq : q ≠ []) : ∀ e, q.length + e ≤ (Rt.mulN e f q).length ∧ Rt.mulN e f q ≠ []
  | 0 => ⟨Nat.le_refl _, hq⟩
  | e + 1 => by
    obtain ⟨h1, h2⟩ := mulN_len hf hq e
    have := mulL_len (p := f) (q := Rt.mulN e f q) (by intro z; rw [z] at hf; simp at hf) h2
    have e2 : (Rt.mulN (e + 1) f q).length = (mulL f (Rt.mulN e f q)).length := rfl
    refine ⟨by omega, ?_⟩
    intro z
    rw [z] at e2; simp only [List.length_nil] at e2; omega
theorem wL_len : ∀ {fs : Facs}, Nice fs → fs ≠ [] → 2 ≤ (wL fs).length
  | _, .nil, h => absurd rfl h
  | _, @Nice.cons f e r hf h2 _ _ t, _ => by
    have hq : wL r ≠ [] := lastZ_ne t.w.ne
    have := (mulN_len h2 hq (e + 1)).1
    have := List.length_pos_iff.mpr hq
    show 2 ≤ (mulN (e + 1) f (wL r)).length
    omega
/-- what the program makes of a row -/
def divL (whole : List Int) : List Int := comL whole.length whole (bareL (slopeL whole))
def plainL (row : List Int) : List Int := let whole := bareL (trimL row); quoL whole.length whole (divL whole)
theorem div_ok {fs : Facs} (h : Nice fs) (hne : fs ≠ []) : divL (wL fs) = dL fs := by
  have gw := h.w
  have l2 := wL_len h hne
  have sl : lastZ (slopeL (wL fs)) ≠ 0 := by rw [slope_last l2]; exact Int.mul_ne_zero (by omega) gw.ne
  obtain ⟨g1, g2, g3, g4⟩ := com_ok (wL fs).length (one := wL fs) (other := bareL (slopeL (wL fs))) (by unfold bareL; rw [List.length_map, slope_len]; omega) gw (.inr (bare_good sl))
  have d1 : Dv (dL fs) (wL fs) := ⟨1, by decide, fun x => ⟨ev (pL fs) x, by rw [ev_wL]; grind⟩⟩
  have d2 : Dv (dL fs) (slopeL (wL fs)) := ⟨1, by decide, fun x => ⟨tV fs x, by rw [slope_ev, der_wL]; grind⟩⟩
  have d3 := g2 (dL fs) d1 (bare_dv (.inr sl) d2)
  refine (eq_of_dv d3 ?_ h.d.1 g1.1 h.d.2 g1.2).symm
  obtain ⟨k, hk, c⟩ := cop_t h
  obtain ⟨a, ha, e1⟩ := g3
  obtain ⟨b, hb, e2⟩ := dv_bare g4
  refine ⟨a * b * k, Int.mul_ne_zero (Int.mul_ne_zero ha hb) hk, fun x => ?_⟩
  obtain ⟨u, v, e3⟩ := c x
  obtain ⟨m, hm⟩ := e1 x
  obtain ⟨l, hl⟩ := e2 x
  rw [ev_wL] at hm
  rw [slope_ev, der_wL] at hl
  generalize ev (comL (wL fs).length (wL fs) (bareL (slopeL (wL fs)))) x = g at *
  exact ⟨a * u * l + b * v * m, by rw [← e3]; grind⟩
theorem plain_ok {fs : Facs} (h : Nice fs) (hne : fs ≠ []) {k : Int} (hk : k ≠ 0) {row : List Int} (hr : trimL row = smul k (wL fs)) : plainL row = pL fs := by
  unfold plainL
  rw [hr, bare_smul hk h.w]
  show quoL (wL fs).length (wL fs) (divL (wL fs)) = pL fs
  rw [div_ok h hne]
  have np := lastZ_ne h.p.ne
  have nd := lastZ_ne h.d.ne
  have e : wL fs = mulL (pL fs) (dL fs) := by
    refine eq_of_same h.w.ne (h.p.mul h.d).ne fun i => same_of i (N := 0) fun n _ => by rw [ev_wL, ev_mulL]
  have l := mulL_len np nd
  exact quo_ok h.d.ne _ (Nat.le_refl _) (by rw [e]; exact l) fun _ x => ev_wL fs x
end Rt

namespace Rt
open PySem PySem.Spec PyProof.Rows L2 Evl
/-- every number below 2 ^ n either way -/
def Sz (n : Nat) (p : List Int) : Prop := ∀ a ∈ p, Lt2 n a
theorem Sz.mono {n m : Nat} {p : List Int} (h : Sz n p) (k : n ≤ m) : Sz m p := fun a ha => (h a ha).mono k
theorem sz_nil {n : Nat} : Sz n [] := fun a ha => nomatch ha
theorem Sz.getD {n : Nat} {p : List Int} (h : Sz n p) (i : Nat) : Lt2 n (p.getD i 0) := by
  rw [List.getD_eq_getElem?_getD]
  cases q : p[i]? with
  | none => exact Lt2.zero
  | some v => exact h v (List.mem_of_getElem? q)
theorem Sz.last {n : Nat} {p : List Int} (h : Sz n p) : Lt2 n (lastZ p) := by
  unfold lastZ
  cases q : p.getLast? with
  | none => exact Lt2.zero
  | some v => exact h v (List.mem_of_getLast? q)
theorem Sz.trim {n : Nat} {p : List Int} (h : Sz n p) : Sz n (trimL p) := fun a ha => by
  obtain ⟨k, hk⟩ := trimL_pre p
  exact h a (by rw [hk]; exact List.mem_append_left _ ha)
theorem Sz.bare {n : Nat} {p : List Int} (h : Sz n p) (hp : p = [] ∨ lastZ p ≠ 0) : Sz n (bareL p) := by
  rcases hp with rfl | hp
  · exact sz_nil
  · intro a ha
    unfold bareL at ha
    obtain ⟨b, hb, rfl⟩ := List.mem_map.mp ha
    exact (h b hb).of_le (natAbs_fdiv_le (barS_dvd hb) (barS_ne hp))
theorem Sz.low {N k m : Nat} {row other : List Int} {f : Int} (h : Sz N row) (hf : Lt2 k f) (ho : Sz m other) (hk : k + m ≤ N) : Sz (N + 1) (lowL row other f) := by
  intro a ha
  unfold lowL at ha
  rcases List.mem_append.mp ha with ha | ha
  · exact (h a (List.mem_of_mem_take ha)).mono (Nat.le_succ _)
  · have ha := List.dropLast_subset _ ha
    obtain ⟨i, hi⟩ := List.getElem?_of_mem ha
    rw [List.getElem?_zipWith] at hi
    cases q1 : (row.drop (row.length - other.length))[i]? with
    | none => rw [q1] at hi; cases hi
    | some x =>
      cases q2 : other[i]? with
      | none => rw [q1, q2] at hi; cases hi
      | some y =>
        rw [q1, q2] at hi
        cases hi
        exact (h x (List.mem_of_mem_drop (List.mem_of_getElem? q1))).sub ((hf.mul (ho y (List.mem_of_getElem? q2))).mono hk)
theorem Sz.smul {n k : Nat} {p : List Int} {c : Int} (h : Sz n p) (hc : Lt2 k c) : Sz (n + k) (p.map fun a => a * c) := by
  intro a ha
  obtain ⟨b, hb, rfl⟩ := List.mem_map.mp ha
  exact (h b hb).mul hc
theorem Sz.remStep {N M : Nat} {left other : List Int} (h : Sz N left) (ho : Sz M other) (h0 : lastZ other ≠ 0) : Sz (N + M + 1) (remStep left other) := by
  have c0 := gcdI_pos (a := lastZ left) h0
  have f1 : Lt2 N ((lastZ left).fdiv (gcdI (lastZ left) (lastZ other))) := h.last.of_le (natAbs_fdiv_le (gcdI_dl _ _) (by omega))
  have f2 : Lt2 M ((lastZ other).fdiv (gcdI (lastZ left) (lastZ other))) := ho.last.of_le (natAbs_fdiv_le (gcdI_dr _ _) (by omega))
  exact ((h.smul f2).low f1 ho (Nat.le_refl _)).trim
theorem Sz.slope {n k : Nat} {p : List Int} (h : Sz n p) (hl : p.length ≤ 2 ^ k) : Sz (k + n) (slopeL p) := by
  intro a ha
  unfold slopeL at ha
  obtain ⟨i, hi, rfl⟩ := List.mem_map.mp ha
  have hi := List.mem_range.mp hi
  exact Lt2.mul (n := k) (by unfold Lt2; omega) (h.getD _)
/-- every number at most m either way -/
def Bd (m : Nat) (p : List Int) : Prop := ∀ a ∈ p, a.natAbs ≤ m
theorem bd_add : ∀ {m k : Nat} {p q : List Int}, Bd m p → Bd k q → Bd (m + k) (addL p q)
  | m, k, [], q, _, h => fun a ha => Nat.le_trans (h a (by simpa [addL] using ha)) (Nat.le_add_left _ _)
  | m, k, b :: p, [], h, _ => fun a ha => Nat.le_trans (h a (by simpa [addL] using ha)) (Nat.le_add_right _ _)
  | m, k, b :: p, c :: q, h1, h2 => fun a ha => by
    rcases List.mem_cons.mp (show a ∈ (b + c) :: addL p q from ha) with rfl | ha
    · have x := h1 b List.mem_cons_self
      have y := h2 c List.mem_cons_self
      have := Int.natAbs_add_le b c
      omega
    · exact bd_add (fun x hx => h1 x (List.mem_cons_of_mem _ hx)) (fun x hx => h2 x (List.mem_cons_of_mem _ hx)) a ha
theorem bd_mul {m k : Nat} {q : List Int} (hq : Bd k q) : ∀ {p : List Int}, Bd m p → Bd (p.length * (m * k)) (mulL p q)
  | [], _ => fun a ha => by simp [mulL] at ha
  | b :: p, h => by
    have ih := bd_mul hq (p := p) fun x hx => h x (List.mem_cons_of_mem _ hx)
    have hb := h b List.mem_cons_self
    have h1 : Bd (m * k) (smul b q) := fun a ha => by
      unfold Rt.smul at ha
      obtain ⟨c, hc, rfl⟩ := List.mem_map.mp ha
      rw [Int.natAbs_mul]; exact Nat.mul_le_mul hb (hq c hc)
    have h2 : Bd (p.length * (m * k)) (0 :: mulL p q) := fun a ha => by
      rcases List.mem_cons.mp ha with rfl | ha
      · exact Nat.zero_le _
      · exact ih a ha
    have := bd_add h1 h2
    show Bd ((p.length + 1) * (m * k)) (addL (smul b q) (0 :: mulL p q))
    rw [Nat.succ_mul, Nat.add_comm]; exact this
theorem Bd.mono {m k : Nat} {p : List Int} (h : Bd m p) (hk : m ≤ k) : Bd k p := fun a ha => Nat.le_trans (h a ha) hk
theorem Bd.sz {n : Nat} {p : List Int} (h : Bd (2 ^ n) p) : Sz (n + 1) p := fun a ha => by
  have := h a ha
  unfold Lt2; rw [Nat.pow_succ]
  have := Nat.pow_pos (a := 2) (n := n) (by decide)
  omega
/-- factors of at most four numbers, each at most 2 ^ 30 -/
def Small (f : List Int) : Prop := f.length ≤ 4 ∧ Bd (2 ^ 30) f
theorem bd_small {f q : List Int} {n : Nat} (hf : Small f) (hq : Bd (2 ^ n) q) : Bd (2 ^ (n + 32)) (mulL f q) :=
  (bd_mul hq hf.2).mono (by
    have e : (2 : Nat) ^ (n + 32) = 4 * (2 ^ 30 * 2 ^ n) := by rw [Nat.pow_add]; have : (2 : Nat) ^ 32 = 4 * 2 ^ 30 := by decide
                                                               rw [this]; generalize (2 : Nat) ^ 30 = a; generalize (2 : Nat) ^ n = b; grind
    rw [e]; exact Nat.mul_le_mul_right _ hf.1)
theorem bd_mulN {f q : List Int} {n : Nat} (hf : Small f) (hq : Bd (2 ^ n) q) : ∀ e, Bd (2 ^ (n + 32 * e)) (mulN e f q)
  | 0 => hq
  | e + 1 => by
    have := bd_small hf (bd_mulN hf hq e)
    rw [show n + 32 * (e + 1) = n + 32 * e + 32 by omega]; exact this
/-- how many factors there are, one by one -/
def many : Facs → Nat
  | [] => 0
  | (_, e) :: r => e + 1 + many r
theorem bd_wL : ∀ {fs : Facs}, (∀ f ∈ fs, Small f.1) → Bd (2 ^ (32 * many fs)) (wL fs)
  | [], _ => fun a ha => by
    rw [List.mem_singleton.mp (show a ∈ [(1 : Int)] from ha)]; decide
  | (f, e) :: r, h => by
    have := bd_mulN (h (f, e) List.mem_cons_self) (bd_wL fun g hg => h g (List.mem_cons_of_mem _ hg)) (e + 1)
    rw [show 32 * many ((f, e) :: r) = 32 * many r + 32 * (e + 1) by simp only [many]; omega]; exact this
theorem bd_dL : ∀ {fs : Facs}, (∀ f ∈ fs, Small f.1) → Bd (2 ^ (32 * many fs)) (dL fs)
  | [], _ => fun a ha => by
    rw [List.mem_singleton.mp (show a ∈ [(1 : Int)] from ha)]; decide
  | (f, e) :: r, h => by
    have := bd_mulN (h (f, e) List.mem_cons_self) (bd_dL fun g hg => h g (List.mem_cons_of_mem _ hg)) e
    exact this.mono (Nat.pow_le_pow_right (by decide) (by simp only [many]; omega))
theorem bd_pL : ∀ {fs : Facs}, (∀ f ∈ fs, Small f.1) → Bd (2 ^ (32 * many fs)) (pL fs)
  | [], _ => fun a ha => by
    rw [List.mem_singleton.mp (show a ∈ [(1 : Int)] from ha)]; decide
  | (f, e) :: r, h => by
    have := bd_small (h (f, e) List.mem_cons_self) (bd_pL fun g hg => h g (List.mem_cons_of_mem _ hg))
    exact this.mono (Nat.pow_le_pow_right (by decide) (by simp only [many]; omega))
theorem len_mulN {f q : List Int} (hf : f ≠ []) (hq : q ≠ []) (h4 : f.length ≤ 4) : ∀ e, (mulN e f q).length ≤ q.length + 3 * e ∧ mulN e f q ≠ []
  | 0 => ⟨Nat.le_refl _, hq⟩
  | e + 1 => by
    obtain ⟨h1, h2⟩ := len_mulN hf hq h4 e
    have := mulL_len hf h2
    have hf0 := List.length_pos_iff.mpr hf
    have e2 : (mulN (e + 1) f q).length = (mulL f (mulN e f q)).length := rfl
    have := List.length_pos_iff.mpr h2
    refine ⟨by omega, fun z => ?_⟩
    rw [z] at e2; simp only [List.length_nil] at e2; omega
theorem len_wL : ∀ {fs : Facs}, Nice fs → (∀ f ∈ fs, Small f.1) → (wL fs).length ≤ 1 + 3 * many fs
  | _, .nil, _ => by decide
  | _, @Nice.cons f e r hf h2 _ _ t, h => by
    have ih := len_wL t fun g hg => h g (List.mem_cons_of_mem _ hg)
    have := (len_mulN (e := e + 1) (lastZ_ne hf.ne) (lastZ_ne t.w.ne) (h (f, e) List.mem_cons_self).1).1
    show (mulN (e + 1) f (wL r)).length ≤ _
    simp only [many]; omega
theorem len_pL : ∀ {fs : Facs}, Nice fs → (∀ f ∈ fs, Small f.1) → (pL fs).length ≤ 1 + 3 * fs.length
  | _, .nil, _ => by decide
  | _, @Nice.cons f e r hf h2 _ _ t, h => by
    have ih := len_pL t fun g hg => h g (List.mem_cons_of_mem _ hg)
    have hl := mulL_len (lastZ_ne hf.ne) (lastZ_ne t.p.ne)
    have := (h (f, e) List.mem_cons_self).1
    show (mulL f (pL r)).length ≤ _
    dsimp only at this
    rw [List.length_cons]; omega
theorem len_wpd {fs : Facs} (h : Nice fs) : (wL fs).length + 1 = (pL fs).length + (dL fs).length := by
  have e : wL fs = mulL (pL fs) (dL fs) := eq_of_same h.w.ne (h.p.mul h.d).ne fun i => same_of i (N := 0) fun n _ => by rw [ev_wL, ev_mulL]
  rw [e]; exact mulL_len (lastZ_ne h.p.ne) (lastZ_ne h.d.ne)
end Rt

namespace Rt
open PySem PySem.Spec PyProof.Rows L2 Evl
/-! the steps that need no thought; «walk_at "ev"» goes on till it is stuck -/
local macro_rules | `(tactic| walk_at "rt1") => `(tactic| first
  | ((with_reducible show _ = true → ED _ _ _ _); intro _) | ((with_reducible show _ = false → ED _ _ _ _); intro _) | ((with_reducible show _ = true → TD _ _ _ _); intro _) | ((with_reducible show _ = false → TD _ _ _ _); intro _)
  | with_reducible exact ed_int | with_reducible exact ed_bl | with_reducible exact ed_non | with_reducible exact ad_nil | with_reducible exact od_none | with_reducible exact td_yes
  | ((with_reducible apply ed_var); exact rfl)
  | (with_reducible apply ad_cons)
  | (with_reducible apply td_test) | (with_reducible apply td_truth) | (with_reducible apply td_not) | (with_reducible apply td_and) | (with_reducible apply td_or)
  | (with_reducible apply ed_add) | (with_reducible apply ed_sub) | (with_reducible apply ed_mul) | (with_reducible apply ed_mod) | (with_reducible apply ed_fdivP) | (with_reducible apply ed_pow) | (with_reducible apply ed_neg)
  | (with_reducible apply ed_lt) | (with_reducible apply ed_le) | (with_reducible apply ed_gt) | (with_reducible apply ed_ge)
  | (with_reducible apply ed_eqD) | (with_reducible apply ed_neD)
  | (with_reducible apply ed_ix) | (with_reducible apply ed_len) | (with_reducible apply ed_abs) | (with_reducible apply ed_gcd) | (with_reducible apply ed_isi)
  | (with_reducible apply ed_tup) | (with_reducible apply ed_tuple) | (with_reducible apply ed_andV) | (with_reducible apply ed_orV) | (with_reducible apply ed_notV)
  | (with_reducible apply od_some)
  | (with_reducible apply ef_lst) | (with_reducible apply ef_list) | (with_reducible apply ef_sl) | (with_reducible apply ef_cat)
  | (with_reducible apply EF.ed; with_reducible apply ef_lst) | (with_reducible apply EF.ed; with_reducible apply ef_list) | (with_reducible apply EF.ed; with_reducible apply ef_sl) | (with_reducible apply EF.ed; with_reducible apply ef_cat)
  | (with_reducible apply ed_call)
  | ((with_reducible show SeqD _ _); first | exact SeqD.l _ | exact SeqD.t _ | assumption)
  | ((with_reducible show Truth _ _); first | exact Truth.bool _ | exact Truth.int _ | exact Truth.l _ | exact Truth.t _)
  | ((with_reducible show SeqAt.shaped _ = true); exact rfl)
  | ((with_reducible show atI _ _ = some _); first | exact rfl | assumption)
  | ((with_reducible show kitB _ _ = some _); first | exact rfl | decide +kernel)
  | ((with_reducible show List.length _ = _); rfl)
  | ((with_reducible show List.length _ ≤ 100000); first | exact Nat.le_of_ble_eq_true rfl | (simp; done) | (simp; omega)))
local macro_rules | `(tactic| walk_at "ev") => `(tactic| repeat' walk_at "rt1")
/-! ### promises of the laws' own defs over rows, parts and pegs -/
/-- the sum of the terms of the first k, each brought to one bottom -/
def term (t b : Int) (xs : List Int) (k : Nat) : Int := xs.getD k 0 * t ^ k * b ^ (xs.length - 1 - k)
def tot (t b : Int) (xs : List Int) : Nat → Int
  | 0 => 0
  | k + 1 => tot t b xs k + term t b xs k
theorem hor_snd (t b : Int) : ∀ xs : List Int, (hor t b xs).2 = b ^ xs.length
  | [] => by simp [hor]
  | x :: xs => by
    show (hor t b xs).2 * b = b ^ (xs.length + 1)
    rw [hor_snd t b xs, Int.pow_succ]
theorem tot_cons (t b x : Int) (xs : List Int) : ∀ k, tot t b (x :: xs) (k + 1) = x * b ^ xs.length + t * tot t b xs k
  | 0 => by
    show 0 + x * t ^ 0 * b ^ (xs.length + 1 - 1 - 0) = x * b ^ xs.length + t * 0
    rw [Int.pow_zero, Int.mul_one, Int.mul_zero, Int.zero_add, Int.add_zero]
    rfl
  | k + 1 => by
    show tot t b (x :: xs) (k + 1) + term t b (x :: xs) (k + 1) = _
    rw [tot_cons t b x xs k]
    have e : term t b (x :: xs) (k + 1) = t * term t b xs k := by
      show xs.getD k 0 * t ^ (k + 1) * b ^ (xs.length + 1 - 1 - (k + 1)) = t * (xs.getD k 0 * t ^ k * b ^ (xs.length - 1 - k))
      have e2 : xs.length + 1 - 1 - (k + 1) = xs.length - 1 - k := by omega
      rw [e2, Int.pow_succ]
      generalize xs.getD k 0 = a
      generalize t ^ k = p
      generalize b ^ (xs.length - 1 - k) = q
      grind
    rw [e, Int.add_assoc, ← Int.mul_add]; rfl
theorem hor_tot (t b : Int) : ∀ xs : List Int, (hor t b xs).1 = tot t b xs xs.length
  | [] => rfl
  | x :: xs => by
    show (hor t b xs).1 * t + x * (hor t b xs).2 = tot t b (x :: xs) (xs.length + 1)
    rw [tot_cons, hor_tot t b xs, hor_snd, Int.mul_comm t, Int.add_comm]
/-- one number of a row, multiplied out: k times by A, then by B -/
def facP (A B : List Int) (x : Int) (k : Nat) : Nat → List Int
  | 0 => [x]
  | j + 1 => mulL (facP A B x k j) (if j < k then A else B)
/-- the sum of the first K of them -/
def seenK (A B : List Int) (xs : List Int) : Nat → List Int
  | 0 => List.replicate xs.length 0
  | K + 1 => addL (seenK A B xs K) (facP A B (xs.getD K 0) K (xs.length - 1))
/-- the row as it is seen from the stretch -/
def seenL (u v : Int × Int) (xs : List Int) : List Int := seenK [u.1 * v.2, v.1 * u.2] [u.2 * v.2, u.2 * v.2] xs xs.length
/-- how often the sign changes, noughts left out; the last one seen -/
def chg : Int → List Int → Nat
  | _, [] => 0
  | l, x :: xs => (if x * l < 0 then 1 else 0) + chg (if x = 0 then l else x) xs
def turnsL (u v : Int × Int) (xs : List Int) : Nat := chg 0 (seenL u v xs)
theorem facP_len {A B : List Int} (hA : A.length = 2) (hB : B.length = 2) (x : Int) (k : Nat) : ∀ j, (facP A B x k j).length = j + 1
  | 0 => rfl
  | j + 1 => by
    have ih := facP_len hA hB x k j
    have hne : facP A B x k j ≠ [] := by intro z; rw [z] at ih; simp at ih
    show (mulL (facP A B x k j) (if j < k then A else B)).length = _
    have h2 : (if j < k then A else B).length = 2 := by split <;> assumption
    have := mulL_len hne (q := if j < k then A else B) (by intro z; rw [z] at h2; simp at h2)
    omega
theorem ev_facP (A B : List Int) (x : Int) (k : Nat) (y : Int) : ∀ j, ev (facP A B x k j) y = x * ev A y ^ (min j k) * ev B y ^ (j - k)
  | 0 => by simp [facP, ev]
  | j + 1 => by
    show ev (mulL (facP A B x k j) (if j < k then A else B)) y = _
    rw [ev_mulL, ev_facP A B x k y j]
    by_cases h : j < k
    · rw [if_pos h, Nat.min_eq_left (by omega : j + 1 ≤ k), Nat.min_eq_left (by omega : j ≤ k), show j + 1 - k = 0 by omega, show j - k = 0 by omega, Int.pow_succ]
      generalize ev A y ^ j = p; grind
    · rw [if_neg h, Nat.min_eq_right (by omega : k ≤ j + 1), Nat.min_eq_right (by omega : k ≤ j), show j + 1 - k = (j - k) + 1 by omega, Int.pow_succ]
      generalize ev B y ^ (j - k) = p; generalize ev A y ^ k = q; grind
theorem ev_rep (n : Nat) (x : Int) : ev (List.replicate n 0) x = 0 := by
  induction n with
  | zero => rfl
  | succ n ih => rw [List.replicate_succ]; show 0 + x * ev (List.replicate n 0) x = 0; rw [ih]; omega
theorem seenK_len {A B : List Int} (hA : A.length = 2) (hB : B.length = 2) (xs : List Int) : ∀ K, K ≤ xs.length → (seenK A B xs K).length = xs.length
  | 0, _ => List.length_replicate
  | K + 1, h => by
    show (addL _ _).length = _
    rw [addL_len, seenK_len hA hB xs K (by omega), facP_len hA hB]; omega
theorem ev_seenK (A B xs : List Int) (y : Int) : ∀ K, K ≤ xs.length → ev (seenK A B xs K) y = tot (ev A y) (ev B y) xs K
  | 0, _ => ev_rep _ y
  | K + 1, h => by
    show ev (addL _ _) y = tot _ _ xs K + term _ _ xs K
    rw [ev_addL, ev_seenK A B xs y K (by omega), ev_facP, Nat.min_eq_right (by omega : K ≤ xs.length - 1)]; rfl
theorem seen_len (u v : Int × Int) (xs : List Int) : (seenL u v xs).length = xs.length := seenK_len rfl rfl xs _ (Nat.le_refl _)
/-- the row seen from the stretch, at y: the row at (low + high y) : (1 + y), brought to one bottom -/
theorem seen_ev (u v : Int × Int) (xs : List Int) (y : Int) : ev (seenL u v xs) y = (hor (u.1 * v.2 + y * (v.1 * u.2)) (u.2 * v.2 + y * (u.2 * v.2)) xs).1 := by
  unfold seenL
  rw [ev_seenK _ _ _ _ _ (Nat.le_refl _), hor_tot]
  simp [ev]
def F__law_smallest (ds : List PyData) (r : Res) : Prop := ∃ (d : PyData) (xs : List Int) (n : Nat), ds = [d] ∧ SeqD d (rD xs) ∧ lastZ xs ≠ 0 ∧ xs.length ≤ 1000 ∧ Sz n xs ∧ n ≤ 8000 ∧ r = .rf (rD (bareL xs))
def F__law_value (ds : List PyData) (r : Res) : Prop := ∃ (d : PyData) (xs : List Int) (t b : Int) (n m : Nat), ds = [d, pD (t, b)] ∧ SeqD d (rD xs) ∧ xs.length ≤ 1000 ∧ Sz n xs ∧ Lt2 m t ∧ Lt2 m b ∧ 1 ≤ m ∧ n + (xs.length + 2) * (m + 1) ≤ 100000000 ∧ r = .rt (.int (hor t b xs).1)
def F__law_by (ds : List PyData) (r : Res) : Prop := ∃ (p q : List Int) (n m : Nat), ds = [.list (rD p), .list (rD q)] ∧ p ≠ [] ∧ q ≠ [] ∧ p.length ≤ 1000 ∧ q.length ≤ 1000 ∧ Sz n p ∧ Sz m q ∧ n + m ≤ 100000000 ∧ r = .rf (rD (mulL p q))
def F__law_seen (ds : List PyData) (r : Res) : Prop := ∃ (d : PyData) (xs : List Int) (u v : Int × Int) (n m : Nat), ds = [d, pD u, pD v] ∧ SeqD d (rD xs) ∧ xs.length ≤ 1000 ∧ Bd (2 ^ n) xs ∧ Lt2 m u.1 ∧ Lt2 m u.2 ∧ Lt2 m v.1 ∧ Lt2 m v.2 ∧ m ≤ 10000 ∧ n ≤ 100000 ∧ r = .rt (.list (rD (seenL u v xs)))
def F__law_turns (ds : List PyData) (r : Res) : Prop := ∃ (d : PyData) (xs : List Int) (u v : Int × Int) (n m : Nat), ds = [d, pD u, pD v] ∧ SeqD d (rD xs) ∧ xs.length ≤ 100 ∧ Bd (2 ^ n) xs ∧ Lt2 m u.1 ∧ Lt2 m u.2 ∧ Lt2 m v.1 ∧ Lt2 m v.2 ∧ m ≤ 10000 ∧ n ≤ 100000 ∧ r = .rt (.int (turnsL u v xs))
def F__law_is_part (ds : List PyData) (r : Res) : Prop := ∃ u : Int × Int, ds = [pD u] ∧ 0 < u.2 ∧ Lt2 8000 u.2 ∧ Int.gcd u.1 u.2 = 1 ∧ r = .rt (.bool true)
abbrev sp__law_smallest (K : PySem.W.Frag) : Sp := spD K 1 F__law_smallest
abbrev sp__law_value (K : PySem.W.Frag) : Sp := spD K 2 F__law_value
abbrev sp__law_by (K : PySem.W.Frag) : Sp := spD K 2 F__law_by
abbrev sp__law_seen (K : PySem.W.Frag) : Sp := spD K 3 F__law_seen
abbrev sp__law_turns (K : PySem.W.Frag) : Sp := spD K 3 F__law_turns
abbrev sp__law_is_part (K : PySem.W.Frag) : Sp := spD K 1 F__law_is_part
def t__law_smallest (K : PySem.W.Frag) : TS := (tSeq (tAsg (tC (.int 0)) (gName 1))
  (tSeq (tFor (iSeq K (tVar 0)) (gName 2) (tAsg (tCall (sp__law_divisor K) [] E0 (tCons (tVar 1) (tCons (tVar 2) tNil))) (gName 1)))
  (tSeq (tIfS (tTest (tOp (rI0 fun i j => .bl (decide (i < j))) (tOp (rIx K) (tVar 0) (tUn (rU fun i => .int (-i)) (tC (.int 1)))) (tC (.int 0)))) (tAsg (tOp (rI0 fun i j => .int (i - j)) (tC (.int 0)) (tVar 1)) (gName 1)) tNext)
  (tRet (tLc (iSeq K (tVar 0)) (gName 2) tYes (tOp (rI CDivQ fun i j => .int (i.fdiv j)) (tVar 2) (tVar 1)) [2])))))
abbrev N__law_smallest : List Str := ["_law_row", "_law_by_here", "_law_one"]
def t__law_value (K : PySem.W.Frag) : TS := (tSeq (tAsg (tC (.int 0)) (gName 2))
  (tSeq (tAsg (tC (.int 1)) (gName 3))
  (tSeq (tFor (iRng3 (tCons (tOp (rI0 fun i j => .int (i - j)) (tLen K (tVar 0)) (tC (.int 1))) (tCons (tUn (rU fun i => .int (-i)) (tC (.int 1))) (tCons (tUn (rU fun i => .int (-i)) (tC (.int 1))) tNil)))) (gName 4) (tSeq (tAsg (tOp (rI0 fun i j => .int (i + j)) (tOp (rI CMulX fun i j => .int (i * j)) (tVar 2) (tOp (rIx K) (tVar 1) (tC (.int 0)))) (tOp (rI CMulX fun i j => .int (i * j)) (tOp (rIx K) (tVar 0) (tVar 4)) (tVar 3))) (gName 2))
  (tAsg (tOp (rI CMulX fun i j => .int (i * j)) (tVar 3) (tOp (rIx K) (tVar 1) (tC (.int 1)))) (gName 3))))
  (tRet (tVar 2)))))
abbrev N__law_value : List Str := ["_law_row", "_law_at", "_law_total", "_law_scale", "_law_k"]
def t__law_by (K : PySem.W.Frag) : TS := (tSeq (tAsg (tLc (iRng1 (tCons (tOp (rI0 fun i j => .int (i - j)) (tOp (rI0 fun i j => .int (i + j)) (tLen K (tVar 0)) (tLen K (tVar 1))) (tC (.int 1))) tNil)) (gName 3) tYes (tC (.int 0)) [3]) (gName 2))
  (tSeq (tFor (iRng1 (tCons (tLen K (tVar 0)) tNil)) (gName 3) (tFor (iRng1 (tCons (tLen K (tVar 1)) tNil)) (gName 4) (tAsg (tOp (rI0 fun i j => .int (i + j)) (tOp (rIx K) (tVar 2) (tOp (rI0 fun i j => .int (i + j)) (tVar 3) (tVar 4))) (tOp (rI CMulX fun i j => .int (i * j)) (tOp (rIx K) (tVar 0) (tVar 3)) (tOp (rIx K) (tVar 1) (tVar 4)))) (gSub (tVar 2) (tOp (rI0 fun i j => .int (i + j)) (tVar 3) (tVar 4)) rSetL))))
  (tRet (tVar 2))))
abbrev N__law_by : List Str := ["_law_row", "_law_other", "_law_found", "_law_k", "_law_j"]
def t__law_seen (K : PySem.W.Frag) : TS := (tSeq (tAsg (tLc (iSeq K (tVar 0)) (gName 7) tYes (tC (.int 0)) [7]) (gName 3))
  (tSeq (tFor (iRng1 (tCons (tLen K (tVar 0)) tNil)) (gName 4) (tSeq (tAsg (tLst (tCons (tOp (rIx K) (tVar 0) (tVar 4)) tNil)) (gName 5))
  (tSeq (tFor (iRng1 (tCons (tOp (rI0 fun i j => .int (i - j)) (tLen K (tVar 0)) (tC (.int 1))) tNil)) (gName 6) (tIfS (tTest (tOp (rI0 fun i j => .bl (decide (i < j))) (tVar 6) (tVar 4))) (tAsg (tCall (sp__law_by K) [] E0 (tCons (tVar 5) (tCons (tLst (tCons (tOp (rI CMulX fun i j => .int (i * j)) (tOp (rIx K) (tVar 1) (tC (.int 0))) (tOp (rIx K) (tVar 2) (tC (.int 1)))) (tCons (tOp (rI CMulX fun i j => .int (i * j)) (tOp (rIx K) (tVar 2) (tC (.int 0))) (tOp (rIx K) (tVar 1) (tC (.int 1)))) tNil))) tNil))) (gName 5)) (tAsg (tCall (sp__law_by K) [] E0 (tCons (tVar 5) (tCons (tLst (tCons (tOp (rI CMulX fun i j => .int (i * j)) (tOp (rIx K) (tVar 1) (tC (.int 1))) (tOp (rIx K) (tVar 2) (tC (.int 1)))) (tCons (tOp (rI CMulX fun i j => .int (i * j)) (tOp (rIx K) (tVar 1) (tC (.int 1))) (tOp (rIx K) (tVar 2) (tC (.int 1)))) tNil))) tNil))) (gName 5))))
  (tAsg (tLc (iRng1 (tCons (tLen K (tVar 0)) tNil)) (gName 6) tYes (tOp (rI0 fun i j => .int (i + j)) (tOp (rIx K) (tVar 3) (tVar 6)) (tOp (rIx K) (tVar 5) (tVar 6))) [6]) (gName 3)))))
  (tRet (tVar 3))))
abbrev N__law_seen : List Str := ["_law_row", "_law_low", "_law_high", "_law_found", "_law_k", "_law_made", "_law_j", "_law_one"]
def t__law_turns (K : PySem.W.Frag) : TS := (tSeq (tAsg (tC (.int 0)) (gName 3))
  (tSeq (tAsg (tC (.int 0)) (gName 4))
  (tSeq (tFor (iSeq K (tCall (sp__law_seen K) [] E0 (tCons (tVar 0) (tCons (tVar 1) (tCons (tVar 2) tNil))))) (gName 5) (tSeq (tIfS (tTest (tOp (rI0 fun i j => .bl (decide (i < j))) (tOp (rI CMulX fun i j => .int (i * j)) (tVar 5) (tVar 4)) (tC (.int 0)))) (tAsg (tOp (rI0 fun i j => .int (i + j)) (tVar 3) (tC (.int 1))) (gName 3)) tNext)
  (tIfS (tTest (tOp (rNeD K) (tVar 5) (tC (.int 0)))) (tAsg (tVar 5) (gName 4)) tNext)))
  (tRet (tVar 3)))))
abbrev N__law_turns : List Str := ["_law_row", "_law_low", "_law_high", "_law_count", "_law_last", "_law_one"]
def t__law_is_part (K : PySem.W.Frag) : TS := (tSeq (tIfS (tOr (tNot (tTruth K (tCB (rIsi K) (tCons (tVar 0) (tCons (tC (.ty "tuple")) tNil))))) (tOr (tTest (tOp (rNeD K) (tLen K (tVar 0)) (tC (.int 2)))) (tOr (tNot (tTruth K (tCall (sp__law_whole K) [] E0 (tCons (tOp (rIx K) (tVar 0) (tC (.int 0))) tNil)))) (tNot (tTruth K (tCall (sp__law_whole K) [] E0 (tCons (tOp (rIx K) (tVar 0) (tC (.int 1))) tNil))))))) (tRet (tC (.bl false))) tNext)
  (tRet (tAndV (tOp (rI0 fun i j => .bl (decide (j < i))) (tOp (rIx K) (tVar 0) (tC (.int 1))) (tC (.int 0))) (tOp (rEqD K) (tCall (sp__law_part K) [] E0 (tCons (tOp (rIx K) (tVar 0) (tC (.int 0))) (tCons (tOp (rIx K) (tVar 0) (tC (.int 1))) tNil))) (tVar 0)))))
abbrev N__law_is_part : List Str := ["_law_found"]
theorem getD_addL' (p q : List Int) (i : Nat) : (addL p q).getD i 0 = p.getD i 0 + q.getD i 0 := getD_addL p q i
theorem rD_last' {xs : List Int} (h : xs ≠ []) : atI (rD xs) (-1) = some (.int (lastZ xs)) := by
  rw [rD_last h]; unfold lastZ; rw [List.getLast?_eq_some_getLast h]; rfl
theorem cont_snoc : ∀ (p : List Int) (a : Int), cont (p ++ [a]) = Nat.gcd (cont p) a.natAbs
  | [], a => by simp [cont]
  | b :: p, a => by
    show Nat.gcd b.natAbs (cont (p ++ [a])) = Nat.gcd (Nat.gcd b.natAbs (cont p)) a.natAbs
    rw [cont_snoc p a, Nat.gcd_assoc]
theorem take_snoc {xs : List Int} {i : Nat} {a : Int} (h : xs[i]? = some a) : xs.take (i + 1) = xs.take i ++ [a] := by rw [List.take_succ, h]; rfl
theorem ints_get' {lo : Int} {n i : Nat} {d : PyData} (h : (intsD lo n)[i]? = some d) : i < n ∧ d = .int (lo + (i : Nat)) := by
  unfold intsD at h
  rw [List.getElem?_map] at h
  by_cases hi : i < n
  · rw [List.getElem?_range hi] at h; cases h; exact ⟨hi, rfl⟩
  · rw [List.getElem?_eq_none_iff.mpr (by rw [List.length_range]; omega)] at h; cases h
theorem ints_len' (lo : Int) (n : Nat) : (intsD lo n).length = n := by unfold intsD; rw [List.length_map, List.length_range]
theorem mul_snoc (a : Int) (q : List Int) : ∀ (p : List Int) (t : Nat), (mulL (p ++ [a]) q).getD t 0 = (mulL p q).getD t 0 + (if p.length ≤ t then a * q.getD (t - p.length) 0 else 0)
  | [], t => by
    show (addL (smul a q) [0]).getD t 0 = ([] : List Int).getD t 0 + (if 0 ≤ t then a * q.getD (t - 0) 0 else 0)
    rw [getD_addL, getD_smul, if_pos (Nat.zero_le _), Nat.sub_zero]
    cases t <;> simp
  | b :: p, 0 => by
    show (addL (smul b q) (0 :: mulL (p ++ [a]) q)).getD 0 0 = (addL (smul b q) (0 :: mulL p q)).getD 0 0 + (if p.length + 1 ≤ 0 then _ else 0)
    rw [getD_addL, getD_addL, if_neg (by omega)]
    simp
  | b :: p, t + 1 => by
    show (addL (smul b q) (0 :: mulL (p ++ [a]) q)).getD (t + 1) 0 = (addL (smul b q) (0 :: mulL p q)).getD (t + 1) 0 + (if p.length + 1 ≤ t + 1 then a * q.getD (t + 1 - (p.length + 1)) 0 else 0)
    rw [getD_addL, getD_addL, List.getD_cons_succ, List.getD_cons_succ, mul_snoc a q p t]
    have e : t + 1 - (p.length + 1) = t - p.length := by omega
    rw [e]
    by_cases h : p.length ≤ t
    · rw [if_pos h, if_pos (by omega)]; omega
    · rw [if_neg h, if_neg (by omega)]; omega
theorem getD_set {xs : List Int} {n t : Nat} {v : Int} (h : n < xs.length) : (xs.set n v).getD t 0 = if t = n then v else xs.getD t 0 := by
  rw [List.getD_eq_getElem?_getD, List.getD_eq_getElem?_getD]
  by_cases e : n = t
  · subst e
    rw [List.getElem?_set_self h, if_pos rfl]; rfl
  · rw [List.getElem?_set_ne e, if_neg (fun z => e z.symm)]
theorem take_getD {p : List Int} {i : Nat} (h : i < p.length) : p.take (i + 1) = p.take i ++ [p.getD i 0] := by
  have : p[i]? = some (p.getD i 0) := by rw [List.getD_eq_getElem?_getD, List.getElem?_eq_getElem h]; rfl
  rw [List.take_succ, this]; rfl
section
variable {K : PySem.W.Frag}
def downD (n : Nat) : List PyData := (List.range n).map fun k : Nat => .int ((n : Int) - 1 + (k : Nat) * (-1))
theorem downD_len (n : Nat) : (downD n).length = n := by unfold downD; rw [List.length_map, List.length_range]
theorem downD_get {n i : Nat} {d : PyData} (h : (downD n)[i]? = some d) : i < n ∧ d = .int ((n : Int) - 1 + (i : Nat) * (-1)) := by
  unfold downD at h
  rw [List.getElem?_map] at h
  by_cases hi : i < n
  · rw [List.getElem?_range hi] at h; cases h; exact ⟨hi, rfl⟩
  · rw [List.getElem?_eq_none_iff.mpr (by rw [List.length_range]; omega)] at h; cases h
theorem id_down {ρ : Rho} {ta : TA} {n : Nat} (h : AD K ta ρ [.int ((n : Int) - 1), .int (-1), .int (-1)]) (hn : n ≤ 100000) : ID K (iRng3 ta) ρ (downD n) := fun G H σ I R q => h G H σ I _ fun vs G2 H2 s hv => by
  cases hv with
  | cons a b =>
    cases b with
    | cons b c =>
      cases c with
      | cons c e =>
        cases e
        cases dp_int a; cases dp_int b; cases dp_int c
        refine ⟨(n : Int) - 1, -1, -1, n, rfl, ⟨by decide, by decide, ?_, ?_⟩, q _ G2 H2 s ?_⟩
        · have e : PySem.Builtin.Range.rangeSize ((n : Int) - 1) (-1) (-1) = n := by
            unfold PySem.Builtin.Range.rangeSize
            simp
            omega
          unfold PySem.Builtin.Range.small
          rw [e]
          simp [PySem.Builtin.Range.rangeFitsLong]
          omega
        · unfold PySem.Builtin.Range.rangeSize
          simp
          omega
        · refine ⟨fun i G' H' e1 e2 hi => by rw [downD_len] at hi; exact hi, fun i d G' H' e1 e2 hi => ?_⟩
          obtain ⟨hi', rfl⟩ := downD_get hi
          refine ⟨hi', fun x H2 hy => ?_⟩
          obtain ⟨rfl, rfl⟩ := hy
          exact ⟨G', Step.refl e2, .int _⟩
theorem pure__law_smallest (ds : List PyData) (r : Res) (h : F__law_smallest ds r) (B0 B : Hp) : SD K B0 B (t__law_smallest K) (startR N__law_smallest ds) (fin r) := by
  obtain ⟨d, xs, n, rfl, hs, hz, hl, hx, hn, rfl⟩ := h
  have hne := lastZ_ne hz
  have el : atI (rD xs) (-1) = some (.int (lastZ xs)) := rD_last' hne
  have bn := barS_ne hz
  have bl : Lt2 8000 (barS xs) := (hx.last.of_le (Nat.le_of_dvd (by omega) (Int.natAbs_dvd_natAbs.mpr (barS_dvd (by
    unfold lastZ; rw [List.getLast?_eq_some_getLast hne]; exact List.getLast_mem hne))))).mono hn
  unfold t__law_smallest
  apply sd_seq; apply sd_set; (case h => walk_at "ev" )
  refine sd_seq (sd_for (id_seq (ed_var rfl) hs) (fun i ρ => ∃ z, ρ = [some (.d d), some (.d (.int (cont (xs.take i) : Int))), z]) ⟨none, rfl⟩ ?_ ?_)
  · rintro i e ρ' hi ⟨z, rfl⟩
    obtain ⟨a, ha, rfl⟩ := rD_get hi
    refine ⟨_, gd_name, ?_⟩
    refine sd_set (ed_call (ad_cons (ed_var rfl) (ad_cons (ed_var rfl) ad_nil)) ⟨_, _, rfl, rfl⟩ rfl) ⟨some (.d (.int a)), ?_⟩
    rw [take_snoc ha, cont_snoc]
    rfl
  · rintro ρ' ⟨z, rfl⟩
    show SD K B0 B _ _ _
    rw [rD_len, List.take_length]
    have fin2 : ∀ z, SD K B0 B (tRet (tLc (iSeq K (tVar 0)) (gName 2) tYes (tOp (rI CDivQ fun i j => V.int (i.fdiv j)) (tVar 2) (tVar 1)) [2])) [some (.d d), some (.d (.int (barS xs))), z] (fin (.rf (rD (bareL xs)))) := fun z => by
      refine sd_retF (ds := rD (bareL xs)) ?_ rfl
      refine (ef_lc (ds := rD xs) (fun i => .int ((xs.getD i 0).fdiv (barS xs))) (id_seq (ed_var rfl) hs) (by rw [rD_len]; omega) fun i e hi => ?_).cast ?_
      · obtain ⟨a, ha, rfl⟩ := rD_get hi
        have ea : xs.getD i 0 = a := by rw [List.getD_eq_getElem?_getD, ha]; rfl
        refine ⟨_, gc_name, ?_⟩
        rw [ea]
        exact ed_fdivP (ed_var rfl) (ed_var rfl) (bl.cd bn (by decide))
      · rw [rD_len]
        unfold rD bareL
        rw [List.map_map]
        exact map_range fun i a ha => by rw [List.getD_eq_getElem?_getD, ha]; rfl
    apply sd_seq; apply sd_if; (case h => walk_at "ev" <;> (first | (exact el) | walk_at "rt1")); all_goals intro hb
    · have hb : lastZ xs < 0 := of_decide_eq_true hb
      have es : barS xs = 0 - (cont xs : Int) := by unfold barS; rw [if_pos hb]; omega
      apply sd_set; (case h => walk_at "ev" )
      rw [← es]
      exact fin2 z
    · have hb : ¬ lastZ xs < 0 := of_decide_eq_false hb
      have es : barS xs = (cont xs : Int) := by unfold barS; rw [if_neg hb]
      rw [← es]
      exact sd_next (fin2 z)
theorem pure__law_value (ds : List PyData) (r : Res) (h : F__law_value ds r) (B0 B : Hp) : SD K B0 B (t__law_value K) (startR N__law_value ds) (fin r) := by
  obtain ⟨d, xs, t, b, n, m, rfl, hs, hl, hx, ht, hb, hm, hz, rfl⟩ := h
  unfold t__law_value
  apply sd_seq; apply sd_set; (case h => walk_at "ev" )
  apply sd_seq; apply sd_set; (case h => walk_at "ev" )
  refine sd_seq (sd_for (id_down (n := xs.length) (ad_cons (ed_sub (ed_lenR (ed_var rfl) hs) ed_int) (ad_cons (ed_neg ed_int) (ad_cons (ed_neg ed_int) ad_nil))) (by omega)) (fun i ρ => ∃ z, ρ = [some (.d d), some (.d (pD (t, b))), some (.d (.int (hor t b (xs.drop (xs.length - i))).1)), some (.d (.int (hor t b (xs.drop (xs.length - i))).2)), z]) ⟨none, ?_⟩ ?_ ?_)
  · rw [Nat.sub_zero, List.drop_length]; rfl
  · rintro i e ρ' hi ⟨z, rfl⟩
    obtain ⟨hi, rfl⟩ := downD_get hi
    refine ⟨_, gd_name, ?_⟩
    have hlt : xs.length - 1 - i < xs.length := by omega
    have ek : hor t b (xs.drop (xs.length - (i + 1))) = ((hor t b (xs.drop (xs.length - i))).1 * t + xs.getD (xs.length - 1 - i) 0 * (hor t b (xs.drop (xs.length - i))).2, (hor t b (xs.drop (xs.length - i))).2 * b) := by
      rw [show xs.length - (i + 1) = xs.length - 1 - i by omega, List.drop_eq_getElem_cons hlt, show xs.length - 1 - i + 1 = xs.length - i by omega]
      have : xs.getD (xs.length - 1 - i) 0 = xs[xs.length - 1 - i] := by rw [List.getD_eq_getElem?_getD, List.getElem?_eq_getElem hlt]; rfl
      rw [this]; rfl
    have ea : atI (rD xs) ((xs.length : Int) - 1 + (i : Nat) * (-1)) = some (.int (xs.getD (xs.length - 1 - i) 0)) := by
      have := rD_at (xs := xs) (k := (xs.length : Int) - 1 + (i : Nat) * (-1)) (by omega) (by omega)
      rwa [show ((xs.length : Int) - 1 + (i : Nat) * (-1)).toNat = xs.length - 1 - i by omega] at this
    obtain ⟨b1, b2⟩ := hor_lt (n := n) ht hb hm (xs := xs.drop (xs.length - i)) fun y hy => hx y (List.mem_of_mem_drop hy)
    have hll : (xs.drop (xs.length - i)).length = i := by rw [List.length_drop]; omega
    rw [hll] at b1 b2
    have e1 : i * (m + 1) ≤ xs.length * (m + 1) := Nat.mul_le_mul_right _ (by omega)
    have e2 : i * (m + 1) = i * m + i := Nat.mul_succ _ _
    have e3 : (xs.length + 2) * (m + 1) = xs.length * (m + 1) + 2 * (m + 1) := Nat.add_mul _ _ _
    have sq : SeqD (pD (t, b)) [.int t, .int b] := SeqD.t _
    refine sd_seq (sd_set (ed_add (ed_mul (ed_var rfl) (ed_ix (ed_var rfl) sq ed_int rfl) (b1.cm ht (by omega))) (ed_mul (ed_ix (ed_var rfl) hs (ed_var rfl) ea) (ed_var rfl) ((hx.getD _).cm b2 (by omega)))) ?_)
    refine sd_set (ed_mul (ed_var rfl) (ed_ix (ed_var rfl) sq ed_int rfl) (b2.cm hb (by omega))) ⟨_, by rw [ek]; rfl⟩
  · rintro ρ' ⟨z, rfl⟩
    show SD K B0 B _ _ _
    rw [downD_len, Nat.sub_self, List.drop_zero]
    exact sd_ret (ed_var rfl) rfl
theorem pure__law_by (ds : List PyData) (r : Res) (h : F__law_by ds r) (B0 B : Hp) : SD K B0 B (t__law_by K) (startR N__law_by ds) (fin r) := by
  obtain ⟨p, q, sn, sm, rfl, hp, hq, lp, lq, sp, sq, hnm, rfl⟩ := h
  have p0 := List.length_pos_iff.mpr hp
  have q0 := List.length_pos_iff.mpr hq
  have lm := mulL_len hp hq
  unfold t__law_by
  have lc : EF K (tLc (iRng1 (tCons (tOp (rI0 fun i j => .int (i - j)) (tOp (rI0 fun i j => .int (i + j)) (tLen K (tVar 0)) (tLen K (tVar 1))) (tC (.int 1))) tNil)) (gName 3) tYes (tC (.int 0)) [3]) (startR N__law_by [.list (rD p), .list (rD q)]) (rD (List.replicate (p.length + q.length - 1) 0)) := by
    refine (ef_lc (fun _ => .int 0) (id_rng1 (n := (p.length : Int) + q.length - 1) (ad_cons (ed_sub (ed_add (ed_lenR (ed_var rfl) (SeqD.l _)) (ed_lenR (ed_var rfl) (SeqD.l _))) ed_int) ad_nil) (by omega) (by omega)) (by rw [ints_len']; omega) fun i d hi => ⟨_, gc_name, ed_int⟩).cast ?_
    rw [ints_len', show ((p.length : Int) + q.length - 1).toNat = p.length + q.length - 1 by omega]
    unfold rD
    rw [List.map_replicate, List.eq_replicate_iff]
    refine ⟨by rw [List.length_map, List.length_range], fun b hb => ?_⟩
    obtain ⟨_, _, rfl⟩ := List.mem_map.mp hb
    rfl
  refine sd_seq (sd_setF lc ?_)
  refine sd_seq (sd_for (id_rng1 (n := (p.length : Int)) (ad_cons (ed_lenR (ed_var rfl) (SeqD.l _)) ad_nil) (by omega) (by omega)) (fun i ρ => ∃ (fd : List Int) (z3 z4 : Option SV), ρ = [some (.d (.list (rD p))), some (.d (.list (rD q))), some (.own (rD fd)), z3, z4] ∧ fd.length = p.length + q.length - 1 ∧ ∀ t, fd.getD t 0 = (mulL (p.take i) q).getD t 0) ⟨List.replicate (p.length + q.length - 1) 0, none, none, rfl, List.length_replicate, fun t => ?_⟩ ?_ ?_)
  · show (List.replicate _ (0 : Int)).getD t 0 = ([] : List Int).getD t 0
    rw [List.getD_eq_getElem?_getD, List.getElem?_replicate]
    split <;> simp
  · rintro i d ρ' hi ⟨fd, z3, z4, rfl, hl, hv⟩
    obtain ⟨hi, rfl⟩ := ints_get' hi
    have hi : i < p.length := by omega
    refine ⟨_, gd_name, ?_⟩
    refine sd_for (id_rng1 (n := (q.length : Int)) (ad_cons (ed_lenR (ed_var rfl) (SeqD.l _)) ad_nil) (by omega) (by omega)) (fun j ρ => ∃ (fd : List Int) (z4 : Option SV), ρ = [some (.d (.list (rD p))), some (.d (.list (rD q))), some (.own (rD fd)), some (.d (.int (0 + (i : Nat)))), z4] ∧ fd.length = p.length + q.length - 1 ∧ ∀ t, fd.getD t 0 = (mulL (p.take i) q).getD t 0 + (if i ≤ t ∧ t < i + j then p.getD i 0 * q.getD (t - i) 0 else 0)) ⟨fd, z4, rfl, hl, fun t => by rw [hv t, if_neg (by omega), Int.add_zero]⟩ ?_ ?_
    · rintro j d ρ' hj ⟨fd, z4, rfl, hl, hv⟩
      obtain ⟨hj, rfl⟩ := ints_get' hj
      have hj : j < q.length := by omega
      refine ⟨_, gd_name, ?_⟩
      have e1 : atI (rD fd) (0 + (i : Nat) + (0 + (j : Nat))) = some (.int (fd.getD (i + j) 0)) := by
        have := rD_at (xs := fd) (k := 0 + (i : Nat) + (0 + (j : Nat))) (by omega) (by omega)
        rwa [show (0 + (i : Nat) + (0 + (j : Nat)) : Int).toNat = i + j by omega] at this
      have e2 : atI (rD p) (0 + (i : Nat)) = some (.int (p.getD i 0)) := by
        have := rD_at (xs := p) (k := 0 + (i : Nat)) (by omega) (by omega)
        rwa [show (0 + (i : Nat) : Int).toNat = i by omega] at this
      have e3 : atI (rD q) (0 + (j : Nat)) = some (.int (q.getD j 0)) := by
        have := rD_at (xs := q) (k := 0 + (j : Nat)) (by omega) (by omega)
        rwa [show (0 + (j : Nat) : Int).toNat = j by omega] at this
      refine sd_setI (i := 2) (ds := rD fd) (m := i + j) rfl (ed_add (ed_ixO (k := 2) rfl (ed_add (ed_var rfl) (ed_var rfl)) e1) (ed_mul (ed_ix (ed_var rfl) (SeqD.l _) (ed_var rfl) e2) (ed_ix (ed_var rfl) (SeqD.l _) (ed_var rfl) e3) ((sp.getD i).cm (sq.getD j) (by omega)))) (ed_add (ed_var rfl) (ed_var rfl)) ?_ ?_
      · unfold ixN
        rw [if_pos (by omega), rD_len, if_pos (by omega)]
        congr 1; omega
      · refine ⟨fd.set (i + j) (fd.getD (i + j) 0 + p.getD i 0 * q.getD j 0), some (.d (.int (0 + (j : Nat)))), ?_, by rw [List.length_set]; exact hl, fun t => ?_⟩
        · unfold rD; rw [List.map_set]; rfl
        · rw [getD_set (by omega)]
          by_cases e : t = i + j
          · subst e
            rw [if_pos rfl, hv, if_neg (by omega), if_pos (by omega), Int.add_zero, Nat.add_sub_cancel_left]
          · rw [if_neg e, hv]
            by_cases c : i ≤ t ∧ t < i + j
            · rw [if_pos c, if_pos (by omega)]
            · rw [if_neg c, if_neg (by omega)]
    · rintro ρ' ⟨fd, z4, rfl, hl, hv⟩
      refine ⟨fd, _, z4, rfl, hl, fun t => ?_⟩
      rw [hv t, ints_len', Int.toNat_natCast, take_getD hi, mul_snoc, List.length_take, Nat.min_eq_left (by omega)]
      by_cases c : i ≤ t
      · rw [if_pos c]
        by_cases c2 : t < i + q.length
        · rw [if_pos ⟨c, c2⟩]
        · rw [if_neg (by omega), List.getD_eq_getElem?_getD, List.getD_eq_getElem?_getD (l := q), List.getElem?_eq_none_iff.mpr (show q.length ≤ t - i by omega)]
          show _ = _ + _ * 0
          rw [Int.mul_zero]
      · rw [if_neg (by omega), if_neg c]
  · rintro ρ' ⟨fd, z3, z4, rfl, hl, hv⟩
    show SD K B0 B _ _ _
    refine sd_retO (i := 2) (ds := rD (mulL p q)) ?_ rfl
    have e : fd = mulL p q := by
      rw [ints_len', Int.toNat_natCast, List.take_length] at hv
      apply List.ext_getElem (by omega)
      intro t h1 h2
      have := hv t
      rwa [List.getD_eq_getElem?_getD, List.getD_eq_getElem?_getD, List.getElem?_eq_getElem h1, List.getElem?_eq_getElem h2] at this
    rw [e]; rfl
theorem bd_mul2 {a b : Nat} {p q : List Int} (hp : Bd (2 ^ a) p) (hq : Bd (2 ^ b) q) (np : p ≠ []) (h2 : q.length = 2) : Bd (2 ^ (a + b + 1)) (mulL p q) := by
  have nq : q ≠ [] := by intro z; rw [z] at h2; simp at h2
  have e : mulL p q = mulL q p := eq_of_ev (by have := mulL_len np nq; have := mulL_len nq np; omega) fun x => by rw [ev_mulL, ev_mulL, Int.mul_comm]
  rw [e]
  refine (bd_mul hp hq).mono ?_
  rw [h2, Nat.pow_succ, Nat.pow_add, Nat.mul_comm (2 ^ b)]; omega
theorem bd_facP {n m : Nat} {A B : List Int} (hA : Bd (2 ^ m) A) (hB : Bd (2 ^ m) B) (lA : A.length = 2) (lB : B.length = 2) {x : Int} (hx : x.natAbs ≤ 2 ^ n) (k : Nat) : ∀ j, Bd (2 ^ (n + j * (m + 1))) (facP A B x k j)
  | 0 => fun a ha => by
    rw [List.mem_singleton.mp (show a ∈ [x] from ha), Nat.zero_mul]; exact hx
  | j + 1 => by
    have ih := bd_facP hA hB lA lB hx k j
    have hl := facP_len lA lB x k j
    have ne : facP A B x k j ≠ [] := by intro z; rw [z] at hl; simp at hl
    have : n + (j + 1) * (m + 1) = n + j * (m + 1) + m + 1 := by rw [Nat.succ_mul]; omega
    rw [this]
    show Bd _ (mulL (facP A B x k j) (if j < k then A else B))
    split
    · exact bd_mul2 ih hA ne lA
    · exact bd_mul2 ih hB ne lB
theorem bd_seenK {n m : Nat} {A B xs : List Int} (hA : Bd (2 ^ m) A) (hB : Bd (2 ^ m) B) (lA : A.length = 2) (lB : B.length = 2) (hx : Bd (2 ^ n) xs) : ∀ K, Bd (2 ^ (n + (xs.length - 1) * (m + 1) + K)) (seenK A B xs K)
  | 0 => fun a ha => by
    rw [(List.mem_replicate.mp (show a ∈ List.replicate xs.length 0 from ha)).2]; exact Nat.zero_le _
  | K + 1 => by
    have h0 : (xs.getD K 0).natAbs ≤ 2 ^ n := by
      rw [List.getD_eq_getElem?_getD]
      cases q : xs[K]? with
      | none => exact Nat.zero_le _
      | some v => exact hx v (List.mem_of_getElem? q)
    refine (bd_add (bd_seenK hA hB lA lB hx K) (bd_facP hA hB lA lB h0 K (xs.length - 1))).mono ?_
    rw [← Nat.add_assoc, Nat.pow_succ]
    have : 2 ^ (n + (xs.length - 1) * (m + 1)) ≤ 2 ^ (n + (xs.length - 1) * (m + 1) + K) := Nat.pow_le_pow_right (by decide) (Nat.le_add_right _ _)
    omega
end
theorem pD_seq (u : Int × Int) : SeqD (pD u) [.int u.1, .int u.2] := SeqD.t _
theorem Bd2 {n : Nat} {a b : Int} (h1 : Lt2 n a) (h2 : Lt2 n b) : Bd (2 ^ n) [a, b] := fun x hx => by
  rcases List.mem_cons.mp hx with rfl | hx
  · exact Nat.le_of_lt h1
  · rw [List.mem_singleton.mp hx]; exact Nat.le_of_lt h2
section
variable {K : PySem.W.Frag}
theorem pure__law_seen (ds : List PyData) (r : Res) (h : F__law_seen ds r) (B0 B : Hp) : SD K B0 B (t__law_seen K) (startR N__law_seen ds) (fin r) := by
  obtain ⟨d, xs, u, v, n, m, rfl, hs, hl, hx, hu1, hu2, hv1, hv2, hm, hn, rfl⟩ := h
  unfold t__law_seen seenL
  have bA : Bd (2 ^ (m + m)) [u.1 * v.2, v.1 * u.2] := Bd2 (hu1.mul hv2) (hv1.mul hu2)
  have bB : Bd (2 ^ (m + m)) [u.2 * v.2, u.2 * v.2] := Bd2 (hu2.mul hv2) (hu2.mul hv2)
  have lc : EF K (tLc (iSeq K (tVar 0)) (gName 7) tYes (tC (.int 0)) [7]) (startR N__law_seen [d, pD u, pD v]) (rD (List.replicate xs.length 0)) := by
    refine (ef_lc (ds := rD xs) (fun _ => .int 0) (id_seq (ed_var rfl) hs) (by rw [rD_len]; omega) fun i d hi => ⟨_, gc_name, ed_int⟩).cast ?_
    rw [rD_len]
    unfold rD
    rw [List.map_replicate, List.eq_replicate_iff]
    refine ⟨by rw [List.length_map, List.length_range], fun b hb => ?_⟩
    obtain ⟨_, _, rfl⟩ := List.mem_map.mp hb
    rfl
  refine sd_seq (sd_set (EF.ed lc) ?_)
  refine sd_seq (sd_for (id_rng1 (n := (xs.length : Int)) (ad_cons (ed_lenR (ed_var rfl) hs) ad_nil) (by omega) (by omega)) (fun k ρ => ∃ z4 z5 z6 z7 : Option SV, ρ = [some (.d d), some (.d (pD u)), some (.d (pD v)), some (.d (.list (rD (seenK [u.1 * v.2, v.1 * u.2] [u.2 * v.2, u.2 * v.2] xs k)))), z4, z5, z6, z7]) ⟨none, none, none, none, rfl⟩ ?_ ?_)
  · rintro k e ρ' hk ⟨z4, z5, z6, z7, rfl⟩
    obtain ⟨hk, rfl⟩ := ints_get' hk
    have hk : k < xs.length := by omega
    refine ⟨_, gd_name, ?_⟩
    have ek : atI (rD xs) (0 + (k : Nat)) = some (.int (xs.getD k 0)) := by
      have := rD_at (xs := xs) (k := 0 + (k : Nat)) (by omega) (by omega)
      rwa [show (0 + (k : Nat) : Int).toNat = k by omega] at this
    have hxk : (xs.getD k 0).natAbs ≤ 2 ^ n := by
      rw [List.getD_eq_getElem?_getD, List.getElem?_eq_getElem hk]
      exact hx _ (List.getElem_mem hk)
    refine sd_seq (sd_set (EF.ed (ef_lst (ad_cons (ed_ix (ed_var rfl) hs (ed_var rfl) ek) ad_nil) (Nat.le_of_ble_eq_true rfl))) ?_)
    refine sd_seq (sd_for (id_rng1 (n := (xs.length : Int) - 1) (ad_cons (ed_sub (ed_lenR (ed_var rfl) hs) ed_int) ad_nil) (by omega) (by omega)) (fun j ρ => ∃ z6 z7 : Option SV, ρ = [some (.d d), some (.d (pD u)), some (.d (pD v)), some (.d (.list (rD (seenK [u.1 * v.2, v.1 * u.2] [u.2 * v.2, u.2 * v.2] xs k)))), some (.d (.int (0 + (k : Nat)))), some (.d (.list (rD (facP [u.1 * v.2, v.1 * u.2] [u.2 * v.2, u.2 * v.2] (xs.getD k 0) k j)))), z6, z7]) ⟨z6, z7, rfl⟩ ?_ ?_)
    · rintro j e ρ' hj ⟨z6, z7, rfl⟩
      obtain ⟨hj, rfl⟩ := ints_get' hj
      have hj : j < xs.length - 1 := by omega
      refine ⟨_, gd_name, ?_⟩
      have bf := bd_facP bA bB rfl rfl hxk k j
      have lf := facP_len (A := [u.1 * v.2, v.1 * u.2]) (B := [u.2 * v.2, u.2 * v.2]) rfl rfl (xs.getD k 0) k j
      have nf : facP [u.1 * v.2, v.1 * u.2] [u.2 * v.2, u.2 * v.2] (xs.getD k 0) k j ≠ [] := by intro z; rw [z] at lf; simp at lf
      have sz1 : n + j * (m + m + 1) + 1 + (m + m + 1) ≤ 100000000 := by
        have : j * (m + m + 1) ≤ 1000 * 20001 := Nat.mul_le_mul (by omega) (by omega)
        omega
      have cA : CMulX u.1 v.2 := hu1.cm hv2 (by omega)
      have cA2 : CMulX v.1 u.2 := hv1.cm hu2 (by omega)
      have cB : CMulX u.2 v.2 := hu2.cm hv2 (by omega)
      refine sd_if (td_test (ed_lt (ed_var rfl) (ed_var rfl))) (fun hb => ?_) (fun hb => ?_)
      · have hb : j < k := by have := of_decide_eq_true hb; omega
        refine sd_set (EF.ed (ef_call (ad_cons (ed_var rfl) (ad_cons (EF.ed (ef_lst (ad_cons (ed_mul (ed_ix (ed_var rfl) (pD_seq u) ed_int rfl) (ed_ix (ed_var rfl) (pD_seq v) ed_int rfl) cA) (ad_cons (ed_mul (ed_ix (ed_var rfl) (pD_seq v) ed_int rfl) (ed_ix (ed_var rfl) (pD_seq u) ed_int rfl) cA2) ad_nil)) (Nat.le_of_ble_eq_true rfl))) ad_nil)) ⟨_, [u.1 * v.2, v.1 * u.2], _, _, rfl, nf, by simp, by omega, Nat.le_of_ble_eq_true rfl, bf.sz, bA.sz, sz1, rfl⟩ rfl)) ⟨some (.d (.int (0 + (j : Nat)))), z7, ?_⟩
        have e : facP [u.1 * v.2, v.1 * u.2] [u.2 * v.2, u.2 * v.2] (xs.getD k 0) k (j + 1) = mulL (facP [u.1 * v.2, v.1 * u.2] [u.2 * v.2, u.2 * v.2] (xs.getD k 0) k j) (if j < k then [u.1 * v.2, v.1 * u.2] else [u.2 * v.2, u.2 * v.2]) := rfl
        rw [e, if_pos hb]; rfl
      · have hb : ¬ j < k := by have := of_decide_eq_false hb; omega
        refine sd_set (EF.ed (ef_call (ad_cons (ed_var rfl) (ad_cons (EF.ed (ef_lst (ad_cons (ed_mul (ed_ix (ed_var rfl) (pD_seq u) ed_int rfl) (ed_ix (ed_var rfl) (pD_seq v) ed_int rfl) cB) (ad_cons (ed_mul (ed_ix (ed_var rfl) (pD_seq u) ed_int rfl) (ed_ix (ed_var rfl) (pD_seq v) ed_int rfl) cB) ad_nil)) (Nat.le_of_ble_eq_true rfl))) ad_nil)) ⟨_, [u.2 * v.2, u.2 * v.2], _, _, rfl, nf, by simp, by omega, Nat.le_of_ble_eq_true rfl, bf.sz, bB.sz, sz1, rfl⟩ rfl)) ⟨some (.d (.int (0 + (j : Nat)))), z7, ?_⟩
        have e : facP [u.1 * v.2, v.1 * u.2] [u.2 * v.2, u.2 * v.2] (xs.getD k 0) k (j + 1) = mulL (facP [u.1 * v.2, v.1 * u.2] [u.2 * v.2, u.2 * v.2] (xs.getD k 0) k j) (if j < k then [u.1 * v.2, v.1 * u.2] else [u.2 * v.2, u.2 * v.2]) := rfl
        rw [e, if_neg hb]; rfl
    · rintro ρ' ⟨z6, z7, rfl⟩
      rw [ints_len', show ((xs.length : Int) - 1).toNat = xs.length - 1 by omega]
      have ls := seenK_len (A := [u.1 * v.2, v.1 * u.2]) (B := [u.2 * v.2, u.2 * v.2]) rfl rfl xs k (by omega)
      have lf := facP_len (A := [u.1 * v.2, v.1 * u.2]) (B := [u.2 * v.2, u.2 * v.2]) rfl rfl (xs.getD k 0) k (xs.length - 1)
      have es : seenK [u.1 * v.2, v.1 * u.2] [u.2 * v.2, u.2 * v.2] xs (k + 1) = addL (seenK [u.1 * v.2, v.1 * u.2] [u.2 * v.2, u.2 * v.2] xs k) (facP [u.1 * v.2, v.1 * u.2] [u.2 * v.2, u.2 * v.2] (xs.getD k 0) k (xs.length - 1)) := rfl
      rw [es]
      generalize seenK [u.1 * v.2, v.1 * u.2] [u.2 * v.2, u.2 * v.2] xs k = S at *
      generalize facP [u.1 * v.2, v.1 * u.2] [u.2 * v.2, u.2 * v.2] (xs.getD k 0) k (xs.length - 1) = M at *
      show SD K B0 B _ _ _
      refine sd_set (d := .list (rD (addL S M))) (EF.ed ((ef_lc (fun i => .int ((addL S M).getD i 0)) (id_rng1 (n := (xs.length : Int)) (ad_cons (ed_lenR (ed_var rfl) hs) ad_nil) (by omega) (by omega)) (by rw [ints_len']; omega) fun i e hi => ?_).cast ?_)) ⟨_, _, _, _, rfl⟩
      · obtain ⟨hi, rfl⟩ := ints_get' hi
        have hi : i < xs.length := by omega
        refine ⟨_, gc_name, ?_⟩
        have e1 : atI (rD S) (0 + (i : Nat)) = some (.int (S.getD i 0)) := by
          have := rD_at (xs := S) (k := 0 + (i : Nat)) (by omega) (by omega)
          rwa [show (0 + (i : Nat) : Int).toNat = i by omega] at this
        have e2 : atI (rD M) (0 + (i : Nat)) = some (.int (M.getD i 0)) := by
          have := rD_at (xs := M) (k := 0 + (i : Nat)) (by omega) (by omega)
          rwa [show (0 + (i : Nat) : Int).toNat = i by omega] at this
        rw [getD_addL]
        exact ed_add (ed_ix (ed_var rfl) (SeqD.l _) (ed_var rfl) e1) (ed_ix (ed_var rfl) (SeqD.l _) (ed_var rfl) e2)
      · have la : (addL S M).length = xs.length := by rw [addL_len]; omega
        rw [ints_len', Int.toNat_natCast, ← la]
        exact map_range fun i a ha => by rw [List.getD_eq_getElem?_getD, ha]; rfl
  · rintro ρ' ⟨z4, z5, z6, z7, rfl⟩
    show SD K B0 B _ _ _
    rw [ints_len', Int.toNat_natCast]
    exact sd_ret (ed_var rfl) rfl
theorem pure__law_turns (ds : List PyData) (r : Res) (h : F__law_turns ds r) (B0 B : Hp) : SD K B0 B (t__law_turns K) (startR N__law_turns ds) (fin r) := by
  obtain ⟨d, xs, u, v, n, m, rfl, hs, hl, hx, hu1, hu2, hv1, hv2, hm, hn, rfl⟩ := h
  unfold t__law_turns turnsL
  have bA : Bd (2 ^ (m + m)) [u.1 * v.2, v.1 * u.2] := Bd2 (hu1.mul hv2) (hv1.mul hu2)
  have bB : Bd (2 ^ (m + m)) [u.2 * v.2, u.2 * v.2] := Bd2 (hu2.mul hv2) (hu2.mul hv2)
  have bS : Sz (n + (xs.length - 1) * (m + m + 1) + xs.length + 1) (seenL u v xs) := (bd_seenK bA bB rfl rfl hx xs.length).sz
  have sz1 : (xs.length - 1) * (m + m + 1) ≤ 100 * 20001 := Nat.mul_le_mul (by omega) (by omega)
  have call := ed_call (K := K) (E := E0) (F := F__law_seen) (n := 3) (ρ := [some (.d d), some (.d (pD u)), some (.d (pD v)), some (.d (.int 0)), some (.d (.int 0)), none]) (ad_cons (ed_var (n := 0) rfl) (ad_cons (ed_var (n := 1) rfl) (ad_cons (ed_var (n := 2) rfl) ad_nil))) ⟨d, xs, u, v, n, m, rfl, hs, by omega, hx, hu1, hu2, hv1, hv2, hm, hn, rfl⟩ rfl
  generalize seenL u v xs = S at *
  have hw : n + (xs.length - 1) * (m + m + 1) + xs.length + 1 ≤ 2200000 := by omega
  generalize n + (xs.length - 1) * (m + m + 1) + xs.length + 1 = w at *
  apply sd_seq; apply sd_set; (case h => walk_at "ev" )
  apply sd_seq; apply sd_set; (case h => walk_at "ev" )
  refine sd_seq (sd_for (id_seq call (SeqD.l _)) (fun i ρ => ∃ (c : Nat) (l : Int) (z : Option SV), ρ = [some (.d d), some (.d (pD u)), some (.d (pD v)), some (.d (.int (c : Int))), some (.d (.int l)), z] ∧ c + chg l (S.drop i) = chg 0 S ∧ Lt2 w l) ⟨0, 0, none, rfl, by rw [List.drop_zero]; omega, Lt2.zero⟩ ?_ ?_)
  · rintro i e ρ' hi ⟨c, l, z, rfl, hc, hl⟩
    obtain ⟨a, ha, rfl⟩ := rD_get hi
    refine ⟨_, gd_name, ?_⟩
    have hlt := (List.getElem?_eq_some_iff.mp ha).1
    have ed : S.drop i = a :: S.drop (i + 1) := by
      rw [List.drop_eq_getElem_cons hlt, (List.getElem?_eq_some_iff.mp ha).2]
    rw [ed] at hc
    have hc : c + ((if a * l < 0 then 1 else 0) + chg (if a = 0 then l else a) (S.drop (i + 1))) = chg 0 S := hc
    have la : Lt2 w a := bS a (List.mem_of_getElem? ha)
    refine sd_seq (SD.imp (P := fun o => o = .nx [some (.d d), some (.d (pD u)), some (.d (pD v)), some (.d (.int ((c + (if a * l < 0 then 1 else 0) : Nat) : Int))), some (.d (.int l)), some (.d (.int a))]) ?_ ?_)
    · refine sd_if (td_test (ed_lt (ed_mul (ed_var rfl) (ed_var rfl) (la.cm hl (by omega))) ed_int)) (fun hb => ?_) (fun hb => ?_)
      · have hb : a * l < 0 := of_decide_eq_true hb
        refine sd_set (ed_add (ed_var rfl) ed_int) ?_
        rw [if_pos hb]; rfl
      · have hb : ¬ a * l < 0 := of_decide_eq_false hb
        refine sd_next ?_
        rw [if_neg hb]; rfl
    · rintro o rfl
      show SD K B0 B _ _ _
      refine sd_if (td_test (ed_neI (ed_var rfl) ed_int)) (fun hb => ?_) (fun hb => ?_)
      · have hb : a ≠ 0 := by simpa using hb
        rw [if_neg hb] at hc
        exact sd_set (ed_var rfl) ⟨_, a, _, rfl, by omega, la⟩
      · have hb : a = 0 := by simpa using hb
        rw [if_pos hb] at hc
        exact sd_next ⟨_, l, _, rfl, by omega, hl⟩
  · rintro ρ' ⟨c, l, z, rfl, hc, hl⟩
    show SD K B0 B _ _ _
    rw [rD_len, List.drop_length] at hc
    have hc : c = chg 0 S := by simpa [chg] using hc
    rw [← hc]
    exact sd_ret (ed_var rfl) rfl
theorem partV_self {u : Int × Int} (h0 : 0 < u.2) (hg : Int.gcd u.1 u.2 = 1) : partV u.1 u.2 = u := by
  unfold partV partS
  rw [if_neg (by omega), hg]
  show (u.1.fdiv 1, u.2.fdiv 1) = u
  rw [Int.fdiv_one, Int.fdiv_one]
theorem pure__law_is_part (ds : List PyData) (r : Res) (h : F__law_is_part ds r) (B0 B : Hp) : SD K B0 B (t__law_is_part K) (startR N__law_is_part ds) (fin r) := by
  obtain ⟨u, rfl, h0, hz, hg, rfl⟩ := h
  unfold t__law_is_part
  have e := partV_self h0 hg
  have p0 : F__law_part [.int u.1, .int u.2] (.rt (pD u)) := ⟨u.1, u.2, rfl, by omega, hz, by rw [e]⟩
  have ee := eqv_pD u u
  unfold pD at *
  apply sd_seq; apply sd_if; (case h => walk_at "ev" <;> (first | (exact ⟨_, rfl, rfl⟩) | walk_at "rt1")); all_goals intro hb
  · exact absurd hb (by simp [eqv_int])
  · refine sd_next ?_
    apply sd_ret; (case h => walk_at "ev" <;> (first | (exact p0) | walk_at "rt1"))
    · show PyData.bool _ = PyData.bool _
      rw [ee]; simp [h0]
end
end Rt

namespace Rt
open PySem PySem.Spec PyProof.Rows L2 Evl
/-! ### sign changes: what does not make them more -/
/-- the same sign -/
def SS (a b : Int) : Prop := (0 < a ↔ 0 < b) ∧ (a < 0 ↔ b < 0)
theorem SS.refl (a : Int) : SS a a := ⟨Iff.rfl, Iff.rfl⟩
theorem SS.zero {a b : Int} (h : SS a b) : a = 0 ↔ b = 0 := by obtain ⟨h1, h2⟩ := h; omega
theorem SS.mul {a b c d : Int} (h : SS a b) (k : SS c d) : a * c < 0 ↔ b * d < 0 := by
  have key : ∀ x y : Int, x * y < 0 ↔ (0 < x ∧ y < 0) ∨ (x < 0 ∧ 0 < y) := fun x y => by
    constructor
    · intro h
      rcases Int.lt_trichotomy x 0 with p | p | p
      · right; refine ⟨p, ?_⟩
        by_cases q : 0 < y
        · exact q
        · have := Int.mul_nonneg_of_nonpos_of_nonpos (Int.le_of_lt p) (Int.not_lt.mp q); omega
      · subst p; simp at h
      · left; refine ⟨p, ?_⟩
        by_cases q : y < 0
        · exact q
        · have := Int.mul_nonneg (Int.le_of_lt p) (Int.not_lt.mp q); omega
    · rintro (⟨p, q⟩ | ⟨p, q⟩)
      · exact Int.mul_neg_of_pos_of_neg p q
      · exact Int.mul_neg_of_neg_of_pos p q
  rw [key, key]
  obtain ⟨h1, h2⟩ := h
  obtain ⟨k1, k2⟩ := k
  rw [h1, h2, k1, k2]
inductive Al2 : List Int → List Int → Prop
  | nil : Al2 [] []
  | cons {a b : Int} {xs ys : List Int} : SS a b → Al2 xs ys → Al2 (a :: xs) (b :: ys)
theorem chg_ss : ∀ {xs ys : List Int} {l m : Int}, SS l m → Al2 xs ys → chg l xs = chg m ys
  | _, _, l, m, h, .nil => rfl
  | _, _, l, m, h, @Al2.cons a b xs ys k t => by
    show (if a * l < 0 then 1 else 0) + chg (if a = 0 then l else a) xs = (if b * m < 0 then 1 else 0) + chg (if b = 0 then m else b) ys
    have e1 : (if a * l < 0 then 1 else 0) = (if b * m < 0 then 1 else 0 : Nat) := by
      by_cases c : a * l < 0
      · rw [if_pos c, if_pos ((k.mul h).mp c)]
      · rw [if_neg c, if_neg (fun z => c ((k.mul h).mpr z))]
    rw [e1]
    congr 1
    by_cases c : a = 0
    · rw [if_pos c, if_pos (k.zero.mp c)]; exact chg_ss h t
    · rw [if_neg c, if_neg (fun z => c (k.zero.mpr z))]; exact chg_ss k t
theorem ss_all (xs : List Int) : Al2 xs xs := by
  induction xs with
  | nil => exact .nil
  | cons a xs ih => exact .cons (SS.refl a) ih
theorem chg_l {xs : List Int} {l m : Int} (h : SS l m) : chg l xs = chg m xs := chg_ss h (ss_all xs)
/-- another one before: at most one more; none more where it was nought -/
theorem chg_swap : ∀ (xs : List Int) (l m : Int), m ≠ 0 → chg l xs ≤ (if m * l < 0 then 1 else 0) + chg m xs
  | [], l, m, _ => Nat.zero_le _
  | a :: xs, l, m, hm => by
    show (if a * l < 0 then 1 else 0) + chg (if a = 0 then l else a) xs ≤ (if m * l < 0 then 1 else 0) + ((if a * m < 0 then 1 else 0) + chg (if a = 0 then m else a) xs)
    by_cases c : a = 0
    · subst c
      have z1 : ¬ (0 : Int) * l < 0 := by simp
      have z2 : ¬ (0 : Int) * m < 0 := by simp
      rw [if_neg z1, if_neg z2, if_pos rfl, if_pos rfl]
      have := chg_swap xs l m hm
      omega
    · rw [if_neg c, if_neg c]
      have key : a * l < 0 → m * l < 0 ∨ a * m < 0 := fun h => by
        by_cases h1 : m * l < 0
        · exact .inl h1
        · right
          have h1 := Int.not_lt.mp h1
          rcases Int.lt_trichotomy l 0 with p | p | p
          · have : 0 < a := by
              by_cases q : 0 < a
              · exact q
              · have := Int.mul_nonneg_of_nonpos_of_nonpos (Int.not_lt.mp q) (Int.le_of_lt p); omega
            have : m < 0 := by
              by_cases q : m < 0
              · exact q
              · have := Int.mul_neg_of_pos_of_neg (show 0 < m by omega) p; omega
            exact Int.mul_neg_of_pos_of_neg (by assumption) this
          · subst p; simp at h
          · have : a < 0 := by
              by_cases q : a < 0
              · exact q
              · have := Int.mul_nonneg (Int.not_lt.mp q) (Int.le_of_lt p); omega
            have : 0 < m := by
              by_cases q : 0 < m
              · exact q
              · have := Int.mul_neg_of_neg_of_pos (show m < 0 by omega) p; omega
            exact Int.mul_neg_of_neg_of_pos (by assumption) this
      by_cases h : a * l < 0
      · rw [if_pos h]
        rcases key h with k | k
        · rw [if_pos k]; omega
        · rw [if_pos k]; omega
      · rw [if_neg h]; omega
theorem chg_del (a : Int) (xs : List Int) (l : Int) : chg l xs ≤ chg l (a :: xs) := by
  show _ ≤ (if a * l < 0 then 1 else 0) + chg (if a = 0 then l else a) xs
  by_cases c : a = 0
  · rw [if_pos c]; omega
  · rw [if_neg c]; exact chg_swap xs l a c
/-- an added multiple of the next one -/
theorem chg_add {A C : Int} (hA : 0 < A) (hC : 0 ≤ C) (a b : Int) (xs : List Int) (l : Int) : chg l ((A * a + C * b) :: b :: xs) ≤ chg l (a :: b :: xs) := by
  have sA : SS a (A * a) := by
    constructor
    · constructor
      · exact fun h => Int.mul_pos hA h
      · intro h
        by_cases q : 0 < a
        · exact q
        · have := Int.mul_nonpos_of_nonneg_of_nonpos (Int.le_of_lt hA) (Int.not_lt.mp q); omega
    · constructor
      · exact fun h => Int.mul_neg_of_pos_of_neg hA h
      · intro h
        by_cases q : a < 0
        · exact q
        · have := Int.mul_nonneg (Int.le_of_lt hA) (Int.not_lt.mp q); omega
  generalize hs : A * a + C * b = s
  by_cases h0 : s = 0
  · -- nought: left out
    have : chg l (s :: b :: xs) = chg l (b :: xs) := by
      show (if s * l < 0 then 1 else 0) + chg (if s = 0 then l else s) (b :: xs) = _
      rw [h0, if_neg (by simp), if_pos rfl, Nat.zero_add]
    rw [this]; exact chg_del a _ l
  · by_cases hsa : SS s a
    · exact Nat.le_of_eq (chg_ss (SS.refl l) (.cons hsa (ss_all (b :: xs))))
    · -- then it has the sign of b
      have hb : SS s b := by
        have cb : (0 < b → 0 ≤ C * b) ∧ (b < 0 → C * b ≤ 0) ∧ (b = 0 → C * b = 0) :=
          ⟨fun h => Int.mul_nonneg hC (Int.le_of_lt h), fun h => Int.mul_nonpos_of_nonneg_of_nonpos hC (Int.le_of_lt h), fun h => by rw [h]; simp⟩
        obtain ⟨c1, c2, c3⟩ := cb
        obtain ⟨s1, s2⟩ := sA
        unfold SS at hsa ⊢
        generalize A * a = x at *
        generalize C * b = y at *
        rcases Int.lt_trichotomy a 0 with p | p | p <;> rcases Int.lt_trichotomy b 0 with q | q | q <;> omega
      have e : chg l (s :: b :: xs) = chg l (b :: xs) := by
        have hb0 : b ≠ 0 := fun z => h0 (hb.zero.mpr z)
        show (if s * l < 0 then 1 else 0) + ((if b * (if s = 0 then l else s) < 0 then 1 else 0) + chg (if b = 0 then (if s = 0 then l else s) else b) xs) = (if b * l < 0 then 1 else 0) + chg (if b = 0 then l else b) xs
        rw [if_neg h0, if_neg hb0, if_neg hb0]
        have n1 : ¬ b * s < 0 := fun z => by
          have := (SS.mul hb (SS.refl b)).mp (by rw [Int.mul_comm]; exact z)
          have : 0 ≤ b * b := by rw [← Int.natAbs_mul_self']; exact Int.mul_nonneg (Int.natCast_nonneg _) (Int.natCast_nonneg _)
          omega
        rw [if_neg n1]
        by_cases c : s * l < 0
        · rw [if_pos c, if_pos ((hb.mul (SS.refl l)).mp c)]; omega
        · rw [if_neg c, if_neg (fun z => c ((hb.mul (SS.refl l)).mpr z))]; omega
      rw [e]; exact chg_del a _ l
/-- each one times A, and C times the next one more -/
def stepA (A C : Int) : List Int → List Int
  | [] => []
  | [b] => [A * b]
  | b :: d :: r => (A * b + C * d) :: stepA A C (d :: r)
theorem ss_mul {A : Int} (hA : 0 < A) (a : Int) : SS (A * a) a := by
  constructor
  · constructor
    · intro h
      by_cases q : 0 < a
      · exact q
      · have := Int.mul_nonpos_of_nonneg_of_nonpos (Int.le_of_lt hA) (Int.not_lt.mp q); omega
    · exact fun h => Int.mul_pos hA h
  · constructor
    · intro h
      by_cases q : a < 0
      · exact q
      · have := Int.mul_nonneg (Int.le_of_lt hA) (Int.not_lt.mp q); omega
    · exact fun h => Int.mul_neg_of_pos_of_neg hA h
theorem chg_cons_le {l a : Int} {xs ys : List Int} (h : ∀ l, chg l xs ≤ chg l ys) : chg l (a :: xs) ≤ chg l (a :: ys) := by
  show _ + chg _ xs ≤ _ + chg _ ys
  exact Nat.add_le_add_left (h _) _
theorem chg_stepA {A C : Int} (hA : 0 < A) (hC : 0 ≤ C) : ∀ (xs : List Int) (l : Int), chg l (stepA A C xs) ≤ chg l xs
  | [], l => Nat.le_refl _
  | [b], l => by exact Nat.le_of_eq (chg_ss (SS.refl l) (.cons (ss_mul hA b) .nil))
  | b :: d :: r, l => Nat.le_trans (chg_cons_le fun l => chg_stepA hA hC (d :: r) l) (chg_add hA hC b d r l)
/-- the row at A z + C -/
def joinA (A C a : Int) : List Int → List Int
  | [] => [a]
  | t :: ts => (a + C * t) :: stepA A C (t :: ts)
def shiftL (A C : Int) : List Int → List Int
  | [] => []
  | a :: r => joinA A C a (shiftL A C r)
theorem chg_shift {A C : Int} (hA : 0 < A) (hC : 0 ≤ C) : ∀ (xs : List Int) (l : Int), chg l (shiftL A C xs) ≤ chg l xs
  | [], l => Nat.le_refl _
  | a :: r, l => by
    have ih := chg_shift hA hC r
    have h1 : chg l (a :: shiftL A C r) ≤ chg l (a :: r) := chg_cons_le ih
    refine Nat.le_trans ?_ h1
    show chg l (joinA A C a (shiftL A C r)) ≤ _
    cases shiftL A C r with
    | nil => exact Nat.le_refl _
    | cons t ts =>
      show chg l ((a + C * t) :: stepA A C (t :: ts)) ≤ _
      refine Nat.le_trans (chg_cons_le fun l => chg_stepA hA hC (t :: ts) l) ?_
      have := chg_add (A := 1) (by decide) hC a t ts l
      rwa [Int.one_mul] at this
theorem stepA_len (A C : Int) : ∀ xs : List Int, (stepA A C xs).length = xs.length
  | [] => rfl
  | [b] => rfl
  | b :: d :: r => congrArg (· + 1) (stepA_len A C (d :: r))
theorem shiftL_len (A C : Int) : ∀ xs : List Int, (shiftL A C xs).length = xs.length
  | [] => rfl
  | a :: r => by
    have ih := shiftL_len A C r
    show (joinA A C a (shiftL A C r)).length = r.length + 1
    cases h : shiftL A C r with
    | nil => rw [h] at ih; show 1 = _; simp only [List.length_nil, List.length_cons] at *; omega
    | cons t ts => rw [h] at ih; show (stepA A C (t :: ts)).length + 1 = r.length + 1; rw [stepA_len, ih]
theorem hor_stepA (A C t b : Int) : ∀ (x : Int) (r : List Int), (hor t b (stepA A C (x :: r))).1 * t + C * x * b ^ (r.length + 1) = (A * t + C * b) * (hor t b (x :: r)).1
  | x, [] => by
    show ((0 * t + A * x * 1) * t) + C * x * b ^ 1 = (A * t + C * b) * (0 * t + x * 1)
    rw [Int.pow_succ, Int.pow_zero]; grind
  | x, d :: r => by
    have ih := hor_stepA A C t b d r
    have e1 : (hor t b (stepA A C (x :: d :: r))).1 = (hor t b (stepA A C (d :: r))).1 * t + (A * x + C * d) * b ^ (r.length + 1) := by
      show (hor t b (stepA A C (d :: r))).1 * t + (A * x + C * d) * (hor t b (stepA A C (d :: r))).2 = _
      rw [hor_snd, stepA_len]; rfl
    have e2 : (hor t b (x :: d :: r)).1 = (hor t b (d :: r)).1 * t + x * b ^ (r.length + 1) := by
      show (hor t b (d :: r)).1 * t + x * (hor t b (d :: r)).2 = _
      rw [hor_snd]; rfl
    rw [e1, e2]
    show ((hor t b (stepA A C (d :: r))).1 * t + (A * x + C * d) * b ^ (r.length + 1)) * t + C * x * b ^ (r.length + 1 + 1) = _
    rw [Int.pow_succ b (r.length + 1)]
    generalize b ^ (r.length + 1) = q at *
    generalize (hor t b (stepA A C (d :: r))).1 = s at *
    generalize (hor t b (d :: r)).1 = w at *
    grind
theorem hor_shift (A C t b : Int) : ∀ r : List Int, (hor t b (shiftL A C r)).1 = (hor (A * t + C * b) b r).1
  | [] => rfl
  | a :: r => by
    have ih := hor_shift A C t b r
    have il := shiftL_len A C r
    have e : (hor (A * t + C * b) b (a :: r)).1 = (hor (A * t + C * b) b r).1 * (A * t + C * b) + a * b ^ r.length := by
      show _ + a * (hor (A * t + C * b) b r).2 = _
      rw [hor_snd]
    rw [e, ← ih]
    show (hor t b (joinA A C a (shiftL A C r))).1 = _
    cases h : shiftL A C r with
    | nil =>
      rw [h] at il
      have : r.length = 0 := il.symm
      rw [this]
      show 0 * t + a * 1 = 0 * (A * t + C * b) + a * b ^ 0
      rw [Int.pow_zero]; omega
    | cons x s =>
      rw [h] at il
      have hs := hor_stepA A C t b x s
      show (hor t b (stepA A C (x :: s))).1 * t + (a + C * x) * (hor t b (stepA A C (x :: s))).2 = _
      rw [hor_snd, stepA_len, show (x :: s).length = s.length + 1 from rfl, show r.length = s.length + 1 by rw [← il]; rfl]
      generalize b ^ (s.length + 1) = q at *
      generalize (hor t b (stepA A C (x :: s))).1 = y at *
      generalize (hor t b (x :: s)).1 = w at *
      grind
/-! ### there and back -/
def firstN : List Int → Int
  | [] => 0
  | a :: xs => if a = 0 then firstN xs else a
def lastN : Int → List Int → Int
  | l, [] => l
  | l, a :: xs => lastN (if a = 0 then l else a) xs
theorem chg_first : ∀ (xs : List Int) (l : Int), chg l xs = (if firstN xs * l < 0 then 1 else 0) + chg 0 xs
  | [], l => by show 0 = (if (0 : Int) * l < 0 then 1 else 0) + 0; rw [if_neg (by simp)]
  | a :: xs, l => by
    show (if a * l < 0 then 1 else 0) + chg (if a = 0 then l else a) xs = (if (if a = 0 then firstN xs else a) * l < 0 then 1 else 0) + ((if a * 0 < 0 then 1 else 0) + chg (if a = 0 then 0 else a) xs)
    have z : ¬ a * 0 < 0 := by simp
    rw [if_neg z]
    by_cases c : a = 0
    · subst c
      have z1 : ¬ (0 : Int) * l < 0 := by simp
      rw [if_neg z1]
      show 0 + chg l xs = (if firstN xs * l < 0 then 1 else 0) + (0 + chg 0 xs)
      rw [chg_first xs l]; omega
    · rw [if_neg c, if_neg c, if_neg c]; omega
theorem chg_snoc (a : Int) : ∀ (xs : List Int) (l : Int), chg l (xs ++ [a]) = chg l xs + (if a * lastN l xs < 0 then 1 else 0)
  | [], l => by show (if a * l < 0 then 1 else 0) + 0 = 0 + (if a * l < 0 then 1 else 0); omega
  | b :: xs, l => by
    show (if b * l < 0 then 1 else 0) + chg (if b = 0 then l else b) (xs ++ [a]) = (if b * l < 0 then 1 else 0) + chg (if b = 0 then l else b) xs + (if a * lastN (if b = 0 then l else b) xs < 0 then 1 else 0)
    rw [chg_snoc a xs]; omega
theorem lastN_snoc (a : Int) : ∀ (xs : List Int) (l : Int), lastN l (xs ++ [a]) = if a = 0 then lastN l xs else a
  | [], l => rfl
  | b :: xs, l => lastN_snoc a xs _
theorem lastN_rev : ∀ xs : List Int, lastN 0 xs.reverse = firstN xs
  | [] => rfl
  | a :: xs => by rw [List.reverse_cons, lastN_snoc, lastN_rev xs]; rfl
theorem chg_rev : ∀ xs : List Int, chg 0 xs.reverse = chg 0 xs
  | [] => rfl
  | a :: xs => by
    rw [List.reverse_cons, chg_snoc, chg_rev xs, lastN_rev]
    show _ = (if a * 0 < 0 then 1 else 0) + chg (if a = 0 then 0 else a) xs
    have z : ¬ a * 0 < 0 := by simp
    have e : (if a = 0 then 0 else a) = a := by split <;> omega
    rw [if_neg z, e, chg_first xs a, Int.mul_comm a]; omega
/-! ### a row by both its ends -/
theorem hor_add : ∀ {p q : List Int} (t b : Int), p.length = q.length → (hor t b (addL p q)).1 = (hor t b p).1 + (hor t b q).1
  | [], [], t, b, _ => rfl
  | [], _ :: _, _, _, h => by simp at h
  | _ :: _, [], _, _, h => by simp at h
  | a :: p, c :: q, t, b, h => by
    have h' : p.length = q.length := by simpa using h
    have ih := hor_add (p := p) (q := q) t b h'
    have hl : (addL p q).length = q.length := by rw [addL_len]; omega
    show (hor t b (addL p q)).1 * t + (a + c) * (hor t b (addL p q)).2 = ((hor t b p).1 * t + a * (hor t b p).2) + ((hor t b q).1 * t + c * (hor t b q).2)
    rw [ih, hor_snd, hor_snd, hor_snd, hl, h']
    generalize b ^ q.length = w
    grind
theorem hor_rep (t b : Int) : ∀ n, (hor t b (List.replicate n 0)).1 = 0
  | 0 => rfl
  | n + 1 => by
    rw [List.replicate_succ]
    show (hor t b (List.replicate n 0)).1 * t + 0 * _ = 0
    rw [hor_rep t b n]; omega
theorem hor_mul2 (t b c0 c1 : Int) : ∀ {p : List Int}, p ≠ [] → (hor t b (mulL p [c0, c1])).1 = (hor t b p).1 * (c0 * b + c1 * t)
  | [], h => absurd rfl h
  | [a], _ => by
    show ((0 * t + a * c1 * 1) * t + (a * c0 + 0) * (1 * b)) = (0 * t + a * 1) * (c0 * b + c1 * t)
    grind
  | a :: d :: p, _ => by
    have ih := hor_mul2 t b c0 c1 (p := d :: p) (by simp)
    have hl := mulL_len (p := d :: p) (q := [c0, c1]) (by simp) (by simp)
    have e : (hor t b (a :: d :: p)).1 = (hor t b (d :: p)).1 * t + a * b ^ (p.length + 1) := by
      show (hor t b (d :: p)).1 * t + a * (hor t b (d :: p)).2 = _
      rw [hor_snd]; rfl
    rw [e]
    show (hor t b ((a * c0 + 0) :: addL [a * c1] (mulL (d :: p) [c0, c1]))).1 = _
    cases hq : mulL (d :: p) [c0, c1] with
    | nil => rw [hq] at hl; simp only [List.length_nil, List.length_cons] at hl; omega
    | cons m0 ms =>
      rw [hq] at hl ih
      have hms : ms.length = p.length + 1 := by simp only [List.length_cons, List.length_nil] at hl; omega
      have e2 : (hor t b (m0 :: ms)).1 = (hor t b ms).1 * t + m0 * b ^ ms.length := by
        show (hor t b ms).1 * t + m0 * (hor t b ms).2 = _
        rw [hor_snd]
      show (hor t b ((a * c1 + m0) :: ms)).1 * t + (a * c0 + 0) * (hor t b ((a * c1 + m0) :: ms)).2 = _
      have e3 : (hor t b ((a * c1 + m0) :: ms)).1 = (hor t b ms).1 * t + (a * c1 + m0) * b ^ ms.length := by
        show (hor t b ms).1 * t + (a * c1 + m0) * (hor t b ms).2 = _
        rw [hor_snd]
      rw [e3, hor_snd, show ((a * c1 + m0) :: ms).length = ms.length + 1 from rfl, Int.pow_succ]
      rw [e2] at ih
      rw [hms] at ih ⊢
      generalize b ^ (p.length + 1) = w at *
      clear hl hq hms e2 e3 e
      generalize (hor t b ms).1 = x at *
      generalize (hor t b (d :: p)).1 = y at *
      have q : x * t + (a * c1 + m0) * w = y * (c0 * b + c1 * t) + a * c1 * w := by rw [← ih]; grind
      rw [q]
      clear ih q
      grind
theorem hor_facP (t b a0 a1 b0 b1 x : Int) (k : Nat) : ∀ j, (hor t b (facP [a0, a1] [b0, b1] x k j)).1 = x * (a0 * b + a1 * t) ^ (min j k) * (b0 * b + b1 * t) ^ (j - k)
  | 0 => by show 0 * t + x * 1 = _; simp
  | j + 1 => by
    have hl := facP_len (A := [a0, a1]) (B := [b0, b1]) rfl rfl x k j
    have ne : facP [a0, a1] [b0, b1] x k j ≠ [] := by intro z; rw [z] at hl; simp at hl
    show (hor t b (mulL (facP [a0, a1] [b0, b1] x k j) (if j < k then [a0, a1] else [b0, b1]))).1 = _
    by_cases h : j < k
    · rw [if_pos h, hor_mul2 t b a0 a1 ne, hor_facP t b a0 a1 b0 b1 x k j, Nat.min_eq_left (by omega : j + 1 ≤ k), Nat.min_eq_left (by omega : j ≤ k), show j + 1 - k = 0 by omega, show j - k = 0 by omega, Int.pow_succ]
      generalize (a0 * b + a1 * t) = w; generalize w ^ j = p; grind
    · rw [if_neg h, hor_mul2 t b b0 b1 ne, hor_facP t b a0 a1 b0 b1 x k j, Nat.min_eq_right (by omega : k ≤ j + 1), Nat.min_eq_right (by omega : k ≤ j), show j + 1 - k = (j - k) + 1 by omega, Int.pow_succ]
      generalize (b0 * b + b1 * t) = w; generalize w ^ (j - k) = p; generalize (a0 * b + a1 * t) ^ k = q; grind
theorem hor_seenK (t b a0 a1 b0 b1 : Int) (xs : List Int) : ∀ K, K ≤ xs.length → (hor t b (seenK [a0, a1] [b0, b1] xs K)).1 = tot (a0 * b + a1 * t) (b0 * b + b1 * t) xs K
  | 0, _ => hor_rep t b _
  | K + 1, h => by
    show (hor t b (addL _ _)).1 = tot _ _ xs K + term _ _ xs K
    rw [hor_add t b (by rw [seenK_len rfl rfl xs K (by omega), facP_len rfl rfl]; omega), hor_seenK t b a0 a1 b0 b1 xs K (by omega), hor_facP, Nat.min_eq_right (by omega : K ≤ xs.length - 1)]; rfl
/-- the row seen from the stretch, in both letters -/
theorem seen_hom (u v : Int × Int) (xs : List Int) (t b : Int) : (hor t b (seenL u v xs)).1 = (hor (u.1 * v.2 * b + v.1 * u.2 * t) (u.2 * v.2 * b + u.2 * v.2 * t) xs).1 := by
  unfold seenL
  rw [hor_seenK _ _ _ _ _ _ _ _ (Nat.le_refl _), hor_tot]
theorem hor_scale (c t b : Int) : ∀ xs : List Int, c * (hor (c * t) (c * b) xs).1 = c ^ xs.length * (hor t b xs).1
  | [] => by show c * 0 = c ^ 0 * 0; simp
  | x :: xs => by
    have ih := hor_scale c t b xs
    show c * ((hor (c * t) (c * b) xs).1 * (c * t) + x * (hor (c * t) (c * b) xs).2) = c ^ (xs.length + 1) * ((hor t b xs).1 * t + x * (hor t b xs).2)
    rw [hor_snd, hor_snd, Int.mul_pow, Int.pow_succ c]
    generalize c ^ xs.length = w at *
    generalize b ^ xs.length = y at *
    generalize (hor (c * t) (c * b) xs).1 = p at *
    generalize (hor t b xs).1 = q at *
    grind
/-- each number of a row times as many g as numbers stand behind it -/
def wtL (g : Int) : List Int → List Int
  | [] => []
  | a :: r => a * g ^ r.length :: wtL g r
theorem wtL_len (g : Int) : ∀ r : List Int, (wtL g r).length = r.length
  | [] => rfl
  | a :: r => congrArg (· + 1) (wtL_len g r)
theorem hor_wt (g t b : Int) : ∀ r : List Int, (hor t b (wtL g r)).1 = (hor t (g * b) r).1
  | [] => rfl
  | a :: r => by
    show (hor t b (wtL g r)).1 * t + a * g ^ r.length * (hor t b (wtL g r)).2 = (hor t (g * b) r).1 * t + a * (hor t (g * b) r).2
    rw [hor_wt g t b r, hor_snd, hor_snd, wtL_len, Int.mul_pow, Int.mul_assoc]
theorem al_wt {g : Int} (hg : 0 < g) : ∀ r : List Int, Al2 (wtL g r) r
  | [] => .nil
  | a :: r => .cons (by rw [Int.mul_comm]; exact ss_mul (Int.pow_pos hg) a) (al_wt hg r)
theorem al_smul {g : Int} (hg : 0 < g) : ∀ r : List Int, Al2 (smul g r) r
  | [] => .nil
  | a :: r => .cons (ss_mul hg a) (al_smul hg r)
theorem hor_snoc (t b a : Int) : ∀ xs : List Int, (hor t b (xs ++ [a])).1 = (hor t b xs).1 * b + a * t ^ xs.length
  | [] => by show 0 * t + a * 1 = 0 * b + a * t ^ 0; rw [Int.pow_zero]; omega
  | x :: xs => by
    show (hor t b (xs ++ [a])).1 * t + x * (hor t b (xs ++ [a])).2 = ((hor t b xs).1 * t + x * (hor t b xs).2) * b + a * t ^ (xs.length + 1)
    rw [hor_snoc t b a xs, hor_snd, hor_snd, List.length_append, show xs.length + [a].length = xs.length + 1 from rfl, Int.pow_succ b, Int.pow_succ t]
    generalize b ^ xs.length = p
    generalize t ^ xs.length = q
    grind
theorem hor_rev (t b : Int) : ∀ xs : List Int, (hor t b xs.reverse).1 = (hor b t xs).1
  | [] => rfl
  | x :: xs => by
    rw [List.reverse_cons, hor_snoc, hor_rev t b xs, List.length_reverse]
    show _ = (hor b t xs).1 * b + x * (hor b t xs).2
    rw [hor_snd]
theorem hor_ev (y : Int) : ∀ xs : List Int, (hor y 1 xs).1 = ev xs y
  | [] => rfl
  | x :: xs => by
    show (hor y 1 xs).1 * y + x * (hor y 1 xs).2 = x + y * ev xs y
    rw [hor_ev y xs, hor_snd, Int.one_pow]; grind
/-- a stretch cut off at its high end -/
theorem turns_left {u v w : Int × Int} (hu : 0 < u.2) (hv : 0 < v.2) (hw : 0 < w.2) (h1 : u.1 * w.2 < w.1 * u.2) (h2 : w.1 * v.2 < v.1 * w.2) (h3 : u.1 * v.2 < v.1 * u.2) (xs : List Int) : turnsL u w xs ≤ turnsL u v xs := by
  have k0 : 0 < v.1 * u.2 - u.1 * v.2 := by omega
  have l0 : 0 < v.1 * w.2 - w.1 * v.2 := by omega
  have m0 : 0 < w.1 * u.2 - u.1 * w.2 := by omega
  have c0 : 0 < (v.1 * u.2 - u.1 * v.2) * v.2 := Int.mul_pos k0 hv
  have A0 : 0 < (v.1 * u.2 - u.1 * v.2) * w.2 := Int.mul_pos k0 hw
  have C0 : 0 < (v.1 * w.2 - w.1 * v.2) * u.2 := Int.mul_pos l0 hu
  have g0 : 0 < v.2 * (w.1 * u.2 - u.1 * w.2) := Int.mul_pos hv m0
  have key : smul (((v.1 * u.2 - u.1 * v.2) * v.2) ^ xs.length) (seenL u w xs) = smul ((v.1 * u.2 - u.1 * v.2) * v.2) (shiftL ((v.1 * u.2 - u.1 * v.2) * w.2) ((v.1 * w.2 - w.1 * v.2) * u.2) (wtL (v.2 * (w.1 * u.2 - u.1 * w.2)) (seenL u v xs).reverse)).reverse := by
    refine eq_of_ev ?_ fun y => ?_
    · unfold Rt.smul
      rw [List.length_map, List.length_map, List.length_reverse, shiftL_len, wtL_len, List.length_reverse, seen_len, seen_len]
    · rw [ev_smul, ev_smul, ← hor_ev y (seenL u w xs), ← hor_ev y (List.reverse _), hor_rev, hor_shift, hor_wt, hor_rev, seen_hom, seen_hom, ← hor_scale]
      congr 3
      · grind
      · grind
  have e1 : turnsL u w xs = chg 0 (shiftL ((v.1 * u.2 - u.1 * v.2) * w.2) ((v.1 * w.2 - w.1 * v.2) * u.2) (wtL (v.2 * (w.1 * u.2 - u.1 * w.2)) (seenL u v xs).reverse)) := by
    show chg 0 (seenL u w xs) = _
    rw [← chg_ss (SS.refl 0) (al_smul (Int.pow_pos c0 (m := xs.length)) (seenL u w xs)), key, chg_ss (SS.refl 0) (al_smul c0 _), chg_rev]
  rw [e1]
  refine Nat.le_trans (chg_shift A0 (Int.le_of_lt C0) _ _) ?_
  rw [chg_ss (SS.refl 0) (al_wt g0 _), chg_rev]
  exact Nat.le_refl _
/-- a stretch cut off at its low end -/
theorem turns_right {u v w : Int × Int} (hu : 0 < u.2) (hv : 0 < v.2) (hw : 0 < w.2) (h1 : u.1 * w.2 < w.1 * u.2) (h2 : w.1 * v.2 < v.1 * w.2) (h3 : u.1 * v.2 < v.1 * u.2) (xs : List Int) : turnsL w v xs ≤ turnsL u v xs := by
  have k0 : 0 < v.1 * u.2 - u.1 * v.2 := by omega
  have l0 : 0 < v.1 * w.2 - w.1 * v.2 := by omega
  have m0 : 0 < w.1 * u.2 - u.1 * w.2 := by omega
  have c0 : 0 < (v.1 * u.2 - u.1 * v.2) * u.2 := Int.mul_pos k0 hu
  have A0 : 0 < (v.1 * u.2 - u.1 * v.2) * w.2 := Int.mul_pos k0 hw
  have C0 : 0 < v.2 * (w.1 * u.2 - u.1 * w.2) := Int.mul_pos hv m0
  have g0 : 0 < u.2 * (v.1 * w.2 - w.1 * v.2) := Int.mul_pos hu l0
  have key : smul (((v.1 * u.2 - u.1 * v.2) * u.2) ^ xs.length) (seenL w v xs) = smul ((v.1 * u.2 - u.1 * v.2) * u.2) (shiftL ((v.1 * u.2 - u.1 * v.2) * w.2) (v.2 * (w.1 * u.2 - u.1 * w.2)) (wtL (u.2 * (v.1 * w.2 - w.1 * v.2)) (seenL u v xs))) := by
    refine eq_of_ev ?_ fun y => ?_
    · unfold Rt.smul
      rw [List.length_map, List.length_map, shiftL_len, wtL_len, seen_len, seen_len]
    · rw [ev_smul, ev_smul, ← hor_ev y (seenL w v xs), ← hor_ev y (shiftL _ _ _), hor_shift, hor_wt, seen_hom, seen_hom, ← hor_scale]
      congr 3
      · grind
      · grind
  have e1 : turnsL w v xs = chg 0 (shiftL ((v.1 * u.2 - u.1 * v.2) * w.2) (v.2 * (w.1 * u.2 - u.1 * w.2)) (wtL (u.2 * (v.1 * w.2 - w.1 * v.2)) (seenL u v xs))) := by
    show chg 0 (seenL w v xs) = _
    rw [← chg_ss (SS.refl 0) (al_smul (Int.pow_pos c0 (m := xs.length)) (seenL w v xs)), key, chg_ss (SS.refl 0) (al_smul c0 _)]
  rw [e1]
  refine Nat.le_trans (chg_shift A0 (Int.le_of_lt C0) _ _) ?_
  rw [chg_ss (SS.refl 0) (al_wt g0 _)]
  exact Nat.le_refl _
/-! ### the signs at the ends -/
theorem neg_iff (x y : Int) : x * y < 0 ↔ (0 < x ∧ y < 0) ∨ (x < 0 ∧ 0 < y) := by
  constructor
  · intro h
    rcases Int.lt_trichotomy x 0 with p | p | p
    · right; refine ⟨p, ?_⟩
      by_cases q : 0 < y
      · exact q
      · have := Int.mul_nonneg_of_nonpos_of_nonpos (Int.le_of_lt p) (Int.not_lt.mp q); omega
    · subst p; simp at h
    · left; refine ⟨p, ?_⟩
      by_cases q : y < 0
      · exact q
      · have := Int.mul_nonneg (Int.le_of_lt p) (Int.not_lt.mp q); omega
  · rintro (⟨p, q⟩ | ⟨p, q⟩)
    · exact Int.mul_neg_of_pos_of_neg p q
    · exact Int.mul_neg_of_neg_of_pos p q
theorem lastN_ne : ∀ (xs : List Int) {l : Int}, l ≠ 0 → lastN l xs ≠ 0
  | [], l, h => h
  | a :: xs, l, h => lastN_ne xs (by split <;> assumption)
theorem chg_par : ∀ (xs : List Int) {l : Int}, l ≠ 0 → (lastN l xs * l < 0 ↔ chg l xs % 2 = 1)
  | [], l, h => by
    show l * l < 0 ↔ 0 % 2 = 1
    have : 0 ≤ l * l := by rw [← Int.natAbs_mul_self']; exact Int.mul_nonneg (Int.natCast_nonneg _) (Int.natCast_nonneg _)
    omega
  | a :: xs, l, h => by
    show lastN (if a = 0 then l else a) xs * l < 0 ↔ ((if a * l < 0 then 1 else 0) + chg (if a = 0 then l else a) xs) % 2 = 1
    by_cases c : a = 0
    · subst c
      have z : ¬ (0 : Int) * l < 0 := by simp
      rw [if_neg z, if_pos rfl, Nat.zero_add]
      exact chg_par xs h
    · rw [if_neg c]
      have ih := chg_par xs c
      have hn := lastN_ne xs c
      generalize lastN a xs = w at *
      rw [neg_iff] at ih ⊢
      by_cases d : a * l < 0
      · rw [if_pos d]
        rw [neg_iff] at d
        omega
      · rw [if_neg d]
        rw [neg_iff] at d
        omega
theorem lastN_last : ∀ (xs : List Int) {l : Int}, lastZ (l :: xs) ≠ 0 → lastN l xs = lastZ (l :: xs)
  | [], l, _ => rfl
  | a :: xs, l, h => by
    rw [lastZ_cons] at h ⊢
    show lastN (if a = 0 then l else a) xs = lastZ (a :: xs)
    by_cases c : a = 0
    · subst c
      rw [if_pos rfl]
      cases xs with
      | nil => exact absurd rfl h
      | cons b ys =>
        rw [lastZ_cons]
        rw [lastZ_cons] at h
        have := lastN_last (b :: ys) (l := l) (by rw [lastZ_cons]; exact h)
        rw [this, lastZ_cons]
    · rw [if_neg c]; exact lastN_last xs h
theorem hor_last : ∀ {xs : List Int}, xs ≠ [] → (hor 1 0 xs).1 = lastZ xs
  | [], h => absurd rfl h
  | [a], _ => by show 0 * 1 + a * 1 = a; omega
  | a :: b :: xs, _ => by
    show (hor 1 0 (b :: xs)).1 * 1 + a * (hor 1 0 (b :: xs)).2 = _
    rw [hor_last (xs := b :: xs) (by simp), hor_snd, lastZ_cons, show (b :: xs).length = xs.length + 1 from rfl, Int.pow_succ]
    simp
theorem ss_of {c d x y : Int} (hc : 0 < c) (hd : 0 < d) (h : c * x = d * y) : SS x y := by
  have h1 := ss_mul hc x
  have h2 := ss_mul hd y
  rw [h] at h1
  unfold SS at *
  omega
theorem seen_first {u v : Int × Int} (hv : 0 < v.2) (xs : List Int) : SS (ev (seenL u v xs) 0) (hor u.1 u.2 xs).1 := by
  have e := seen_hom u v xs 0 1
  rw [hor_ev] at e
  have e2 := hor_scale v.2 u.1 u.2 xs
  refine ss_of hv (Int.pow_pos hv (m := xs.length)) ?_
  rw [e, ← e2]
  congr 3 <;> grind
theorem seen_last {u v : Int × Int} (hu : 0 < u.2) {xs : List Int} (hx : xs ≠ []) : SS (lastZ (seenL u v xs)) (hor v.1 v.2 xs).1 := by
  have ne : seenL u v xs ≠ [] := by
    intro z
    have := seen_len u v xs
    rw [z] at this
    exact hx (List.length_eq_zero_iff.mp this.symm)
  have e := seen_hom u v xs 1 0
  rw [hor_last ne] at e
  have e2 := hor_scale u.2 v.1 v.2 xs
  refine ss_of hu (Int.pow_pos hu (m := xs.length)) ?_
  rw [e, ← e2]
  congr 3 <;> grind
/-- unlike signs at the ends: an odd number of turns; like ones: an even one -/
theorem turns_par {u v : Int × Int} (hu : 0 < u.2) (hv : 0 < v.2) {xs : List Int} (hx : xs ≠ []) (h1 : (hor u.1 u.2 xs).1 ≠ 0) (h2 : (hor v.1 v.2 xs).1 ≠ 0) : (hor u.1 u.2 xs).1 * (hor v.1 v.2 xs).1 < 0 ↔ turnsL u v xs % 2 = 1 := by
  have s1 := seen_first (u := u) hv xs
  have s2 := seen_last (v := v) hu hx
  have ln := seen_len u v xs
  unfold turnsL
  generalize seenL u v xs = S at *
  cases S with
  | nil => exact absurd (List.length_eq_zero_iff.mp ln.symm) hx
  | cons a r =>
    have ea : ev (a :: r) 0 = a := by show a + 0 * ev r 0 = a; omega
    rw [ea] at s1
    have a0 : a ≠ 0 := fun z => h1 (s1.zero.mp z)
    have l0 : lastZ (a :: r) ≠ 0 := fun z => h2 (s2.zero.mp z)
    have e : chg 0 (a :: r) = chg a r := by
      show (if a * 0 < 0 then 1 else 0) + chg (if a = 0 then 0 else a) r = _
      rw [if_neg (by simp), if_neg a0, Nat.zero_add]
    rw [e, ← chg_par r a0, lastN_last r l0, ← SS.mul s1 s2, Int.mul_comm]
/-- a cut that keeps unlike signs keeps the one turn -/
theorem one_left {u v w : Int × Int} (hu : 0 < u.2) (hv : 0 < v.2) (hw : 0 < w.2) (h1 : u.1 * w.2 < w.1 * u.2) (h2 : w.1 * v.2 < v.1 * w.2) (h3 : u.1 * v.2 < v.1 * u.2) {xs : List Int} (hx : xs ≠ []) (t : turnsL u v xs = 1) (n : (hor u.1 u.2 xs).1 * (hor w.1 w.2 xs).1 < 0) : turnsL u w xs = 1 := by
  have le := turns_left hu hv hw h1 h2 h3 xs
  have a : (hor u.1 u.2 xs).1 ≠ 0 := fun z => by rw [z] at n; simp at n
  have b : (hor w.1 w.2 xs).1 ≠ 0 := fun z => by rw [z] at n; simp at n
  have := (turns_par hu hw hx a b).mp n
  omega
theorem one_right {u v w : Int × Int} (hu : 0 < u.2) (hv : 0 < v.2) (hw : 0 < w.2) (h1 : u.1 * w.2 < w.1 * u.2) (h2 : w.1 * v.2 < v.1 * w.2) (h3 : u.1 * v.2 < v.1 * u.2) {xs : List Int} (hx : xs ≠ []) (t : turnsL u v xs = 1) (n : (hor w.1 w.2 xs).1 * (hor v.1 v.2 xs).1 < 0) : turnsL w v xs = 1 := by
  have le := turns_right hu hv hw h1 h2 h3 xs
  have a : (hor w.1 w.2 xs).1 ≠ 0 := fun z => by rw [z] at n; simp at n
  have b : (hor v.1 v.2 xs).1 ≠ 0 := fun z => by rw [z] at n; simp at n
  have := (turns_par hw hv hx a b).mp n
  omega
end Rt

namespace Rt
open PySem PySem.Spec PyProof.Rows L2 Evl
/-! the steps that need no thought; «walk_at "ev"» goes on till it is stuck -/
local macro_rules | `(tactic| walk_at "rt1") => `(tactic| first
  | ((with_reducible show _ = true → ED _ _ _ _); intro _) | ((with_reducible show _ = false → ED _ _ _ _); intro _) | ((with_reducible show _ = true → TD _ _ _ _); intro _) | ((with_reducible show _ = false → TD _ _ _ _); intro _)
  | with_reducible exact ed_int | with_reducible exact ed_bl | with_reducible exact ed_non | with_reducible exact ad_nil | with_reducible exact od_none | with_reducible exact td_yes
  | ((with_reducible apply ed_var); exact rfl)
  | (with_reducible apply ad_cons)
  | (with_reducible apply td_test) | (with_reducible apply td_truth) | (with_reducible apply td_not) | (with_reducible apply td_and) | (with_reducible apply td_or)
  | (with_reducible apply ed_add) | (with_reducible apply ed_sub) | (with_reducible apply ed_mul) | (with_reducible apply ed_mod) | (with_reducible apply ed_fdivP) | (with_reducible apply ed_pow) | (with_reducible apply ed_neg)
  | (with_reducible apply ed_lt) | (with_reducible apply ed_le) | (with_reducible apply ed_gt) | (with_reducible apply ed_ge)
  | (with_reducible apply ed_eqD) | (with_reducible apply ed_neD)
  | (with_reducible apply ed_ix) | (with_reducible apply ed_len) | (with_reducible apply ed_abs) | (with_reducible apply ed_gcd) | (with_reducible apply ed_isi)
  | (with_reducible apply ed_tup) | (with_reducible apply ed_tuple) | (with_reducible apply ed_andV) | (with_reducible apply ed_orV) | (with_reducible apply ed_notV)
  | (with_reducible apply od_some)
  | (with_reducible apply ef_lst) | (with_reducible apply ef_list) | (with_reducible apply ef_sl) | (with_reducible apply ef_cat)
  | (with_reducible apply EF.ed; with_reducible apply ef_lst) | (with_reducible apply EF.ed; with_reducible apply ef_list) | (with_reducible apply EF.ed; with_reducible apply ef_sl) | (with_reducible apply EF.ed; with_reducible apply ef_cat)
  | (with_reducible apply ed_call)
  | ((with_reducible show SeqD _ _); first | exact SeqD.l _ | exact SeqD.t _ | assumption)
  | ((with_reducible show Truth _ _); first | exact Truth.bool _ | exact Truth.int _ | exact Truth.l _ | exact Truth.t _)
  | ((with_reducible show SeqAt.shaped _ = true); exact rfl)
  | ((with_reducible show atI _ _ = some _); first | exact rfl | assumption)
  | ((with_reducible show kitB _ _ = some _); first | exact rfl | decide +kernel)
  | ((with_reducible show List.length _ = _); rfl)
  | ((with_reducible show List.length _ ≤ 100000); first | exact Nat.le_of_ble_eq_true rfl | (simp; done) | (simp; omega)))
local macro_rules | `(tactic| walk_at "ev") => `(tactic| repeat' walk_at "rt1")
def celN (ns : List Int) (c : Int) : Int := if (ns.getD 1 0).fmod 4 = 1 then c.fmod (2 * 10 ^ 20) - 10 ^ 20 else c.fmod 19 - 9
def rowN (ns : List Int) (k many : Int) : List Int := ((ns.drop k.toNat).take ((k + many).toNat - k.toNat)).map (celN ns)
def endN (c m : Int) : Int × Int := if m.fmod 5 = 1 then partV (c.fmod (2 * 10 ^ 12) - 10 ^ 12) (1 + (m.fdiv 5).fmod (10 ^ 12)) else partV (c.fmod 41 - 20) (1 + (m.fdiv 5).fmod 9)
theorem celN_lt (ns : List Int) (c : Int) : (celN ns c).natAbs ≤ 2 ^ 67 := by
  unfold celN
  split
  · have h1 := Int.fmod_nonneg_of_pos c (b := 2 * 10 ^ 20) (by decide)
    have h2 := Int.fmod_lt_of_pos c (b := 2 * 10 ^ 20) (by decide)
    have e : (2 * 10 ^ 20 : Int) = 200000000000000000000 := by decide
    have e2 : (10 ^ 20 : Int) = 100000000000000000000 := by decide
    rw [e] at h1 h2 ⊢; rw [e2]
    generalize c.fmod 200000000000000000000 = r at *
    have : (2 : Nat) ^ 67 = 147573952589676412928 := by decide
    omega
  · have h1 := Int.fmod_nonneg_of_pos c (b := 19) (by decide)
    have h2 := Int.fmod_lt_of_pos c (b := 19) (by decide)
    omega
/-- a part in lowest terms, of at most m bits -/
structure Low (m : Nat) (u : Int × Int) : Prop where
  pos : 0 < u.2
  gcd : Int.gcd u.1 u.2 = 1
  l1 : Lt2 m u.1
  l2 : Lt2 m u.2
theorem low_part {m : Nat} {a b : Int} (hb : 0 < b) (ha : Lt2 m a) (hb2 : Lt2 m b) : Low m (partV a b) :=
  ⟨partV_pos (by omega), partV_gcd (by omega), ha.of_le (partV_le (by omega)).1, hb2.of_le (partV_le (by omega)).2⟩
theorem endN_low (c m : Int) : Low 42 (endN c m) := by
  unfold endN
  split
  · have h1 := Int.fmod_nonneg_of_pos c (b := 2 * 10 ^ 12) (by decide)
    have h2 := Int.fmod_lt_of_pos c (b := 2 * 10 ^ 12) (by decide)
    have h3 := Int.fmod_nonneg_of_pos (m.fdiv 5) (b := 10 ^ 12) (by decide)
    have h4 := Int.fmod_lt_of_pos (m.fdiv 5) (b := 10 ^ 12) (by decide)
    have e : (2 * 10 ^ 12 : Int) = 2000000000000 := by decide
    have e2 : (10 ^ 12 : Int) = 1000000000000 := by decide
    rw [e] at h1 h2 ⊢; rw [e2] at h3 h4 ⊢
    exact low_part (by omega) (by unfold Lt2; omega) (by unfold Lt2; omega)
  · have h1 := Int.fmod_nonneg_of_pos c (b := 41) (by decide)
    have h2 := Int.fmod_lt_of_pos c (b := 41) (by decide)
    have h3 := Int.fmod_nonneg_of_pos (m.fdiv 5) (b := 9) (by decide)
    have h4 := Int.fmod_lt_of_pos (m.fdiv 5) (b := 9) (by decide)
    exact low_part (by omega) (by unfold Lt2; omega) (by unfold Lt2; omega)
theorem low_ext {m n : Nat} {u v : Int × Int} (hu : Low m u) (hv : Low n v) (h : u.1 * v.2 = v.1 * u.2) : u = v := by
  obtain ⟨a, b⟩ := u
  obtain ⟨c, d⟩ := v
  have h : a * d = c * b := h
  have g1 : Int.gcd a b = 1 := hu.gcd
  have g2 : Int.gcd c d = 1 := hv.gcd
  have p1 : 0 < b := hu.pos
  have p2 : 0 < d := hv.pos
  have d1 : b ∣ d := by
    have : b ∣ a * d := ⟨c, by rw [h, Int.mul_comm]⟩
    exact Int.natAbs_dvd_natAbs.mp (Nat.Coprime.dvd_of_dvd_mul_left (show Nat.Coprime b.natAbs a.natAbs from by rw [Nat.coprime_comm]; exact g1) (by rw [← Int.natAbs_mul]; exact Int.natAbs_dvd_natAbs.mpr this))
  have d2 : d ∣ b := by
    have : d ∣ c * b := ⟨a, by rw [← h, Int.mul_comm]⟩
    exact Int.natAbs_dvd_natAbs.mp (Nat.Coprime.dvd_of_dvd_mul_left (show Nat.Coprime d.natAbs c.natAbs from by rw [Nat.coprime_comm]; exact g2) (by rw [← Int.natAbs_mul]; exact Int.natAbs_dvd_natAbs.mpr this))
  have e : b = d := Int.le_antisymm (Int.le_of_dvd p2 d1) (Int.le_of_dvd p1 d2)
  subst e
  have e2 : a = c := Int.eq_of_mul_eq_mul_right (by omega) h
  rw [e2]
def F__law_row (ds : List PyData) (r : Res) : Prop := ∃ (ns : List Int) (k many : Int), ds = [.list (rD ns), .int k, .int many] ∧ 0 ≤ k ∧ 0 ≤ many ∧ ns.length ≤ 1000 ∧ r = .rf (rD (rowN ns k many))
def F__law_end (ds : List PyData) (r : Res) : Prop := ∃ c m : Int, ds = [.int c, .int m] ∧ r = .rt (pD (endN c m))
abbrev sp__law_row (K : PySem.W.Frag) : Sp := spD K 3 F__law_row
abbrev sp__law_end (K : PySem.W.Frag) : Sp := spD K 2 F__law_end
def pegD (xs : List Int) (u v : Int × Int) : PyData := .tuple [.tuple (rD xs), pD u, pD v]
/-- a row alone in a stretch: numbers below 2 ^ n, ends below 2 ^ m -/
structure PegOk (n m : Nat) (xs : List Int) (u v : Int × Int) : Prop where
  l2 : 2 ≤ xs.length
  len : xs.length ≤ 100
  good : Good xs
  bd : Bd (2 ^ n) xs
  lu : Low m u
  lv : Low m v
  lt : u.1 * v.2 < v.1 * u.2
  nu : (hor u.1 u.2 xs).1 ≠ 0
  nv : (hor v.1 v.2 xs).1 ≠ 0
  one : turnsL u v xs = 1
def F__law_is_peg (ds : List PyData) (r : Res) : Prop := ∃ (xs : List Int) (u v : Int × Int) (n m : Nat), ds = [pegD xs u v] ∧ PegOk n m xs u v ∧ n ≤ 7000 ∧ m ≤ 7000 ∧ r = .rt (.bool true)
abbrev sp__law_is_peg (K : PySem.W.Frag) : Sp := spD K 1 F__law_is_peg
theorem bare_self {xs : List Int} (h : Good xs) : bareL xs = xs := by
  have h1 : 0 < lastZ xs := h.1
  have e : barS xs = 1 := by unfold barS; rw [if_neg (by omega), h.2]; rfl
  unfold bareL
  rw [e]
  have : (fun a : Int => a.fdiv 1) = id := by funext a; exact Int.fdiv_one a
  rw [this, List.map_id]
def t__law_row (K : PySem.W.Frag) : TS := (tSeq (tAsg (tLst tNil) (gName 3))
  (tSeq (tFor (iSeq K (tSl (rSlS K) (tVar 0) (tPart (tVar 1)) (tPart (tOp (rI0 fun i j => .int (i + j)) (tVar 1) (tVar 2))))) (gName 4) (tIfS (tTest (tOp (rEqD K) (tOp (rI (fun _ j => j ≠ 0) fun i j => .int (i.fmod j)) (tCall (sp__law_cell_at K) [] E0 (tCons (tVar 0) (tCons (tC (.int 1)) tNil))) (tC (.int 4))) (tC (.int 1)))) (tDrop (tBM K "list" rAppend (tVar 3) (tCons (tOp (rI0 fun i j => .int (i - j)) (tOp (rI (fun _ j => j ≠ 0) fun i j => .int (i.fmod j)) (tVar 4) (tOp (rI CMulX fun i j => .int (i * j)) (tC (.int 2)) (tOp (rI CPow fun i j => .int (i ^ j.toNat)) (tC (.int 10)) (tC (.int 20))))) (tOp (rI CPow fun i j => .int (i ^ j.toNat)) (tC (.int 10)) (tC (.int 20)))) tNil))) (tDrop (tBM K "list" rAppend (tVar 3) (tCons (tOp (rI0 fun i j => .int (i - j)) (tOp (rI (fun _ j => j ≠ 0) fun i j => .int (i.fmod j)) (tVar 4) (tC (.int 19))) (tC (.int 9))) tNil)))))
  (tRet (tVar 3))))
abbrev N__law_row : List Str := ["_law_script", "_law_k", "_law_many", "_law_row_here", "_law_cell"]
def t__law_end (K : PySem.W.Frag) : TS := (tSeq (tIfS (tTest (tOp (rEqD K) (tOp (rI (fun _ j => j ≠ 0) fun i j => .int (i.fmod j)) (tVar 1) (tC (.int 5))) (tC (.int 1)))) (tRet (tCall (sp__law_part K) [] E0 (tCons (tOp (rI0 fun i j => .int (i - j)) (tOp (rI (fun _ j => j ≠ 0) fun i j => .int (i.fmod j)) (tVar 0) (tOp (rI CMulX fun i j => .int (i * j)) (tC (.int 2)) (tOp (rI CPow fun i j => .int (i ^ j.toNat)) (tC (.int 10)) (tC (.int 12))))) (tOp (rI CPow fun i j => .int (i ^ j.toNat)) (tC (.int 10)) (tC (.int 12)))) (tCons (tOp (rI0 fun i j => .int (i + j)) (tC (.int 1)) (tOp (rI (fun _ j => j ≠ 0) fun i j => .int (i.fmod j)) (tOp (rI CDivQ fun i j => .int (i.fdiv j)) (tVar 1) (tC (.int 5))) (tOp (rI CPow fun i j => .int (i ^ j.toNat)) (tC (.int 10)) (tC (.int 12))))) tNil)))) tNext)
  (tRet (tCall (sp__law_part K) [] E0 (tCons (tOp (rI0 fun i j => .int (i - j)) (tOp (rI (fun _ j => j ≠ 0) fun i j => .int (i.fmod j)) (tVar 0) (tC (.int 41))) (tC (.int 20))) (tCons (tOp (rI0 fun i j => .int (i + j)) (tC (.int 1)) (tOp (rI (fun _ j => j ≠ 0) fun i j => .int (i.fmod j)) (tOp (rI CDivQ fun i j => .int (i.fdiv j)) (tVar 1) (tC (.int 5))) (tC (.int 9)))) tNil)))))
abbrev N__law_end : List Str := ["_law_cell", "_law_more"]
def t__law_is_peg (K : PySem.W.Frag) : TS := (tSeq (tIfS (tOr (tNot (tTruth K (tCB (rIsi K) (tCons (tVar 0) (tCons (tC (.ty "tuple")) tNil))))) (tOr (tTest (tOp (rNeD K) (tLen K (tVar 0)) (tC (.int 3)))) (tNot (tTruth K (tCB (rIsi K) (tCons (tOp (rIx K) (tVar 0) (tC (.int 0))) (tCons (tC (.ty "tuple")) tNil))))))) (tRet (tC (.bl false))) tNext)
  (tSeq (tAsg (tCB (rListS K) (tCons (tOp (rIx K) (tVar 0) (tC (.int 0))) tNil)) (gName 1))
  (tSeq (tIfS (tOr (tTest (tOp (rI0 fun i j => .bl (decide (i < j))) (tLen K (tVar 1)) (tC (.int 2)))) (tOr (tTest (tOp (rI0 fun i j => .bl (decide (j < i))) (tLen K (tLc (iSeq K (tVar 1)) (gName 4) (tNot (tTruth K (tCall (sp__law_whole K) [] E0 (tCons (tVar 4) tNil)))) (tVar 4) [4])) (tC (.int 0)))) (tTest (tOp (rI0 fun i j => .bl (decide (i < j))) (tOp (rIx K) (tVar 1) (tUn (rU fun i => .int (-i)) (tC (.int 1)))) (tC (.int 1)))))) (tRet (tC (.bl false))) tNext)
  (tSeq (tIfS (tOr (tTest (tOp (rNeD K) (tCall (sp__law_smallest K) [] E0 (tCons (tVar 1) tNil)) (tVar 1))) (tOr (tNot (tTruth K (tCall (sp__law_is_part K) [] E0 (tCons (tOp (rIx K) (tVar 0) (tC (.int 1))) tNil)))) (tNot (tTruth K (tCall (sp__law_is_part K) [] E0 (tCons (tOp (rIx K) (tVar 0) (tC (.int 2))) tNil)))))) (tRet (tC (.bl false))) tNext)
  (tSeq (tAsg (tCall (sp__law_value K) [] E0 (tCons (tVar 1) (tCons (tOp (rIx K) (tVar 0) (tC (.int 1))) tNil))) (gName 2))
  (tSeq (tAsg (tCall (sp__law_value K) [] E0 (tCons (tVar 1) (tCons (tOp (rIx K) (tVar 0) (tC (.int 2))) tNil))) (gName 3))
  (tSeq (tIfS (tOr (tTest (tOp (rI0 fun i j => .bl (decide (j ≤ i))) (tOp (rI CMulX fun i j => .int (i * j)) (tOp (rIx K) (tOp (rIx K) (tVar 0) (tC (.int 1))) (tC (.int 0))) (tOp (rIx K) (tOp (rIx K) (tVar 0) (tC (.int 2))) (tC (.int 1)))) (tOp (rI CMulX fun i j => .int (i * j)) (tOp (rIx K) (tOp (rIx K) (tVar 0) (tC (.int 2))) (tC (.int 0))) (tOp (rIx K) (tOp (rIx K) (tVar 0) (tC (.int 1))) (tC (.int 1)))))) (tOr (tTest (tOp (rEqD K) (tVar 2) (tC (.int 0)))) (tTest (tOp (rEqD K) (tVar 3) (tC (.int 0)))))) (tRet (tC (.bl false))) tNext)
  (tRet (tOp (rEqD K) (tCall (sp__law_turns K) [] E0 (tCons (tVar 1) (tCons (tOp (rIx K) (tVar 0) (tC (.int 1))) (tCons (tOp (rIx K) (tVar 0) (tC (.int 2))) tNil)))) (tC (.int 1)))))))))))
abbrev N__law_is_peg : List Str := ["_law_found", "_law_row", "_law_low", "_law_high", "_law_one"]
section
variable {K : PySem.W.Frag}
theorem pure__law_row (ds : List PyData) (r : Res) (h : F__law_row ds r) (B0 B : Hp) : SD K B0 B (t__law_row K) (startR N__law_row ds) (fin r) := by
  obtain ⟨ns, k, many, rfl, hk, hm, hl, rfl⟩ := h
  unfold t__law_row rowN
  have sl : EF K (tSl (rSlS K) (tVar 0) (tPart (tVar 1)) (tPart (tOp (rI0 fun i j => .int (i + j)) (tVar 1) (tVar 2)))) [some (.d (.list (rD ns))), some (.d (.int k)), some (.d (.int many)), some (.own []), none] (rD ((ns.drop k.toNat).take ((k + many).toNat - k.toNat))) := (ef_sl (ed_var rfl) (od_some (ed_var rfl)) (od_some (ed_add (ed_var rfl) (ed_var rfl)))).cast (cut_I ns hk (by omega))
  have ll : ((ns.drop k.toNat).take ((k + many).toNat - k.toNat)).length ≤ 1000 := by rw [List.length_take, List.length_drop]; omega
  generalize (ns.drop k.toNat).take ((k + many).toNat - k.toNat) = xs at *
  refine sd_seq (sd_setF (ef_lst ad_nil (by decide)) ?_)
  refine sd_seq (sd_for (id_seq (EF.ed sl) (SeqD.l _)) (fun i ρ => ∃ z, ρ = [some (.d (.list (rD ns))), some (.d (.int k)), some (.d (.int many)), some (.own (rD ((xs.take i).map (celN ns)))), z]) ⟨none, rfl⟩ ?_ ?_)
  · rintro i d ρ' hi ⟨z, rfl⟩
    obtain ⟨c, hc, rfl⟩ := rD_get hi
    refine ⟨_, gd_name, ?_⟩
    have cp : CPow 10 20 := ⟨by decide, by decide, by decide⟩
    have c2 : CMulX 2 (10 ^ (20 : Int).toNat) := (Lt2.of_lt (n := 3) (by decide)).cm (Lt2.of_lt (n := 80) (by decide)) (by decide)
    have fl : ((xs.take i).map (celN ns)).length ≤ 1000 := by rw [List.length_map, List.length_take]; omega
    have en : rD ((xs.take i).map (celN ns)) ++ [PyData.int (celN ns c)] = rD ((xs.take (i + 1)).map (celN ns)) := by
      rw [take_snoc hc]; unfold rD; rw [List.map_append, List.map_append]; rfl
    have cell : ED K (tCall (sp__law_cell_at K) [] E0 (tCons (tVar 0) (tCons (tC (.int 1)) tNil))) [some (.d (.list (rD ns))), some (.d (.int k)), some (.d (.int many)), some (.own (rD ((xs.take i).map (celN ns)))), some (.d (.int c))] (.int (ns.getD 1 0)) := ed_call (ad_cons (ed_var rfl) (ad_cons ed_int ad_nil)) ⟨ns, 1, rfl, by decide, rfl⟩ rfl
    refine sd_if (td_test (ed_eqI (ed_mod cell ed_int (by decide)) ed_int)) (fun hb => ?_) (fun hb => ?_)
    · have hb : (ns.getD 1 0).fmod 4 = 1 := of_decide_eq_true hb
      have e : celN ns c = c.fmod (2 * 10 ^ 20) - 10 ^ 20 := by unfold celN; rw [if_pos hb]
      refine sd_app (ds := rD ((xs.take i).map (celN ns))) (d := .int (celN ns c)) rfl ?_ (by rw [rD_len]; omega) ⟨_, by rw [en]; rfl⟩
      rw [e]
      exact ed_sub (ed_mod (ed_var rfl) (ed_mul ed_int (ed_pow ed_int ed_int cp) c2) (by decide)) (ed_pow ed_int ed_int cp)
    · have hb : ¬ (ns.getD 1 0).fmod 4 = 1 := of_decide_eq_false hb
      have e : celN ns c = c.fmod 19 - 9 := by unfold celN; rw [if_neg hb]
      refine sd_app (ds := rD ((xs.take i).map (celN ns))) (d := .int (celN ns c)) rfl ?_ (by rw [rD_len]; omega) ⟨_, by rw [en]; rfl⟩
      rw [e]
      exact ed_sub (ed_mod (ed_var rfl) ed_int (by decide)) ed_int
  · rintro ρ' ⟨z, rfl⟩
    show SD K B0 B _ _ _
    rw [rD_len, List.take_length]
    exact sd_retO (i := 3) rfl rfl
theorem pure__law_end (ds : List PyData) (r : Res) (h : F__law_end ds r) (B0 B : Hp) : SD K B0 B (t__law_end K) (startR N__law_end ds) (fin r) := by
  obtain ⟨c, m, rfl, rfl⟩ := h
  have cp : CPow 10 12 := ⟨by decide, by decide, by decide⟩
  have c2 : CMulX 2 (10 ^ (12 : Int).toNat) := (Lt2.of_lt (n := 3) (by decide)).cm (Lt2.of_lt (n := 80) (by decide)) (by decide)
  have c5 : CDivQ m 5 := Lt2.cd (n := 4) (by decide) (Lt2.of_lt (by decide)) (by decide)
  have h3 := Int.fmod_nonneg_of_pos (m.fdiv 5) (b := 10 ^ 12) (by decide)
  have h4 := Int.fmod_lt_of_pos (m.fdiv 5) (b := 10 ^ 12) (by decide)
  have h5 := Int.fmod_nonneg_of_pos (m.fdiv 5) (b := 9) (by decide)
  have h6 := Int.fmod_lt_of_pos (m.fdiv 5) (b := 9) (by decide)
  unfold t__law_end endN
  refine sd_seq (sd_if (td_test (ed_eqI (ed_mod (ed_var rfl) ed_int (by decide)) ed_int)) (fun hb => ?_) (fun hb => ?_))
  · have hb : m.fmod 5 = 1 := of_decide_eq_true hb
    rw [if_pos hb]
    refine sd_ret (d := pD (partV (c.fmod (2 * 10 ^ 12) - 10 ^ 12) (1 + (m.fdiv 5).fmod (10 ^ 12)))) (ed_call (ad_cons (ed_sub (ed_mod (ed_var rfl) (ed_mul ed_int (ed_pow ed_int ed_int cp) c2) (by decide)) (ed_pow ed_int ed_int cp)) (ad_cons (ed_add ed_int (ed_mod (ed_fdivP (ed_var rfl) ed_int c5) (ed_pow ed_int ed_int cp) (by decide))) ad_nil)) ⟨_, _, rfl, ?_, ?_, rfl⟩ rfl) rfl
    · show 1 + (m.fdiv 5).fmod (10 ^ 12) ≠ 0
      omega
    · show Lt2 8000 (1 + (m.fdiv 5).fmod (10 ^ 12))
      have e2 : (10 ^ 12 : Int) = 1000000000000 := by decide
      rw [e2] at h3 h4 ⊢
      exact Lt2.mono (n := 42) (by unfold Lt2; omega) (by decide)
  · have hb : ¬ m.fmod 5 = 1 := of_decide_eq_false hb
    rw [if_neg hb]
    refine sd_next ?_
    refine sd_ret (d := pD (partV (c.fmod 41 - 20) (1 + (m.fdiv 5).fmod 9))) (ed_call (ad_cons (ed_sub (ed_mod (ed_var rfl) ed_int (by decide)) ed_int) (ad_cons (ed_add ed_int (ed_mod (ed_fdivP (ed_var rfl) ed_int c5) ed_int (by decide))) ad_nil)) ⟨_, _, rfl, by omega, Lt2.mono (n := 42) (by unfold Lt2; omega) (by decide), rfl⟩ rfl) rfl
theorem pure__law_is_peg (ds : List PyData) (r : Res) (h : F__law_is_peg ds r) (B0 B : Hp) : SD K B0 B (t__law_is_peg K) (startR N__law_is_peg ds) (fin r) := by
  obtain ⟨xs, u, v, n, m, rfl, p, hn, hm, rfl⟩ := h
  have z := p.good.ne
  have nx := lastZ_ne z
  have l2 := p.l2
  have ll := p.len
  have gl : 0 < lastZ xs := p.good.1
  have sq : SeqD (pegD xs u v) [.tuple (rD xs), pD u, pD v] := SeqD.t _
  have su := pD_seq u
  have sv := pD_seq v
  have sx := shaped_l xs
  have ex : PyData.eqv (.list (rD xs)) (.list (rD xs)) = true := by rw [eqv_l]; simp
  have sz : Sz 8000 xs := p.bd.sz.mono (by omega)
  have lu8 := p.lu.l2.mono (show m ≤ 8000 by omega)
  have lv8 := p.lv.l2.mono (show m ≤ 8000 by omega)
  have fs : F__law_smallest [.list (rD xs)] (.rf (rD xs)) := ⟨_, xs, 8000, rfl, SeqD.l _, z, by omega, sz, by decide, by rw [bare_self p.good]⟩
  have fu : F__law_is_part [pD u] (.rt (.bool true)) := ⟨u, rfl, p.lu.pos, lu8, p.lu.gcd, rfl⟩
  have fv : F__law_is_part [pD v] (.rt (.bool true)) := ⟨v, rfl, p.lv.pos, lv8, p.lv.gcd, rfl⟩
  have big : 8000 + (xs.length + 2) * (7001 + 1) ≤ 100000000 := by
    have : (xs.length + 2) * (7001 + 1) ≤ 102 * 7002 := Nat.mul_le_mul_right _ (by omega)
    omega
  have vu : F__law_value [.list (rD xs), pD u] (.rt (.int (hor u.1 u.2 xs).1)) := ⟨_, xs, u.1, u.2, 8000, 7001, rfl, SeqD.l _, by omega, sz, p.lu.l1.mono (by omega), p.lu.l2.mono (by omega), by decide, big, rfl⟩
  have vv : F__law_value [.list (rD xs), pD v] (.rt (.int (hor v.1 v.2 xs).1)) := ⟨_, xs, v.1, v.2, 8000, 7001, rfl, SeqD.l _, by omega, sz, p.lv.l1.mono (by omega), p.lv.l2.mono (by omega), by decide, big, rfl⟩
  have ft : F__law_turns [.list (rD xs), pD u, pD v] (.rt (.int 1)) := ⟨_, xs, u, v, n, m, rfl, SeqD.l _, ll, p.bd, p.lu.l1, p.lu.l2, p.lv.l1, p.lv.l2, by omega, by omega, by rw [p.one]; rfl⟩
  have cuv : CMulX u.1 v.2 := p.lu.l1.cm p.lv.l2 (by omega)
  have cvu : CMulX v.1 u.2 := p.lv.l1.cm p.lu.l2 (by omega)
  have lt := p.lt
  have nu := p.nu
  have nv := p.nv
  generalize (hor u.1 u.2 xs).1 = a at *
  generalize (hor v.1 v.2 xs).1 = b at *
  unfold t__law_is_peg
  show SD K B0 B _ [some (.d (pegD xs u v)), none, none, none, none] _
  have x0 : ∀ ρ : Rho, ρ[0]? = some (some (.d (pegD xs u v))) → ED K (tOp (rIx K) (tVar 0) (tC (.int 0))) ρ (.tuple (rD xs)) := fun ρ h => ed_ix (ed_var h) sq ed_int rfl
  have x1 : ∀ ρ : Rho, ρ[0]? = some (some (.d (pegD xs u v))) → ED K (tOp (rIx K) (tVar 0) (tC (.int 1))) ρ (pD u) := fun ρ h => ed_ix (ed_var h) sq ed_int rfl
  have x2 : ∀ ρ : Rho, ρ[0]? = some (some (.d (pegD xs u v))) → ED K (tOp (rIx K) (tVar 0) (tC (.int 2))) ρ (pD v) := fun ρ h => ed_ix (ed_var h) sq ed_int rfl
  refine sd_seq (sd_if (b := false) ((td_or (td_not (td_truth (ed_isi (ed_var rfl) rfl) (Truth.bool _))) fun _ => td_or (td_test (ed_neI ((ed_len (ed_var rfl) sq).cast (show PyData.int ((3 : Nat) : Int) = .int 3 from rfl)) ed_int)) fun _ => td_not (td_truth (ed_isi (x0 _ rfl) rfl) (Truth.bool _))).cast (by decide)) (fun hb => nomatch hb) (fun _ => ?_))
  refine sd_next ?_
  refine sd_seq (sd_setF (ef_list (x0 _ rfl) (SeqD.t _)) ?_)
  refine sd_frz (i := 1) rfl ?_
  show SD K B0 B _ [some (.d (pegD xs u v)), some (.d (.list (rD xs))), none, none, none] _
  have lcw : ED K (tLen K (tLc (iSeq K (tVar 1)) (gName 4) (tNot (tTruth K (tCall (sp__law_whole K) [] E0 (tCons (tVar 4) tNil)))) (tVar 4) [4])) [some (.d (pegD xs u v)), some (.d (.list (rD xs))), none, none, none] (.int 0) := by
    refine (ed_len (EF.ed (ef_lcG (b := fun _ => false) (fun _ => .int 0) (id_seq (ed_var rfl) (SeqD.l _)) (by rw [rD_len]; omega) fun i d hi => ?_)) (SeqD.l _)).cast ?_
    · obtain ⟨a, ha, rfl⟩ := rD_get hi
      exact ⟨_, gc_name, td_not (td_truth (ed_call (F := F__law_whole) (ad_cons (ed_var rfl) ad_nil) ⟨a, rfl, rfl⟩ rfl) (Truth.bool _)), fun z => nomatch z⟩
    · simp
  refine sd_seq (sd_if (b := false) ((td_or (td_test (ed_lt (ed_lenR (ed_var rfl) (SeqD.l _)) ed_int)) fun _ => td_or (td_test (ed_gt lcw ed_int)) fun _ => td_test (ed_lt (ed_ix (ed_var rfl) (SeqD.l _) (ed_neg ed_int) (rD_last' nx)) ed_int)).cast (by simp; omega)) (fun hb => nomatch hb) (fun _ => ?_))
  refine sd_next ?_
  refine sd_seq (sd_if (b := false) ((td_or (td_test (ed_neD (EF.ed (ef_call (ad_cons (ed_var rfl) ad_nil) fs rfl)) (ed_var rfl) sx sx)) fun _ => td_or (td_not (td_truth (ed_call (ad_cons (x1 _ rfl) ad_nil) fu rfl) (Truth.bool _))) fun _ => td_not (td_truth (ed_call (ad_cons (x2 _ rfl) ad_nil) fv rfl) (Truth.bool _))).cast (by rw [ex]; rfl)) (fun hb => nomatch hb) (fun _ => ?_))
  refine sd_next ?_
  refine sd_seq (sd_set (ed_call (ad_cons (ed_var rfl) (ad_cons (x1 _ rfl) ad_nil)) vu rfl) ?_)
  refine sd_seq (sd_set (ed_call (ad_cons (ed_var rfl) (ad_cons (x2 _ rfl) ad_nil)) vv rfl) ?_)
  refine sd_seq (sd_if (b := false) ((td_or (td_test (ed_ge (ed_mul (ed_ix (x1 _ rfl) su ed_int rfl) (ed_ix (x2 _ rfl) sv ed_int rfl) cuv) (ed_mul (ed_ix (x2 _ rfl) sv ed_int rfl) (ed_ix (x1 _ rfl) su ed_int rfl) cvu))) fun _ => td_or (td_test (ed_eqI (ed_var rfl) ed_int)) fun _ => td_test (ed_eqI (ed_var rfl) ed_int)).cast (by simp [nu, nv]; omega)) (fun hb => nomatch hb) (fun _ => ?_))
  refine sd_next ?_
  exact sd_ret (d := .bool true) (ed_eqI (ed_call (ad_cons (ed_var rfl) (ad_cons (x1 _ rfl) (ad_cons (x2 _ rfl) ad_nil))) ft rfl) ed_int) rfl
end
end Rt

/-! slices backwards, xs[i] += e, lcm -/
namespace HT
open PySem PySem.Spec PyProof.Rows L2
section
variable {prog : Program} {w : World} {A : Around} {E : Value → Shared → Prop} {s : Shared}
/-- how many items xs[lo::-1] has -/
def mIx (n : Nat) : Option Int → Nat
  | none => n
  | some v => if v < 0 then (v + n + 1).toNat else min (v.toNat + 1) n
theorem mIx_le (n : Nat) (lo : Option Int) : mIx n lo ≤ n := by
  cases lo with
  | none => exact Nat.le_refl _
  | some v =>
    show (if v < 0 then (v + n + 1).toNat else min (v.toNat + 1) n) ≤ n
    split <;> omega
theorem adjust_neg (lo : Option Int) (n : Nat) : Builtin.Slice.sliceAdjust lo none (-1) (n : Int) = (((mIx n lo : Nat) : Int) - 1, -1) := by
  have h1 : ((-1 : Int) < 0) := by decide
  unfold Builtin.Slice.sliceAdjust
  simp only [h1, if_true]
  refine Prod.ext ?_ rfl
  cases lo with
  | none => rfl
  | some v =>
    show (if v < 0 then max (v + (n : Int)) (-1) else min v ((n : Int) - 1)) = ((if v < 0 then (v + n + 1).toNat else min (v.toNat + 1) n : Nat) : Int) - 1
    by_cases hv : v < 0
    · rw [if_pos hv, if_pos hv]; omega
    · rw [if_neg hv, if_neg hv]; omega
theorem places_neg (m : Nat) : Builtin.Slice.slicePlaces ((m : Int) - 1) (-1) (-1) = m := by
  unfold Builtin.Slice.slicePlaces
  rw [if_neg (by decide)]
  have : (-(-1 : Int)) = 1 := by decide
  rw [this, Int.ediv_one]
  split <;> omega
theorem fmap_map {α β : Type} {f : α → Option β} {g : α → β} : ∀ (l : List α), (∀ k ∈ l, f k = some (g k)) → l.filterMap f = l.map g
  | [], _ => rfl
  | a :: l, h => by
    rw [List.filterMap_cons, h a List.mem_cons_self, List.map_cons, fmap_map l fun k hk => h k (List.mem_cons_of_mem _ hk)]
theorem pick_neg (xs : Array Value) (m : Nat) (hm : m ≤ xs.size) : ((List.range m).filterMap fun (k : Nat) => xs[((m : Int) - 1 + (k : Int) * (-1)).toNat]?).toArray = ((xs.toList.take m).reverse).toArray := by
  congr 1
  have e : ∀ k ∈ List.range m, xs[((m : Int) - 1 + (k : Int) * (-1)).toNat]? = some (xs.toList.getD (m - 1 - k) .none) := fun k hk => by
    have hk := List.mem_range.mp hk
    have : ((m : Int) - 1 + (k : Int) * (-1)).toNat = m - 1 - k := by omega
    rw [this, List.getD_eq_getElem?_getD, ← Array.getElem?_toList]
    have h : m - 1 - k < xs.toList.length := by rw [Array.length_toList]; omega
    rw [List.getElem?_eq_getElem h]; rfl
  have e2 : (List.range m).filterMap (fun (k : Nat) => xs[((m : Int) - 1 + (k : Int) * (-1)).toNat]?) = (List.range m).map fun k => xs.toList.getD (m - 1 - k) .none := by
    exact fmap_map _ e
  rw [e2]
  apply List.ext_getElem
  · rw [List.length_map, List.length_range, List.length_reverse, List.length_take, Array.length_toList]; omega
  · intro i h1 h2
    rw [List.getElem_map, List.getElem_range, List.getElem_reverse, List.getElem_take]
    rw [List.length_map, List.length_range] at h1
    have h : m - 1 - i < xs.toList.length := by rw [Array.length_toList]; omega
    rw [List.getD_eq_getElem?_getD, List.getElem?_eq_getElem h]
    show xs.toList[m - 1 - i] = _
    congr 1
    rw [List.length_take, Array.length_toList]; omega
theorem sliceApplied_neg {sl : Addr} {vl vk : Value} {lo : Option Int} {n : Nat} {Q : Int × Int × Nat → Shared → Prop} (hs : s.heap.IsSliceOf sl vl .none vk) (pl : IsPart vl lo) (pk : IsPart vk (some (-1)))
    (h : Q (((mIx n lo : Nat) : Int) - 1, -1, mIx n lo) s) : wpAny (model prog w) A (Builtin.Slice.sliceApplied (.ref sl) (pure (n : Int))) Q E s := by
  obtain ⟨os, hos, hcs, hds⟩ := id hs
  unfold Builtin.Slice.sliceApplied Builtin.Slice.sliceFields
  refine wpAny_bind (wpAny_bind (wpAny_field hos hds (x := vl) rfl (wpAny_bind (wpAny_field hos hds (x := .none) rfl (wpAny_bind (wpAny_field hos hds (x := vk) rfl (wpAny_pure ?_)))))))
  refine wpAny_bind (slicePart_ pk ?_)
  show wpAny _ _ (if ((-1 : Int) == 0) = true then _ else _) _ _ s
  rw [if_neg (by decide)]
  refine wpAny_bind (slicePart_ pl (wpAny_bind (slicePart_none (wpAny_bind (wpAny_pure ?_)))))
  show wpAny _ _ (match Builtin.Slice.sliceAdjust lo none (-1) (n : Int) with | (lo, hi) => pure (lo, (-1 : Int), Builtin.Slice.slicePlaces lo hi (-1))) _ _ s
  rw [adjust_neg lo n]
  show wpAny _ _ (pure (((mIx n lo : Nat) : Int) - 1, (-1 : Int), Builtin.Slice.slicePlaces (((mIx n lo : Nat) : Int) - 1) (-1) (-1))) _ _ s
  rw [places_neg]
  exact wpAny_pure h
theorem getItem_tuple_neg {t sl : Addr} {items : Array Value} {vl vk : Value} {lo : Option Int} {Q : Value → Shared → Prop} (ht : IsTup s.heap t items) (hs : s.heap.IsSliceOf sl vl .none vk) (pl : IsPart vl lo) (pk : IsPart vk (some (-1)))
    (h : Q (.ref s.heap.objs.size) { s with heap := s.heap.push { cls := .type "tuple", data := .seq ((items.toList.take (mIx items.size lo)).reverse).toArray } })
    (hsz : items.size ≤ sizeLine) : wpAny (model prog w) A (getItem (.ref t) (.ref sl)) Q E s := by
  have hm := mIx_le items.size lo
  have htake : sizeOk (.seq ((items.toList.take (mIx items.size lo)).reverse).toArray) := by
    show ((items.toList.take (mIx items.size lo)).reverse).toArray.size ≤ sizeLine
    rw [List.size_toArray, List.length_reverse, List.length_take, Array.length_toList]
    omega
  obtain ⟨os, hos, hcs, hds⟩ := id hs
  have hTs : s.TypeIs (.ref sl) "slice" := ⟨os, hos, hcs⟩
  unfold getItem
  try with_reducible refine wpAny_holding ?_
  first | refine wpAny_bind (wpAny_pure ?_) | skip
  refine wpAny_bind (wpAny_sequenceKey ht.typeIs (by decide) ?_)
  refine wpAny_bind (wpAny_callSpecial?_slot (name := Str.ofString "__getitem__") ht.typeIs PyProof.Rows.slot_tuple_getitem
    (wpAny_call_entry PyProof.Rows.slot_tuple_getitem ht.typeIs entry_tuple_getitem ?_ (args_tuple_getitem _ _)))
  show wpAny _ _ (Builtin.Tuple.tupleItemsOf (.ref t) >>= _) _ _ s
  refine wpAny_bind (tupleItemsOf_ ht ?_)
  refine wpAny_bind (wpAny_typeOf hTs ?_)
  rw [if_pos (by decide)]
  refine wpAny_bind (sliceApplied_neg hs pl pk ?_)
  have hno : ¬ (((((mIx items.size lo : Nat) : Int) - 1) == 0 && (-1 : Int) == 1 && mIx items.size lo == items.size) = true) := by
    intro q
    rw [Bool.and_eq_true, Bool.and_eq_true] at q
    exact absurd q.1.2 (by decide)
  show wpAny _ _ (if (((((mIx items.size lo : Nat) : Int) - 1) == 0 && (-1 : Int) == 1 && mIx items.size lo == items.size) = true) then _ else _) _ _ s
  rw [if_neg hno, pick_neg _ _ hm]
  first
    | exact wpAny_bind (m := Builtin.Tuple.tupleExact _) (wpAny_newObj_type (wpAny_pure ⟨_, rfl, wpAny_pure h⟩) htake)
    | exact wpAny_bind (m := Builtin.Tuple.tupleExact _) (wpAny_newObj_type (wpAny_bind (wpAny_pure (wpAny_pure ⟨_, rfl, wpAny_pure h⟩))) htake)
    | exact wpAny_bind (wpAny_bind (m := Builtin.Tuple.tupleExact _) (wpAny_newObj_type (wpAny_pure (wpAny_pure ⟨_, rfl, wpAny_pure h⟩)) htake))
    | exact wpAny_bind (wpAny_bind (m := Builtin.Tuple.tupleExact _) (wpAny_newObj_type (wpAny_pure ⟨_, rfl, wpAny_pure h⟩) htake))
theorem slicePick_neg (items : Array Value) (lo : Option Int) : slicePick items lo none (some (-1)) = ((items.toList.take (mIx items.size lo)).reverse).toArray := by
  rw [← pick_neg _ _ (mIx_le items.size lo)]
  unfold slicePick
  have e : sliceBounds lo none (some (-1)) items.size = (((mIx items.size lo : Nat) : Int) - 1, -1, -1) := by
    refine Prod.ext ?_ rfl
    cases lo with
    | none => rfl
    | some v =>
      show (let i := if v < 0 then v + (items.size : Int) else v; if (-1 : Int) > 0 then max 0 (min i items.size) else max (-1) (min i ((items.size : Int) - 1))) = ((if v < 0 then (v + items.size + 1).toNat else min (v.toNat + 1) items.size : Nat) : Int) - 1
      dsimp only
      rw [if_neg (by decide)]
      split <;> omega
  rw [e]
  congr 1
  show (sliceRange (((mIx items.size lo : Nat) : Int) - 1) (-1) (-1)).filterMap _ = _
  unfold sliceRange
  rw [if_neg (by decide)]
  have e1 : (if ((mIx items.size lo : Nat) : Int) - 1 > -1 then ((mIx items.size lo : Nat) - 1 - -1 - -1 - 1) / (- -1) else 0 : Int) = (mIx items.size lo : Nat) := by
    rw [show (- -1 : Int) = 1 by decide, Int.ediv_one]
    split <;> omega
  dsimp only
  rw [e1, Int.toNat_natCast, List.filterMap_map]
  congr 1
  funext k
  show items[(((mIx items.size lo : Nat) : Int) - 1 + -1 * (k : Int)).toNat]? = _
  rw [show -1 * (k : Int) = (k : Int) * -1 from Int.mul_comm _ _]
end
end HT
namespace L2
open PySem PySem.Spec PyProof.Rows
/-- a slice backwards: the slice object stands at sl -/
def SlR3 (X : Cx) (r : V → Option Int → Hp → VK → Prop) : Prop :=
  ∀ (pins : List (Addr × Obj)) (s : Shared) (σ : St) (H : Hp) (x : V) (v vl vk : Value) (lo : Option Int) (sl : Addr) (Q : VK), Inv X pins σ H s → RelV x v → s.heap.IsSliceOf sl vl .none vk → IsPart vl lo → IsPart vk (some (-1)) → r x lo H Q →
    ∃ T id, typeLookup (.type T) "__getitem__" = pure (some (.builtin id)) ∧ s.TypeIs v T ∧ wpAny (model X.prog X.w) X.A (getItem v (.ref sl)) (EP X pins σ Q) X.xe s
def tSl3 (r : V → Option Int → Hp → VK → Prop) (te : TE) (tl tk : TO) : TE := fun σ H Q => te σ H fun x H1 => tl σ H1 fun l H2 => tk σ H2 fun k H3 => k = some (-1) ∧ r x l H3 Q
section
variable {X : Cx} {e : Expr} {lo : Option Expr} {st : Expr} {te : TE} {tl tk : TO} {p2 pos : Pos}
/-- a[lo::st] -/
theorem pe_slice3 {r : V → Option Int → Hp → VK → Prop} (hr : SlR3 X r) (he : PE X e te) (hl : PO X lo tl) (hk : PO X (some st) tk) : PE X (.Subscript e (.Slice lo none (some st) p2) pos) (tSl3 r te tl tk) := by
  refine ⟨fun pins s σ H Q I h => ?_⟩
  refine Subscript_ (thn (he.run pins s σ H _ I h) fun v s1 ⟨x, H1, I1, r1, q1⟩ => ?_)
  refine wpAny_Slice (thn (hl.run pins s1 σ H1 _ I1 q1) fun vl s2 ⟨l, H2, I2, pl, q2⟩ => ?_)
  rw [evalPart_none]
  refine wpAny_pure (thn (hk.run pins s2 σ H2 _ I2 q2) fun vk s3 ⟨k, H3, I3, pk, ek, q3⟩ => ?_)
  subst ek
  have I4 : Inv X pins σ H3 { s3 with heap := s3.heap.push { cls := .type "slice", data := .fields #[vl, .none, vk] } } := I3.kept (t' := s3.toks) fun b ob q => Heap.get?_push_of_some _ q
  obtain ⟨T, id, hT, ht, hg⟩ := hr pins { s3 with heap := s3.heap.push { cls := .type "slice", data := .fields #[vl, .none, vk] } } σ H3 x v vl vk l s3.heap.objs.size Q I4 r1 (Heap.IsSliceOf.new ..) pl pk q3
  show wpAny (model X.prog X.w) X.A (subscriptTail e (.Slice lo none (some st) p2) v (.ref s3.heap.objs.size)) (EP X pins σ Q) X.xe { s3 with heap := s3.heap.push { cls := .type "slice", data := .fields #[vl, .none, vk] } }
  exact tail_any (ops := [v, .ref s3.heap.objs.size]) ht hT hg (by with_unfolding_all rfl)
/-- the items of xs[lo::-1] -/
def revV (xs : List V) (lo : Option Int) : List V := (xs.take (HT.mIx xs.length lo)).reverse
theorem revV_length (xs : List V) (lo : Option Int) : (revV xs lo).length ≤ xs.length := by
  unfold revV
  rw [List.length_reverse, List.length_take]
  omega
def rSl3 (K : PySem.W.Frag) : V → Option Int → Hp → VK → Prop := fun x lo H Q => ∃ a xs, x = .ref a ∧ ((SqL K H a xs ∧ ∀ p, H p = none → Q (.ref p) (upd H p (.lst (revV xs lo)))) ∨ (SqT K H a xs ∧ ∀ p, H p = none → Q (.ref p) (upd H p (.tup (revV xs lo)))))
theorem sl3_seq : SlR3 X (rSl3 X.K) := by
  intro pins s σ H x v vl vk lo sl Q I rx hs pl pk h
  obtain ⟨a, xs, rfl, h⟩ := h
  cases rx
  rcases h with ⟨hx, q⟩ | ⟨hx, q⟩
  · obtain ⟨its, r, ht, hz⟩ := I.list hx
    have hlen := r.length
    refine ⟨"list", _, slot_list_getitem.lookup, ht.isList.typeIs, ?_⟩
    refine wpAny_getItem_list_slice ht.isList hs pl .none pk (by simp) ?_ (by rw [List.size_toArray] <;> omega)
    rw [HT.slicePick_neg]
    have hl2 : its.toArray.size = xs.length := by rw [List.size_toArray]; exact hlen.symm
    rw [hl2]
    refine ⟨.ref s.heap.objs.size, _, I.laid (t' := s.toks) (o := .lst (revV xs lo)) (fun b ob q => Heap.get?_push_of_some _ q) (Nat.le_refl _) ?_, rfl, q _ (I.hok.fresh (Nat.le_refl _))⟩
    exact ⟨Nat.le_trans (revV_length xs lo) hz, _, 0, (r.take (HT.mIx xs.length lo)).reverse, Heap.get?_push_size _ rfl⟩
  · obtain ⟨its, r, ht, hz⟩ := I.tuple hx
    have hlen := r.length
    refine ⟨"tuple", _, PyProof.Rows.slot_tuple_getitem.lookup, ht.typeIs, ?_⟩
    refine HT.getItem_tuple_neg ht hs pl pk ?_ (by rw [List.size_toArray] <;> omega)
    have hl2 : its.toArray.size = xs.length := by rw [List.size_toArray]; exact hlen.symm
    rw [hl2]
    refine ⟨.ref s.heap.objs.size, _, I.laid (t' := s.toks) (o := .tup (revV xs lo)) (fun b ob q => Heap.get?_push_of_some _ q) (Nat.le_refl _) ?_, rfl, q _ (I.hok.fresh (Nat.le_refl _))⟩
    exact ⟨Nat.le_trans (revV_length xs lo) hz, _, (r.take (HT.mIx xs.length lo)).reverse, IsTup.new _ _⟩
/-- xs[i] += e: the read -/
def rGetL (K : PySem.W.Frag) : V → V → Hp → VK → Prop := fun x y H Q => ∃ p xs i v, x = .ref p ∧ y = .int i ∧ 0 ≤ i ∧ SqL K H p xs ∧ xs[i.toNat]? = some v ∧ Q v H
theorem get_list : PGet X (rGetL X.K) := by
  intro pins s σ H x y v u Q I rx ry h
  obtain ⟨p, xs, i, z, rfl, rfl, h0, hq, he, q⟩ := h
  cases rx
  obtain ⟨t, rfl⟩ := ry
  obtain ⟨its, r, pl, hz⟩ := I.list hq
  obtain ⟨w, ew, rw'⟩ := r.get he
  have hl := r.length
  have hn := line63
  have hlt := (List.getElem?_eq_some_iff.mp he).1
  exact wpAny_getItem_list pl.isList h0 (by omega) (by simpa using ew) ⟨z, H, I, rw', q⟩
def rLcm : List V → Hp → VK → Prop := fun vs H Q => ∃ a b : Int, vs = [.int a, .int b] ∧ a.natAbs < 2 ^ 13000 ∧ b.natAbs < 2 ^ 13000 ∧ Q (.int ((Nat.lcm a.natAbs b.natAbs : Nat) : Int)) H
theorem cr_lcm : CallR X (.builtin "math.lcm") rLcm := by
  intro pins s σ H vs us Q I r h
  obtain ⟨a, b, rfl, ha, hb, q⟩ := h
  obtain ⟨t, u, rfl⟩ := Vals.int2 r
  have e1 : Nat.lcm 1 a.natAbs = a.natAbs := Nat.lcm_one_left _
  have p1 : (1 : Nat) < 2 ^ 13000 := Nat.one_lt_two_pow (by decide)
  have h1 : (max 1 a.natAbs).log2 ≤ 12999 := PySem.W.mg_log (Nat.max_lt.mpr ⟨p1, ha⟩)
  have h2 : (max a.natAbs b.natAbs).log2 ≤ 12999 := PySem.W.mg_log (Nat.max_lt.mpr ⟨ha, hb⟩)
  have hsz : ((((Nat.lcm 1 a.natAbs).lcm b.natAbs : Nat) : Int)).natAbs.log2 < bitsLine := by
    rw [e1, Int.natAbs_natCast]
    have : Nat.lcm a.natAbs b.natAbs < 2 ^ (25999 + 1) := by
      refine Nat.lt_of_le_of_lt (Nat.div_le_self _ _) ?_
      rw [show 25999 + 1 = 13000 + 13000 from rfl, Nat.pow_add]
      exact Nat.mul_lt_mul'' ha hb
    exact Nat.lt_of_le_of_lt (PySem.W.mg_log this) (by decide)
  have g := PySem.W.mg_run_lcm a t b u (by omega) (by omega) hsz
  rw [e1] at g
  exact call_function_meets PySem.W.MGF.kind_lcm PySem.W.MGF.plain_lcm PySem.W.MGF.entry_lcm (PySem.W.MGF.args_lcm _ _) g.meets ⟨.int _, H, I.tok _, ⟨_, rfl⟩, q⟩
end
end L2
namespace Rt
open PySem L2 Evl
section
variable {K : PySem.W.Frag} {B0 B : Hp} {ρ : Rho} {ta tb te tk : TE} {tar : TA} {tl th : TO} {d e f : PyData} {ds es : List PyData} {i j : Int} {lo : Option Int} {P : Out → Prop} {n : Nat}
def revD (xs : List PyData) (lo : Option Int) : List PyData := (xs.take (HT.mIx xs.length lo)).reverse
theorem rev_dp {G : Hp} {vs : List V} (h : DpAll K G vs ds) (lo : Option Int) : DpAll K G (revV vs lo) (revD ds lo) := by
  unfold revV revD
  rw [h.len]
  exact (h.tk _).rev
theorem ef_sl3 (ha : ED K te ρ (.list ds)) (h1 : OD K tl ρ lo) (h2 : OD K th ρ (some (-1))) : EF K (tSl3 (rSl3 K) te tl th) ρ (revD ds lo) := fun G H σ I Q q =>
  ha G H σ I _ fun v G1 H1 s1 hv => h1 G1 H1 σ (I.step s1) _ fun G2 H2 s2 => h2 G2 H2 σ (I.step (s1.trans s2)) _ fun G3 H3 s3 => by
    have sA := (s1.trans s2).trans s3
    cases hv with
    | lst hq ha2 =>
      exact ⟨rfl, _, _, rfl, .inl ⟨ex_l ((s2.trans s3).g.trans s3.gh) hq, fun p hp => q p _ G3 _ (sA.trans (Step.allocO s3.gh hp)) (fresh_back sA.h hp) (fresh_back s3.gh hp) upd_same (dpa_mono (s2.trans s3).g _ _ (rev_dp ha2 lo))⟩⟩
theorem ed_sl3T (ha : ED K te ρ (.tuple ds)) (h1 : OD K tl ρ lo) (h2 : OD K th ρ (some (-1))) : ED K (tSl3 (rSl3 K) te tl th) ρ (.tuple (revD ds lo)) := fun G H σ I Q q =>
  ha G H σ I _ fun v G1 H1 s1 hv => h1 G1 H1 σ (I.step s1) _ fun G2 H2 s2 => h2 G2 H2 σ (I.step (s1.trans s2)) _ fun G3 H3 s3 => by
    have sA := (s1.trans s2).trans s3
    have s23 := s2.trans s3
    cases hv with
    | tup hq ha2 =>
      exact ⟨rfl, _, _, rfl, .inr ⟨ex_t (s23.g.trans s3.gh) hq, fun p hp => q (.ref p) (upd G3 p (.tup _)) _ (sA.trans (Step.alloc s3.gh hp)) (.tup (st_of upd_same) (dpa_mono (s23.g.trans (Ex.new (fresh_back s3.gh hp))) _ _ (rev_dp ha2 lo)))⟩⟩
theorem revD_none (xs : List PyData) : revD xs none = xs.reverse := by
  unfold revD
  show (xs.take xs.length).reverse = _
  rw [List.take_length]
/-- a list or a tuple, kept in kind -/
def likeD : PyData → List PyData → PyData
  | .tuple _, es => .tuple es
  | _, es => .list es
theorem likeD_seq (s : SeqD d ds) (es : List PyData) : SeqD (likeD d es) es := by
  cases s with
  | l => exact .l _
  | t => exact .t _
theorem ed_sl3 (ha : ED K te ρ d) (s : SeqD d ds) (h1 : OD K tl ρ lo) (h2 : OD K th ρ (some (-1))) : ED K (tSl3 (rSl3 K) te tl th) ρ (likeD d (revD ds lo)) := by
  cases s with
  | l => exact (ef_sl3 ha h1 h2).ed
  | t => exact ed_sl3T ha h1 h2
/-- xs[k] += e, xs one's own -/
theorem sd_augI {g : Int → Int → Int} {kx : TE} {k a b : Int} {ii : Nat} (h : ρ[ii]? = some (some (.own ds))) (hk : ED K kx ρ (.int k)) (h0 : 0 ≤ k) (hm : ds[k.toNat]? = some (.int a)) (he : ED K te ρ (.int b)) (kk : P (.nx (ρ.set ii (some (.own (ds.set k.toNat (.int (g a b)))))))) :
    SD K B0 B (tAugS (tVar ii) kx te (rGetL K) (ipI g) rSetL) ρ P := fun G H σ D I bb q => by
  obtain ⟨p, vs, h1, h2, h3, h4⟩ := I.own ii ds h
  refine ⟨_, h1, hk G H σ I _ fun y G1 H1 s1 hy => ?_⟩
  cases dp_int hy
  have I1 := I.step s1
  obtain ⟨p1, vs1, a1, a2, a3, a4⟩ := I1.own ii ds h
  rw [h1] at a1; cases a1
  obtain ⟨w, hw, hd⟩ := a4.get hm
  refine ⟨p, vs1, k, w, rfl, rfl, h0, sq_of a2, hw, ?_⟩
  cases dp_int hd
  refine he G1 H1 σ I1 _ fun z G2 H2 s2 hz => ?_
  cases dp_int hz
  refine ⟨a, b, rfl, rfl, ?_⟩
  have I2 := I1.step s2
  have b2 := (bb.step s1).step s2
  obtain ⟨p2, vs2, c1, c2, c3, c4⟩ := I2.own ii ds h
  rw [h1] at c1; cases c1
  have hlt : k.toNat < vs2.length := by rw [c4.len]; exact (List.getElem?_eq_some_iff.mp hm).1
  refine ⟨p, vs2, k, k.toNat, rfl, rfl, c2, ?_, ?_⟩
  · unfold ixN
    rw [if_pos h0, if_pos (by omega)]
  · exact q _ kk G2 _ σ (s1.trans s2).g (I2.mut h h1 (c4.st k.toNat (.int _))) (b2.mut I2 h h1)
/-- range(a, b, -1) -/
def dwnD (lo : Int) (n : Nat) : List PyData := (List.range n).map fun k => .int (lo - (k : Nat))
theorem id_rngN {m n : Int} (h : AD K tar ρ [.int m, .int n, .int (-1)]) (h1 : -(2 ^ 62) ≤ m ∧ m < 2 ^ 62 ∧ -(2 ^ 62) ≤ n ∧ n < 2 ^ 62) : ID K (iRng3 tar) ρ (dwnD m (m - n).toNat) := fun G H σ I R q => h G H σ I _ fun vs G2 H2 s hv => by
  cases hv with
  | cons a b =>
    cases b with
    | cons b c =>
      cases c with
      | cons c c2 =>
        cases c2
        cases dp_int a; cases dp_int b; cases dp_int c
        refine ⟨m, n, -1, (m - n).toNat, rfl, RgC.neg h1.1 h1.2.1 h1.2.2.1 h1.2.2.2, q _ G2 H2 s ⟨fun i G' H' e1 e2 hi => ?_, fun i d G' H' e1 e2 hi => ?_⟩⟩
        · unfold dwnD at hi
          rw [List.length_map, List.length_range] at hi
          exact hi
        · have hlt : i < (m - n).toNat := by have := (List.getElem?_eq_some_iff.mp hi).1; unfold dwnD at this; rwa [List.length_map, List.length_range] at this
          refine ⟨hlt, fun x H3 hy => ?_⟩
          obtain ⟨rfl, rfl⟩ := hy
          unfold dwnD at hi
          rw [List.getElem?_map, List.getElem?_range hlt] at hi
          cases hi
          have e : m + (i : Nat) * (-1) = m - (i : Nat) := by omega
          rw [e]
          exact ⟨G', Step.refl e2, .int _⟩
theorem ed_lcm (ha : ED K ta ρ (.int i)) (hb : ED K tb ρ (.int j)) (h1 : i.natAbs < 2 ^ 13000) (h2 : j.natAbs < 2 ^ 13000) : ED K (tCB rLcm (tCons ta (tCons tb tNil))) ρ (.int ((Nat.lcm i.natAbs j.natAbs : Nat) : Int)) := fun G H σ I Q q =>
  ha G H σ I _ fun v G1 H1 s1 hv => hb G1 H1 σ (I.step s1) _ fun y G2 H2 s2 hy => by
    cases dp_int hv; cases dp_int hy
    exact ⟨i, j, rfl, h1, h2, q _ G2 H2 (s1.trans s2) (.int _)⟩
end
end Rt

namespace Rt
open PySem PySem.Spec PyProof.Rows L2 Evl
/-! the steps that need no thought; «walk_at "ev"» goes on till it is stuck -/
local macro_rules | `(tactic| walk_at "rt1") => `(tactic| first
  | ((with_reducible show _ = true → ED _ _ _ _); intro _) | ((with_reducible show _ = false → ED _ _ _ _); intro _) | ((with_reducible show _ = true → TD _ _ _ _); intro _) | ((with_reducible show _ = false → TD _ _ _ _); intro _)
  | with_reducible exact ed_int | with_reducible exact ed_bl | with_reducible exact ed_non | with_reducible exact ad_nil | with_reducible exact od_none | with_reducible exact td_yes
  | ((with_reducible apply ed_var); exact rfl)
  | (with_reducible apply ad_cons)
  | (with_reducible apply td_test) | (with_reducible apply td_truth) | (with_reducible apply td_not) | (with_reducible apply td_and) | (with_reducible apply td_or)
  | (with_reducible apply ed_add) | (with_reducible apply ed_sub) | (with_reducible apply ed_mul) | (with_reducible apply ed_mod) | (with_reducible apply ed_fdivP) | (with_reducible apply ed_pow) | (with_reducible apply ed_neg)
  | (with_reducible apply ed_lt) | (with_reducible apply ed_le) | (with_reducible apply ed_gt) | (with_reducible apply ed_ge)
  | (with_reducible apply ed_eqD) | (with_reducible apply ed_neD)
  | (with_reducible apply ed_ix) | (with_reducible apply ed_len) | (with_reducible apply ed_abs) | (with_reducible apply ed_gcd) | (with_reducible apply ed_isi)
  | (with_reducible apply ed_tup) | (with_reducible apply ed_tuple) | (with_reducible apply ed_andV) | (with_reducible apply ed_orV) | (with_reducible apply ed_notV)
  | (with_reducible apply od_some)
  | (with_reducible apply ef_lst) | (with_reducible apply ef_list) | (with_reducible apply ef_sl) | (with_reducible apply ef_cat)
  | (with_reducible apply EF.ed; with_reducible apply ef_lst) | (with_reducible apply EF.ed; with_reducible apply ef_list) | (with_reducible apply EF.ed; with_reducible apply ef_sl) | (with_reducible apply EF.ed; with_reducible apply ef_cat)
  | (with_reducible apply ed_call)
  | ((with_reducible show SeqD _ _); first | exact SeqD.l _ | exact SeqD.t _ | assumption)
  | ((with_reducible show Truth _ _); first | exact Truth.bool _ | exact Truth.int _ | exact Truth.l _ | exact Truth.t _)
  | ((with_reducible show SeqAt.shaped _ = true); exact rfl)
  | ((with_reducible show atI _ _ = some _); first | exact rfl | assumption)
  | ((with_reducible show kitB _ _ = some _); first | exact rfl | decide +kernel)
  | ((with_reducible show List.length _ = _); rfl)
  | ((with_reducible show List.length _ ≤ 100000); first | exact Nat.le_of_ble_eq_true rfl | (simp; done) | (simp; omega)))
local macro_rules | `(tactic| walk_at "ev") => `(tactic| repeat' walk_at "rt1")
theorem ext_getD {p q : List Int} (hl : p.length = q.length) (h : ∀ i, p.getD i 0 = q.getD i 0) : p = q := by
  apply List.ext_getElem hl
  intro i h1 h2
  have := h i
  rw [List.getD_eq_getElem?_getD, List.getD_eq_getElem?_getD, List.getElem?_eq_getElem h1, List.getElem?_eq_getElem h2] at this
  exact this
/-- each number times p, p times b, and so on -/
def pwL (b p : Int) : List Int → List Int
  | [] => []
  | x :: r => x * p :: pwL b (p * b) r
theorem pwL_get (b : Int) : ∀ (xs : List Int) (p : Int) (i : Nat), (pwL b p xs)[i]? = xs[i]?.map fun x => x * (p * b ^ i)
  | [], p, i => by simp [pwL]
  | x :: r, p, 0 => by simp [pwL]
  | x :: r, p, i + 1 => by
    show (pwL b (p * b) r)[i]? = r[i]?.map _
    rw [pwL_get b r (p * b) i]
    congr 1
    funext x
    rw [Int.pow_succ]
    grind
theorem pwL_len (b : Int) : ∀ (xs : List Int) (p : Int), (pwL b p xs).length = xs.length
  | [], p => rfl
  | x :: r, p => congrArg (· + 1) (pwL_len b r (p * b))
theorem hor_pw (t c b : Int) : ∀ (xs : List Int) (p : Int), (hor t c (pwL b p xs)).1 = p * (hor (b * t) c xs).1
  | [], p => by simp [pwL, hor]
  | x :: r, p => by
    show (hor t c (pwL b (p * b) r)).1 * t + x * p * (hor t c (pwL b (p * b) r)).2 = p * ((hor (b * t) c r).1 * (b * t) + x * (hor (b * t) c r).2)
    rw [hor_pw t c b r (p * b), hor_snd, hor_snd, pwL_len]
    grind
theorem pow_lt2 {k : Nat} {b : Int} (hb : Lt2 k b) : ∀ i, Lt2 (i * k + 1) (b ^ i)
  | 0 => by unfold Lt2; rw [Int.pow_zero]; exact Nat.one_lt_two_pow (by omega)
  | i + 1 => by
    rw [Int.pow_succ]
    exact ((pow_lt2 hb i).mul hb).mono (by rw [Nat.succ_mul]; omega)
theorem sz_pw {n k : Nat} {b : Int} {xs : List Int} (h : Sz n xs) (hb : Lt2 k b) : Sz (n + xs.length * k + 1) (pwL b 1 xs) := fun a ha => by
  obtain ⟨i, hi⟩ := List.mem_iff_getElem?.mp ha
  rw [pwL_get] at hi
  cases q : xs[i]? with
  | none => rw [q] at hi; cases hi
  | some x =>
    rw [q] at hi
    have hi : x * (1 * b ^ i) = a := Option.some.inj hi
    subst hi
    have hx := h x (List.mem_of_getElem? q)
    have hlt := (List.getElem?_eq_some_iff.mp q).1
    rw [Int.one_mul]
    refine (hx.mul (pow_lt2 hb i)).mono ?_
    have := Nat.mul_le_mul_right k (Nat.le_of_lt hlt)
    omega
/-- each number, and b times the next one as it has become -/
def synL (b : Int) : List Int → List Int
  | [] => []
  | x :: r => (x + b * (synL b r).headD 0) :: synL b r
theorem synL_len (b : Int) : ∀ xs : List Int, (synL b xs).length = xs.length
  | [] => rfl
  | x :: r => congrArg (· + 1) (synL_len b r)
theorem hor_syn (T c b : Int) : ∀ (x : Int) (r : List Int), (hor T c (x :: r)).1 = (T - b * c) * (hor T c (synL b r)).1 + (x + b * (synL b r).headD 0) * c ^ r.length
  | x, [] => by show 0 * T + x * 1 = (T - b * c) * 0 + (x + b * 0) * c ^ 0; rw [Int.pow_zero]; grind
  | x, y :: r => by
    have ih := hor_syn T c b y r
    show (hor T c (y :: r)).1 * T + x * (hor T c (y :: r)).2 = (T - b * c) * ((hor T c (synL b r)).1 * T + (y + b * (synL b r).headD 0) * (hor T c (synL b r)).2) + (x + b * (y + b * (synL b r).headD 0)) * c ^ (r.length + 1)
    rw [ih, hor_snd, hor_snd, synL_len]
    show _ + x * c ^ (r.length + 1) = _
    rw [Int.pow_succ]
    generalize (hor T c (synL b r)).1 = h1
    generalize (synL b r).headD 0 = h2
    generalize c ^ r.length = h3
    grind
theorem sz_syn {k : Nat} {b : Int} (hb : Lt2 k b) : ∀ {n : Nat} {xs : List Int}, Sz n xs → Sz (n + xs.length * (k + 1)) (synL b xs)
  | n, [], h => sz_nil
  | n, x :: r, h => by
    have ih := sz_syn hb (n := n) (xs := r) fun a ha => h a (List.mem_cons_of_mem _ ha)
    have e : (r.length + 1) * (k + 1) = r.length * (k + 1) + (k + 1) := Nat.succ_mul _ _
    have hd : Lt2 (n + r.length * (k + 1)) ((synL b r).headD 0) := by
      cases q : synL b r with
      | nil => exact Lt2.zero
      | cons z zs => exact ih z (by rw [q]; exact List.mem_cons_self)
    intro a ha
    show Lt2 (n + (r.length + 1) * (k + 1)) a
    rcases List.mem_cons.mp ha with rfl | ha
    · exact ((((h x List.mem_cons_self).mono (by omega : n ≤ n + r.length * (k + 1) + k)).add ((hb.mul hd).mono (by omega : k + (n + r.length * (k + 1)) ≤ n + r.length * (k + 1) + k)))).mono (by omega)
    · exact (ih a ha).mono (by omega)
/-- the row at a number and b -/
def movN (b : Int) : Nat → List Int → List Int
  | 0, xs => xs
  | n + 1, xs => match synL b xs with
    | [] => []
    | h :: t => h :: movN b n t
theorem movN_nil (b : Int) (n : Nat) : movN b n [] = [] := by cases n <;> rfl
theorem movN_len (b : Int) : ∀ (n : Nat) (xs : List Int), (movN b n xs).length = xs.length
  | 0, xs => rfl
  | n + 1, [] => by rw [movN_nil]
  | n + 1, x :: r => by
    show (movN b n (synL b r)).length + 1 = r.length + 1
    rw [movN_len b n, synL_len]
def movL (b : Int) (xs : List Int) : List Int := movN b xs.length xs
theorem hor_movN (t c b : Int) : ∀ (n : Nat) (xs : List Int), xs.length ≤ n → (hor t c (movN b n xs)).1 = (hor (t + b * c) c xs).1
  | 0, xs, h => by
    have : xs = [] := List.length_eq_zero_iff.mp (by omega)
    subst this; rfl
  | n + 1, [], h => by rw [movN_nil]; rfl
  | n + 1, x :: r, h => by
    show (hor t c (movN b n (synL b r))).1 * t + (x + b * (synL b r).headD 0) * (hor t c (movN b n (synL b r))).2 = _
    rw [hor_syn (t + b * c) c b x r, hor_movN t c b n (synL b r) (by rw [synL_len]; simp only [List.length_cons] at h; omega), hor_snd, movN_len, synL_len]
    grind
theorem hor_mov (t c b : Int) (xs : List Int) : (hor t c (movL b xs)).1 = (hor (t + b * c) c xs).1 := hor_movN t c b _ xs (Nat.le_refl _)
theorem movL_len (b : Int) (xs : List Int) : (movL b xs).length = xs.length := movN_len b _ xs
theorem sz_movN {k : Nat} {b : Int} (hb : Lt2 k b) : ∀ (m : Nat) {n l : Nat} {xs : List Int}, Sz n xs → xs.length ≤ l → Sz (n + m * (l * (k + 1))) (movN b m xs)
  | 0, n, l, xs, h, hl => h.mono (by omega)
  | m + 1, n, l, [], h, hl => by rw [movN_nil]; exact sz_nil
  | m + 1, n, l, x :: r, h, hl => by
    have s := sz_syn hb h
    have e1 : (x :: r).length * (k + 1) ≤ l * (k + 1) := Nat.mul_le_mul_right _ hl
    have s2 : Sz (n + l * (k + 1)) (synL b (x :: r)) := s.mono (by omega)
    have ih := sz_movN hb m (n := n + l * (k + 1)) (l := l) (xs := synL b r) (fun a ha => s2 a (List.mem_cons_of_mem _ ha)) (by rw [synL_len]; simp only [List.length_cons] at hl; omega)
    have e2 : (m + 1) * (l * (k + 1)) = m * (l * (k + 1)) + l * (k + 1) := Nat.succ_mul _ _
    intro a ha
    rcases List.mem_cons.mp ha with rfl | ha
    · exact (s2 _ List.mem_cons_self).mono (by omega)
    · exact (ih a ha).mono (by omega)
/-- the bottom, the low end, the width of a stretch -/
def lcmP (u v : Int × Int) : Int := ((Nat.lcm u.2.natAbs v.2.natAbs : Nat) : Int)
def lowP (u v : Int × Int) : Int := u.1 * (lcmP u v).fdiv u.2
def widP (u v : Int × Int) : Int := v.1 * (lcmP u v).fdiv v.2 - lowP u v
/-- the row as the program sees it -/
def seeP (u v : Int × Int) (xs : List Int) : List Int := (movL 1 (pwL (widP u v) 1 (movL (lowP u v) (pwL (lcmP u v) 1 xs.reverse).reverse)).reverse).reverse
theorem seeP_len (u v : Int × Int) (xs : List Int) : (seeP u v xs).length = xs.length := by
  unfold seeP
  rw [List.length_reverse, movL_len, List.length_reverse, pwL_len, movL_len, List.length_reverse, pwL_len, List.length_reverse]
theorem hor_seeP (u v : Int × Int) (xs : List Int) (t c : Int) : (hor t c (seeP u v xs)).1 = (hor (widP u v * t + lowP u v * (c + t)) (lcmP u v * (c + t)) xs).1 := by
  unfold seeP
  rw [hor_rev, hor_mov, hor_rev, hor_pw, hor_mov, hor_rev, hor_pw, hor_rev]
  rw [Int.one_mul, Int.one_mul, Int.one_mul]
theorem lcm_facts {u v : Int × Int} (hu : 0 < u.2) (hv : 0 < v.2) : ∃ g : Int, 0 < g ∧ u.2 * v.2 = g * lcmP u v ∧ u.1 * v.2 = g * lowP u v ∧ v.1 * u.2 = g * (lowP u v + widP u v) ∧ 0 < lcmP u v := by
  obtain ⟨a, b⟩ := u
  obtain ⟨c, d⟩ := v
  simp only at hu hv
  have hg : 0 < Nat.gcd b.natAbs d.natAbs := Nat.gcd_pos_of_pos_left _ (by omega)
  have hm : Nat.gcd b.natAbs d.natAbs * Nat.lcm b.natAbs d.natAbs = b.natAbs * d.natAbs := Nat.gcd_mul_lcm _ _
  obtain ⟨p, hp⟩ : b.natAbs ∣ Nat.lcm b.natAbs d.natAbs := Nat.dvd_lcm_left _ _
  obtain ⟨q, hq⟩ : d.natAbs ∣ Nat.lcm b.natAbs d.natAbs := Nat.dvd_lcm_right _ _
  have eb : (b.natAbs : Int) = b := by omega
  have ed : (d.natAbs : Int) = d := by omega
  unfold widP lowP lcmP
  simp only
  generalize Nat.gcd b.natAbs d.natAbs = g at *
  generalize Nat.lcm b.natAbs d.natAbs = L at *
  have f1 : ((L : Nat) : Int).fdiv b = p := by
    rw [hp, Int.natCast_mul, eb]
    exact Int.mul_fdiv_cancel_left (p : Int) (by omega)
  have f2 : ((L : Nat) : Int).fdiv d = q := by
    rw [hq, Int.natCast_mul, ed]
    exact Int.mul_fdiv_cancel_left (q : Int) (by omega)
  have hmI : (g : Int) * (L : Int) = b * d := by
    have := congrArg (fun n : Nat => (n : Int)) hm
    simp only [Int.natCast_mul, eb, ed] at this
    exact this
  have hpI : (L : Int) = b * p := by rw [hp, Int.natCast_mul, eb]
  have hqI : (L : Int) = d * q := by rw [hq, Int.natCast_mul, ed]
  rw [f1, f2]
  have k1 : (g : Int) * p = d := by
    have : b * ((g : Int) * p) = b * d := by rw [← hmI, hpI]; grind
    exact Int.eq_of_mul_eq_mul_left (by omega) this
  have k2 : (g : Int) * q = b := by
    have : d * ((g : Int) * q) = d * b := by rw [Int.mul_comm d b, ← hmI, hqI]; grind
    exact Int.eq_of_mul_eq_mul_left (by omega) this
  refine ⟨g, by omega, hmI.symm, by rw [← k1]; grind, by rw [← k2]; grind, ?_⟩
  have : 0 < (g : Int) * L := by rw [hmI]; exact Int.mul_pos hu hv
  exact Int.pos_of_mul_pos_right this (by omega)
theorem chg_seeP {u v : Int × Int} (hu : 0 < u.2) (hv : 0 < v.2) (xs : List Int) : chg 0 (seeP u v xs) = turnsL u v xs := by
  obtain ⟨g, hg, e1, e2, e3, _⟩ := lcm_facts hu hv
  have key : smul g (seenL u v xs) = smul (g ^ xs.length) (seeP u v xs) := by
    refine ext_getD ?_ fun i => ?_
    · show (List.map _ _).length = (List.map _ _).length
      rw [List.length_map, List.length_map, seen_len, seeP_len]
    · refine same_of i (N := 0) fun n _ => ?_
      rw [ev_smul, ev_smul, ← hor_ev, ← hor_ev, seen_hom, hor_seeP, e1, e2, e3]
      have := hor_scale g (widP u v * n + lowP u v * (1 + n)) (lcmP u v * (1 + n)) xs
      rw [← this]
      congr 2
      congr 1
      · grind
      · grind
  have h1 := chg_ss (SS.refl 0) (al_smul hg (seenL u v xs))
  have hg2 : 0 < g ^ xs.length := Int.pow_pos hg
  have h2 := chg_ss (SS.refl 0) (al_smul hg2 (seeP u v xs))
  unfold turnsL
  rw [← h1, key, h2]
theorem sgn_opp {a : Int} (ha : a ≠ 0) (l : Int) : sgn a = -sgn l ↔ a * l < 0 := by
  rw [neg_iff]
  unfold sgn
  split <;> split <;> (try split) <;> (try split) <;> omega
/-! ### the promises -/
def F_powered (ds : List PyData) (r : Res) : Prop := ∃ (d : PyData) (xs : List Int) (b : Int) (n k : Nat), ds = [d, .int b] ∧ SeqD d (rD xs) ∧ xs.length ≤ 1000 ∧ Sz n xs ∧ Lt2 k b ∧ n + (xs.length + 1) * k ≤ 100000000 ∧ r = .rf (rD (pwL b 1 xs))
def F_moved (ds : List PyData) (r : Res) : Prop := ∃ (d : PyData) (xs : List Int) (b : Int) (n k : Nat), ds = [d, .int b] ∧ SeqD d (rD xs) ∧ xs.length ≤ 1000 ∧ Sz n xs ∧ Lt2 k b ∧ n + (xs.length + 1) * (xs.length * (k + 1)) ≤ 100000000 ∧ r = .rf (rD (movL b xs))
def F_seen (ds : List PyData) (r : Res) : Prop := ∃ (d : PyData) (xs : List Int) (u v : Int × Int) (n m : Nat), ds = [d, pD u, pD v] ∧ SeqD d (rD xs) ∧ xs.length ≤ 40 ∧ Sz n xs ∧ n ≤ 1000000 ∧ Low m u ∧ Low m v ∧ m ≤ 8000 ∧ r = .rf (rD (seeP u v xs))
def F_turns (ds : List PyData) (r : Res) : Prop := ∃ (d : PyData) (xs : List Int) (u v : Int × Int) (n m : Nat), ds = [d, pD u, pD v] ∧ SeqD d (rD xs) ∧ xs.length ≤ 40 ∧ Sz n xs ∧ n ≤ 1000000 ∧ Low m u ∧ Low m v ∧ m ≤ 8000 ∧ r = .rt (.int (turnsL u v xs))
abbrev sp_powered (K : PySem.W.Frag) : Sp := spD K 2 F_powered
abbrev sp_moved (K : PySem.W.Frag) : Sp := spD K 2 F_moved
abbrev sp_seen (K : PySem.W.Frag) : Sp := spD K 3 F_seen
abbrev sp_turns (K : PySem.W.Frag) : Sp := spD K 3 F_turns
def t_powered (K : PySem.W.Frag) : TS := (tSeq (tAsg (tLst tNil) (gName 2))
  (tSeq (tAsg (tC (.int 1)) (gName 3))
  (tSeq (tFor (iSeq K (tVar 0)) (gName 4) (tSeq (tDrop (tBM K "list" rAppend (tVar 2) (tCons (tOp (rI CMulX fun i j => .int (i * j)) (tVar 4) (tVar 3)) tNil)))
  (tAsg (tOp (rI CMulX fun i j => .int (i * j)) (tVar 3) (tVar 1)) (gName 3))))
  (tRet (tVar 2)))))
abbrev N_powered : List Str := ["row", "by", "found", "power", "number"]
def t_moved (K : PySem.W.Frag) : TS := (tSeq (tAsg (tCB (rListS K) (tCons (tVar 0) tNil)) (gName 2))
  (tSeq (tFor (iRng1 (tCons (tOp (rI0 fun i j => .int (i - j)) (tLen K (tVar 0)) (tC (.int 1))) tNil)) (gName 3) (tFor (iRng3 (tCons (tOp (rI0 fun i j => .int (i - j)) (tLen K (tVar 0)) (tC (.int 2))) (tCons (tOp (rI0 fun i j => .int (i - j)) (tVar 3) (tC (.int 1))) (tCons (tUn (rU fun i => .int (-i)) (tC (.int 1))) tNil)))) (gName 4) (tAugS (tVar 2) (tVar 4) (tOp (rI CMulX fun i j => .int (i * j)) (tVar 1) (tOp (rIx K) (tVar 2) (tOp (rI0 fun i j => .int (i + j)) (tVar 4) (tC (.int 1))))) (rGetL K) (ipI fun i j => i + j) rSetL)))
  (tRet (tVar 2))))
abbrev N_moved : List Str := ["row", "by", "found", "first", "at"]
def t_seen (K : PySem.W.Frag) : TS := (tSeq (tAsg (tCB rLcm (tCons (tOp (rIx K) (tVar 1) (tC (.int 1))) (tCons (tOp (rIx K) (tVar 2) (tC (.int 1))) tNil))) (gName 3))
  (tSeq (tAsg (tOp (rI CMulX fun i j => .int (i * j)) (tOp (rIx K) (tVar 1) (tC (.int 0))) (tOp (rI CDivQ fun i j => .int (i.fdiv j)) (tVar 3) (tOp (rIx K) (tVar 1) (tC (.int 1))))) (gName 4))
  (tSeq (tAsg (tOp (rI0 fun i j => .int (i - j)) (tOp (rI CMulX fun i j => .int (i * j)) (tOp (rIx K) (tVar 2) (tC (.int 0))) (tOp (rI CDivQ fun i j => .int (i.fdiv j)) (tVar 3) (tOp (rIx K) (tVar 2) (tC (.int 1))))) (tVar 4)) (gName 5))
  (tSeq (tAsg (tSl3 (rSl3 K) (tCall (sp_powered K) [] E0 (tCons (tSl3 (rSl3 K) (tVar 0) tNoPart (tPart (tUn (rU fun i => .int (-i)) (tC (.int 1))))) (tCons (tVar 3) tNil))) tNoPart (tPart (tUn (rU fun i => .int (-i)) (tC (.int 1))))) (gName 6))
  (tSeq (tAsg (tCall (sp_powered K) [] E0 (tCons (tCall (sp_moved K) [] E0 (tCons (tVar 6) (tCons (tVar 4) tNil))) (tCons (tVar 5) tNil))) (gName 7))
  (tRet (tSl3 (rSl3 K) (tCall (sp_moved K) [] E0 (tCons (tSl3 (rSl3 K) (tVar 7) tNoPart (tPart (tUn (rU fun i => .int (-i)) (tC (.int 1))))) (tCons (tC (.int 1)) tNil))) tNoPart (tPart (tUn (rU fun i => .int (-i)) (tC (.int 1)))))))))))
abbrev N_seen : List Str := ["row", "low", "high", "bottom", "start", "width", "whole", "held"]
def t_turns (K : PySem.W.Frag) : TS := (tSeq (tAsg (tC (.int 0)) (gName 3))
  (tSeq (tAsg (tC (.int 0)) (gName 4))
  (tSeq (tFor (iSeq K (tCall (sp_seen K) [] E0 (tCons (tVar 0) (tCons (tVar 1) (tCons (tVar 2) tNil))))) (gName 5) (tIfS (tTest (tOp (rNeD K) (tVar 5) (tC (.int 0)))) (tSeq (tIfS (tTest (tOp (rEqD K) (tCall (sp_sign K) [] E0 (tCons (tVar 5) tNil)) (tUn (rU fun i => .int (-i)) (tVar 4)))) (tAug 3 (tC (.int 1)) (ipI fun i j => i + j)) tNext)
  (tAsg (tCall (sp_sign K) [] E0 (tCons (tVar 5) tNil)) (gName 4))) tNext))
  (tRet (tVar 3)))))
abbrev N_turns : List Str := ["row", "low", "high", "many", "ahead", "number"]
theorem take_one {α : Type} {l : List α} {i : Nat} {a : α} (h : l[i]? = some a) : l.take (i + 1) = l.take i ++ [a] := by
  rw [List.take_succ, h]; rfl
theorem rev_rD (xs : List Int) : revD (rD xs) none = rD xs.reverse := by rw [revD_none]; unfold rD; rw [List.map_reverse]
section
variable {K : PySem.W.Frag}
theorem pure_powered (ds : List PyData) (r : Res) (h : F_powered ds r) (B0 B : Hp) : SD K B0 B (t_powered K) (startR N_powered ds) (fin r) := by
  obtain ⟨d, xs, b, n, k, rfl, hs, hl, hx, hb, hz, rfl⟩ := h
  unfold t_powered
  have ez : (xs.length + 1) * k = xs.length * k + k := Nat.succ_mul _ _
  apply sd_seq; apply sd_setF; (case h => walk_at "ev" )
  apply sd_seq; apply sd_set; (case h => walk_at "ev" )
  refine sd_seq (sd_for (id_seq (ed_var rfl) hs) (fun i ρ => ∃ z, ρ = [some (.d d), some (.d (.int b)), some (.own (rD ((pwL b 1 xs).take i))), some (.d (.int (b ^ i))), z]) ⟨none, by rw [List.take_zero, Int.pow_zero]; rfl⟩ ?_ ?_)
  · rintro i x ρ' hi ⟨z, rfl⟩
    obtain ⟨a, ha, rfl⟩ := rD_get hi
    have hlt := (List.getElem?_eq_some_iff.mp ha).1
    refine ⟨_, gd_name, ?_⟩
    have hp := pow_lt2 hb i
    have e1 : i * k ≤ xs.length * k := Nat.mul_le_mul_right _ (Nat.le_of_lt hlt)
    have ha' := hx a (List.mem_of_getElem? ha)
    have et : rD ((pwL b 1 xs).take (i + 1)) = rD ((pwL b 1 xs).take i) ++ [.int (a * b ^ i)] := by
      rw [take_one (a := a * b ^ i) (by rw [pwL_get, ha]; show some (a * (1 * b ^ i)) = _; rw [Int.one_mul])]
      unfold rD; rw [List.map_append]; rfl
    show SD K B0 B _ [some (.d d), some (.d (.int b)), some (.own (rD ((pwL b 1 xs).take i))), some (.d (.int (b ^ i))), some (.d (.int a))] _
    refine sd_seq (sd_app (i := 2) (ds := rD ((pwL b 1 xs).take i)) (d := .int (a * b ^ i)) rfl (ed_mul (ed_var rfl) (ed_var rfl) (ha'.cm hp (by omega))) (by rw [rD_len, List.length_take]; omega) ?_)
    refine sd_set (ed_mul (ed_var rfl) (ed_var rfl) (hp.cm hb (by omega))) ⟨some (.d (.int a)), ?_⟩
    rw [et, Int.pow_succ]
    rfl
  · rintro ρ' ⟨z, rfl⟩
    show SD K B0 B _ _ _
    rw [rD_len, List.take_of_length_le (by rw [pwL_len]; exact Nat.le_refl _)]
    exact sd_retO (i := 2) rfl rfl
theorem getD_cut {xs : List Int} {i : Nat} (h : i < xs.length) : xs.drop i = xs.getD i 0 :: xs.drop (i + 1) := by
  rw [List.getD_eq_getElem?_getD, List.getElem?_eq_getElem h, List.drop_eq_getElem_cons h]; rfl
theorem movN_one (b : Int) (n : Nat) (x : Int) : movN b (n + 1) [x] = [x] := by
  show (x + b * 0) :: movN b n [] = [x]
  rw [movN_nil, Int.mul_zero, Int.add_zero]
theorem pure_moved (ds : List PyData) (r : Res) (h : F_moved ds r) (B0 B : Hp) : SD K B0 B (t_moved K) (startR N_moved ds) (fin r) := by
  obtain ⟨d, xs, b, n, k, rfl, hs, hl, hx, hb, hz, rfl⟩ := h
  unfold t_moved
  refine sd_seq (sd_setF (ef_list (ed_var rfl) hs) ?_)
  generalize hL : xs.length = L at *
  generalize hq : L * (k + 1) = q at *
  have ez : (L + 1) * q = L * q + q := Nat.succ_mul _ _
  show SD K B0 B _ [some (.d d), some (.d (.int b)), some (.own (rD xs)), none, none] _
  refine sd_seq (sd_for (id_rng1 (n := (L : Int) - 1) (ad_cons (ed_sub ((ed_lenR (ed_var rfl) hs).cast (by rw [hL])) ed_int) ad_nil) (by omega) (by omega)) (fun f ρ => ∃ (ys : List Int) (z1 z2 : Option SV), ρ = [some (.d d), some (.d (.int b)), some (.own (rD ys)), z1, z2] ∧ ys.length = L ∧ f ≤ L ∧ ys.take f ++ movN b (L - f) (ys.drop f) = movL b xs ∧ Sz (n + f * q) ys) ⟨xs, none, none, rfl, hL, Nat.zero_le _, ?_, hx.mono (by omega)⟩ ?_ ?_)
  · rw [List.take_zero, List.drop_zero, Nat.sub_zero]
    show movN b L xs = movN b xs.length xs
    rw [hL]
  · rintro f x ρ' hi ⟨ys, z1, z2, rfl, hyl, hf, hm, hsz⟩
    have hlt : f < ((L : Int) - 1).toNat := by have := (List.getElem?_eq_some_iff.mp hi).1; unfold intsD at this; rwa [List.length_map, List.length_range] at this
    have hxe : x = .int (f : Int) := by
      unfold intsD at hi
      rw [List.getElem?_map, List.getElem?_range hlt] at hi
      have := Option.some.inj hi
      rw [← this]; show PyData.int (0 + (f : Int)) = _; rw [Int.zero_add]
    subst hxe
    refine ⟨_, gd_name, ?_⟩
    show SD K B0 B _ [some (.d d), some (.d (.int b)), some (.own (rD ys)), some (.d (.int (f : Int))), z2] _
    have hfq : (f + 1) * q ≤ L * q := Nat.mul_le_mul_right _ (by omega)
    have hfs : (f + 1) * q = f * q + q := Nat.succ_mul _ _
    have hsy := sz_syn hb hsz
    refine sd_for (id_rngN (m := (L : Int) - 2) (n := (f : Int) - 1) (ad_cons (ed_sub ((ed_lenR (ed_var rfl) hs).cast (by rw [hL])) ed_int) (ad_cons (ed_sub (ed_var rfl) ed_int) (ad_cons (ed_neg ed_int) ad_nil))) (by omega)) (fun j ρ => ∃ (z2 : Option SV), ρ = [some (.d d), some (.d (.int b)), some (.own (rD (ys.take (L - 1 - j) ++ synL b (ys.drop (L - 1 - j))))), some (.d (.int (f : Int))), z2] ∧ j ≤ L - 1 - f) ⟨z2, ?_, Nat.zero_le _⟩ ?_ ?_
    · have e : ys.take (L - 1 - 0) ++ synL b (ys.drop (L - 1 - 0)) = ys := by
        rw [Nat.sub_zero, getD_cut (by omega), List.drop_of_length_le (by omega)]
        show ys.take (L - 1) ++ [_ + b * 0] = ys
        rw [Int.mul_zero, Int.add_zero]
        have := List.take_append_drop (L - 1) ys
        rw [getD_cut (i := L - 1) (by omega), List.drop_of_length_le (i := L - 1 + 1) (by omega)] at this
        exact this
      rw [e]
    · rintro j y ρ' hj ⟨z3, rfl, hj2⟩
      have hjl : j < ((L : Int) - 2 - ((f : Int) - 1)).toNat := by have := (List.getElem?_eq_some_iff.mp hj).1; unfold dwnD at this; rwa [List.length_map, List.length_range] at this
      have hye : y = .int ((L - 2 - j : Nat) : Int) := by
        unfold dwnD at hj
        rw [List.getElem?_map, List.getElem?_range hjl] at hj
        have := Option.some.inj hj
        rw [← this]
        show PyData.int ((L : Int) - 2 - (j : Int)) = _
        congr 1
        omega
      subst hye
      refine ⟨_, gd_name, ?_⟩
      generalize ha : L - 2 - j = a at *
      have e1 : L - 1 - j = a + 1 := by omega
      have e2 : L - 1 - (j + 1) = a := by omega
      rw [e1, e2]
      have tl : (ys.take (a + 1)).length = a + 1 := by rw [List.length_take]; omega
      have h1 : (ys.take (a + 1) ++ synL b (ys.drop (a + 1)))[a]? = some (ys.getD a 0) := by
        rw [List.getElem?_append_left (by omega), List.getElem?_take, if_pos (by omega), List.getD_eq_getElem?_getD, List.getElem?_eq_getElem (by omega)]; rfl
      have h2 : (ys.take (a + 1) ++ synL b (ys.drop (a + 1)))[a + 1]? = some ((synL b (ys.drop (a + 1))).headD 0) := by
        rw [List.getElem?_append_right (by omega), tl, Nat.sub_self]
        cases q2 : synL b (ys.drop (a + 1)) with
        | nil =>
          have := synL_len b (ys.drop (a + 1))
          rw [q2, List.length_drop] at this
          simp only [List.length_nil] at this
          omega
        | cons z zs => rfl
      have hd : (synL b (ys.drop (a + 1))).headD 0 = (synL b (ys.drop (a + 1))).headD 0 := rfl
      have e3 : (ys.take (a + 1) ++ synL b (ys.drop (a + 1))).set a (ys.getD a 0 + b * (synL b (ys.drop (a + 1))).headD 0) = ys.take a ++ synL b (ys.drop a) := by
        rw [getD_cut (xs := ys) (i := a) (by omega)]
        show _ = ys.take a ++ (ys.getD a 0 + b * (synL b (ys.drop (a + 1))).headD 0) :: synL b (ys.drop (a + 1))
        rw [take_one (a := ys.getD a 0) (by rw [List.getD_eq_getElem?_getD, List.getElem?_eq_getElem (by omega)]; rfl), List.append_assoc, List.set_append_right _ _ (by rw [List.length_take]; omega), List.length_take, Nat.min_eq_left (by omega), Nat.sub_self]
        rfl
      have hk1 : Lt2 (n + f * q + q) ((synL b (ys.drop (a + 1))).headD 0) := by
        have sd : Sz (n + f * q) (ys.drop (a + 1)) := fun w hw => hsz w (List.mem_of_mem_drop hw)
        have s2 := sz_syn hb sd
        have ll : (ys.drop (a + 1)).length * (k + 1) ≤ q := by rw [← hq]; exact Nat.mul_le_mul_right _ (by rw [List.length_drop]; omega)
        cases q2 : synL b (ys.drop (a + 1)) with
        | nil => exact Lt2.zero
        | cons z zs => exact (s2 z (by rw [q2]; exact List.mem_cons_self)).mono (by omega)
      have kq : k ≤ q := by
        have : 1 * (k + 1) ≤ L * (k + 1) := Nat.mul_le_mul_right _ (by omega)
        omega
      show SD K B0 B _ [some (.d d), some (.d (.int b)), some (.own (rD (ys.take (a + 1) ++ synL b (ys.drop (a + 1))))), some (.d (.int (f : Int))), some (.d (.int (a : Int)))] _
      generalize hZ : ys.take (a + 1) ++ synL b (ys.drop (a + 1)) = Z at *
      refine sd_augI (g := fun i j => i + j) (ii := 2) (ds := rD Z) (a := ys.getD a 0) (b := b * (synL b (ys.drop (a + 1))).headD 0) rfl (ed_var rfl) (by omega) ?_ (ed_mul (ed_var rfl) (ed_ixO (k := 2) (ds := rD Z) rfl (ed_add (ed_var rfl) ed_int) ?_) (hb.cm hk1 (by omega))) ⟨some (.d (.int (a : Int))), ?_, by omega⟩
      · rw [Int.toNat_natCast]; unfold rD; rw [List.getElem?_map, h1]; rfl
      · have : ((a : Int) + 1) = ((a + 1 : Nat) : Int) := rfl
        rw [this]
        have hlt2 := (List.getElem?_eq_some_iff.mp h2).1
        refine atI_mk (k := a + 1) ?_ (by unfold rD; rw [List.getElem?_map, h2]; rfl)
        unfold ixN
        rw [if_pos (by omega), rD_len, if_pos (by omega)]; rfl
      · rw [← e3]
        show [_, _, some (SV.own ((rD Z).set ((a : Int)).toNat _)), _, _] = _
        rw [Int.toNat_natCast]
        unfold rD
        rw [List.map_set]
    · rintro ρ' ⟨z3, rfl, _⟩
      have el : (dwnD ((L : Int) - 2) ((L : Int) - 2 - ((f : Int) - 1)).toNat).length = L - 1 - f := by
        unfold dwnD
        rw [List.length_map, List.length_range]; omega
      rw [el]
      have e4 : L - 1 - (L - 1 - f) = f := by omega
      rw [e4]
      refine ⟨ys.take f ++ synL b (ys.drop f), _, _, rfl, ?_, by omega, ?_, ?_⟩
      · rw [List.length_append, synL_len, List.length_take, List.length_drop]; omega
      · rw [← hm]
        have hc := getD_cut (xs := ys) (i := f) (by omega)
        have e5 : L - f = (L - (f + 1)) + 1 := by omega
        rw [hc, e5]
        show (ys.take f ++ ((ys.getD f 0 + b * (synL b (ys.drop (f + 1))).headD 0) :: synL b (ys.drop (f + 1)))).take (f + 1) ++ movN b (L - (f + 1)) ((ys.take f ++ ((ys.getD f 0 + b * (synL b (ys.drop (f + 1))).headD 0) :: synL b (ys.drop (f + 1)))).drop (f + 1)) = ys.take f ++ (ys.getD f 0 + b * (synL b (ys.drop (f + 1))).headD 0) :: movN b (L - (f + 1)) (synL b (ys.drop (f + 1)))
        have tf : (ys.take f).length = f := by rw [List.length_take]; omega
        rw [List.take_append, List.drop_append, tf, List.take_of_length_le (l := ys.take f) (by omega), List.drop_of_length_le (l := ys.take f) (by omega)]
        have : f + 1 - f = 1 := by omega
        rw [this]
        simp
      · intro w hw
        rcases List.mem_append.mp hw with h | h
        · exact (hsz w (List.mem_of_mem_take h)).mono (by omega)
        · have sd : Sz (n + f * q) (ys.drop f) := fun w hw => hsz w (List.mem_of_mem_drop hw)
          have ll : (ys.drop f).length * (k + 1) ≤ q := by rw [← hq]; exact Nat.mul_le_mul_right _ (by rw [List.length_drop]; omega)
          exact (sz_syn hb sd w h).mono (by omega)
  · rintro ρ' ⟨ys, z1, z2, rfl, hyl, hf, hm, hsz⟩
    show SD K B0 B _ _ _
    refine sd_retO (i := 2) rfl ?_
    have el : (intsD 0 ((L : Int) - 1).toNat).length = L - 1 := by unfold intsD; rw [List.length_map, List.length_range]; omega
    rw [el] at hm hf
    have : ys = movL b xs := by
      rw [← hm]
      by_cases h0 : L = 0
      · subst h0
        have : ys = [] := List.length_eq_zero_iff.mp hyl
        subst this; rfl
      · have e5 : L - (L - 1) = 0 + 1 := by omega
        rw [e5, getD_cut (xs := ys) (i := L - 1) (by omega), List.drop_of_length_le (i := L - 1 + 1) (by omega), movN_one]
        have := List.take_append_drop (L - 1) ys
        rw [getD_cut (i := L - 1) (by omega), List.drop_of_length_le (i := L - 1 + 1) (by omega)] at this
        exact this.symm
    subst this
    rfl
theorem pure_seen (ds : List PyData) (r : Res) (h : F_seen ds r) (B0 B : Hp) : SD K B0 B (t_seen K) (startR N_seen ds) (fin r) := by
  obtain ⟨d, xs, u, v, n, m, rfl, hs, hl, hx, hn, lu, lv, hm, rfl⟩ := h
  unfold t_seen
  have su := pD_seq u
  have sv := pD_seq v
  have pu := lu.pos
  have pv := lv.pos
  have l13 : ∀ {a : Int}, Lt2 m a → a.natAbs < 2 ^ 13000 := fun h => Nat.lt_of_lt_of_le h (Nat.pow_le_pow_right (by decide) (by omega))
  have hL : Lt2 (m + m) (lcmP u v) := by
    show (((Nat.lcm u.2.natAbs v.2.natAbs : Nat) : Int)).natAbs < 2 ^ (m + m)
    rw [Int.natAbs_natCast]
    refine Nat.lt_of_le_of_lt (Nat.div_le_self _ _) ?_
    rw [Nat.pow_add]
    exact Nat.mul_lt_mul'' lu.l2 lv.l2
  have hd1 : Lt2 (m + m) ((lcmP u v).fdiv u.2) := hL.of_le (natAbs_fdiv_le (Int.natAbs_dvd_natAbs.mp (by show u.2.natAbs ∣ (((Nat.lcm u.2.natAbs v.2.natAbs : Nat) : Int)).natAbs; rw [Int.natAbs_natCast]; exact Nat.dvd_lcm_left _ _)) (by omega))
  have hd2 : Lt2 (m + m) ((lcmP u v).fdiv v.2) := hL.of_le (natAbs_fdiv_le (Int.natAbs_dvd_natAbs.mp (by show v.2.natAbs ∣ (((Nat.lcm u.2.natAbs v.2.natAbs : Nat) : Int)).natAbs; rw [Int.natAbs_natCast]; exact Nat.dvd_lcm_right _ _)) (by omega))
  have hlo : Lt2 (m + (m + m)) (lowP u v) := lu.l1.mul hd1
  have hwi : Lt2 (m + (m + m) + 1) (widP u v) := (lv.l1.mul hd2).sub hlo
  refine sd_seq (sd_set (d := .int (lcmP u v)) (ed_lcm (ed_ix (ed_var rfl) su ed_int rfl) (ed_ix (ed_var rfl) sv ed_int rfl) (l13 lu.l2) (l13 lv.l2)) ?_)
  refine sd_seq (sd_set (d := .int (lowP u v)) (ed_mul (ed_ix (ed_var rfl) su ed_int rfl) (ed_fdivP (ed_var rfl) (ed_ix (ed_var rfl) su ed_int rfl) (lu.l2.cd (by omega) (by omega))) (lu.l1.cm hd1 (by omega))) ?_)
  refine sd_seq (sd_set (d := .int (widP u v)) (ed_sub (ed_mul (ed_ix (ed_var rfl) sv ed_int rfl) (ed_fdivP (ed_var rfl) (ed_ix (ed_var rfl) sv ed_int rfl) (lv.l2.cd (by omega) (by omega))) (lv.l1.cm hd2 (by omega))) (ed_var rfl)) ?_)
  unfold seeP
  show SD K B0 B _ [some (.d d), some (.d (pD u)), some (.d (pD v)), some (.d (.int (lcmP u v))), some (.d (.int (lowP u v))), some (.d (.int (widP u v))), none, none] _
  generalize lcmP u v = L at *
  generalize lowP u v = s at *
  generalize widP u v = w at *
  have t1 : xs.length * (m + m) ≤ 40 * (m + m) := Nat.mul_le_mul_right _ hl
  have hx' : Sz n xs.reverse := fun a ha => hx a (List.mem_reverse.mp ha)
  have z1 := sz_pw hx' hL
  rw [List.length_reverse] at z1
  have mone : OD K (tPart (tUn (rU fun i => .int (-i)) (tC (.int 1)))) [some (.d d), some (.d (pD u)), some (.d (pD v)), some (.d (.int L)), some (.d (.int s)), some (.d (.int w)), none, none] (some (-1)) := od_some (ed_neg ed_int)
  refine sd_seq (sd_setF (ds := rD (pwL L 1 xs.reverse).reverse) ((ef_sl3 (EF.ed (ef_call (ad_cons (ed_sl3 (ed_var rfl) hs od_none mone) (ad_cons (ed_var rfl) ad_nil)) ⟨_, xs.reverse, L, n, m + m, rfl, by rw [rev_rD]; exact likeD_seq hs _, by rw [List.length_reverse]; omega, hx', hL, by rw [List.length_reverse, Nat.succ_mul]; omega, rfl⟩ rfl)) od_none mone).cast (rev_rD _)) ?_)
  refine sd_frz (i := 6) rfl ?_
  have w1 : Sz (n + 80 * m + 1) (pwL L 1 xs.reverse).reverse := fun a ha => (z1 a (List.mem_reverse.mp ha)).mono (by omega)
  have wl : (pwL L 1 xs.reverse).reverse.length = xs.length := by rw [List.length_reverse, pwL_len, List.length_reverse]
  generalize (pwL L 1 xs.reverse).reverse = W at *
  have q1 : W.length * (m + (m + m) + 1) ≤ 40 * (m + (m + m) + 1) := Nat.mul_le_mul_right _ (by omega)
  have q2 : W.length * (W.length * (m + (m + m) + 1)) ≤ 40 * (40 * (m + (m + m) + 1)) := Nat.mul_le_mul (by omega) q1
  have z2 : Sz (n + 80 * m + 1 + 40 * (40 * (m + (m + m) + 1))) (movL s W) := fun a ha => (sz_movN hlo W.length w1 (Nat.le_refl _) a ha).mono (by omega)
  have q1' : (W.length + 1) * (W.length * (m + (m + m) + 1)) = W.length * (W.length * (m + (m + m) + 1)) + W.length * (m + (m + m) + 1) := Nat.succ_mul _ _
  have ml := movL_len s W
  have mlx : (movL s W).length = xs.length := by omega
  have q3 : (movL s W).length * (m + (m + m) + 1) ≤ 40 * (m + (m + m) + 1) := Nat.mul_le_mul_right _ (by omega)
  have q3' : ((movL s W).length + 1) * (m + (m + m) + 1) = (movL s W).length * (m + (m + m) + 1) + (m + (m + m) + 1) := Nat.succ_mul _ _
  have z3 : Sz (n + 80 * m + 2 + 40 * (40 * (m + (m + m) + 1)) + 40 * (m + (m + m) + 1)) (pwL w 1 (movL s W)) := fun a ha => (sz_pw z2 hwi a ha).mono (by omega)
  show SD K B0 B _ [some (.d d), some (.d (pD u)), some (.d (pD v)), some (.d (.int L)), some (.d (.int s)), some (.d (.int w)), some (.d (.list (rD W))), none] _
  refine sd_seq (sd_setF (ds := rD (pwL w 1 (movL s W))) (ef_call (ad_cons (EF.ed (ef_call (es := rD (movL s W)) (ad_cons (ed_var rfl) (ad_cons (ed_var rfl) ad_nil)) ⟨_, W, s, n + 80 * m + 1, m + (m + m), rfl, SeqD.l _, by omega, w1, hlo, by omega, rfl⟩ rfl)) (ad_cons (ed_var rfl) ad_nil)) ⟨_, movL s W, w, _, _, rfl, SeqD.l _, by omega, z2, hwi, by omega, rfl⟩ rfl) ?_)
  refine sd_frz (i := 7) rfl ?_
  have pl : (pwL w 1 (movL s W)).length = xs.length := by rw [pwL_len]; exact mlx
  generalize pwL w 1 (movL s W) = R at *
  have z4 : Sz (n + 80 * m + 2 + 40 * (40 * (m + (m + m) + 1)) + 40 * (m + (m + m) + 1)) R.reverse := fun a ha => z3 a (List.mem_reverse.mp ha)
  have one2 : Lt2 1 1 := by unfold Lt2; decide
  have q5 : R.reverse.length * (1 + 1) ≤ 40 * 2 := Nat.mul_le_mul_right _ (by rw [List.length_reverse]; omega)
  have q6 : (R.reverse.length + 1) * (R.reverse.length * (1 + 1)) ≤ 41 * (40 * 2) := Nat.mul_le_mul (by rw [List.length_reverse]; omega) q5
  show SD K B0 B _ [some (.d d), some (.d (pD u)), some (.d (pD v)), some (.d (.int L)), some (.d (.int s)), some (.d (.int w)), some (.d (.list (rD W))), some (.d (.list (rD R)))] _
  refine sd_retF (ds := rD (movL 1 R.reverse).reverse) ((ef_sl3 (EF.ed (ef_call (es := rD (movL 1 R.reverse)) (ad_cons ((EF.ed (ef_sl3 (ed_var rfl) od_none (od_some (ed_neg ed_int)))).cast (by rw [rev_rD])) (ad_cons ed_int ad_nil)) ⟨_, R.reverse, 1, _, 1, rfl, SeqD.l _, by rw [List.length_reverse]; omega, z4, one2, by omega, rfl⟩ rfl)) od_none (od_some (ed_neg ed_int))).cast (rev_rD _)) rfl
theorem pure_turns (ds : List PyData) (r : Res) (h : F_turns ds r) (B0 B : Hp) : SD K B0 B (t_turns K) (startR N_turns ds) (fin r) := by
  obtain ⟨d, xs, u, v, n, m, rfl, hs, hl, hx, hn, lu, lv, hm, rfl⟩ := h
  unfold t_turns
  have call := EF.ed (ef_call (K := K) (E := E0) (F := F_seen) (n := 3) (ρ := [some (.d d), some (.d (pD u)), some (.d (pD v)), some (.d (.int 0)), some (.d (.int 0)), none]) (ad_cons (ed_var (n := 0) rfl) (ad_cons (ed_var (n := 1) rfl) (ad_cons (ed_var (n := 2) rfl) ad_nil))) ⟨d, xs, u, v, n, m, rfl, hs, hl, hx, hn, lu, lv, hm, rfl⟩ rfl)
  have ec := chg_seeP lu.pos lv.pos xs
  rw [← ec]
  generalize seeP u v xs = S at *
  apply sd_seq; apply sd_set; (case h => walk_at "ev" )
  apply sd_seq; apply sd_set; (case h => walk_at "ev" )
  refine sd_seq (sd_for (id_seq call (SeqD.l _)) (fun i ρ => ∃ (c : Nat) (l : Int) (z : Option SV), ρ = [some (.d d), some (.d (pD u)), some (.d (pD v)), some (.d (.int (c : Int))), some (.d (.int (sgn l))), z] ∧ c + chg l (S.drop i) = chg 0 S) ⟨0, 0, none, rfl, by rw [List.drop_zero]; omega⟩ ?_ ?_)
  · rintro i e ρ' hi ⟨c, l, z, rfl, hc⟩
    obtain ⟨a, ha, rfl⟩ := rD_get hi
    refine ⟨_, gd_name, ?_⟩
    have hlt := (List.getElem?_eq_some_iff.mp ha).1
    have ed : S.drop i = a :: S.drop (i + 1) := by
      rw [List.drop_eq_getElem_cons hlt, (List.getElem?_eq_some_iff.mp ha).2]
    rw [ed] at hc
    have hc : c + ((if a * l < 0 then 1 else 0) + chg (if a = 0 then l else a) (S.drop (i + 1))) = chg 0 S := hc
    show SD K B0 B _ [some (.d d), some (.d (pD u)), some (.d (pD v)), some (.d (.int (c : Int))), some (.d (.int (sgn l))), some (.d (.int a))] _
    have sg : ∀ {c : Int}, ED K (tCall (sp_sign K) [] E0 (tCons (tVar 5) tNil)) [some (.d d), some (.d (pD u)), some (.d (pD v)), some (.d (.int c)), some (.d (.int (sgn l))), some (.d (.int a))] (.int (sgn a)) := fun {c} => ed_call (ad_cons (ed_var rfl) ad_nil) ⟨a, rfl, rfl⟩ rfl
    refine sd_if (td_test (ed_neI (ed_var rfl) ed_int)) (fun hb => ?_) (fun hb => ?_)
    · have hb : a ≠ 0 := by simpa using hb
      rw [if_neg hb] at hc
      refine sd_seq (SD.imp (P := fun o => o = .nx [some (.d d), some (.d (pD u)), some (.d (pD v)), some (.d (.int ((c + (if a * l < 0 then 1 else 0) : Nat) : Int))), some (.d (.int (sgn l))), some (.d (.int a))]) ?_ ?_)
      · refine sd_if (td_test (ed_eqI sg (ed_neg (ed_var rfl)))) (fun h2 => ?_) (fun h2 => ?_)
        · have h2 : a * l < 0 := (sgn_opp hb l).mp (of_decide_eq_true h2)
          refine sd_aug (i := 3) (f := fun i j => i + j) rfl ed_int ?_
          rw [if_pos h2]; rfl
        · have h2 : ¬ a * l < 0 := fun z => of_decide_eq_false h2 ((sgn_opp hb l).mpr z)
          refine sd_next ?_
          rw [if_neg h2]; rfl
      · rintro o rfl
        exact sd_set sg ⟨_, a, _, rfl, by omega⟩
    · have hb : a = 0 := by simpa using hb
      rw [if_pos hb] at hc
      have h3 : ¬ a * l < 0 := by rw [hb, Int.zero_mul]; decide
      rw [if_neg h3] at hc
      exact sd_next ⟨c, l, _, rfl, by omega⟩
  · rintro ρ' ⟨c, l, z, rfl, hc⟩
    show SD K B0 B _ _ _
    rw [rD_len, List.drop_length] at hc
    have hc : c = chg 0 S := by simpa [chg] using hc
    rw [← hc]
    exact sd_ret (ed_var rfl) rfl
end
end Rt

/-! a row that turns once in a stretch: its sign goes from one to the other there; halving keeps it so -/
namespace Rt
open PySem PySem.Spec
theorem mul_le_l {a b c : Int} (hc : 0 ≤ c) (h : a ≤ b) : c * a ≤ c * b := Int.mul_le_mul_of_nonneg_left h hc
theorem hor_pos_mono {t1 c1 t2 c2 : Int} (h1 : 0 < t1) (h2 : 0 < c1) (h3 : 0 < t2) (h4 : 0 < c2) (h : t1 * c2 ≤ t2 * c1) : ∀ {P : List Int}, (∀ a ∈ P, 0 ≤ a) → (hor t2 c2 P).1 * t1 ^ P.length * t2 ≤ (hor t1 c1 P).1 * t2 ^ P.length * t1
  | [], _ => by simp [hor]
  | a :: r, ha => by
    have ih := hor_pos_mono h1 h2 h3 h4 h (P := r) fun b hb => ha b (List.mem_cons_of_mem _ hb)
    have a0 := ha a List.mem_cons_self
    show ((hor t2 c2 r).1 * t2 + a * (hor t2 c2 r).2) * t1 ^ (r.length + 1) * t2 ≤ ((hor t1 c1 r).1 * t1 + a * (hor t1 c1 r).2) * t2 ^ (r.length + 1) * t1
    rw [hor_snd, hor_snd, Int.pow_succ, Int.pow_succ]
    have tt : 0 ≤ t1 * t2 := Int.le_of_lt (Int.mul_pos h1 h3)
    have pw : (t1 * c2) ^ r.length ≤ (t2 * c1) ^ r.length := by
      have x0 : 0 ≤ t1 * c2 := Int.le_of_lt (Int.mul_pos h1 h4)
      generalize t1 * c2 = x at *
      generalize t2 * c1 = y at *
      generalize r.length = n
      induction n with
      | zero => simp
      | succ n ih2 =>
        rw [Int.pow_succ, Int.pow_succ]
        have : 0 ≤ x ^ n := Int.pow_nonneg x0
        exact Int.mul_le_mul ih2 h x0 (Int.le_trans this ih2)
    have k1 := mul_le_l tt ih
    have k2 := mul_le_l (Int.mul_nonneg a0 tt) pw
    rw [Int.mul_pow, Int.mul_pow] at k2
    generalize (hor t2 c2 r).1 = x2 at *
    generalize (hor t1 c1 r).1 = x1 at *
    generalize t1 ^ r.length = p1 at *
    generalize t2 ^ r.length = p2 at *
    generalize c1 ^ r.length = q1 at *
    generalize c2 ^ r.length = q2 at *
    have e1 : (x2 * t2 + a * q2) * (p1 * t1) * t2 = t1 * t2 * (x2 * p1 * t2) + a * (t1 * t2) * (p1 * q2) := by grind
    have e2 : (x1 * t1 + a * q1) * (p2 * t2) * t1 = t1 * t2 * (x1 * p2 * t1) + a * (t1 * t2) * (p2 * q1) := by grind
    omega
theorem hor_neg_mono {t1 c1 t2 c2 : Int} (h1 : 0 < t1) (h2 : 0 < c1) (h3 : 0 < t2) (h4 : 0 < c2) (h : t1 * c2 ≤ t2 * c1) : ∀ {N : List Int}, (∀ a ∈ N, a ≤ 0) → (hor t2 c2 N).1 * c1 ^ N.length * c2 ≤ (hor t1 c1 N).1 * c2 ^ N.length * c1 ∧ (hor t2 c2 N).1 * c1 ^ N.length * c2 ≤ 0 ∧ ((∃ a ∈ N, a < 0) → (hor t2 c2 N).1 * c1 ^ N.length * c2 < 0)
  | [], _ => by
    refine ⟨by simp [hor], by simp [hor], fun ⟨a, h, _⟩ => nomatch h⟩
  | a :: r, ha => by
    have a0 := ha a List.mem_cons_self
    have neg : ∀ {t c : Int}, 0 < t → 0 < c → ∀ {N : List Int}, (∀ a ∈ N, a ≤ 0) → (hor t c N).1 ≤ 0 ∧ ((∃ a ∈ N, a < 0) → (hor t c N).1 < 0) := fun {t c} ht hc => by
      intro N
      induction N with
      | nil => intro _; exact ⟨Int.le_refl _, fun ⟨a, h, _⟩ => nomatch h⟩
      | cons b s ih =>
        intro hb
        obtain ⟨i1, i2⟩ := ih fun c hc => hb c (List.mem_cons_of_mem _ hc)
        have b0 := hb b List.mem_cons_self
        have cp : 0 < c ^ s.length := Int.pow_pos hc
        have k1 : (hor t c s).1 * t ≤ 0 := Int.mul_nonpos_of_nonpos_of_nonneg i1 (Int.le_of_lt ht)
        have k2 : b * c ^ s.length ≤ 0 := Int.mul_nonpos_of_nonpos_of_nonneg b0 (Int.le_of_lt cp)
        have e : (hor t c (b :: s)).1 = (hor t c s).1 * t + b * c ^ s.length := by
          show (hor t c s).1 * t + b * (hor t c s).2 = _
          rw [hor_snd]
        rw [e]
        refine ⟨by omega, fun ⟨z, hz, z0⟩ => ?_⟩
        rcases List.mem_cons.mp hz with rfl | hz
        · have := Int.mul_neg_of_neg_of_pos z0 cp; omega
        · have := Int.mul_neg_of_neg_of_pos (i2 ⟨z, hz, z0⟩) ht; omega
    obtain ⟨n1, n2⟩ := neg h3 h4 ha
    have w0 : 0 < c1 ^ (a :: r).length * c2 := Int.mul_pos (Int.pow_pos h2) h4
    obtain ⟨i1, i2, _⟩ := hor_neg_mono h1 h2 h3 h4 h (N := r) fun b hb => ha b (List.mem_cons_of_mem _ hb)
    refine ⟨?_, by rw [Int.mul_assoc]; exact Int.mul_nonpos_of_nonpos_of_nonneg n1 (Int.le_of_lt w0), fun hz => by rw [Int.mul_assoc]; exact Int.mul_neg_of_neg_of_pos (n2 hz) w0⟩
    show ((hor t2 c2 r).1 * t2 + a * (hor t2 c2 r).2) * c1 ^ (r.length + 1) * c2 ≤ ((hor t1 c1 r).1 * t1 + a * (hor t1 c1 r).2) * c2 ^ (r.length + 1) * c1
    rw [hor_snd, hor_snd, Int.pow_succ, Int.pow_succ]
    generalize (hor t2 c2 r).1 = x2 at *
    generalize (hor t1 c1 r).1 = x1 at *
    generalize c1 ^ r.length = q1 at *
    generalize c2 ^ r.length = q2 at *
    have tc : 0 ≤ t1 * c2 := Int.le_of_lt (Int.mul_pos h1 h4)
    have k1 := mul_le_l tc i1
    have k2 : t2 * c1 * (x2 * q1 * c2) ≤ t1 * c2 * (x2 * q1 * c2) := Int.mul_le_mul_of_nonpos_right h i2
    have e1 : (x2 * t2 + a * q2) * (q1 * c1) * c2 = t2 * c1 * (x2 * q1 * c2) + a * (q1 * c1 * (q2 * c2)) := by grind
    have e2 : (x1 * t1 + a * q1) * (q2 * c2) * c1 = t1 * c2 * (x1 * q2 * c1) + a * (q1 * c1 * (q2 * c2)) := by grind
    omega
theorem hor_app (t c : Int) (N : List Int) : ∀ P : List Int, (hor t c (P ++ N)).1 = c ^ N.length * (hor t c P).1 + t ^ P.length * (hor t c N).1
  | [] => by simp [hor]
  | a :: r => by
    show (hor t c (r ++ N)).1 * t + a * (hor t c (r ++ N)).2 = c ^ N.length * ((hor t c r).1 * t + a * (hor t c r).2) + t ^ (r.length + 1) * (hor t c N).1
    rw [hor_app t c N r, hor_snd, hor_snd, List.length_append, Int.pow_add, Int.pow_succ]
    generalize c ^ N.length = x
    generalize c ^ r.length = y
    grind
theorem split_mono {t1 c1 t2 c2 : Int} (h1 : 0 < t1) (h2 : 0 < c1) (h3 : 0 < t2) (h4 : 0 < c2) (h : t1 * c2 < t2 * c1) {P N : List Int} (hP : ∀ a ∈ P, 0 ≤ a) (hN : ∀ a ∈ N, a ≤ 0) (hn : ∃ a ∈ N, a < 0) (h0 : (hor t1 c1 (P ++ N)).1 ≤ 0) : (hor t2 c2 (P ++ N)).1 < 0 := by
  have A := hor_pos_mono h1 h2 h3 h4 (Int.le_of_lt h) hP
  obtain ⟨B1, B2, B3⟩ := hor_neg_mono h1 h2 h3 h4 (Int.le_of_lt h) hN
  have B4 := B3 hn
  rw [hor_app] at h0 ⊢
  have w1 : 0 < t2 ^ P.length * t1 * (c2 ^ N.length * c2 * c1) := Int.mul_pos (Int.mul_pos (Int.pow_pos h3) h1) (Int.mul_pos (Int.mul_pos (Int.pow_pos h4) h4) h2)
  have w2 : 0 < t1 ^ P.length * t2 * (c1 ^ N.length * c1 * c2) := Int.mul_pos (Int.mul_pos (Int.pow_pos h1) h3) (Int.mul_pos (Int.mul_pos (Int.pow_pos h2) h2) h4)
  have cc : 0 ≤ c1 ^ N.length * c1 * (c2 ^ N.length * c2) := Int.le_of_lt (Int.mul_pos (Int.mul_pos (Int.pow_pos h2) h2) (Int.mul_pos (Int.pow_pos h4) h4))
  have tt : 0 < t1 ^ P.length * t2 ^ P.length := Int.mul_pos (Int.pow_pos h1) (Int.pow_pos h3)
  have k1 := mul_le_l cc A
  have tc : 0 ≤ t1 ^ P.length * t2 ^ P.length * (t1 * c2) := Int.mul_nonneg (Int.le_of_lt tt) (Int.le_of_lt (Int.mul_pos h1 h4))
  have k2 := mul_le_l tc B1
  have k3 : t1 ^ P.length * t2 ^ P.length * (t2 * c1) * ((hor t2 c2 N).1 * c1 ^ N.length * c2) < t1 ^ P.length * t2 ^ P.length * (t1 * c2) * ((hor t2 c2 N).1 * c1 ^ N.length * c2) :=
    Int.mul_lt_mul_of_neg_right (Int.mul_lt_mul_of_pos_left h tt) B4
  have h0' : (c1 ^ N.length * (hor t1 c1 P).1 + t1 ^ P.length * (hor t1 c1 N).1) * (t2 ^ P.length * t1 * (c2 ^ N.length * c2 * c1)) ≤ 0 := Int.mul_nonpos_of_nonpos_of_nonneg h0 (Int.le_of_lt w1)
  have fin : (c2 ^ N.length * (hor t2 c2 P).1 + t2 ^ P.length * (hor t2 c2 N).1) * (t1 ^ P.length * t2 * (c1 ^ N.length * c1 * c2)) < 0 := by
    generalize (hor t1 c1 P).1 = a1 at *
    generalize (hor t2 c2 P).1 = a2 at *
    generalize (hor t1 c1 N).1 = b1 at *
    generalize (hor t2 c2 N).1 = b2 at *
    generalize t1 ^ P.length = p1 at *
    generalize t2 ^ P.length = p2 at *
    generalize c1 ^ N.length = q1 at *
    generalize c2 ^ N.length = q2 at *
    have e1 : (q1 * a1 + p1 * b1) * (p2 * t1 * (q2 * c2 * c1)) = q1 * c1 * (q2 * c2) * (a1 * p2 * t1) + p1 * p2 * (t1 * c2) * (b1 * q2 * c1) := by grind
    have e2 : (q2 * a2 + p2 * b2) * (p1 * t2 * (q1 * c1 * c2)) = q1 * c1 * (q2 * c2) * (a2 * p1 * t2) + p1 * p2 * (t2 * c1) * (b2 * q1 * c2) := by grind
    omega
  by_cases z : c2 ^ N.length * (hor t2 c2 P).1 + t2 ^ P.length * (hor t2 c2 N).1 < 0
  · exact z
  · have := Int.mul_nonneg (Int.not_lt.mp z) (Int.le_of_lt w2)
    omega
theorem all_neg : ∀ {S : List Int} {l : Int}, l < 0 → chg l S = 0 → ∀ a ∈ S, a ≤ 0
  | [], _, _, _, _, h => nomatch h
  | a :: r, l, hl, hc, b, hb => by
    have hc : (if a * l < 0 then 1 else 0) + chg (if a = 0 then l else a) r = 0 := hc
    have a0 : a ≤ 0 := by
      by_cases z : a * l < 0
      · rw [if_pos z] at hc; omega
      · rw [neg_iff] at z; omega
    rcases List.mem_cons.mp hb with rfl | hb
    · exact a0
    · refine all_neg (l := if a = 0 then l else a) (by split <;> omega) (by omega) b hb
theorem split_of : ∀ {S : List Int} {l : Int}, 0 < l → chg l S = 1 → ∃ P N, S = P ++ N ∧ (∀ a ∈ P, 0 ≤ a) ∧ (∀ a ∈ N, a ≤ 0) ∧ ∃ a ∈ N, a < 0
  | [], _, _, hc => nomatch hc
  | a :: r, l, hl, hc => by
    have hc : (if a * l < 0 then 1 else 0) + chg (if a = 0 then l else a) r = 1 := hc
    by_cases z : a < 0
    · have zl := Int.mul_neg_of_neg_of_pos z hl
      rw [if_pos zl, if_neg (by omega)] at hc
      refine ⟨[], a :: r, rfl, fun _ h => (nomatch h), fun b hb => ?_, a, List.mem_cons_self, z⟩
      rcases List.mem_cons.mp hb with rfl | hb
      · exact Int.le_of_lt z
      · exact all_neg z (by omega) b hb
    · have zl : ¬ a * l < 0 := by rw [neg_iff]; omega
      rw [if_neg zl] at hc
      obtain ⟨P, N, e, h1, h2, h3⟩ := split_of (S := r) (l := if a = 0 then l else a) (by split <;> omega) (by omega)
      refine ⟨a :: P, N, by rw [e]; rfl, fun b hb => ?_, h2, h3⟩
      rcases List.mem_cons.mp hb with rfl | hb
      · omega
      · exact h1 b hb
/-- the sign of a row that turns once and begins above nought: once it isn't above nought, it is below from there on -/
theorem turn_mono {t1 c1 t2 c2 : Int} (h1 : 0 < t1) (h2 : 0 < c1) (h3 : 0 < t2) (h4 : 0 < c2) (h : t1 * c2 < t2 * c1) {a : Int} {r : List Int} (ha : 0 < a) (hc : chg 0 (a :: r) = 1) (h0 : (hor t1 c1 (a :: r)).1 ≤ 0) : (hor t2 c2 (a :: r)).1 < 0 := by
  have hc : (if a * 0 < 0 then 1 else 0) + chg (if a = 0 then 0 else a) r = 1 := hc
  rw [if_neg (by simp), if_neg (by omega), Nat.zero_add] at hc
  obtain ⟨P, N, e, p, n, x⟩ := split_of ha hc
  have e2 : a :: r = (a :: P) ++ N := by rw [e]; rfl
  rw [e2] at h0 ⊢
  exact split_mono h1 h2 h3 h4 h (fun b hb => by
    rcases List.mem_cons.mp hb with rfl | hb
    · exact Int.le_of_lt ha
    · exact p b hb) n x h0
theorem hor_smul (k t c : Int) : ∀ r : List Int, (hor t c (smul k r)).1 = k * (hor t c r).1
  | [] => by simp [smul, hor]
  | a :: r => by
    show (hor t c (smul k r)).1 * t + k * a * (hor t c (smul k r)).2 = k * ((hor t c r).1 * t + a * (hor t c r).2)
    rw [hor_smul k t c r, hor_snd, hor_snd]
    have : (smul k r).length = r.length := List.length_map _
    rw [this]; grind
theorem chg_opp : ∀ (r : List Int) (l : Int), chg (-l) (smul (-1) r) = chg l r
  | [], l => rfl
  | a :: r, l => by
    show (if -1 * a * -l < 0 then 1 else 0) + chg (if -1 * a = 0 then -l else -1 * a) (smul (-1) r) = (if a * l < 0 then 1 else 0) + chg (if a = 0 then l else a) r
    have e : -1 * a * -l = a * l := by grind
    rw [e, ← chg_opp r]
    congr 2
    split <;> split <;> omega
/-- what stands for a point of a stretch in the row that is seen from it -/
theorem seen_at {u v X : Int × Int} (hu : 0 < u.2) (hv : 0 < v.2) (hX : 0 < X.2) (huv : u.1 * v.2 < v.1 * u.2) (xs : List Int) :
    SS (hor ((X.1 * u.2 - u.1 * X.2) * v.2) ((v.1 * X.2 - X.1 * v.2) * u.2) (seenL u v xs)).1 (hor X.1 X.2 xs).1 := by
  have k0 : 0 < u.2 * v.2 * (v.1 * u.2 - u.1 * v.2) := Int.mul_pos (Int.mul_pos hu hv) (by omega)
  rw [seen_hom]
  refine ss_of k0 (Int.pow_pos k0 (m := xs.length)) ?_
  rw [← hor_scale]
  congr 3 <;> grind
/-- the ends' signs, and the way between -/
theorem one_mono {u v X Y : Int × Int} (hu : 0 < u.2) (hv : 0 < v.2) (hX : 0 < X.2) (hY : 0 < Y.2) (h1 : u.1 * X.2 < X.1 * u.2) (h2 : X.1 * Y.2 < Y.1 * X.2) (h3 : Y.1 * v.2 < v.1 * Y.2) {xs : List Int} (t : turnsL u v xs = 1)
    (n : (hor u.1 u.2 xs).1 ≠ 0) (h0 : (hor u.1 u.2 xs).1 * (hor X.1 X.2 xs).1 ≤ 0) : (hor u.1 u.2 xs).1 * (hor Y.1 Y.2 xs).1 < 0 := by
  have lt_tr : ∀ {a b c : Int × Int}, 0 < a.2 → 0 < b.2 → 0 < c.2 → a.1 * b.2 < b.1 * a.2 → b.1 * c.2 < c.1 * b.2 → a.1 * c.2 < c.1 * a.2 := fun {a b c} pa pb pc x y => by
    have x1 := Int.mul_lt_mul_of_pos_right x pc
    have y1 := Int.mul_lt_mul_of_pos_right y pa
    have e : a.1 * c.2 * b.2 < c.1 * a.2 * b.2 := by
      have e1 : a.1 * b.2 * c.2 = a.1 * c.2 * b.2 := by grind
      have e2 : b.1 * a.2 * c.2 = b.1 * c.2 * a.2 := by grind
      have e3 : c.1 * b.2 * a.2 = c.1 * a.2 * b.2 := by grind
      omega
    exact Int.lt_of_mul_lt_mul_right e (Int.le_of_lt pb)
  have uY := lt_tr hu hX hY h1 h2
  have Xv := lt_tr hX hY hv h2 h3
  have uv := lt_tr hu hX hv h1 Xv
  have s0 := seen_first (u := u) hv xs
  have sX := seen_at hu hv hX uv xs
  have sY := seen_at hu hv hY uv xs
  have p1 : 0 < (X.1 * u.2 - u.1 * X.2) * v.2 := Int.mul_pos (by omega) hv
  have p2 : 0 < (v.1 * X.2 - X.1 * v.2) * u.2 := Int.mul_pos (by omega) hu
  have p3 : 0 < (Y.1 * u.2 - u.1 * Y.2) * v.2 := Int.mul_pos (by omega) hv
  have p4 : 0 < (v.1 * Y.2 - Y.1 * v.2) * u.2 := Int.mul_pos (by omega) hu
  have p5 : (X.1 * u.2 - u.1 * X.2) * v.2 * ((v.1 * Y.2 - Y.1 * v.2) * u.2) < (Y.1 * u.2 - u.1 * Y.2) * v.2 * ((v.1 * X.2 - X.1 * v.2) * u.2) := by
    have k : 0 < u.2 * v.2 * ((v.1 * u.2 - u.1 * v.2) * (Y.1 * X.2 - X.1 * Y.2)) := Int.mul_pos (Int.mul_pos hu hv) (Int.mul_pos (by omega) (by omega))
    have e : (Y.1 * u.2 - u.1 * Y.2) * v.2 * ((v.1 * X.2 - X.1 * v.2) * u.2) - (X.1 * u.2 - u.1 * X.2) * v.2 * ((v.1 * Y.2 - Y.1 * v.2) * u.2) = u.2 * v.2 * ((v.1 * u.2 - u.1 * v.2) * (Y.1 * X.2 - X.1 * Y.2)) := by grind
    omega
  have hl := seen_len u v xs
  unfold turnsL at t
  generalize seenL u v xs = S at *
  generalize (X.1 * u.2 - u.1 * X.2) * v.2 = t1 at *
  generalize (v.1 * X.2 - X.1 * v.2) * u.2 = c1 at *
  generalize (Y.1 * u.2 - u.1 * Y.2) * v.2 = t2 at *
  generalize (v.1 * Y.2 - Y.1 * v.2) * u.2 = c2 at *
  generalize (hor u.1 u.2 xs).1 = f0 at *
  generalize (hor X.1 X.2 xs).1 = fX at *
  generalize (hor Y.1 Y.2 xs).1 = fY at *
  cases S with
  | nil => exact absurd t (by decide)
  | cons a r =>
    have ea : ev (a :: r) 0 = a := by show a + 0 * ev r 0 = a; omega
    rw [ea] at s0
    have nle : ∀ {x y : Int}, x * y ≤ 0 → (0 < x → y ≤ 0) ∧ (x < 0 → 0 ≤ y) := fun {x y} h => by
      constructor
      · intro hx
        by_cases z : y ≤ 0
        · exact z
        · have := Int.mul_pos hx (Int.not_le.mp z); omega
      · intro hx
        by_cases z : 0 ≤ y
        · exact z
        · have := Int.mul_pos_of_neg_of_neg hx (Int.not_le.mp z); omega
    obtain ⟨n1, n2⟩ := nle h0
    unfold SS at *
    rcases Int.lt_trichotomy f0 0 with z | z | z
    · have a0 : 0 < -1 * a := by omega
      have e : chg 0 (smul (-1) (a :: r)) = 1 := by
        have := chg_opp (a :: r) 0
        rw [Int.neg_zero] at this
        rw [this]; exact t
      have := turn_mono p1 p2 p3 p4 p5 (a := -1 * a) (r := smul (-1) r) a0 e (by
        show (hor t1 c1 (smul (-1) (a :: r))).1 ≤ 0
        rw [hor_smul]
        have := n2 z
        omega)
      have : (hor t2 c2 (smul (-1) (a :: r))).1 < 0 := this
      rw [hor_smul] at this
      exact Int.mul_neg_of_neg_of_pos z (by omega)
    · exact absurd z n
    · have a0 : 0 < a := by omega
      have := turn_mono p1 p2 p3 p4 p5 (a := a) (r := r) a0 t (by have := n1 z; omega)
      exact Int.mul_neg_of_pos_of_neg z (by omega)
end Rt

namespace Rt
open PySem PySem.Spec PyProof.Rows L2 Evl
/-! the steps that need no thought; «walk_at "ev"» goes on till it is stuck -/
local macro_rules | `(tactic| walk_at "rt1") => `(tactic| first
  | ((with_reducible show _ = true → ED _ _ _ _); intro _) | ((with_reducible show _ = false → ED _ _ _ _); intro _) | ((with_reducible show _ = true → TD _ _ _ _); intro _) | ((with_reducible show _ = false → TD _ _ _ _); intro _)
  | with_reducible exact ed_int | with_reducible exact ed_bl | with_reducible exact ed_non | with_reducible exact ad_nil | with_reducible exact od_none | with_reducible exact td_yes
  | ((with_reducible apply ed_var); exact rfl)
  | (with_reducible apply ad_cons)
  | (with_reducible apply td_test) | (with_reducible apply td_truth) | (with_reducible apply td_not) | (with_reducible apply td_and) | (with_reducible apply td_or)
  | (with_reducible apply ed_add) | (with_reducible apply ed_sub) | (with_reducible apply ed_mul) | (with_reducible apply ed_mod) | (with_reducible apply ed_fdivP) | (with_reducible apply ed_pow) | (with_reducible apply ed_neg)
  | (with_reducible apply ed_lt) | (with_reducible apply ed_le) | (with_reducible apply ed_gt) | (with_reducible apply ed_ge)
  | (with_reducible apply ed_eqD) | (with_reducible apply ed_neD)
  | (with_reducible apply ed_ix) | (with_reducible apply ed_len) | (with_reducible apply ed_abs) | (with_reducible apply ed_gcd) | (with_reducible apply ed_isi)
  | (with_reducible apply ed_tup) | (with_reducible apply ed_tuple) | (with_reducible apply ed_andV) | (with_reducible apply ed_orV) | (with_reducible apply ed_notV)
  | (with_reducible apply od_some)
  | (with_reducible apply ef_lst) | (with_reducible apply ef_list) | (with_reducible apply ef_sl) | (with_reducible apply ef_cat)
  | (with_reducible apply EF.ed; with_reducible apply ef_lst) | (with_reducible apply EF.ed; with_reducible apply ef_list) | (with_reducible apply EF.ed; with_reducible apply ef_sl) | (with_reducible apply EF.ed; with_reducible apply ef_cat)
  | (with_reducible apply ed_call)
  | ((with_reducible show SeqD _ _); first | exact SeqD.l _ | exact SeqD.t _ | assumption)
  | ((with_reducible show Truth _ _); first | exact Truth.bool _ | exact Truth.int _ | exact Truth.l _ | exact Truth.t _)
  | ((with_reducible show SeqAt.shaped _ = true); exact rfl)
  | ((with_reducible show atI _ _ = some _); first | exact rfl | assumption)
  | ((with_reducible show kitB _ _ = some _); first | exact rfl | decide +kernel)
  | ((with_reducible show List.length _ = _); rfl)
  | ((with_reducible show List.length _ ≤ 100000); first | exact Nat.le_of_ble_eq_true rfl | (simp; done) | (simp; omega)))
local macro_rules | `(tactic| walk_at "ev") => `(tactic| repeat' walk_at "rt1")
section
variable {K : PySem.W.Frag} {ρ : Rho} {d e f : PyData} {i j k : Nat}
theorem gd_triple : GD K (gTup K 3 (gCons (gName i) (gCons (gName j) (gCons (gName k) gNil)))) (.tuple [d, e, f]) ρ (((ρ.set i (some (.d d))).set j (some (.d e))).set k (some (.d f))) := fun G H σ v I hv Q q => by
  cases hv with
  | tup h1 h2 =>
    cases h2 with
    | cons h2 h3 =>
      cases h3 with
      | cons h3 h4 =>
        cases h4 with
        | cons h4 h5 =>
          cases h5
          exact ⟨_, _, rfl, ex_t I.gh h1, rfl, _, _, rfl, _, _, rfl, _, _, rfl, rfl, q _ (((I.set h2 i).set h3 j).set h4 k) ((ownSub_set.trans ownSub_set).trans ownSub_set)⟩
end
/-! ### points, stretches, halving -/
def PL (p q : Int × Int) : Prop := p.1 * q.2 < q.1 * p.2
theorem PL.trans {a b c : Int × Int} (pa : 0 < a.2) (pb : 0 < b.2) (pc : 0 < c.2) (x : PL a b) (y : PL b c) : PL a c := by
  have x1 := Int.mul_lt_mul_of_pos_right x pc
  have y1 := Int.mul_lt_mul_of_pos_right y pa
  have e : a.1 * c.2 * b.2 < c.1 * a.2 * b.2 := by
    have e1 : a.1 * b.2 * c.2 = a.1 * c.2 * b.2 := by grind
    have e2 : b.1 * a.2 * c.2 = b.1 * c.2 * a.2 := by grind
    have e3 : c.1 * b.2 * a.2 = c.1 * a.2 * b.2 := by grind
    omega
  exact Int.lt_of_mul_lt_mul_right e (Int.le_of_lt pb)
def midV (u v : Int × Int) : Int × Int := partV (u.1 * v.2 + v.1 * u.2) (2 * u.2 * v.2)
theorem mid_bot {u v : Int × Int} (hu : 0 < u.2) (hv : 0 < v.2) : 0 < 2 * u.2 * v.2 := Int.mul_pos (Int.mul_pos (by decide) hu) hv
theorem mid_pos {u v : Int × Int} (hu : 0 < u.2) (hv : 0 < v.2) : 0 < (midV u v).2 := partV_pos (by have := mid_bot hu hv; omega)
theorem mid_gcd {u v : Int × Int} (hu : 0 < u.2) (hv : 0 < v.2) : Int.gcd (midV u v).1 (midV u v).2 = 1 := partV_gcd (by have := mid_bot hu hv; omega)
theorem mid_eq {u v : Int × Int} (hu : 0 < u.2) (hv : 0 < v.2) : (midV u v).1 * (2 * u.2 * v.2) = (u.1 * v.2 + v.1 * u.2) * (midV u v).2 := partV_cross (by have := mid_bot hu hv; omega)
theorem mid_l {u v : Int × Int} (hu : 0 < u.2) (hv : 0 < v.2) (h : PL u v) : PL u (midV u v) := by
  have e := mid_eq hu hv
  have p := mid_pos hu hv
  unfold PL at *
  generalize midV u v = w at *
  have k := Int.mul_lt_mul_of_pos_right (Int.mul_lt_mul_of_pos_right h hu) p
  refine Int.lt_of_mul_lt_mul_right (a := 2 * u.2 * v.2) ?_ (Int.le_of_lt (mid_bot hu hv))
  have e1 : w.1 * u.2 * (2 * u.2 * v.2) = (u.1 * v.2 + v.1 * u.2) * w.2 * u.2 := by rw [← e]; grind
  rw [e1]
  have e2 : u.1 * w.2 * (2 * u.2 * v.2) = u.1 * v.2 * u.2 * w.2 + u.1 * v.2 * w.2 * u.2 := by grind
  have e3 : (u.1 * v.2 + v.1 * u.2) * w.2 * u.2 = u.1 * v.2 * w.2 * u.2 + v.1 * u.2 * u.2 * w.2 := by grind
  omega
theorem mid_r {u v : Int × Int} (hu : 0 < u.2) (hv : 0 < v.2) (h : PL u v) : PL (midV u v) v := by
  have e := mid_eq hu hv
  have p := mid_pos hu hv
  unfold PL at *
  generalize midV u v = w at *
  have k := Int.mul_lt_mul_of_pos_right (Int.mul_lt_mul_of_pos_right h hv) p
  refine Int.lt_of_mul_lt_mul_right (a := 2 * u.2 * v.2) ?_ (Int.le_of_lt (mid_bot hu hv))
  have e1 : w.1 * v.2 * (2 * u.2 * v.2) = (u.1 * v.2 + v.1 * u.2) * w.2 * v.2 := by rw [← e]; grind
  rw [e1]
  have e2 : v.1 * w.2 * (2 * u.2 * v.2) = v.1 * u.2 * v.2 * w.2 + v.1 * u.2 * w.2 * v.2 := by grind
  have e3 : (u.1 * v.2 + v.1 * u.2) * w.2 * v.2 = u.1 * v.2 * v.2 * w.2 + v.1 * u.2 * w.2 * v.2 := by grind
  omega
def halfV (xs : List Int) (u v : Int × Int) : (Int × Int) × (Int × Int) :=
  if sgn (hor (midV u v).1 (midV u v).2 xs).1 = 0 then (midV u (midV u v), midV (midV u v) v)
  else if sgn (hor (midV u v).1 (midV u v).2 xs).1 = sgn (hor u.1 u.2 xs).1 then (midV u v, v) else (u, midV u v)
/-- a row that turns once in a stretch -/
structure Pg (xs : List Int) (u v : Int × Int) : Prop where
  ne : xs ≠ []
  pu : 0 < u.2
  pv : 0 < v.2
  lt : PL u v
  nu : (hor u.1 u.2 xs).1 ≠ 0
  nv : (hor v.1 v.2 xs).1 ≠ 0
  one : turnsL u v xs = 1
section
variable {xs : List Int} {u v w x : Int × Int}
theorem Pg.opp (p : Pg xs u v) : (hor u.1 u.2 xs).1 * (hor v.1 v.2 xs).1 < 0 := (turns_par p.pu p.pv p.ne p.nu p.nv).mpr (by rw [p.one])
theorem Pg.left (p : Pg xs u v) (hw : 0 < w.2) (h1 : PL u w) (h2 : PL w v) (n : (hor u.1 u.2 xs).1 * (hor w.1 w.2 xs).1 < 0) : Pg xs u w :=
  ⟨p.ne, p.pu, hw, h1, p.nu, fun z => by rw [z] at n; simp at n, one_left p.pu p.pv hw h1 h2 p.lt p.ne p.one n⟩
theorem Pg.right (p : Pg xs u v) (hw : 0 < w.2) (h1 : PL u w) (h2 : PL w v) (n : (hor w.1 w.2 xs).1 * (hor v.1 v.2 xs).1 < 0) : Pg xs w v :=
  ⟨p.ne, hw, p.pv, h2, fun z => by rw [z] at n; simp at n, p.nv, one_right p.pu p.pv hw h1 h2 p.lt p.ne p.one n⟩
theorem Pg.mono (p : Pg xs u v) (hw : 0 < w.2) (hx : 0 < x.2) (h1 : PL u w) (h2 : PL w x) (h3 : PL x v) (n : (hor u.1 u.2 xs).1 * (hor w.1 w.2 xs).1 ≤ 0) : (hor u.1 u.2 xs).1 * (hor x.1 x.2 xs).1 < 0 :=
  one_mono p.pu p.pv hw hx h1 h2 h3 p.one p.nu n
theorem sgn_zero {a : Int} : sgn a = 0 ↔ a = 0 := by unfold sgn; split <;> (try split) <;> omega
theorem sgn_eq {a b : Int} : sgn a = sgn b ↔ (0 < a ↔ 0 < b) ∧ (a < 0 ↔ b < 0) := by unfold sgn; split <;> split <;> (try split) <;> (try split) <;> omega
theorem opp_tr {a b c : Int} (h1 : a * b < 0) (h2 : 0 < a * c) : c * b < 0 := by
  rw [neg_iff] at h1 ⊢
  have k : (0 < a → 0 < c) ∧ (a < 0 → c < 0) := by
    constructor
    · intro h
      by_cases z : 0 < c
      · exact z
      · have := Int.mul_nonpos_of_nonneg_of_nonpos (Int.le_of_lt h) (Int.not_lt.mp z); omega
    · intro h
      by_cases z : c < 0
      · exact z
      · have := Int.mul_nonpos_of_nonpos_of_nonneg (Int.le_of_lt h) (Int.not_lt.mp z); omega
  omega
theorem Pg.half (p : Pg xs u v) : Pg xs (halfV xs u v).1 (halfV xs u v).2 := by
  have m1 := mid_l p.pu p.pv p.lt
  have m2 := mid_r p.pu p.pv p.lt
  have mp := mid_pos p.pu p.pv
  have o := p.opp
  unfold halfV
  generalize midV u v = w at *
  split
  · rename_i h
    have h0 := sgn_zero.mp h
    have a1 := mid_l p.pu mp m1
    have a2 := mid_r p.pu mp m1
    have ap := mid_pos p.pu mp
    have b1 := mid_l mp p.pv m2
    have b2 := mid_r mp p.pv m2
    have bp := mid_pos mp p.pv
    show Pg xs (midV u w) (midV w v)
    generalize midV u w = a at *
    generalize midV w v = b at *
    have sa : 0 < (hor u.1 u.2 xs).1 * (hor a.1 a.2 xs).1 := by
      by_cases z : 0 < (hor u.1 u.2 xs).1 * (hor a.1 a.2 xs).1
      · exact z
      · have := p.mono ap mp a1 a2 m2 (Int.not_lt.mp z)
        rw [h0] at this; simp at this
    have sb := p.mono mp bp m1 b1 b2 (by rw [h0]; simp)
    have q := p.left bp (m1.trans p.pu mp bp b1) b2 sb
    exact q.right ap a1 (a2.trans ap mp bp b1) (opp_tr sb sa)
  · rename_i h
    have h0 : (hor w.1 w.2 xs).1 ≠ 0 := fun z => h (sgn_zero.mpr z)
    have hu := p.nu
    split
    · rename_i h2
      rw [sgn_eq] at h2
      show Pg xs w v
      refine p.right mp m1 m2 ?_
      rw [neg_iff] at o ⊢
      omega
    · rename_i h2
      rw [sgn_eq] at h2
      show Pg xs u w
      refine p.left mp m1 m2 ?_
      rw [neg_iff]
      omega
/-- half as wide -/
theorem mid_wide (hu : 0 < u.2) (hv : 0 < v.2) : (midV u v).1 * (2 * u.2 * v.2) = (u.1 * v.2 + v.1 * u.2) * (midV u v).2 := mid_eq hu hv
theorem half_wide (p : Pg xs u v) : 2 * ((halfV xs u v).2.1 * (halfV xs u v).1.2 - (halfV xs u v).1.1 * (halfV xs u v).2.2) * (u.2 * v.2) = (v.1 * u.2 - u.1 * v.2) * ((halfV xs u v).1.2 * (halfV xs u v).2.2) := by
  have e := mid_eq p.pu p.pv
  have mp := mid_pos p.pu p.pv
  unfold halfV
  split
  · have e1 := mid_eq p.pu mp
    have e2 := mid_eq mp p.pv
    show 2 * ((midV (midV u v) v).1 * (midV u (midV u v)).2 - (midV u (midV u v)).1 * (midV (midV u v) v).2) * (u.2 * v.2) = (v.1 * u.2 - u.1 * v.2) * ((midV u (midV u v)).2 * (midV (midV u v) v).2)
    generalize midV u v = w at *
    generalize midV u w = a at *
    generalize midV w v = b at *
    refine Int.eq_of_mul_eq_mul_right (a := 2 * w.2) (by omega) ?_
    have k1 : 2 * (b.1 * a.2) * (u.2 * v.2) * (2 * w.2) = 2 * a.2 * u.2 * (b.1 * (2 * w.2 * v.2)) := by grind
    have k2 : 2 * (a.1 * b.2) * (u.2 * v.2) * (2 * w.2) = 2 * b.2 * v.2 * (a.1 * (2 * u.2 * w.2)) := by grind
    have k3 : 2 * a.2 * u.2 * ((w.1 * v.2 + v.1 * w.2) * b.2) - 2 * b.2 * v.2 * ((u.1 * w.2 + w.1 * u.2) * a.2) = 2 * (v.1 * u.2 - u.1 * v.2) * (a.2 * b.2) * w.2 := by grind
    have k4 : 2 * (b.1 * a.2 - a.1 * b.2) * (u.2 * v.2) * (2 * w.2) = 2 * (b.1 * a.2) * (u.2 * v.2) * (2 * w.2) - 2 * (a.1 * b.2) * (u.2 * v.2) * (2 * w.2) := by grind
    rw [k4, k1, k2, e1, e2, k3]
    grind
  · split
    · show 2 * (v.1 * (midV u v).2 - (midV u v).1 * v.2) * (u.2 * v.2) = (v.1 * u.2 - u.1 * v.2) * ((midV u v).2 * v.2)
      generalize midV u v = w at *
      have k : 2 * (v.1 * w.2 - w.1 * v.2) * (u.2 * v.2) = 2 * v.1 * w.2 * u.2 * v.2 - v.2 * (w.1 * (2 * u.2 * v.2)) := by grind
      rw [k, e]; grind
    · show 2 * ((midV u v).1 * u.2 - u.1 * (midV u v).2) * (u.2 * v.2) = (v.1 * u.2 - u.1 * v.2) * (u.2 * (midV u v).2)
      generalize midV u v = w at *
      have k : 2 * (w.1 * u.2 - u.1 * w.2) * (u.2 * v.2) = u.2 * (w.1 * (2 * u.2 * v.2)) - 2 * u.1 * w.2 * u.2 * v.2 := by grind
      rw [k, e]; grind
/-- in lowest terms, the bottom divides D, the number is at most M from nought -/
structure Dy (D M : Int) (u : Int × Int) : Prop where
  pos : 0 < u.2
  gcd : Int.gcd u.1 u.2 = 1
  dvd : u.2 ∣ D
  lo : -(M * u.2) ≤ u.1
  hi : u.1 ≤ M * u.2
theorem Dy.up {D M : Int} (h : Dy D M u) (k : Int) : Dy (k * D) M u := ⟨h.pos, h.gcd, Int.dvd_trans h.dvd (Int.dvd_mul_left k D), h.lo, h.hi⟩
theorem Dy.mid {D M : Int} (hD : 0 < D) (a : Dy D M u) (b : Dy D M v) : Dy (2 * D) M (midV u v) := by
  have mp := mid_pos a.pos b.pos
  have mg := mid_gcd a.pos b.pos
  have e := mid_eq a.pos b.pos
  have pb := mid_bot a.pos b.pos
  obtain ⟨p, hp⟩ := a.dvd
  obtain ⟨q, hq⟩ := b.dvd
  have b1 : -(M * (midV u v).2) ≤ (midV u v).1 ∧ (midV u v).1 ≤ M * (midV u v).2 := by
    have l1 := Int.mul_le_mul_of_nonneg_right a.lo (Int.le_of_lt b.pos)
    have l2 := Int.mul_le_mul_of_nonneg_right b.lo (Int.le_of_lt a.pos)
    have h1 := Int.mul_le_mul_of_nonneg_right a.hi (Int.le_of_lt b.pos)
    have h2 := Int.mul_le_mul_of_nonneg_right b.hi (Int.le_of_lt a.pos)
    generalize midV u v = w at *
    have x1 : -(2 * (M * u.2 * v.2)) ≤ u.1 * v.2 + v.1 * u.2 := by
      have y1 : -(M * u.2) * v.2 = -(M * u.2 * v.2) := by grind
      have y2 : -(M * v.2) * u.2 = -(M * u.2 * v.2) := by grind
      omega
    have x2 : u.1 * v.2 + v.1 * u.2 ≤ 2 * (M * u.2 * v.2) := by
      have y2 : M * v.2 * u.2 = M * u.2 * v.2 := by grind
      omega
    have z1 := Int.mul_le_mul_of_nonneg_right x1 (Int.le_of_lt mp)
    have z2 := Int.mul_le_mul_of_nonneg_right x2 (Int.le_of_lt mp)
    rw [← e] at z1 z2
    constructor
    · refine Int.le_of_mul_le_mul_right (a := 2 * u.2 * v.2) ?_ pb
      have : -(M * w.2) * (2 * u.2 * v.2) = -(2 * (M * u.2 * v.2)) * w.2 := by grind
      omega
    · refine Int.le_of_mul_le_mul_right (a := 2 * u.2 * v.2) ?_ pb
      have : M * w.2 * (2 * u.2 * v.2) = 2 * (M * u.2 * v.2) * w.2 := by grind
      omega
  refine ⟨mp, mg, ?_, b1.1, b1.2⟩
  generalize midV u v = w at *
  have k : 2 * D * w.1 = (u.1 * p + v.1 * q) * w.2 := by
    have : D * (v.2 * q) * (2 * D * w.1) = D * (v.2 * q) * ((u.1 * p + v.1 * q) * w.2) := by
      have y : 2 * D * w.1 * (D * (v.2 * q)) = D * (w.1 * (2 * u.2 * v.2)) * (p * q) := by
        have : D * D = D * (u.2 * p) := by rw [← hp]
        grind
      have y2 : D * ((u.1 * v.2 + v.1 * u.2) * w.2) * (p * q) = D * (v.2 * q) * (u.1 * p * w.2) + D * (u.2 * p) * (v.1 * q * w.2) := by grind
      rw [e, y2, ← hp, ← hq] at y
      rw [← hq, Int.mul_comm, ← hq] at *
      grind
    rw [← hq] at this
    exact Int.eq_of_mul_eq_mul_left (by have := Int.mul_pos hD hD; omega) this
  have c : Nat.Coprime w.2.natAbs w.1.natAbs := by rw [Nat.coprime_comm]; exact mg
  refine Int.natAbs_dvd_natAbs.mp (c.dvd_of_dvd_mul_right ?_)
  rw [← Int.natAbs_mul]
  exact Int.natAbs_dvd_natAbs.mpr ⟨_, by rw [k, Int.mul_comm]⟩
theorem Dy.low {D M : Int} {a b : Nat} (hD : 0 < D) (h : Dy D M u) (h1 : Lt2 a D) (h2 : Lt2 b M) (hM : 0 ≤ M) : Low (a + b) u := by
  have l2 : Lt2 a u.2 := by
    have := Int.le_of_dvd hD h.dvd
    have := h.pos
    exact h1.of_le (by omega)
  refine ⟨h.pos, h.gcd, ?_, l2.mono (by omega)⟩
  have m := h2.mul l2
  have n0 := Int.mul_nonneg hM (Int.le_of_lt h.pos)
  have := h.lo
  have := h.hi
  exact (m.of_le (by omega)).mono (by omega)
theorem half_dy {D M : Int} (hD : 0 < D) (a : Dy D M u) (b : Dy D M v) (xs : List Int) : Dy (4 * D) M (halfV xs u v).1 ∧ Dy (4 * D) M (halfV xs u v).2 := by
  have m := Dy.mid hD a b
  have e : 2 * (2 * D) = 4 * D := by omega
  unfold halfV
  split
  · have h1 := Dy.mid (by omega : 0 < 2 * D) (a.up 2) m
    have h2 := Dy.mid (by omega : 0 < 2 * D) m (b.up 2)
    rw [e] at h1 h2
    exact ⟨h1, h2⟩
  · have h3 := m.up 2
    rw [e] at h3
    split
    · exact ⟨h3, b.up 4⟩
    · exact ⟨a.up 4, h3⟩
/-- within the stretch -/
theorem half_in (p : Pg xs u v) : ¬ PL (halfV xs u v).1 u ∧ ¬ PL v (halfV xs u v).2 := by
  have m1 := mid_l p.pu p.pv p.lt
  have m2 := mid_r p.pu p.pv p.lt
  have mp := mid_pos p.pu p.pv
  have no : ∀ {a b : Int × Int}, PL a b → ¬ PL b a := fun h k => by unfold PL at *; omega
  have nr : ∀ {a : Int × Int}, ¬ PL a a := fun h => by unfold PL at *; omega
  unfold halfV
  split
  · have a1 := mid_l p.pu mp m1
    have b2 := mid_r mp p.pv m2
    exact ⟨no a1, no b2⟩
  · split
    · exact ⟨no m1, nr⟩
    · exact ⟨nr, no m2⟩
end
/-! ### the promises -/
def F_part (C : Addr) (ds : List PyData) (r : Res) : Prop := ∃ a b : Int, ds = [.int a, .int b] ∧ Lt2 8900 b ∧ ((b = 0 ∧ r = .xc C) ∨ (b ≠ 0 ∧ r = .rt (pD (partV a b))))
def F_below (ds : List PyData) (r : Res) : Prop := ∃ (x y : Int × Int) (m : Nat), ds = [pD x, pD y] ∧ (Lt2 m x.1 ∧ Lt2 m x.2 ∧ Lt2 m y.1 ∧ Lt2 m y.2) ∧ m ≤ 10000000 ∧ r = .rt (.bool (decide (x.1 * y.2 < y.1 * x.2)))
def F_part_sum (ds : List PyData) (r : Res) : Prop := ∃ (x y : Int × Int) (m k l : Nat), ds = [pD x, pD y] ∧ Lt2 m x.1 ∧ Lt2 k x.2 ∧ Lt2 m y.1 ∧ Lt2 l y.2 ∧ m ≤ 1000000 ∧ k + l ≤ 8900 ∧ 0 < x.2 ∧ 0 < y.2 ∧ r = .rt (pD (partV (x.1 * y.2 + y.1 * x.2) (x.2 * y.2)))
def F_turned (ds : List PyData) (r : Res) : Prop := ∃ x : Int × Int, ds = [pD x] ∧ r = .rt (pD (-x.1, x.2))
def F_middle (ds : List PyData) (r : Res) : Prop := ∃ (x y : Int × Int) (m k l : Nat), ds = [pD x, pD y] ∧ Lt2 m x.1 ∧ Lt2 k x.2 ∧ Lt2 m y.1 ∧ Lt2 l y.2 ∧ m ≤ 1000000 ∧ 2 + k + l ≤ 8900 ∧ 0 < x.2 ∧ 0 < y.2 ∧ r = .rt (pD (midV x y))
/-- a peg with its sizes: numbers below 2 ^ n, the ends' bottoms divide D < 2 ^ a, the ends at most M < 2 ^ b -/
structure PgS (n a b : Nat) (D M : Int) (xs : List Int) (u v : Int × Int) : Prop where
  pg : Pg xs u v
  len : xs.length ≤ 100
  sz : Sz n xs
  d0 : 0 < D
  m0 : 0 ≤ M
  ld : Lt2 a D
  lm : Lt2 b M
  du : Dy D M u
  dv : Dy D M v
theorem PgS.half {n a b : Nat} {D M : Int} {xs : List Int} {u v : Int × Int} (p : PgS n a b D M xs u v) : PgS n (a + 2) b (4 * D) M xs (halfV xs u v).1 (halfV xs u v).2 := by
  obtain ⟨d1, d2⟩ := half_dy p.d0 p.du p.dv xs
  refine ⟨p.pg.half, p.len, p.sz, by have := p.d0; omega, p.m0, ?_, p.lm, d1, d2⟩
  have l := p.ld
  unfold Lt2 at *
  rw [Int.natAbs_mul, Nat.pow_add]
  have : (4 : Int).natAbs = 2 ^ 2 := rfl
  rw [this, Nat.mul_comm]
  exact Nat.mul_lt_mul_of_pos_right l (by decide)
def F_halved (ds : List PyData) (r : Res) : Prop := ∃ (xs : List Int) (u v : Int × Int) (n a b : Nat) (D M : Int), ds = [pegD xs u v] ∧ PgS n a b D M xs u v ∧ n ≤ 1000000 ∧ a ≤ 4000 ∧ b ≤ 4000 ∧ r = .rt (pegD xs (halfV xs u v).1 (halfV xs u v).2)
/-- halving as long as the stretch is wider than w -/
inductive NarTo (xs : List Int) (w : Int × Int) : Int × Int → Int × Int → Int × Int → Int × Int → Prop
  | stop {u v : Int × Int} : ¬ w.1 * (v.2 * u.2) < (v.1 * u.2 + -u.1 * v.2) * w.2 → NarTo xs w u v u v
  | step {u v u' v' : Int × Int} : w.1 * (v.2 * u.2) < (v.1 * u.2 + -u.1 * v.2) * w.2 → NarTo xs w (halfV xs u v).1 (halfV xs u v).2 u' v' → NarTo xs w u v u' v'
/-- at most k halvings -/
def Thin (k : Nat) (w u v : Int × Int) : Prop := (v.1 * u.2 + -u.1 * v.2) * w.2 ≤ 2 ^ k * (w.1 * (v.2 * u.2))
def F_narrowed (C : Addr) (ds : List PyData) (r : Res) : Prop := ∃ (xs : List Int) (u v w : Int × Int) (n a b k : Nat) (D M : Int), ds = [pegD xs u v, pD w] ∧ PgS n a b D M xs u v ∧ n ≤ 1000000 ∧ Lt2 100000 w.1 ∧ Lt2 100000 w.2 ∧ 0 < w.2 ∧ ((w.1 ≤ 0 ∧ r = .xc C) ∨ (0 < w.1 ∧ Thin k w u v ∧ a + 2 * k ≤ 4000 ∧ b ≤ 4000 ∧ ∃ u' v', NarTo xs w u v u' v' ∧ r = .rt (pegD xs u' v')))
abbrev sp_part (K : PySem.W.Frag) (C : Addr) : Sp := spD K 2 (F_part C)
abbrev sp_below (K : PySem.W.Frag) : Sp := spD K 2 F_below
abbrev sp_part_sum (K : PySem.W.Frag) : Sp := spD K 2 F_part_sum
abbrev sp_turned (K : PySem.W.Frag) : Sp := spD K 1 F_turned
abbrev sp_middle (K : PySem.W.Frag) : Sp := spD K 2 F_middle
abbrev sp_halved (K : PySem.W.Frag) : Sp := spD K 1 F_halved
abbrev sp_narrowed (K : PySem.W.Frag) (C : Addr) : Sp := spD K 2 (F_narrowed C)
theorem half_thin {k : Nat} {xs : List Int} {w u v : Int × Int} (p : Pg xs u v) (h : Thin (k + 1) w u v) : Thin k w (halfV xs u v).1 (halfV xs u v).2 := by
  have e := half_wide p
  have q := p.half
  unfold Thin at *
  have pu := p.pu
  have pv := p.pv
  have qu := q.pu
  have qv := q.pv
  generalize (halfV xs u v).1 = u' at *
  generalize (halfV xs u v).2 = v' at *
  have uv : 0 < u.2 * v.2 := Int.mul_pos pu pv
  have uv' : 0 ≤ u'.2 * v'.2 := Int.le_of_lt (Int.mul_pos qu qv)
  refine Int.le_of_mul_le_mul_right (a := 2 * (u.2 * v.2)) ?_ (by omega)
  have m := Int.mul_le_mul_of_nonneg_right h uv'
  have e1 : (v'.1 * u'.2 + -u'.1 * v'.2) * w.2 * (2 * (u.2 * v.2)) = (2 * (v'.1 * u'.2 - u'.1 * v'.2) * (u.2 * v.2)) * w.2 := by grind
  have e2 : (v.1 * u.2 + -u.1 * v.2) * w.2 * (u'.2 * v'.2) = (v.1 * u.2 - u.1 * v.2) * (u'.2 * v'.2) * w.2 := by grind
  rw [e1, e, ← e2]
  refine Int.le_trans m (Int.le_of_eq ?_)
  rw [Int.pow_succ]
  generalize (2 : Int) ^ k = z
  grind
theorem thin_zero {w u v : Int × Int} (h : Thin 0 w u v) : ¬ w.1 * (v.2 * u.2) < (v.1 * u.2 + -u.1 * v.2) * w.2 := by
  unfold Thin at h
  rw [Int.pow_zero, Int.one_mul] at h
  omega
/-- what narrowing leads to -/
theorem nar_ex {xs : List Int} {w : Int × Int} : ∀ (k : Nat) {u v : Int × Int} {n a b : Nat} {D M : Int}, PgS n a b D M xs u v → Thin k w u v → ∃ u' v' D', NarTo xs w u v u' v' ∧ PgS n (a + 2 * k) b D' M xs u' v' ∧ ¬ PL u' u ∧ ¬ PL v v' ∧ ¬ w.1 * (v'.2 * u'.2) < (v'.1 * u'.2 + -u'.1 * v'.2) * w.2 := fun k => by
  have nr : ∀ {a : Int × Int}, ¬ PL a a := fun h => by unfold PL at *; omega
  have up : ∀ {n a a' b : Nat} {D M : Int} {u v : Int × Int}, PgS n a b D M xs u v → a ≤ a' → PgS n a' b D M xs u v := fun p h => ⟨p.pg, p.len, p.sz, p.d0, p.m0, p.ld.mono h, p.lm, p.du, p.dv⟩
  have nle : ∀ {a b c : Int × Int}, 0 < a.2 → 0 < b.2 → 0 < c.2 → ¬ PL a b → ¬ PL b c → ¬ PL a c := fun {a b c} pa pb pc h1 h2 h3 => by
    rcases Int.lt_or_eq_of_le (Int.not_lt.mp h1) with z | z
    · exact h2 (PL.trans pb pa pc z h3)
    · refine h2 ?_
      unfold PL at *
      have := Int.mul_lt_mul_of_pos_right h3 pb
      refine Int.lt_of_mul_lt_mul_right (a := a.2) ?_ (Int.le_of_lt pa)
      have e1 : b.1 * c.2 * a.2 = a.1 * c.2 * b.2 := by
        have : b.1 * a.2 * c.2 = a.1 * b.2 * c.2 := by rw [z]
        grind
      have e2 : c.1 * b.2 * a.2 = c.1 * a.2 * b.2 := by grind
      omega
  induction k with
  | zero => intro u v n a b D M p h; exact ⟨u, v, D, .stop (thin_zero h), up p (by omega), nr, nr, thin_zero h⟩
  | succ k ih =>
    intro u v n a b D M p h
    by_cases c : w.1 * (v.2 * u.2) < (v.1 * u.2 + -u.1 * v.2) * w.2
    · obtain ⟨u', v', D', h1, h2, h3, h4, h5⟩ := ih p.half (half_thin p.pg h)
      obtain ⟨i1, i2⟩ := half_in p.pg
      have q := p.pg.half
      exact ⟨u', v', D', .step c h1, up h2 (by omega), nle h2.pg.pu q.pu p.pg.pu h3 i1, nle p.pg.pv q.pv h2.pg.pv i2 h4, h5⟩
    · exact ⟨u, v, D, .stop c, up p (by omega), nr, nr, c⟩
def t_part (K : PySem.W.Frag) (C_NoPart : Addr) (E : XK) : TS := (tSeq (tIfS (tTest (tOp (rEqD K) (tVar 1) (tC (.int 0)))) (fun _ _ H => E (.ref C_NoPart) none H) tNext)
  (tSeq (tAsg (tCB rGcd (tCons (tVar 0) (tCons (tVar 1) tNil))) (gName 2))
  (tSeq (tIfS (tTest (tOp (rI0 fun i j => .bl (decide (i < j))) (tVar 1) (tC (.int 0)))) (tAsg (tUn (rU fun i => .int (-i)) (tVar 2)) (gName 2)) tNext)
  (tRet (tTup (tCons (tOp (rI CDivQ fun i j => .int (i.fdiv j)) (tVar 0) (tVar 2)) (tCons (tOp (rI CDivQ fun i j => .int (i.fdiv j)) (tVar 1) (tVar 2)) tNil)))))))
abbrev N_part : List Str := ["top", "bottom", "common"]
def t_below (K : PySem.W.Frag) : TS := (tRet (tOp (rI0 fun i j => .bl (decide (i < j))) (tOp (rI CMulX fun i j => .int (i * j)) (tOp (rIx K) (tVar 0) (tC (.int 0))) (tOp (rIx K) (tVar 1) (tC (.int 1)))) (tOp (rI CMulX fun i j => .int (i * j)) (tOp (rIx K) (tVar 1) (tC (.int 0))) (tOp (rIx K) (tVar 0) (tC (.int 1))))))
abbrev N_below : List Str := ["one", "other"]
def t_part_sum (K : PySem.W.Frag) (C_NoPart : Addr) : TS := (tRet (tCall (sp_part K C_NoPart) [] E0 (tCons (tOp (rI0 fun i j => .int (i + j)) (tOp (rI CMulX fun i j => .int (i * j)) (tOp (rIx K) (tVar 0) (tC (.int 0))) (tOp (rIx K) (tVar 1) (tC (.int 1)))) (tOp (rI CMulX fun i j => .int (i * j)) (tOp (rIx K) (tVar 1) (tC (.int 0))) (tOp (rIx K) (tVar 0) (tC (.int 1))))) (tCons (tOp (rI CMulX fun i j => .int (i * j)) (tOp (rIx K) (tVar 0) (tC (.int 1))) (tOp (rIx K) (tVar 1) (tC (.int 1)))) tNil))))
abbrev N_part_sum : List Str := ["one", "other"]
def t_turned (K : PySem.W.Frag) : TS := (tRet (tTup (tCons (tUn (rU fun i => .int (-i)) (tOp (rIx K) (tVar 0) (tC (.int 0)))) (tCons (tOp (rIx K) (tVar 0) (tC (.int 1))) tNil))))
abbrev N_turned : List Str := ["at"]
def t_middle (K : PySem.W.Frag) (C_NoPart : Addr) : TS := (tRet (tCall (sp_part K C_NoPart) [] E0 (tCons (tOp (rI0 fun i j => .int (i + j)) (tOp (rI CMulX fun i j => .int (i * j)) (tOp (rIx K) (tVar 0) (tC (.int 0))) (tOp (rIx K) (tVar 1) (tC (.int 1)))) (tOp (rI CMulX fun i j => .int (i * j)) (tOp (rIx K) (tVar 1) (tC (.int 0))) (tOp (rIx K) (tVar 0) (tC (.int 1))))) (tCons (tOp (rI CMulX fun i j => .int (i * j)) (tOp (rI CMulX fun i j => .int (i * j)) (tC (.int 2)) (tOp (rIx K) (tVar 0) (tC (.int 1)))) (tOp (rIx K) (tVar 1) (tC (.int 1)))) tNil))))
abbrev N_middle : List Str := ["low", "high"]
def t_halved (K : PySem.W.Frag) : TS := (tSeq (tAsg (tVar 0) (gTup K 3 (gCons (gName 1) (gCons (gName 2) (gCons (gName 3) gNil)))))
  (tSeq (tAsg (tCall (sp_middle K) [] E0 (tCons (tVar 2) (tCons (tVar 3) tNil))) (gName 4))
  (tSeq (tAsg (tCall (sp_sign_at K) [] E0 (tCons (tVar 1) (tCons (tVar 4) tNil))) (gName 5))
  (tSeq (tIfS (tTest (tOp (rEqD K) (tVar 5) (tC (.int 0)))) (tRet (tTup (tCons (tVar 1) (tCons (tCall (sp_middle K) [] E0 (tCons (tVar 2) (tCons (tVar 4) tNil))) (tCons (tCall (sp_middle K) [] E0 (tCons (tVar 4) (tCons (tVar 3) tNil))) tNil))))) tNext)
  (tSeq (tIfS (tTest (tOp (rEqD K) (tVar 5) (tCall (sp_sign_at K) [] E0 (tCons (tVar 1) (tCons (tVar 2) tNil))))) (tRet (tTup (tCons (tVar 1) (tCons (tVar 4) (tCons (tVar 3) tNil))))) tNext)
  (tRet (tTup (tCons (tVar 1) (tCons (tVar 2) (tCons (tVar 4) tNil))))))))))
abbrev N_halved : List Str := ["one", "row", "low", "high", "at", "found"]
def t_narrowed (K : PySem.W.Frag) (C_NoStretch : Addr) (E : XK) : TS := (tSeq (tIfS (tTest (tOp (rI0 fun i j => .bl (decide (i ≤ j))) (tOp (rIx K) (tVar 1) (tC (.int 0))) (tC (.int 0)))) (fun _ _ H => E (.ref C_NoStretch) none H) tNext)
  (tSeq (tWhile (tTruth K (tCall (sp_below K) [] E0 (tCons (tVar 1) (tCons (tCall (sp_part_sum K) [] E0 (tCons (tOp (rIx K) (tVar 0) (tC (.int 2))) (tCons (tCall (sp_turned K) [] E0 (tCons (tOp (rIx K) (tVar 0) (tC (.int 1))) tNil)) tNil))) tNil)))) (tAsg (tCall (sp_halved K) [] E0 (tCons (tVar 0) tNil)) (gName 0)))
  (tRet (tVar 0))))
abbrev N_narrowed : List Str := ["one", "width"]
section
variable {K : PySem.W.Frag} {C C2 : Addr}
theorem pure_part (ds : List PyData) (r : Res) (h : F_part C ds r) (B0 B : Hp) (E : XK) (hE : ∀ D, r = .xc D → ∀ G H, Step B0 B G H → E (.ref D) none H) : SD K B0 B (t_part K C E) (startR N_part ds) (fin r) := by
  obtain ⟨a, b, rfl, hz, h⟩ := h
  unfold t_part
  apply sd_seq; apply sd_if; (case h => walk_at "ev" ); all_goals intro hb
  · have hb : b = 0 := by simpa [eqv_int] using hb
    rcases h with ⟨_, rfl⟩ | ⟨z, _⟩
    · exact sd_raise (hE C rfl)
    · exact absurd hb z
  · have hb : b ≠ 0 := by simpa [eqv_int] using hb
    rcases h with ⟨z, _⟩ | ⟨_, rfl⟩
    · exact absurd z hb
    · have s0 := partS_ne (a := a) hb
      have sz : Lt2 8900 (partS a b) := hz.of_le (partS_le hb)
      refine sd_next ?_
      apply sd_seq; apply sd_set; (case h => walk_at "ev" )
      apply sd_seq; apply sd_if; (case h => walk_at "ev" ); all_goals intro hb
      · have hc : b < 0 := of_decide_eq_true hb
        have es : partS a b = -((Nat.gcd a.natAbs b.natAbs : Nat) : Int) := by unfold partS; rw [if_pos hc]; rfl
        apply sd_set; (case h => walk_at "ev" )
        rw [← es]
        apply sd_ret; (case h => walk_at "ev" <;> (first | (exact sz.cd s0 (by decide)) | walk_at "rt1"))
        rfl
      · have hc : ¬ b < 0 := of_decide_eq_false hb
        have es : partS a b = ((Nat.gcd a.natAbs b.natAbs : Nat) : Int) := by unfold partS; rw [if_neg hc]; rfl
        rw [← es]
        refine sd_next ?_
        apply sd_ret; (case h => walk_at "ev" <;> (first | (exact sz.cd s0 (by decide)) | walk_at "rt1"))
        rfl
theorem pure_below (ds : List PyData) (r : Res) (h : F_below ds r) (B0 B : Hp) : SD K B0 B (t_below K) (startR N_below ds) (fin r) := by
  obtain ⟨x, y, m, rfl, ⟨h1, h2, h3, h4⟩, hm, rfl⟩ := h
  unfold t_below pD
  apply sd_ret; (case h => walk_at "ev" <;> (first | (first | exact h1.cm h4 (by omega) | exact h3.cm h2 (by omega)) | walk_at "rt1"))
  rfl
theorem pure_part_sum (ds : List PyData) (r : Res) (h : F_part_sum ds r) (B0 B : Hp) : SD K B0 B (t_part_sum K C) (startR N_part_sum ds) (fin r) := by
  obtain ⟨x, y, m, k, l, rfl, h1, h2, h3, h4, hm, hkl, p1, p2, rfl⟩ := h
  unfold t_part_sum pD
  have p : 0 < x.2 * y.2 := Int.mul_pos p1 p2
  apply sd_ret; (case h => walk_at "ev" <;> (first | (first | exact h1.cm h4 (by omega) | exact h3.cm h2 (by omega) | exact h2.cm h4 (by omega) | exact ⟨_, _, rfl, (h2.mul h4).mono (by omega), .inr ⟨by omega, rfl⟩⟩) | walk_at "rt1"))
  rfl
theorem pure_turned (ds : List PyData) (r : Res) (h : F_turned ds r) (B0 B : Hp) : SD K B0 B (t_turned K) (startR N_turned ds) (fin r) := by
  obtain ⟨x, rfl, rfl⟩ := h
  unfold t_turned pD
  apply sd_ret; (case h => walk_at "ev" )
  rfl
theorem pure_middle (ds : List PyData) (r : Res) (h : F_middle ds r) (B0 B : Hp) : SD K B0 B (t_middle K C) (startR N_middle ds) (fin r) := by
  obtain ⟨x, y, m, k, l, rfl, h1, h2, h3, h4, hm, hkl, p1, p2, rfl⟩ := h
  unfold t_middle
  have sx := pD_seq x
  have sy := pD_seq y
  have t2 : Lt2 2 (2 : Int) := by unfold Lt2; decide
  have p := mid_bot p1 p2
  refine sd_ret (d := pD (midV x y)) (ed_call (ad_cons (ed_add (ed_mul (ed_ix (ed_var rfl) sx ed_int rfl) (ed_ix (ed_var rfl) sy ed_int rfl) (h1.cm h4 (by omega))) (ed_mul (ed_ix (ed_var rfl) sy ed_int rfl) (ed_ix (ed_var rfl) sx ed_int rfl) (h3.cm h2 (by omega)))) (ad_cons (ed_mul (ed_mul ed_int (ed_ix (ed_var rfl) sx ed_int rfl) (t2.cm h2 (by omega))) (ed_ix (ed_var rfl) sy ed_int rfl) ((t2.mul h2).cm h4 (by omega))) ad_nil)) ⟨_, _, rfl, ((t2.mul h2).mul h4).mono (by omega), .inr ⟨by omega, rfl⟩⟩ rfl) rfl
theorem pegD_seq (xs : List Int) (u v : Int × Int) : SeqD (pegD xs u v) [.tuple (rD xs), pD u, pD v] := SeqD.t _
theorem Dy.lb {D M : Int} {a b : Nat} {u : Int × Int} (hD : 0 < D) (h : Dy D M u) (h1 : Lt2 a D) : Lt2 a u.2 := by
  have := Int.le_of_dvd hD h.dvd
  have := h.pos
  exact h1.of_le (by omega)
theorem pure_halved (ds : List PyData) (r : Res) (h : F_halved ds r) (B0 B : Hp) : SD K B0 B (t_halved K) (startR N_halved ds) (fin r) := by
  obtain ⟨xs, u, v, n, a, b, D, M, rfl, p, hn, ha, hb, rfl⟩ := h
  unfold t_halved
  have lu := p.du.low p.d0 p.ld p.lm p.m0
  have lv := p.dv.low p.d0 p.ld p.lm p.m0
  have bu := Dy.lb (b := b) p.d0 p.du p.ld
  have bv := Dy.lb (b := b) p.d0 p.dv p.ld
  have D2 : 0 < 2 * D := by have := p.d0; omega
  have ld2 : Lt2 (a + 1) (2 * D) := by
    have l := p.ld
    unfold Lt2 at *
    rw [Int.natAbs_mul, Nat.pow_succ, Nat.mul_comm]
    exact Nat.mul_lt_mul_of_pos_right l (by decide)
  have dm := Dy.mid p.d0 p.du p.dv
  have lm := dm.low D2 ld2 p.lm p.m0
  have bm := Dy.lb (b := b) D2 dm ld2
  have hl := p.len
  have es : (xs.length + 2) * (a + 1 + b + 1) ≤ 102 * 8002 := Nat.mul_le_mul (by omega) (by omega)
  have sg : ∀ (i j : Nat) (w : Int × Int) (ρ : Rho), ρ[i]? = some (some (.d (.tuple (rD xs)))) → ρ[j]? = some (some (.d (pD w))) → Lt2 (a + 1 + b) w.1 → Lt2 (a + 1 + b) w.2 → ED K (tCall (sp_sign_at K) [] E0 (tCons (tVar i) (tCons (tVar j) tNil))) ρ (.int (sgn (hor w.1 w.2 xs).1)) :=
    fun i j w ρ h1 h2 l1 l2 => ed_call (ad_cons (ed_var h1) (ad_cons (ed_var h2) ad_nil)) ⟨_, xs, w.1, w.2, n, a + 1 + b, rfl, SeqD.t _, p.sz, l1, l2, by omega, by omega, rfl⟩ rfl
  refine sd_seq (sd_asg (ed_var rfl) (gd_triple (d := .tuple (rD xs)) (e := pD u) (f := pD v)) ?_)
  refine sd_seq (sd_set (d := pD (midV u v)) (ed_call (ad_cons (ed_var rfl) (ad_cons (ed_var rfl) ad_nil)) ⟨u, v, a + b, a, a, rfl, lu.l1, bu, lv.l1, bv, by omega, by omega, p.pg.pu, p.pg.pv, rfl⟩ rfl) ?_)
  refine sd_seq (sd_set (sg 1 4 (midV u v) _ rfl rfl lm.l1 lm.l2) ?_)
  unfold halfV
  have mp := dm.pos
  have pu := p.pg.pu
  have pv := p.pg.pv
  generalize midV u v = w at *
  show SD K B0 B _ [some (.d (pegD xs u v)), some (.d (.tuple (rD xs))), some (.d (pD u)), some (.d (pD v)), some (.d (pD w)), some (.d (.int (sgn (hor w.1 w.2 xs).1)))] _
  refine sd_seq (sd_if (td_test (ed_eqI (ed_var rfl) ed_int)) (fun hb => ?_) (fun hb => ?_))
  · rw [if_pos (of_decide_eq_true hb)]
    refine sd_ret (ed_tup (ad_cons (ed_var rfl) (ad_cons (ed_call (ad_cons (ed_var rfl) (ad_cons (ed_var rfl) ad_nil)) ⟨u, w, a + 1 + b, a, a + 1, rfl, lu.l1.mono (by omega), bu, lm.l1, bm, by omega, by omega, pu, mp, rfl⟩ rfl) (ad_cons (ed_call (ad_cons (ed_var rfl) (ad_cons (ed_var rfl) ad_nil)) ⟨w, v, a + 1 + b, a + 1, a, rfl, lm.l1, bm, lv.l1.mono (by omega), bv, by omega, by omega, mp, pv, rfl⟩ rfl) ad_nil))) (Nat.le_of_ble_eq_true rfl)) rfl
  · rw [if_neg (of_decide_eq_false hb)]
    refine sd_next ?_
    refine sd_seq (sd_if (td_test (ed_eqI (ed_var rfl) (sg 1 2 u _ rfl rfl (lu.l1.mono (by omega)) (lu.l2.mono (by omega))))) (fun hb => ?_) (fun hb => ?_))
    · rw [if_pos (of_decide_eq_true hb)]
      exact sd_ret (ed_tup (ad_cons (ed_var rfl) (ad_cons (ed_var rfl) (ad_cons (ed_var rfl) ad_nil))) (Nat.le_of_ble_eq_true rfl)) rfl
    · rw [if_neg (of_decide_eq_false hb)]
      refine sd_next ?_
      exact sd_ret (ed_tup (ad_cons (ed_var rfl) (ad_cons (ed_var rfl) (ad_cons (ed_var rfl) ad_nil))) (Nat.le_of_ble_eq_true rfl)) rfl
theorem below_part {w : Int × Int} {t b : Int} (hb : 0 < b) : (w.1 * (partV t b).2 < (partV t b).1 * w.2) ↔ w.1 * b < t * w.2 := by
  have e := partV_cross (a := t) (b := b) (by omega)
  have p := partV_pos (a := t) (b := b) (by omega)
  generalize partV t b = z at *
  constructor
  · intro h
    have k := Int.mul_lt_mul_of_pos_right h hb
    refine Int.lt_of_mul_lt_mul_right (a := z.2) ?_ (Int.le_of_lt p)
    have e1 : t * w.2 * z.2 = z.1 * w.2 * b := by
      have : t * z.2 * w.2 = z.1 * b * w.2 := by rw [e]
      grind
    have e2 : w.1 * b * z.2 = w.1 * z.2 * b := by grind
    omega
  · intro h
    have k := Int.mul_lt_mul_of_pos_right h p
    refine Int.lt_of_mul_lt_mul_right (a := b) ?_ (Int.le_of_lt hb)
    have e1 : t * w.2 * z.2 = z.1 * w.2 * b := by
      have : t * z.2 * w.2 = z.1 * b * w.2 := by rw [e]
      grind
    have e2 : w.1 * b * z.2 = w.1 * z.2 * b := by grind
    omega
theorem Lt2.neg {n : Nat} {a : Int} (h : Lt2 n a) : Lt2 n (-a) := by unfold Lt2 at *; rw [Int.natAbs_neg]; exact h
theorem pure_narrowed (ds : List PyData) (r : Res) (h : F_narrowed C ds r) (B0 B : Hp) (E : XK) (hE : ∀ D, r = .xc D → ∀ G H, Step B0 B G H → E (.ref D) none H) : SD K B0 B (t_narrowed K C E) (startR N_narrowed ds) (fin r) := by
  obtain ⟨xs, u, v, w, n, a, b, k, D, M, rfl, p, hn, lw1, lw2, w2, h⟩ := h
  unfold t_narrowed
  have sw := pD_seq w
  refine sd_seq (sd_if (td_test (ed_le (ed_ix (ed_var rfl) sw ed_int rfl) ed_int)) (fun hb => ?_) (fun hb => ?_))
  · have hb : w.1 ≤ 0 := of_decide_eq_true hb
    rcases h with ⟨_, rfl⟩ | ⟨z, _⟩
    · exact sd_raise (hE C rfl)
    · exact absurd z (by omega)
  · have hb : ¬ w.1 ≤ 0 := of_decide_eq_false hb
    rcases h with ⟨z, _⟩ | ⟨_, th, ha, hb4, u', v', nt, rfl⟩
    · exact absurd z hb
    refine sd_next ?_
    refine sd_seq (sd_while (fun m ρ => ∃ (u v : Int × Int) (a : Nat) (D : Int), ρ = [some (.d (pegD xs u v)), some (.d (pD w))] ∧ PgS n a b D M xs u v ∧ Thin m w u v ∧ a + 2 * m ≤ 4000 ∧ NarTo xs w u v u' v') k ⟨u, v, a, D, rfl, p, th, ha, nt⟩ ?_)
    clear nt ha th p
    rintro m ρ ⟨u, v, a, D, rfl, p, th, ha, nt⟩
    have lu := p.du.low p.d0 p.ld p.lm p.m0
    have lv := p.dv.low p.d0 p.ld p.lm p.m0
    have bu := Dy.lb (b := b) p.d0 p.du p.ld
    have bv := Dy.lb (b := b) p.d0 p.dv p.ld
    have sp := pegD_seq xs u v
    have pp : 0 < v.2 * u.2 := Int.mul_pos p.pg.pv p.pg.pu
    have lp := low_part (m := 20000) pp ((((lv.l1.mul bu).mono (by omega : a + b + a ≤ 19999)).add ((lu.l1.neg.mul bv).mono (by omega : a + b + a ≤ 19999))).mono (by omega)) ((bv.mul bu).mono (by omega))
    refine ⟨decide (w.1 * (v.2 * u.2) < (v.1 * u.2 + -u.1 * v.2) * w.2), td_truth (ed_call (ad_cons (ed_var rfl) (ad_cons (ed_call (ad_cons (ed_ix (ed_var rfl) sp ed_int rfl) (ad_cons (ed_call (F := F_turned) (ad_cons (ed_ix (ed_var rfl) sp ed_int rfl) ad_nil) ⟨u, rfl, rfl⟩ rfl) ad_nil)) (F := F_part_sum) ⟨v, (-u.1, u.2), a + b, a, a, rfl, lv.l1, bv, lu.l1.neg, bu, by omega, by omega, p.pg.pv, p.pg.pu, rfl⟩ rfl) ad_nil)) (F := F_below) ⟨w, _, 100000, rfl, ⟨lw1, lw2, lp.l1.mono (by decide), lp.l2.mono (by decide)⟩, by decide, ?_⟩ rfl) (Truth.bool _), fun hb => ?_, fun hb => ?_⟩
    · congr 2
      rw [decide_eq_decide]
      exact (below_part pp).symm
    · have hb := of_decide_eq_true hb
      cases m with
      | zero => exact absurd hb (thin_zero th)
      | succ m =>
        cases nt with
        | stop z => exact absurd hb z
        | step z nt =>
          refine sd_set (ed_call (ad_cons (ed_var rfl) ad_nil) ⟨xs, u, v, n, a, b, D, M, rfl, p, hn, by omega, hb4, rfl⟩ rfl) ⟨m, Nat.lt_succ_self m, _, _, a + 2, 4 * D, rfl, p.half, half_thin p.pg th, by omega, nt⟩
    · have hb := of_decide_eq_false hb
      cases nt with
      | stop z => exact sd_ret (ed_var rfl) rfl
      | step z nt => exact absurd z hb
end
end Rt

namespace Rt
open PySem PySem.Spec PyProof.Rows L2 Evl
/-! the steps that need no thought; «walk_at "ev"» goes on till it is stuck -/
local macro_rules | `(tactic| walk_at "rt1") => `(tactic| first
  | ((with_reducible show _ = true → ED _ _ _ _); intro _) | ((with_reducible show _ = false → ED _ _ _ _); intro _) | ((with_reducible show _ = true → TD _ _ _ _); intro _) | ((with_reducible show _ = false → TD _ _ _ _); intro _)
  | with_reducible exact ed_int | with_reducible exact ed_bl | with_reducible exact ed_non | with_reducible exact ad_nil | with_reducible exact od_none | with_reducible exact td_yes
  | ((with_reducible apply ed_var); exact rfl)
  | (with_reducible apply ad_cons)
  | (with_reducible apply td_test) | (with_reducible apply td_truth) | (with_reducible apply td_not) | (with_reducible apply td_and) | (with_reducible apply td_or)
  | (with_reducible apply ed_add) | (with_reducible apply ed_sub) | (with_reducible apply ed_mul) | (with_reducible apply ed_mod) | (with_reducible apply ed_fdivP) | (with_reducible apply ed_pow) | (with_reducible apply ed_neg)
  | (with_reducible apply ed_lt) | (with_reducible apply ed_le) | (with_reducible apply ed_gt) | (with_reducible apply ed_ge)
  | (with_reducible apply ed_eqD) | (with_reducible apply ed_neD)
  | (with_reducible apply ed_ix) | (with_reducible apply ed_len) | (with_reducible apply ed_abs) | (with_reducible apply ed_gcd) | (with_reducible apply ed_isi)
  | (with_reducible apply ed_tup) | (with_reducible apply ed_tuple) | (with_reducible apply ed_andV) | (with_reducible apply ed_orV) | (with_reducible apply ed_notV)
  | (with_reducible apply od_some)
  | (with_reducible apply ef_lst) | (with_reducible apply ef_list) | (with_reducible apply ef_sl) | (with_reducible apply ef_cat)
  | (with_reducible apply EF.ed; with_reducible apply ef_lst) | (with_reducible apply EF.ed; with_reducible apply ef_list) | (with_reducible apply EF.ed; with_reducible apply ef_sl) | (with_reducible apply EF.ed; with_reducible apply ef_cat)
  | (with_reducible apply ed_call)
  | ((with_reducible show SeqD _ _); first | exact SeqD.l _ | exact SeqD.t _ | assumption)
  | ((with_reducible show Truth _ _); first | exact Truth.bool _ | exact Truth.int _ | exact Truth.l _ | exact Truth.t _)
  | ((with_reducible show SeqAt.shaped _ = true); exact rfl)
  | ((with_reducible show atI _ _ = some _); first | exact rfl | assumption)
  | ((with_reducible show kitB _ _ = some _); first | exact rfl | decide +kernel)
  | ((with_reducible show List.length _ = _); rfl)
  | ((with_reducible show List.length _ ≤ 100000); first | exact Nat.le_of_ble_eq_true rfl | (simp; done) | (simp; omega)))
local macro_rules | `(tactic| walk_at "ev") => `(tactic| repeat' walk_at "rt1")
/-- a row times a number turns as often -/
theorem seen_smul (u v : Int × Int) (k : Int) (xs : List Int) : seenL u v (smul k xs) = smul k (seenL u v xs) := by
  refine ext_getD ?_ fun i => ?_
  · rw [seen_len]
    show (List.map _ _).length = (List.map _ _).length
    rw [List.length_map, List.length_map, seen_len]
  · refine same_of i (N := 0) fun n _ => ?_
    rw [ev_smul, ← hor_ev, ← hor_ev, seen_hom, seen_hom, hor_smul]
theorem turns_smul {k : Int} (hk : k ≠ 0) (u v : Int × Int) (xs : List Int) : turnsL u v (smul k xs) = turnsL u v xs := by
  unfold turnsL
  rw [seen_smul]
  generalize seenL u v xs = S
  have pos : ∀ k : Int, 0 < k → chg 0 (smul k S) = chg 0 S := fun k hk => chg_ss (SS.refl 0) (al_smul hk S)
  by_cases h : 0 < k
  · exact pos k h
  · have e : smul k S = smul (-1) (smul (-k) S) := by
      unfold smul
      rw [List.map_map]
      congr 1
      funext a
      show k * a = -1 * (-k * a)
      grind
    have o := chg_opp (smul (-k) S) 0
    rw [Int.neg_zero] at o
    rw [e, o, pos (-k) (by omega)]
theorem hor_bare (xs : List Int) (t b : Int) : (hor t b xs).1 = barS xs * (hor t b (bareL xs)).1 := by
  rw [← hor_smul, smul_bare]
theorem turns_bare {xs : List Int} (h : lastZ xs ≠ 0) (u v : Int × Int) : turnsL u v (bareL xs) = turnsL u v xs := by
  have := turns_smul (barS_ne h) u v (bareL xs)
  rw [smul_bare] at this
  exact this.symm
def F_bare (ds : List PyData) (r : Res) : Prop := ∃ (d : PyData) (xs : List Int) (n : Nat), ds = [d] ∧ SeqD d (rD xs) ∧ lastZ xs ≠ 0 ∧ xs.length ≤ 1000 ∧ Sz n xs ∧ n ≤ 8900 ∧ r = .rf (rD (bareL xs))
def F_alone (ds : List PyData) (r : Res) : Prop := ∃ (d : PyData) (xs : List Int) (u v : Int × Int) (n m : Nat), ds = [d, pD u, pD v] ∧ SeqD d (rD xs) ∧ xs.length ≤ 40 ∧ Sz n xs ∧ n ≤ 1000000 ∧ Low m u ∧ Low m v ∧ 1 ≤ m ∧ m ≤ 8000 ∧
  r = .rt (.bool (decide (sgn (hor u.1 u.2 xs).1 * sgn (hor v.1 v.2 xs).1 = -1) && decide ((turnsL u v xs : Int) = 1)))
def onePeg (t b : Int) : PyData := pegD [-t, b] (partV (t * 1 + -1 * b) (b * 1)) (partV (t * 1 + 1 * b) (b * 1))
def F_of_part (ds : List PyData) (r : Res) : Prop := ∃ (u : Int × Int) (m : Nat), ds = [pD u] ∧ Low m u ∧ m ≤ 4000 ∧ r = .rt (onePeg u.1 u.2)
abbrev sp_bare (K : PySem.W.Frag) : Sp := spD K 1 F_bare
abbrev sp_alone (K : PySem.W.Frag) : Sp := spD K 3 F_alone
abbrev sp_of_part (K : PySem.W.Frag) : Sp := spD K 1 F_of_part
theorem sgn_pm (a b : Int) : sgn a * sgn b = -1 ↔ a * b < 0 := by
  rw [neg_iff]
  unfold sgn
  split <;> (try split) <;> (try split) <;> (try split) <;> omega
theorem sgn_lt (a : Int) : Lt2 1 (sgn a) := by
  unfold sgn Lt2
  split <;> (try split) <;> decide
/-- the peg of a part is one -/
theorem two_turns {u v : Int × Int} {xs : List Int} (h : xs.length = 2) : turnsL u v xs ≤ 1 := by
  have l := seen_len u v xs
  unfold turnsL
  rw [h] at l
  match seenL u v xs, l with
  | [a, b], _ =>
    show (if a * 0 < 0 then 1 else 0) + ((if b * (if a = 0 then 0 else a) < 0 then 1 else 0) + 0) ≤ 1
    rw [if_neg (by simp)]
    have k : ∀ (p : Prop) [Decidable p], (if p then 1 else 0 : Nat) ≤ 1 := fun p _ => by split <;> omega
    have := k (b * (if a = 0 then 0 else a) < 0)
    omega
theorem one_peg {m : Nat} {u : Int × Int} (l : Low m u) : PegOk m (m + 1) [-u.1, u.2] (partV (u.1 * 1 + -1 * u.2) (u.2 * 1)) (partV (u.1 * 1 + 1 * u.2) (u.2 * 1)) := by
  obtain ⟨t, b⟩ := u
  have hb : 0 < b := l.pos
  have hg : Int.gcd t b = 1 := l.gcd
  have l1 : Lt2 m t := l.l1
  have l2 : Lt2 m b := l.l2
  have e1 : t * 1 + -1 * b = t - b := by omega
  have e2 : t * 1 + 1 * b = t + b := by omega
  show PegOk m (m + 1) [-t, b] (partV (t * 1 + -1 * b) (b * 1)) (partV (t * 1 + 1 * b) (b * 1))
  rw [e1, e2, Int.mul_one]
  have c1 := partV_cross (a := t - b) (b := b) (by omega)
  have c2 := partV_cross (a := t + b) (b := b) (by omega)
  have lo1 := low_part (m := m + 1) hb (l1.sub l2) (l2.mono (by omega))
  have lo2 := low_part (m := m + 1) hb (l1.add l2) (l2.mono (by omega))
  generalize partV (t - b) b = p at *
  generalize partV (t + b) b = q at *
  have hp := lo1.pos
  have hq := lo2.pos
  have ev2 : ∀ x y : Int, (hor x y [-t, b]).1 = b * x - t * y := fun x y => by
    show (0 * x + b * 1) * x + -t * (1 * y) = _
    grind
  have vp : (hor p.1 p.2 [-t, b]).1 = -(b * p.2) := by
    rw [ev2]
    have : b * p.1 = (t - b) * p.2 := by rw [← c1]; exact Int.mul_comm _ _
    rw [this]; grind
  have vq : (hor q.1 q.2 [-t, b]).1 = b * q.2 := by
    rw [ev2]
    have : b * q.1 = (t + b) * q.2 := by rw [← c2]; exact Int.mul_comm _ _
    rw [this]; grind
  have bp : 0 < b * p.2 := Int.mul_pos hb hp
  have bq : 0 < b * q.2 := Int.mul_pos hb hq
  have lt : p.1 * q.2 < q.1 * p.2 := by
    refine Int.lt_of_mul_lt_mul_right (a := b) ?_ (Int.le_of_lt hb)
    have k1 : p.1 * q.2 * b = (t - b) * p.2 * q.2 := by rw [← c1]; grind
    have k2 : q.1 * p.2 * b = (t + b) * p.2 * q.2 := by
      have : q.1 * p.2 * b = q.1 * b * p.2 := by grind
      rw [this, c2]; grind
    have k3 : 0 < b * p.2 * q.2 := Int.mul_pos bp hq
    have k4 : (t + b) * p.2 * q.2 = (t - b) * p.2 * q.2 + 2 * (b * p.2 * q.2) := by grind
    omega
  have odd := (turns_par hp hq (xs := [-t, b]) (by simp) (by rw [vp]; omega) (by rw [vq]; omega)).mp (by rw [vp, vq]; exact Int.mul_neg_of_neg_of_pos (by omega) bq)
  have le := two_turns (u := p) (v := q) (xs := [-t, b]) rfl
  refine ⟨Nat.le_refl _, by show 2 ≤ 100; decide, ⟨hb, ?_⟩, ?_, lo1, lo2, lt, by rw [vp]; omega, by rw [vq]; omega, by omega⟩
  · show Nat.gcd (-t).natAbs (Nat.gcd b.natAbs 0) = 1
    rw [Nat.gcd_zero_right, Int.natAbs_neg]; exact hg
  · intro a ha
    rcases List.mem_cons.mp ha with rfl | ha
    · rw [Int.natAbs_neg]; exact Nat.le_of_lt l1
    · rw [List.mem_singleton.mp ha]; exact Nat.le_of_lt l2
def t_bare (K : PySem.W.Frag) : TS := (tSeq (tAsg (tC (.int 0)) (gName 1))
  (tSeq (tFor (iSeq K (tVar 0)) (gName 2) (tAsg (tCB rGcd (tCons (tVar 1) (tCons (tVar 2) tNil))) (gName 1)))
  (tSeq (tIfS (tTest (tOp (rI0 fun i j => .bl (decide (i < j))) (tOp (rIx K) (tVar 0) (tUn (rU fun i => .int (-i)) (tC (.int 1)))) (tC (.int 0)))) (tAsg (tUn (rU fun i => .int (-i)) (tVar 1)) (gName 1)) tNext)
  (tRet (tLc (iSeq K (tVar 0)) (gName 2) tYes (tOp (rI CDivQ fun i j => .int (i.fdiv j)) (tVar 2) (tVar 1)) [2])))))
abbrev N_bare : List Str := ["row", "common", "number"]
def t_alone (K : PySem.W.Frag) : TS := (tRet (tAndV (tOp (rEqD K) (tOp (rI CMulX fun i j => .int (i * j)) (tCall (sp_sign_at K) [] E0 (tCons (tVar 0) (tCons (tVar 1) tNil))) (tCall (sp_sign_at K) [] E0 (tCons (tVar 0) (tCons (tVar 2) tNil)))) (tUn (rU fun i => .int (-i)) (tC (.int 1)))) (tOp (rEqD K) (tCall (sp_turns K) [] E0 (tCons (tVar 0) (tCons (tVar 1) (tCons (tVar 2) tNil)))) (tC (.int 1)))))
abbrev N_alone : List Str := ["row", "low", "high"]
def t_of_part (K : PySem.W.Frag) : TS := (tRet (tTup (tCons (tTup (tCons (tUn (rU fun i => .int (-i)) (tOp (rIx K) (tVar 0) (tC (.int 0)))) (tCons (tOp (rIx K) (tVar 0) (tC (.int 1))) tNil))) (tCons (tCall (sp_part_sum K) [] E0 (tCons (tVar 0) (tCons (tTup (tCons (tUn (rU fun i => .int (-i)) (tC (.int 1))) (tCons (tC (.int 1)) tNil))) tNil))) (tCons (tCall (sp_part_sum K) [] E0 (tCons (tVar 0) (tCons (tTup (tCons (tC (.int 1)) (tCons (tC (.int 1)) tNil))) tNil))) tNil)))))
abbrev N_of_part : List Str := ["at"]
theorem bar_lt {n : Nat} {xs : List Int} (h : Sz n xs) (hz : lastZ xs ≠ 0) : Lt2 n (barS xs) := by
  have hx := lastZ_ne hz
  have hm : lastZ xs ∈ xs := by
    unfold lastZ
    rw [List.getLast?_eq_some_getLast hx]
    exact List.getLast_mem hx
  have d := Int.natAbs_dvd_natAbs.mpr (barS_dvd hm)
  exact (h _ hm).of_le (Nat.le_of_dvd (by omega) d)
theorem seq_last {d : PyData} {xs : List Int} (s : SeqD d (rD xs)) (h : xs ≠ []) : atI (rD xs) (-1) = some (.int (lastZ xs)) := by
  rw [rD_last h]; unfold lastZ; rw [List.getLast?_eq_some_getLast h]; rfl
section
variable {K : PySem.W.Frag}
theorem pure_bare (ds : List PyData) (r : Res) (h : F_bare ds r) (B0 B : Hp) : SD K B0 B (t_bare K) (startR N_bare ds) (fin r) := by
  obtain ⟨e, xs, n, rfl, hs, hz, hl, hsz, hn, rfl⟩ := h
  unfold t_bare
  have hx := lastZ_ne hz
  have lb := bar_lt hsz hz
  apply sd_seq; apply sd_set; (case h => walk_at "ev" )
  refine sd_seq (sd_for (id_seq (ed_var rfl) hs) (fun i ρ => ∃ z, ρ = [some (.d e), some (.d (.int (cont (xs.take i) : Int))), z]) ⟨none, rfl⟩ ?_ ?_)
  · rintro i d ρ' hi ⟨z, rfl⟩
    obtain ⟨a, ha, rfl⟩ := rD_get hi
    refine ⟨_, gd_name, ?_⟩
    apply sd_set; (case h => walk_at "ev" )
    refine ⟨some (.d (.int a)), ?_⟩
    rw [take_one ha, cont_snoc]
    rfl
  · rintro ρ' ⟨z, rfl⟩
    show SD K B0 B _ _ _
    rw [rD_len, List.take_length]
    have fin2 : ∀ z, SD K B0 B (tRet (tLc (iSeq K (tVar 0)) (gName 2) tYes (tOp (rI CDivQ fun i j => V.int (i.fdiv j)) (tVar 2) (tVar 1)) [2])) [some (.d e), some (.d (.int (barS xs))), z] (fin (.rf (rD (bareL xs)))) := fun z => by
      refine sd_retF (ds := rD (bareL xs)) ?_ rfl
      refine (ef_lc (ds := rD xs) (fun i => .int ((xs.getD i 0).fdiv (barS xs))) (id_seq (ed_var rfl) hs) (by rw [rD_len]; omega) fun i d hi => ?_).cast ?_
      · obtain ⟨a, ha, rfl⟩ := rD_get hi
        have ea : xs.getD i 0 = a := by rw [List.getD_eq_getElem?_getD, ha]; rfl
        refine ⟨_, gc_name, ?_⟩
        rw [ea]
        exact ed_fdivP (ed_var rfl) (ed_var rfl) (lb.cd (barS_ne hz) (by omega))
      · rw [rD_len]
        unfold rD bareL
        rw [List.map_map]
        exact map_range fun i a ha => by rw [List.getD_eq_getElem?_getD, ha]; rfl
    refine sd_seq (sd_if (td_test (ed_lt (ed_ix (ed_var rfl) hs (ed_neg ed_int) (seq_last hs hx)) ed_int)) (fun hb => ?_) (fun hb => ?_))
    · have hb : lastZ xs < 0 := of_decide_eq_true hb
      have es : barS xs = -(cont xs : Int) := by unfold barS; rw [if_pos hb]
      apply sd_set; (case h => walk_at "ev" )
      rw [← es]
      exact fin2 z
    · have hb : ¬ lastZ xs < 0 := of_decide_eq_false hb
      have es : barS xs = (cont xs : Int) := by unfold barS; rw [if_neg hb]
      rw [← es]
      exact sd_next (fin2 z)
theorem pure_alone (ds : List PyData) (r : Res) (h : F_alone ds r) (B0 B : Hp) : SD K B0 B (t_alone K) (startR N_alone ds) (fin r) := by
  obtain ⟨d, xs, u, v, n, m, rfl, hs, hl, hsz, hn, lu, lv, h1, hm, rfl⟩ := h
  unfold t_alone
  have z : (xs.length + 2) * (m + 1) ≤ 42 * 8001 := Nat.mul_le_mul (by omega) (by omega)
  have c : CMulX (sgn (hor u.1 u.2 xs).1) (sgn (hor v.1 v.2 xs).1) := (sgn_lt _).cm (sgn_lt _) (by decide)
  refine sd_ret (ed_andV (ed_eqI (ed_mul (ed_call (ad_cons (ed_var rfl) (ad_cons (ed_var rfl) ad_nil)) ⟨d, xs, u.1, u.2, n, m, rfl, hs, hsz, lu.l1, lu.l2, h1, by omega, rfl⟩ rfl) (ed_call (ad_cons (ed_var rfl) (ad_cons (ed_var rfl) ad_nil)) ⟨d, xs, v.1, v.2, n, m, rfl, hs, hsz, lv.l1, lv.l2, h1, by omega, rfl⟩ rfl) c) (ed_neg ed_int)) fun _ => ed_eqI (ed_call (ad_cons (ed_var rfl) (ad_cons (ed_var rfl) (ad_cons (ed_var rfl) ad_nil))) ⟨d, xs, u, v, n, m, rfl, hs, hl, hsz, hn, lu, lv, hm, rfl⟩ rfl) ed_int) rfl
theorem pure_of_part (ds : List PyData) (r : Res) (h : F_of_part ds r) (B0 B : Hp) : SD K B0 B (t_of_part K) (startR N_of_part ds) (fin r) := by
  obtain ⟨u, m, rfl, lu, hm, rfl⟩ := h
  unfold t_of_part
  have su := pD_seq u
  have o1 : Lt2 1 (1 : Int) := by unfold Lt2; decide
  have o2 : Lt2 1 (-1 : Int) := by unfold Lt2; decide
  refine sd_ret (d := onePeg u.1 u.2) (ed_tup (ad_cons (ed_tup (ad_cons (ed_neg (ed_ix (ed_var rfl) su ed_int rfl)) (ad_cons (ed_ix (ed_var rfl) su ed_int rfl) ad_nil)) (Nat.le_of_ble_eq_true rfl)) (ad_cons (ed_call (ad_cons (ed_var rfl) (ad_cons (ed_tup (ad_cons (ed_neg ed_int) (ad_cons ed_int ad_nil)) (Nat.le_of_ble_eq_true rfl)) ad_nil)) ⟨u, (-1, 1), m + 1, m, 1, rfl, lu.l1.mono (by omega), lu.l2, o2.mono (by omega), o1, by omega, by omega, lu.pos, by decide, rfl⟩ rfl) (ad_cons (ed_call (ad_cons (ed_var rfl) (ad_cons (ed_tup (ad_cons ed_int (ad_cons ed_int ad_nil)) (Nat.le_of_ble_eq_true rfl)) ad_nil)) ⟨u, (1, 1), m + 1, m, 1, rfl, lu.l1.mono (by omega), lu.l2, o1.mono (by omega), o1, by omega, by omega, lu.pos, by decide, rfl⟩ rfl) ad_nil))) (Nat.le_of_ble_eq_true rfl)) rfl
end
end Rt

/-! whole roots, values at many places, factors of a row far out -/
namespace Rt
theorem ev_syn (T b x : Int) (r : List Int) : ev (x :: r) T = (T - b) * ev (synL b r) T + ev (x :: r) b := by
  have h1 := hor_syn T 1 b x r
  have h2 := hor_syn b 1 b x r
  rw [Int.one_pow, Int.mul_one, Int.mul_one, hor_ev, hor_ev] at h1 h2
  have : (b - b) * ev (synL b r) b = 0 := by rw [Int.sub_self, Int.zero_mul]
  omega
theorem Bd.of_mem {m : Nat} {p : List Int} (h : Bd m p) (a : Int) (ha : a ∈ p) : a.natAbs ≤ m := h a ha
/-- a row of n numbers and one more that isn't nought everywhere has at most n roots among unlike numbers -/
theorem roots_le : ∀ (n : Nat) {p : List Int} {S : List Int}, p.length ≤ n + 1 → (∃ x, ev p x ≠ 0) → S.Nodup → (∀ x ∈ S, ev p x = 0) → S.length ≤ n
  | n, p, [], _, _, _, _ => Nat.zero_le _
  | 0, p, s :: S, hl, hx, hS, h => by
    obtain ⟨x, hx⟩ := hx
    have e : ∀ y z, ev p y = ev p z := fun y z => by
      match p, hl with
      | [], _ => rfl
      | [a], _ => simp [ev]
    exact absurd ((e x s).trans (h s List.mem_cons_self)) hx
  | n + 1, p, s :: S, hl, hx, hS, h => by
    match p, hl with
    | [], _ => obtain ⟨x, hx⟩ := hx; exact absurd rfl hx
    | a :: r, hl =>
      have hs := h s List.mem_cons_self
      have key : ∀ T, ev (a :: r) T = (T - s) * ev (synL s r) T := fun T => by
        have := ev_syn T s a r
        rw [hs] at this; omega
      have sl : (synL s r).length ≤ n + 1 := by rw [synL_len]; simp only [List.length_cons] at hl; omega
      obtain ⟨x, hx⟩ := hx
      rw [key] at hx
      have := roots_le n sl ⟨x, fun z => hx (by rw [z, Int.mul_zero])⟩ (List.nodup_cons.mp hS).2 fun y hy => by
        have h1 := h y (List.mem_cons_of_mem _ hy)
        rw [key] at h1
        rcases Int.mul_eq_zero.mp h1 with z | z
        · exact absurd (show y = s by omega) fun e => (List.nodup_cons.mp hS).1 (e ▸ hy)
        · exact z
      show S.length + 1 ≤ n + 1
      omega
/-- the value far out, by the values at as many places as the row has numbers -/
theorem far_le {N X : Nat} : ∀ (m B : Nat) {v : List Int} {S : List Int}, v.length ≤ m + 1 → S.length = m + 1 → S.Nodup → (∀ x ∈ S, x.natAbs ≤ X ∧ (ev v x).natAbs ≤ B) → 1 ≤ N + X → (ev v N).natAbs ≤ B * 3 ^ m * (N + X) ^ m
  | 0, B, v, S, hl, hS, _, h, _ => by
    match S, hS with
    | s :: S', _ =>
      have e : ev v N = ev v s := by
        match v, hl with
        | [], _ => rfl
        | [a], _ => simp [ev]
      rw [e, Nat.pow_zero, Nat.pow_zero, Nat.mul_one, Nat.mul_one]
      exact (h s List.mem_cons_self).2
  | m + 1, B, v, S, hl, hS, hn, h, hN => by
    match S, hS with
    | s :: S', hS =>
      have hs := h s List.mem_cons_self
      have key : ∃ q : List Int, q.length ≤ m + 1 ∧ ∀ T, ev v T = (T - s) * ev q T + ev v s := by
        match v, hl with
        | [], _ => exact ⟨[], by simp, fun T => by simp [ev]⟩
        | a :: r, hl => exact ⟨synL s r, by rw [synL_len]; simp only [List.length_cons] at hl; omega, fun T => ev_syn T s a r⟩
      obtain ⟨q, ql, hq⟩ := key
      have ih := far_le m (2 * B) (v := q) (S := S') ql (by simp only [List.length_cons] at hS; omega) (List.nodup_cons.mp hn).2 (fun x hx => by
        have h1 := h x (List.mem_cons_of_mem _ hx)
        refine ⟨h1.1, ?_⟩
        have ne : x ≠ s := fun e => (List.nodup_cons.mp hn).1 (e ▸ hx)
        have e := hq x
        have e2 : (x - s) * ev q x = ev v x - ev v s := by omega
        have e3 := congrArg Int.natAbs e2
        rw [Int.natAbs_mul] at e3
        have : 1 ≤ (x - s).natAbs := by omega
        have : 1 * (ev q x).natAbs ≤ (x - s).natAbs * (ev q x).natAbs := Nat.mul_le_mul_right _ this
        have h2 := hs.2
        have h3 := h1.2
        omega) hN
      have e := hq N
      have a1 : ((N : Int) - s).natAbs ≤ N + X := by have := hs.1; omega
      have a2 : (ev v N).natAbs ≤ ((N : Int) - s).natAbs * (ev q N).natAbs + (ev v s).natAbs := by
        rw [e]
        refine Nat.le_trans (Int.natAbs_add_le _ _) ?_
        rw [Int.natAbs_mul]
        exact Nat.le_refl _
      have a3 : ((N : Int) - s).natAbs * (ev q N).natAbs ≤ (N + X) * (2 * B * 3 ^ m * (N + X) ^ m) := Nat.mul_le_mul a1 ih
      have a4 : (N + X) * (2 * B * 3 ^ m * (N + X) ^ m) = 2 * (B * 3 ^ m * (N + X) ^ (m + 1)) := by rw [Nat.pow_succ]; grind
      have a5 : B * 1 * 1 ≤ B * 3 ^ m * (N + X) ^ (m + 1) := Nat.mul_le_mul (Nat.mul_le_mul_left _ (Nat.pow_pos (by decide))) (Nat.pow_pos hN)
      have a6 : B * 3 ^ (m + 1) * (N + X) ^ (m + 1) = 3 * (B * 3 ^ m * (N + X) ^ (m + 1)) := by rw [Nat.pow_succ 3]; grind
      have := hs.2
      omega
theorem ev_ub {M X : Nat} : ∀ {f : List Int} {x : Int}, Bd M f → x.natAbs ≤ X → 1 ≤ X → (ev f x).natAbs ≤ f.length * (M * X ^ (f.length - 1))
  | [], x, _, _, _ => by simp [ev]
  | a :: r, x, h, hx, hX => by
    have ih := ev_ub (f := r) (x := x) (fun b hb => h b (List.mem_cons_of_mem _ hb)) hx hX
    have ha := h a List.mem_cons_self
    show (a + x * ev r x).natAbs ≤ (r.length + 1) * (M * X ^ r.length)
    have e1 : (a + x * ev r x).natAbs ≤ a.natAbs + x.natAbs * (ev r x).natAbs := by
      refine Nat.le_trans (Int.natAbs_add_le _ _) ?_
      rw [Int.natAbs_mul]; exact Nat.le_refl _
    have e2 : x.natAbs * (ev r x).natAbs ≤ X * (r.length * (M * X ^ (r.length - 1))) := Nat.mul_le_mul hx ih
    have e3 : X * (r.length * (M * X ^ (r.length - 1))) = r.length * (M * X ^ r.length) := by
      rcases Nat.eq_zero_or_pos r.length with z | z
      · rw [z]; simp
      · have : X ^ r.length = X ^ (r.length - 1) * X := by rw [← Nat.pow_succ]; congr 1; omega
        rw [this]; grind
    have e4 : M * 1 ≤ M * X ^ r.length := Nat.mul_le_mul_left _ (Nat.pow_pos hX)
    have e5 : (r.length + 1) * (M * X ^ r.length) = r.length * (M * X ^ r.length) + M * X ^ r.length := Nat.succ_mul _ _
    omega
theorem ev_front {M N : Nat} (hN : 1 ≤ N) : ∀ {p : List Int}, Bd M p → (N - 1) * (ev p N).natAbs ≤ M * (N ^ p.length - 1)
  | [], _ => by simp [ev]
  | a :: r, h => by
    have ih := ev_front hN (p := r) fun b hb => h b (List.mem_cons_of_mem _ hb)
    have ha := h a List.mem_cons_self
    have e1 : (a + N * ev r N).natAbs ≤ a.natAbs + N * (ev r N).natAbs := by
      refine Nat.le_trans (Int.natAbs_add_le _ _) ?_
      rw [Int.natAbs_mul]; exact Nat.le_refl _
    show (N - 1) * (a + N * ev r N).natAbs ≤ M * (N ^ (r.length + 1) - 1)
    have p0 : 0 < N ^ r.length := Nat.pow_pos hN
    obtain ⟨q, hq⟩ : ∃ q, N ^ r.length = q + 1 := ⟨N ^ r.length - 1, by omega⟩
    obtain ⟨k, rfl⟩ : ∃ k, N = k + 1 := ⟨N - 1, by omega⟩
    rw [hq] at ih
    rw [Nat.pow_succ, hq]
    have e2 : (q + 1) * (k + 1) - 1 = q * (k + 1) + k := by rw [Nat.add_mul]; omega
    rw [e2]
    show k * _ ≤ _
    have ih : k * (ev r ((k + 1 : Nat) : Int)).natAbs ≤ M * q := ih
    have m1 := Nat.mul_le_mul_left k e1
    have m2 := Nat.mul_le_mul_left (k + 1) ih
    have m3 := Nat.mul_le_mul_left k ha
    generalize (ev r ((k + 1 : Nat) : Int)).natAbs = z at *
    have f1 : k * (a.natAbs + (k + 1) * z) = k * a.natAbs + (k + 1) * (k * z) := by grind
    have f2 : M * (q * (k + 1) + k) = (k + 1) * (M * q) + k * M := by grind
    omega
/-- far out the last number rules -/
theorem ev_lb {M N : Nat} (hN : 4 * M + 2 ≤ N) {f : List Int} (h : Bd M f) (hl : lastZ f ≠ 0) : 3 * N ^ (f.length - 1) ≤ 4 * (ev f N).natAbs := by
  obtain ⟨p, hp⟩ := snoc_of (lastZ_ne hl)
  generalize lastZ f = a at *
  subst hp
  have hb := ev_front (N := N) (by omega) (p := p) fun c hc => h c (List.mem_append_left _ hc)
  rw [ev_snoc, List.length_append]
  show 3 * N ^ (p.length + 1 - 1) ≤ _
  rw [Nat.add_sub_cancel]
  have p0 : 0 < N ^ p.length := Nat.pow_pos (by omega)
  have e : ((N : Int) ^ p.length) = ((N ^ p.length : Nat) : Int) := by rw [Int.natCast_pow]
  rw [e]
  generalize N ^ p.length = w at *
  have a1 : 1 * w ≤ a.natAbs * w := Nat.mul_le_mul_right _ (by omega)
  have a2 : (a * (w : Int)).natAbs = a.natAbs * w := by rw [Int.natAbs_mul]; rfl
  have a3 : (a * (w : Int)).natAbs ≤ (ev p N + a * w).natAbs + (ev p N).natAbs := by omega
  have a4 := Nat.mul_le_mul_left (N - 1) a3
  have a5 : (N - 1) * (4 * w) ≤ (N - 1) * (4 * (ev p N + a * w).natAbs) + 4 * (M * (w - 1)) := by
    have : (N - 1) * w ≤ (N - 1) * (a * (w : Int)).natAbs := Nat.mul_le_mul_left _ (by omega)
    generalize (ev p N + a * w).natAbs = y at *
    generalize (ev p N).natAbs = z at *
    have g1 : (N - 1) * (y + z) = (N - 1) * y + (N - 1) * z := Nat.mul_add _ _ _
    have g2 : (N - 1) * (4 * w) = 4 * ((N - 1) * w) := by grind
    have g3 : (N - 1) * (4 * y) = 4 * ((N - 1) * y) := by grind
    omega
  have a6 : 4 * (M * (w - 1)) ≤ (N - 1) * w := by
    have : 4 * M * (w - 1) ≤ (N - 1) * w := Nat.mul_le_mul (by omega) (by omega)
    rw [← Nat.mul_assoc]; exact this
  have a7 : (N - 1) * (3 * w) ≤ (N - 1) * (4 * (ev p N + a * w).natAbs) := by
    have : (N - 1) * (4 * w) = (N - 1) * (3 * w) + (N - 1) * w := by grind
    omega
  exact Nat.le_of_mul_le_mul_left a7 (by omega)
theorem filter_split {α : Type} (p : α → Bool) : ∀ l : List α, l.length = (l.filter p).length + (l.filter fun x => !p x).length
  | [] => rfl
  | a :: l => by
    have ih := filter_split p l
    rw [List.filter_cons, List.filter_cons]
    cases h : p a
    · simp only [List.length_cons, Bool.not_false, if_true, Bool.false_eq_true, if_false]; omega
    · simp only [List.length_cons, Bool.not_true, if_true, Bool.false_eq_true, if_false]; omega
theorem get_two (b a : Int) (v : List Int) (k : Nat) : (mulL [b, a] v).getD k 0 = b * v.getD k 0 + (if k = 0 then 0 else a * v.getD (k - 1) 0) := by
  show (addL (smul b v) (0 :: addL (smul a v) (0 :: []))).getD k 0 = _
  rw [getD_addL, getD_smul]
  congr 1
  cases k with
  | zero => rfl
  | succ k =>
    rw [if_neg (by omega)]
    show (addL (smul a v) [0]).getD k 0 = _
    rw [getD_addL, getD_smul]
    have : ([0] : List Int).getD k 0 = 0 := by cases k <;> simp
    rw [this]; simp
/-- a row's factor with a root is large far out -/
theorem factor_gen {L M N : Nat} {f r v : List Int} (hL3 : 3 ≤ L) (hL : L ≤ 13) (hf : f = mulL r v) (hb : Bd M f) (hl : f.length ≤ L) (hr : 2 ≤ r.length) (hr0 : 0 < lastZ r) (hv : lastZ v ≠ 0) (hN : 4 * M + 2 ≤ N) (h6 : 6 ≤ N) (hC : 2 * (L * (M * 6 ^ (L - 1)) * 3 ^ (L - 3) * 2 ^ (L - 3)) < 3 * N) : N < 2 * (ev r N).natAbs := by
  have rn : r ≠ [] := by rintro rfl; simp at hr
  have vn := lastZ_ne hv
  have vp := List.length_pos_iff.mpr vn
  have hlen := mulL_len rn vn
  rw [← hf] at hlen
  have fz : lastZ f ≠ 0 := by rw [hf, lastZ_mulL rn vn]; exact Int.mul_ne_zero (by omega) hv
  by_cases d1 : r.length = 2
  · match r, d1 with
    | [b, a], _ =>
      have ha : 0 < a := hr0
      have hbM : b.natAbs ≤ M := by
        by_cases z : b.natAbs ≤ M
        · exact z
        · exfalso
          have v0 : ∀ k, v.getD k 0 = 0 := fun k => by
            induction k with
            | zero =>
              have g := get_two b a v 0
              rw [← hf, if_pos rfl] at g
              have fb : (f.getD 0 0).natAbs ≤ M := by
                cases f with
                | nil => simp
                | cons c _ => exact hb c List.mem_cons_self
              have e := congrArg Int.natAbs g
              rw [Int.add_zero, Int.natAbs_mul] at e
              by_cases q : (v.getD 0 0).natAbs = 0
              · omega
              · have : b.natAbs * 1 ≤ b.natAbs * (v.getD 0 0).natAbs := Nat.mul_le_mul_left _ (by omega)
                omega
            | succ k ih =>
              have g := get_two b a v (k + 1)
              rw [← hf, if_neg (by omega), Nat.add_sub_cancel, ih, Int.mul_zero, Int.add_zero] at g
              have fb : (f.getD (k + 1) 0).natAbs ≤ M := by
                rw [List.getD_eq_getElem?_getD]
                cases q : f[k + 1]? with
                | none => simp
                | some c => exact hb c (List.mem_of_getElem? q)
              have e := congrArg Int.natAbs g
              rw [Int.natAbs_mul] at e
              by_cases q : (v.getD (k + 1) 0).natAbs = 0
              · omega
              · have : b.natAbs * 1 ≤ b.natAbs * (v.getD (k + 1) 0).natAbs := Nat.mul_le_mul_left _ (by omega)
                omega
          have := v0 (v.length - 1)
          rw [lastZ_getD vn] at this
          exact hv this
      show N < 2 * (b + N * (a + N * 0)).natAbs
      rw [Int.mul_zero, Int.add_zero]
      have : (N : Int) * 1 ≤ N * a := Int.mul_le_mul_of_nonneg_left (by omega) (by omega)
      omega
  · by_cases z : N < 2 * (ev r N).natAbs
    · exact z
    · exfalso
      obtain ⟨m, hm⟩ : ∃ m, v.length = m + 1 := ⟨v.length - 1, by omega⟩
      let S0 : List Int := (List.range f.length).map fun k : Nat => (k : Int) - 6
      have nd0 : S0.Nodup := by
        refine List.Pairwise.map _ (fun x y (h : x ≠ y) => ?_) List.nodup_range
        intro e; apply h; omega
      have in0 : ∀ x ∈ S0, x.natAbs ≤ 6 := fun x hx => by
        obtain ⟨k, hk, rfl⟩ := List.mem_map.mp hx
        have := List.mem_range.mp hk
        omega
      have len0 : S0.length = f.length := by show (List.map _ _).length = _; rw [List.length_map, List.length_range]
      have hroots : (S0.filter fun x => ev r x == 0).length ≤ r.length - 1 := roots_le (r.length - 1) (p := r) (by omega) (by
        obtain ⟨K, hK⟩ := far_ne (p := r) (by omega)
        exact ⟨(K : Int), hK K (Nat.le_refl _)⟩) (nd0.sublist List.filter_sublist) fun x hx => by
        have := (List.mem_filter.mp hx).2
        exact of_decide_eq_true (by simpa using this)
      have split := filter_split (fun x => ev r x == 0) S0
      let S := (S0.filter fun x => !(ev r x == 0)).take (m + 1)
      have lenS : S.length = m + 1 := by show (List.take _ _).length = _; rw [List.length_take]; omega
      have sub : List.Sublist S S0 := (List.take_sublist _ _).trans List.filter_sublist
      have vb : ∀ x ∈ S, x.natAbs ≤ 6 ∧ (ev v x).natAbs ≤ L * (M * 6 ^ (L - 1)) := fun x hx => by
        have hx0 := sub.subset hx
        have x6 := in0 x hx0
        refine ⟨x6, ?_⟩
        have hr1 : ev r x ≠ 0 := by
          have := (List.mem_filter.mp (List.mem_of_mem_take hx)).2
          intro e
          rw [e] at this
          exact absurd this (by decide)
        have e : (ev f x).natAbs = (ev r x).natAbs * (ev v x).natAbs := by rw [hf, ev_mulL, Int.natAbs_mul]
        have u := ev_ub hb x6 (by decide)
        have u2 : f.length * (M * 6 ^ (f.length - 1)) ≤ L * (M * 6 ^ (L - 1)) := Nat.mul_le_mul hl (Nat.mul_le_mul_left _ (Nat.pow_le_pow_right (by decide) (by omega)))
        have : 1 * (ev v x).natAbs ≤ (ev r x).natAbs * (ev v x).natAbs := Nat.mul_le_mul_right _ (by omega)
        omega
      have far := far_le (N := N) (X := 6) m (L * (M * 6 ^ (L - 1))) (v := v) (S := S) (by omega) lenS (nd0.sublist sub) vb (by omega)
      have lb := ev_lb (N := N) (M := M) (by omega) hb fz
      have e : (ev f N).natAbs = (ev r N).natAbs * (ev v N).natAbs := by rw [hf, ev_mulL, Int.natAbs_mul]
      have hm10 : m ≤ L - 3 := by omega
      have k1 : 4 * (ev f N).natAbs ≤ 2 * N * (L * (M * 6 ^ (L - 1)) * 3 ^ m * (N + 6) ^ m) := by
        rw [e]
        have := Nat.mul_le_mul (show 2 * (ev r N).natAbs ≤ N by omega) far
        generalize (ev r N).natAbs = y at *
        generalize (ev v N).natAbs = w at *
        have g1 : 4 * (y * w) = 2 * (2 * y * w) := by grind
        have g2 : 2 * N * (L * (M * 6 ^ (L - 1)) * 3 ^ m * (N + 6) ^ m) = 2 * (N * (L * (M * 6 ^ (L - 1)) * 3 ^ m * (N + 6) ^ m)) := by grind
        omega
      have k2 : (N + 6) ^ m ≤ 2 ^ (L - 3) * N ^ m := by
        have : (N + 6) ^ m ≤ (2 * N) ^ m := Nat.pow_le_pow_left (by omega) _
        rw [Nat.mul_pow] at this
        exact Nat.le_trans this (Nat.mul_le_mul_right _ (Nat.pow_le_pow_right (by decide) hm10))
      have k3 : 3 ^ m ≤ 3 ^ (L - 3) := Nat.pow_le_pow_right (by decide) hm10
      have k4 : L * (M * 6 ^ (L - 1)) * 3 ^ m * (N + 6) ^ m ≤ L * (M * 6 ^ (L - 1)) * 3 ^ (L - 3) * (2 ^ (L - 3) * N ^ m) := Nat.mul_le_mul (Nat.mul_le_mul_left _ k3) k2
      have k5 : 3 * (N ^ m * (N * N)) ≤ 3 * N ^ (f.length - 1) := by
        have e0 : f.length - 1 = m + 2 + (r.length - 3) := by omega
        have e2 : N ^ 2 = N * N := by rw [Nat.pow_succ, Nat.pow_one]
        rw [e0, Nat.pow_add, Nat.pow_add, e2]
        have p1 : 1 ≤ N ^ (r.length - 3) := Nat.pow_pos (by omega)
        have := Nat.mul_le_mul_left (N ^ m * (N * N)) p1
        omega
      have k6 : 3 * (N ^ m * (N * N)) ≤ 2 * N * (L * (M * 6 ^ (L - 1)) * 3 ^ (L - 3) * (2 ^ (L - 3) * N ^ m)) := by
        have := Nat.mul_le_mul_left (2 * N) k4
        omega
      have pm : 0 < N ^ m := Nat.pow_pos (by omega)
      generalize N ^ m = w at *
      have k7 : (w * N) * (3 * N) ≤ (w * N) * (2 * (L * (M * 6 ^ (L - 1)) * 3 ^ (L - 3) * 2 ^ (L - 3))) := by
        have g1 : (w * N) * (3 * N) = 3 * (w * (N * N)) := by grind
        have g2 : (w * N) * (2 * (L * (M * 6 ^ (L - 1)) * 3 ^ (L - 3) * 2 ^ (L - 3))) = 2 * N * (L * (M * 6 ^ (L - 1)) * 3 ^ (L - 3) * (2 ^ (L - 3) * w)) := by
          generalize L * (M * 6 ^ (L - 1)) * 3 ^ (L - 3) = y
          generalize 2 ^ (L - 3) = z
          grind
        omega
      have k8 := Nat.le_of_mul_le_mul_left k7 (Nat.mul_pos pm (by omega))
      omega
/-- here for rows of at most 13 numbers -/
theorem factor_big {M N : Nat} {f r v : List Int} (hM : 1 ≤ M) (hf : f = mulL r v) (hb : Bd M f) (hl : f.length ≤ 13) (hr : 2 ≤ r.length) (hr0 : 0 < lastZ r) (hv : lastZ v ≠ 0) (hN : 2 ^ 64 * M ≤ N) : N < 2 * (ev r N).natAbs := by
  refine factor_gen (L := 13) (by decide) (by decide) hf hb hl hr hr0 hv (by omega) (by omega) ?_
  have c : 2 * (13 * (M * 6 ^ (13 - 1)) * 3 ^ (13 - 3) * 2 ^ (13 - 3)) = 3422164299898945536 * M := by
    have e1 : (6 : Nat) ^ (13 - 1) = 2176782336 := by decide
    have e2 : (3 : Nat) ^ (13 - 3) = 59049 := by decide
    have e3 : (2 : Nat) ^ (13 - 3) = 1024 := by decide
    rw [e1, e2, e3]; omega
  have : (2 : Nat) ^ 64 = 18446744073709551616 := by decide
  omega
/-- here for small rows of at most 4 numbers -/
theorem factor_small {N : Nat} {f r v : List Int} (hf : f = mulL r v) (hb : Bd (2 ^ 30) f) (hl : f.length ≤ 4) (hr : 2 ≤ r.length) (hr0 : 0 < lastZ r) (hv : lastZ v ≠ 0) (hN : 2 ^ 64 ≤ N) : N < 2 * (ev r N).natAbs := by
  have e64 : (2 : Nat) ^ 64 = 18446744073709551616 := by decide
  have e30 : (2 : Nat) ^ 30 = 1073741824 := by decide
  refine factor_gen (L := 4) (M := 2 ^ 30) (by decide) (by decide) hf hb hl hr hr0 hv (by omega) (by omega) ?_
  have : 2 * (4 * (2 ^ 30 * 6 ^ (4 - 1)) * 3 ^ (4 - 3) * 2 ^ (4 - 3)) = 11132555231232 := by decide
  omega
end Rt

/-! the greatest common row of two rows, with small numbers -/
namespace Rt
theorem ev_gap (n : Nat) (k x : Int) : ev (List.replicate n 0 ++ [k]) x = k * x ^ n := by
  rw [ev_app, ev_rep, List.length_replicate]
  show 0 + x ^ n * (k + x * 0) = _
  grind
/-- dividing rows, times a number -/
theorem pdiv {p : List Int} (hp : lastZ p ≠ 0) : ∀ (n : Nat) (q : List Int), q.length ≤ n → ∃ (c : Int) (s r : List Int), c ≠ 0 ∧ (∀ x, c * ev q x = ev p x * ev s x + ev r x) ∧ (r = [] ∨ lastZ r ≠ 0) ∧ r.length < p.length := fun n => by
  have pl := List.length_pos_iff.mpr (lastZ_ne hp)
  induction n with
  | zero =>
    intro q hq
    have : q = [] := List.length_eq_zero_iff.mp (by omega)
    subst this
    exact ⟨1, [], [], by decide, fun x => by simp [ev], .inl rfl, pl⟩
  | succ n ih =>
    intro q hq
    by_cases c : q.length < p.length
    · refine ⟨1, [], trimL q, by decide, fun x => by rw [ev_trimL]; simp [ev], trimL_last q, ?_⟩
      obtain ⟨k, e⟩ := trimL_pre q
      have := congrArg List.length e
      rw [List.length_append, List.length_replicate] at this
      omega
    · have qn : q ≠ [] := by rintro rfl; exact c pl
      have sl : (smul (lastZ p) q).length = q.length := List.length_map _
      have l1 := low_len (row := smul (lastZ p) q) (other := p) (lastZ q) (by omega) (lastZ_ne hp)
      obtain ⟨c', s', r, hc, he, hr, hl⟩ := ih (lowL (smul (lastZ p) q) p (lastZ q)) (by omega)
      refine ⟨c' * lastZ p, addL s' (List.replicate (q.length - p.length) 0 ++ [c' * lastZ q]), r, Int.mul_ne_zero hc hp, fun x => ?_, hr, hl⟩
      have e := he x
      rw [ev_low (by omega) (lastZ_ne hp) (by rw [lastZ_smul]; exact Int.mul_comm _ _), ev_smul, sl] at e
      rw [ev_addL, ev_gap]
      generalize x ^ (q.length - p.length) = w at *
      generalize ev p x = y at *
      generalize ev q x = z at *
      have : c' * lastZ p * z = c' * (lastZ p * z - lastZ q * (w * y)) + c' * lastZ q * w * y := by grind
      rw [this, e]
      grind
theorem mul_smul' (k : Int) (p q : List Int) (hp : p ≠ []) (hq : q ≠ []) : mulL p (smul k q) = smul k (mulL p q) := by
  have sn : smul k q ≠ [] := by intro z; exact hq (List.map_eq_nil_iff.mp z)
  refine eq_of_ev ?_ fun x => ?_
  · have h1 := mulL_len hp sn
    have h2 := mulL_len hp hq
    have h3 : (smul k q).length = q.length := List.length_map _
    have h4 : (smul k (mulL p q)).length = (mulL p q).length := List.length_map _
    omega
  · rw [ev_mulL, ev_smul, ev_smul, ev_mulL]; grind
/-- a bare row that divides another does so without a rest -/
theorem dv_exact {p q : List Int} (hp : Good p) (hq : lastZ q ≠ 0) (h : Dv p q) : ∃ s, lastZ s ≠ 0 ∧ q = mulL p s := by
  obtain ⟨c, s, r, hc, he, hr, hl⟩ := pdiv hp.ne q.length q (Nat.le_refl _)
  have r0 : r = [] := by
    rcases hr with hr | hr
    · exact hr
    · exfalso
      obtain ⟨a, ha, hd⟩ := h
      have : Dv p r := ⟨a, ha, fun x => by
        obtain ⟨k, hk⟩ := hd x
        have e := he x
        refine ⟨c * k - a * ev s x, ?_⟩
        have : a * ev r x = a * (c * ev q x) - a * (ev p x * ev s x) := by rw [e]; grind
        rw [this]
        have : a * (c * ev q x) = c * (a * ev q x) := by grind
        rw [this, hk]; grind⟩
      have := this.len hp.ne hr
      omega
  subst r0
  have he : ∀ x, c * ev q x = ev p x * ev (trimL s) x := fun x => by rw [ev_trimL, he x]; show _ + 0 = _; omega
  have hs : lastZ (trimL s) ≠ 0 := by
    rcases trimL_last s with z | z
    · exfalso
      obtain ⟨N, hN⟩ := far_ne hq
      have := he N
      rw [z] at this
      have e0 : ev ([] : List Int) (N : Int) = 0 := rfl
      rw [e0, Int.mul_zero] at this
      rcases Int.mul_eq_zero.mp this with z | z
      · exact hc z
      · exact hN N (Nat.le_refl _) z
    · exact z
  generalize trimL s = s at *
  have pn := lastZ_ne hp.ne
  have sn := lastZ_ne hs
  have eq1 : smul c q = mulL p s := eq_of_same (by rw [lastZ_smul]; exact Int.mul_ne_zero hc hq) (by rw [lastZ_mulL pn sn]; exact Int.mul_ne_zero hp.ne hs) fun i => same_of i (N := 0) fun n _ => by rw [ev_smul, ev_mulL, he]
  have gs := bare_good hs
  have bs := smul_bare s
  have s0 := barS_ne hs
  have e2 : mulL p s = smul (barS s) (mulL p (bareL s)) := by
    have := mul_smul' (barS s) p (bareL s) pn (lastZ_ne gs.ne)
    rwa [bs] at this
  have gm := hp.mul gs
  have c1 : c.natAbs * cont q = (barS s).natAbs := by
    have := congrArg cont (eq1.trans e2)
    rw [cont_smul, cont_smul, gm.2, Nat.mul_one] at this
    exact this
  have dv : c ∣ barS s := Int.natAbs_dvd_natAbs.mp ⟨cont q, c1.symm⟩
  obtain ⟨k, hk⟩ := dv
  have k0 : k ≠ 0 := fun z => s0 (by rw [hk, z, Int.mul_zero])
  refine ⟨smul k (bareL s), by rw [lastZ_smul]; exact Int.mul_ne_zero k0 gs.ne, ?_⟩
  rw [mul_smul' k p (bareL s) pn (lastZ_ne gs.ne)]
  refine smul_inj hc ?_
  rw [eq1, e2, hk]
  unfold smul
  rw [List.map_map]
  congr 1
  funext a
  show c * k * a = c * (k * a)
  grind
/-! ### more things than places -/
theorem one_pigeon (f : Nat → Int) (lo : Int) : ∀ (W : Nat) (S : List Nat), (∀ c ∈ S, lo ≤ f c ∧ f c < lo + W) → ∃ v, S.length ≤ W * (S.filter fun c => f c == v).length
  | 0, S, h => by
    cases S with
    | nil => exact ⟨0, Nat.zero_le _⟩
    | cons c S => have := h c List.mem_cons_self; omega
  | W + 1, S, h => by
    have sp := filter_split (fun c => f c == lo + W) S
    obtain ⟨v, hv⟩ := one_pigeon f lo W (S.filter fun c => !(f c == lo + W)) fun c hc => by
      obtain ⟨h1, h2⟩ := List.mem_filter.mp hc
      have := h c h1
      have ne : f c ≠ lo + W := by
        intro e
        rw [e] at h2
        simp at h2
      omega
    have le : ((S.filter fun c => !(f c == lo + W)).filter fun c => f c == v).length ≤ (S.filter fun c => f c == v).length := (List.filter_sublist.filter _).length_le
    have m1 := Nat.mul_le_mul_left W le
    by_cases c : (S.filter fun c => f c == lo + W).length ≤ (S.filter fun c => f c == v).length
    · refine ⟨v, ?_⟩
      rw [Nat.succ_mul]; omega
    · refine ⟨lo + W, ?_⟩
      have := Nat.mul_le_mul_left W (Nat.le_of_not_le c)
      rw [Nat.succ_mul]; omega
theorem pigeons (L : Nat → Nat → Int) (lo : Int) (W : Nat) (S : List Nat) : ∀ m : Nat, (∀ j, j < m → ∀ c ∈ S, lo ≤ L j c ∧ L j c < lo + W) → ∃ T : List Nat, List.Sublist T S ∧ S.length ≤ W ^ m * T.length ∧ ∀ j, j < m → ∀ c ∈ T, ∀ d ∈ T, L j c = L j d
  | 0, _ => ⟨S, List.Sublist.refl S, by simp, fun j h => absurd h (Nat.not_lt_zero j)⟩
  | m + 1, h => by
    obtain ⟨T, h1, h2, h3⟩ := pigeons L lo W S m fun j hj => h j (by omega)
    obtain ⟨v, hv⟩ := one_pigeon (L m) lo W T fun c hc => h m (by omega) c (h1.subset hc)
    refine ⟨T.filter fun c => L m c == v, List.filter_sublist.trans h1, ?_, fun j hj c hc d hd => ?_⟩
    · have := Nat.mul_le_mul_left (W ^ m) hv
      rw [Nat.pow_succ, Nat.mul_assoc]
      omega
    · obtain ⟨c1, c2⟩ := List.mem_filter.mp hc
      obtain ⟨d1, d2⟩ := List.mem_filter.mp hd
      by_cases e : j = m
      · subst e
        have x1 : L j c = v := by simpa using c2
        have x2 : L j d = v := by simpa using d2
        rw [x1, x2]
      · exact h3 j (by omega) c c1 d d1
/-- the digits of a number -/
def cvec (B : Nat) : Nat → Nat → List Int
  | 0, _ => []
  | n + 1, c => ((c % B : Nat) : Int) :: cvec B n (c / B)
theorem cvec_len (B : Nat) : ∀ n c, (cvec B n c).length = n
  | 0, _ => rfl
  | n + 1, c => congrArg (· + 1) (cvec_len B n (c / B))
theorem cvec_bd {B : Nat} (hB : 1 ≤ B) : ∀ n c, Bd (B - 1) (cvec B n c)
  | 0, _ => fun a h => nomatch h
  | n + 1, c => fun a h => by
    rcases List.mem_cons.mp h with rfl | h
    · have := Nat.mod_lt c (show B > 0 by omega); omega
    · exact cvec_bd hB n _ a h
theorem cvec_ev {B : Nat} (hB : 1 ≤ B) : ∀ n c, c < B ^ n → ev (cvec B n c) B = c
  | 0, c, h => by
    have : c = 0 := by simpa using h
    subst this; rfl
  | n + 1, c, h => by
    show ((c % B : Nat) : Int) + B * ev (cvec B n (c / B)) B = c
    have hc : c / B < B ^ n := by
      rw [Nat.div_lt_iff_lt_mul (by omega), ← Nat.pow_succ]; exact h
    rw [cvec_ev hB n _ hc]
    have := Nat.mod_add_div c B
    rw [← Int.natCast_mul, ← Int.natCast_add, this]
/-- the greatest common row is made of both -/
theorem com_lin : ∀ (n : Nat) {one other : List Int}, other.length ≤ n → Good one → (other = [] ∨ Good other) → ∃ k : Int, k ≠ 0 ∧ ∀ x, ∃ u v, u * ev one x + v * ev other x = k * ev (comL n one other) x
  | 0, one, other, hn, h1, h2 => ⟨1, by decide, fun x => ⟨1, 0, by show 1 * ev one x + 0 * _ = 1 * ev one x; omega⟩⟩
  | n + 1, one, other, hn, h1, h2 => by
    unfold comL
    by_cases c : other.length = 0
    · rw [if_pos c]
      exact ⟨1, by decide, fun x => ⟨1, 0, by omega⟩⟩
    · rw [if_neg c]
      have g2 : Good other := h2.resolve_left (by rintro rfl; exact c rfl)
      obtain ⟨r1, r2, a, ha, r3⟩ := rem_ok one.length (left := one) (other := other) (Nat.le_refl _) g2.ne (.inr h1.ne)
      generalize remL one.length one other = r at *
      have gb : bareL r = [] ∨ Good (bareL r) := by
        rcases r1 with rfl | r1
        · exact .inl rfl
        · exact .inr (bare_good r1)
      have lb : (bareL r).length = r.length := by unfold bareL; rw [List.length_map]
      obtain ⟨k, hk, e⟩ := com_lin n (one := other) (other := bareL r) (by omega) g2 gb
      have s0 : ∃ s : Int, s ≠ 0 ∧ ∀ x, s * ev (bareL r) x = ev r x := by
        rcases r1 with rfl | r1
        · exact ⟨1, by decide, fun x => by show 1 * 0 = (0 : Int); rfl⟩
        · exact ⟨barS r, barS_ne r1, ev_bare r⟩
      obtain ⟨s, hs, es⟩ := s0
      refine ⟨s * k, Int.mul_ne_zero hs hk, fun x => ?_⟩
      obtain ⟨u, hu⟩ := r3 x
      obtain ⟨p, q, hpq⟩ := e x
      refine ⟨q * a, s * p - q * u, ?_⟩
      have e1 := es x
      generalize ev (comL n other (bareL r)) x = z at *
      have : s * k * z = s * (p * ev other x) + q * (s * ev (bareL r) x) := by
        rw [Int.mul_assoc, ← hpq]; grind
      rw [this, e1]
      have : ev r x = a * ev one x - u * ev other x := by omega
      rw [this]; grind
theorem dv_mul (t s : List Int) : Dv t (mulL t s) := ⟨1, by decide, fun x => by rw [ev_mulL, Int.one_mul]; exact Int.dvd_mul_right _ _⟩
theorem Bd.smul {m k : Nat} {p : List Int} (h : Bd m p) (c : Int) (hc : c.natAbs ≤ k) : Bd (k * m) (smul c p) := fun a ha => by
  obtain ⟨b, hb, rfl⟩ := List.mem_map.mp ha
  rw [Int.natAbs_mul]
  exact Nat.mul_le_mul hc (h b hb)
theorem Bd.getD {m : Nat} {p : List Int} (h : Bd m p) (i : Nat) : (p.getD i 0).natAbs ≤ m := by
  rw [List.getD_eq_getElem?_getD]
  cases q : p[i]? with
  | none => simp
  | some c => exact h c (List.mem_of_getElem? q)
/-- small rows that bring two rows to a number times their greatest common row -/
theorem bezX {f g : List Int} {M L : Nat} (hM : 1 ≤ M) (gf : Good f) (gg : Good g) (bf : Bd M f) (bg : Bd M g) (lf : f.length ≤ L) (lg : g.length ≤ L) :
    ∃ (t a b : List Int) (k : Int) (U V : List Int), Good t ∧ lastZ a ≠ 0 ∧ lastZ b ≠ 0 ∧ f = mulL t a ∧ g = mulL t b ∧ k ≠ 0 ∧ Bd ((4 * L * M + 1) ^ (2 * L)) (smul k t) ∧ (Bd ((4 * L * M + 1) ^ (2 * L)) U ∧ Bd ((4 * L * M + 1) ^ (2 * L)) V ∧ U.length ≤ L ∧ V.length ≤ L ∧ ∀ x, ev U x * ev a x + ev V x * ev b x = k) ∧ ∀ D, Dv D f → Dv D g → Dv D t := by
  obtain ⟨gt, tmax, t1, t2⟩ := com_ok g.length (one := f) (other := g) (Nat.le_refl _) gf (.inr gg)
  obtain ⟨k0, hk0, lin⟩ := com_lin g.length (one := f) (other := g) (Nat.le_refl _) gf (.inr gg)
  generalize comL g.length f g = t at *
  obtain ⟨a, ha, ea⟩ := dv_exact gt gf.ne t1
  obtain ⟨b, hb, eb⟩ := dv_exact gt gg.ne t2
  have tn := lastZ_ne gt.ne
  have an := lastZ_ne ha
  have bn := lastZ_ne hb
  have tp := List.length_pos_iff.mpr tn
  have ap := List.length_pos_iff.mpr an
  have bp := List.length_pos_iff.mpr bn
  have la := mulL_len tn an
  have lb := mulL_len tn bn
  rw [← ea] at la
  rw [← eb] at lb
  have big : M ≤ (4 * L * M + 1) ^ (2 * L) := by
    have h1 : (4 * L * M + 1) ^ 1 ≤ (4 * L * M + 1) ^ (2 * L) := Nat.pow_le_pow_right (by omega) (by omega)
    have h2 : 1 * M ≤ 4 * L * M := Nat.mul_le_mul_right _ (by omega)
    rw [Nat.pow_one] at h1
    omega
  have one : ∀ {a f : List Int}, Good f → f = mulL t a → a.length = 1 → lastZ a ≠ 0 → a = [1] ∧ f = t := fun {a f} gf ea l1 h0 => by
    match a, l1 with
    | [c], _ =>
      have e : f = smul c t := by
        refine eq_of_same gf.ne (by rw [lastZ_smul]; exact Int.mul_ne_zero h0 gt.ne) fun i => same_of i (N := 0) fun n _ => ?_
        rw [ea, ev_mulL, ev_smul]
        show _ * (c + _ * 0) = _
        grind
      have c1 := congrArg cont e
      rw [cont_smul, gf.2, gt.2, Nat.mul_one] at c1
      have c2 := congrArg lastZ e
      rw [lastZ_smul] at c2
      have c3 : 0 < c := by
        by_cases z : 0 < c
        · exact z
        · have := Int.mul_nonpos_of_nonpos_of_nonneg (Int.not_lt.mp z) (Int.le_of_lt gt.1)
          have := gf.1; omega
      have c4 : c = 1 := by omega
      subst c4
      refine ⟨rfl, ?_⟩
      rw [e]
      unfold smul
      have : (fun a : Int => 1 * a) = id := by funext a; exact Int.one_mul a
      rw [this, List.map_id]
  have one_le : 1 ≤ (4 * L * M + 1) ^ (2 * L) := Nat.pow_pos (by omega)
  by_cases a1 : a.length = 1
  · obtain ⟨e1, e2⟩ := one gf ea a1 ha
    refine ⟨t, a, b, 1, [1], [], gt, ha, hb, ea, eb, by decide, ?_, ⟨fun y hy => by rw [List.mem_singleton.mp hy]; exact one_le, fun y hy => (nomatch hy), by show 1 ≤ L; omega, Nat.zero_le _, fun x => by rw [e1]; simp [ev]⟩, tmax⟩
    rw [← e2]
    exact (Bd.smul bf 1 (Nat.le_refl 1)).mono (by omega)
  by_cases b1 : b.length = 1
  · obtain ⟨e1, e2⟩ := one gg eb b1 hb
    refine ⟨t, a, b, 1, [], [1], gt, ha, hb, ea, eb, by decide, ?_, ⟨fun y hy => (nomatch hy), fun y hy => by rw [List.mem_singleton.mp hy]; exact one_le, Nat.zero_le _, by show 1 ≤ L; omega, fun x => by rw [e1]; simp [ev]⟩, tmax⟩
    rw [← e2]
    exact (Bd.smul bg 1 (Nat.le_refl 1)).mono (by omega)
  obtain ⟨α, hα⟩ : ∃ α, a.length = α + 2 := ⟨a.length - 2, by omega⟩
  obtain ⟨β, hβ⟩ : ∃ β, b.length = β + 2 := ⟨b.length - 2, by omega⟩
  -- n = α + β + 2 numbers, m = α + β + 1 places
  let H := (4 * L * M + 1) ^ (α + β + 1)
  let A : Nat → List Int := fun c => (cvec (H + 1) (α + β + 2) c).take (β + 1)
  let Bv : Nat → List Int := fun c => (cvec (H + 1) (α + β + 2) c).drop (β + 1)
  have lA : ∀ c, (A c).length = β + 1 := fun c => by show (List.take _ _).length = _; rw [List.length_take, cvec_len]; omega
  have lB : ∀ c, (Bv c).length = α + 1 := fun c => by show (List.drop _ _).length = _; rw [List.length_drop, cvec_len]; omega
  have bA : ∀ c, Bd H (A c) := fun c x hx => cvec_bd (B := H + 1) (by omega) _ c x (List.mem_of_mem_take hx)
  have bB : ∀ c, Bd H (Bv c) := fun c x hx => cvec_bd (B := H + 1) (by omega) _ c x (List.mem_of_mem_drop hx)
  let P : Nat → List Int := fun c => addL (mulL (A c) f) (mulL (Bv c) g)
  let R := (α + β + 2) * (H * M)
  have bP : ∀ c, Bd R (P c) := fun c => by
    have h1 := bd_mul bf (bA c)
    have h2 := bd_mul bg (bB c)
    rw [lA] at h1
    rw [lB] at h2
    refine (bd_add h1 h2).mono (Nat.le_of_eq ?_)
    show _ = (α + β + 2) * (H * M)
    rw [← Nat.add_mul]; congr 1; omega
  have Wlt : (2 * R + 1) ^ (α + β + 1) < (H + 1) ^ (α + β + 2) := by
    have h1 : 2 * R + 1 ≤ (4 * L * M + 1) * (H + 1) := by
      have : (α + β + 2) * (H * M) ≤ 2 * L * (H * M) := Nat.mul_le_mul_right _ (by omega)
      have e : (4 * L * M + 1) * (H + 1) = 2 * (2 * L * (H * M)) + 4 * L * M + H + 1 := by grind
      show 2 * ((α + β + 2) * (H * M)) + 1 ≤ _
      omega
    have h2 : (2 * R + 1) ^ (α + β + 1) ≤ (4 * L * M + 1) ^ (α + β + 1) * (H + 1) ^ (α + β + 1) := by
      rw [← Nat.mul_pow]; exact Nat.pow_le_pow_left h1 _
    have h3 : 0 < (H + 1) ^ (α + β + 1) := Nat.pow_pos (by omega)
    have h4 : (H + 1) ^ (α + β + 2) = (H + 1) * (H + 1) ^ (α + β + 1) := by rw [Nat.pow_succ, Nat.mul_comm]
    have h5 : (4 * L * M + 1) ^ (α + β + 1) * (H + 1) ^ (α + β + 1) = H * (H + 1) ^ (α + β + 1) := rfl
    have h6 : (H + 1) * (H + 1) ^ (α + β + 1) = H * (H + 1) ^ (α + β + 1) + (H + 1) ^ (α + β + 1) := Nat.succ_mul _ _
    omega
  obtain ⟨T, T1, T2, T3⟩ := pigeons (fun j c => (P c).getD (t.length + j) 0) (-(R : Int)) (2 * R + 1) (List.range ((H + 1) ^ (α + β + 2))) (α + β + 1) fun j hj c hc => by
    have := (bP c).getD (t.length + j)
    show -(R : Int) ≤ (P c).getD _ 0 ∧ (P c).getD _ 0 < -(R : Int) + ((2 * R + 1 : Nat) : Int)
    omega
  rw [List.length_range] at T2
  have T4 : 2 ≤ T.length := by
    rcases Nat.lt_or_ge T.length 2 with z | z
    · have := Nat.mul_le_mul_left ((2 * R + 1) ^ (α + β + 1)) (show T.length ≤ 1 by omega)
      omega
    · exact z
  have Tn : T.Nodup := List.nodup_range.sublist T1
  match T, T4, Tn, T1, T3 with
  | c :: d :: T', _, Tn, T1, T3 =>
    have cd : c ≠ d := fun e => (List.nodup_cons.mp Tn).1 (by rw [e]; exact List.mem_cons_self)
    have cr := List.mem_range.mp (T1.subset List.mem_cons_self)
    have dr := List.mem_range.mp (T1.subset (List.mem_cons_of_mem _ List.mem_cons_self))
    have same : ∀ j, j < α + β + 1 → (P c).getD (t.length + j) 0 = (P d).getD (t.length + j) 0 := fun j hj => T3 j hj c List.mem_cons_self d (List.mem_cons_of_mem _ List.mem_cons_self)
    let A2 := addL (A c) (smul (-1) (A d))
    let B2 := addL (Bv c) (smul (-1) (Bv d))
    let P2 := addL (mulL A2 f) (mulL B2 g)
    have eP : ∀ x, ev P2 x = ev (P c) x - ev (P d) x := fun x => by
      show ev (addL (mulL A2 f) (mulL B2 g)) x = ev (addL (mulL (A c) f) (mulL (Bv c) g)) x - ev (addL (mulL (A d) f) (mulL (Bv d) g)) x
      rw [ev_addL, ev_addL, ev_addL, ev_mulL, ev_mulL, ev_mulL, ev_mulL, ev_mulL, ev_mulL]
      show ev (addL (A c) (smul (-1) (A d))) x * _ + ev (addL (Bv c) (smul (-1) (Bv d))) x * _ = _
      rw [ev_addL, ev_addL, ev_smul, ev_smul]; grind
    have lP : ∀ c, (P c).length ≤ t.length + (α + β + 1) := fun c => by
      have h1 := mulL_len (p := A c) (q := f) (by intro z; have := lA c; rw [z] at this; simp at this) (lastZ_ne gf.ne)
      have h2 := mulL_len (p := Bv c) (q := g) (by intro z; have := lB c; rw [z] at this; simp at this) (lastZ_ne gg.ne)
      have h3 := lA c
      have h4 := lB c
      show (addL _ _).length ≤ _
      rw [addL_len]
      omega
    have gP : ∀ i, t.length ≤ i → P2.getD i 0 = 0 := fun i hi => by
      have e : P2.getD i 0 = (addL (P c) (smul (-1) (P d))).getD i 0 := same_of i (N := 0) fun n _ => by
        have h := ev_addL (P c) (smul (-1) (P d)) (n : Int)
        rw [ev_smul] at h
        rw [eP, h]; omega
      rw [e, getD_addL, getD_smul]
      by_cases z : i < t.length + (α + β + 1)
      · have := same (i - t.length) (by omega)
        rw [show t.length + (i - t.length) = i by omega] at this
        omega
      · have out : ∀ c, (P c).getD i 0 = 0 := fun c => by
          rw [List.getD_eq_getElem?_getD, List.getElem?_eq_none_iff.mpr (by have := lP c; omega)]; rfl
        rw [out, out]; rfl
    have lz : ∀ {p : List Int} {n : Nat}, (∀ i, n ≤ i → p.getD i 0 = 0) → (trimL p).length ≤ n := fun {p n} h => by
      rcases Nat.lt_or_ge n (trimL p).length with z | z
      · exfalso
        have tne : trimL p ≠ [] := by intro e; rw [e] at z; simp at z
        have l0 := (trimL_last p).resolve_left tne
        rw [← lastZ_getD tne] at l0
        refine l0 ?_
        have e : (trimL p).getD ((trimL p).length - 1) 0 = p.getD ((trimL p).length - 1) 0 := same_of _ (N := 0) fun n _ => ev_trimL p n
        rw [e]
        exact h _ (by omega)
      · exact z
    have nz : ¬ ((∀ x, ev A2 x = 0) ∧ ∀ x, ev B2 x = 0) := fun ⟨z1, z2⟩ => by
      have e1 : ev (A c) ((H + 1 : Nat) : Int) = ev (A d) ((H + 1 : Nat) : Int) := by
        have := z1 ((H + 1 : Nat) : Int)
        show _ = _
        have q : ev A2 ((H + 1 : Nat) : Int) = ev (A c) ((H + 1 : Nat) : Int) + -1 * ev (A d) ((H + 1 : Nat) : Int) := by
          show ev (addL _ _) _ = _
          rw [ev_addL, ev_smul]
        omega
      have e2 : ev (Bv c) ((H + 1 : Nat) : Int) = ev (Bv d) ((H + 1 : Nat) : Int) := by
        have := z2 ((H + 1 : Nat) : Int)
        have q : ev B2 ((H + 1 : Nat) : Int) = ev (Bv c) ((H + 1 : Nat) : Int) + -1 * ev (Bv d) ((H + 1 : Nat) : Int) := by
          show ev (addL _ _) _ = _
          rw [ev_addL, ev_smul]
        omega
      have vv : ∀ c, ev (cvec (H + 1) (α + β + 2) c) ((H + 1 : Nat) : Int) = ev (A c) ((H + 1 : Nat) : Int) + ((H + 1 : Nat) : Int) ^ (β + 1) * ev (Bv c) ((H + 1 : Nat) : Int) := fun c => by
        have := ev_app (A c) (Bv c) ((H + 1 : Nat) : Int)
        rw [lA] at this
        rw [← this]
        show _ = ev (List.take _ _ ++ List.drop _ _) _
        rw [List.take_append_drop]
      have x1 := cvec_ev (B := H + 1) (by omega) (α + β + 2) c cr
      have x2 := cvec_ev (B := H + 1) (by omega) (α + β + 2) d dr
      rw [vv] at x1 x2
      rw [e1, e2] at x1
      omega
    let Q := addL (mulL A2 a) (mulL B2 b)
    have eQ : ∀ x, ev P2 x = ev t x * ev Q x := fun x => by
      show ev (addL _ _) x = _ * ev (addL _ _) x
      rw [ev_addL, ev_addL, ev_mulL, ev_mulL, ev_mulL, ev_mulL, ea, eb, ev_mulL, ev_mulL]; grind
    have trl : ∀ {p : List Int} {n : Nat}, p.length ≤ n → (trimL p).length ≤ n := fun {p n} h => by
      obtain ⟨k, e⟩ := trimL_pre p
      have := congrArg List.length e
      rw [List.length_append, List.length_replicate] at this
      omega
    have Q0 : trimL Q ≠ [] := fun z => by
      have q0 : ∀ x, ev Q x = 0 := fun x => by rw [← ev_trimL, z]; rfl
      have rel : ∀ x, ev A2 x * ev a x + ev B2 x * ev b x = 0 := fun x => by
        have := q0 x
        rwa [show ev Q x = ev A2 x * ev a x + ev B2 x * ev b x from by show ev (addL _ _) x = _; rw [ev_addL, ev_mulL, ev_mulL]] at this
      obtain ⟨N1, hN1⟩ := far_ne gt.ne
      -- b divides k0 times A2 far out
      have cop : ∀ n : Nat, N1 ≤ n → ∃ u v, u * ev a n + v * ev b n = k0 := fun n hn => by
        obtain ⟨u, v, e⟩ := lin n
        rw [ea, eb, ev_mulL, ev_mulL] at e
        refine ⟨u, v, Int.eq_of_mul_eq_mul_left (hN1 n hn) ?_⟩
        rw [← Int.mul_comm k0, ← e]; grind
      have zero : ∀ x, ev A2 x = 0 := by
        rcases trimL_last A2 with z | z
        · exact fun x => by rw [← ev_trimL, z]; rfl
        · exfalso
          have lA2 : (trimL A2).length ≤ β + 1 := trl (by
            show (addL _ _).length ≤ _
            rw [addL_len, lA]
            have : (smul (-1) (A d)).length = β + 1 := by rw [← lA d]; exact List.length_map _
            omega)
          obtain ⟨N2, hN2⟩ := far_gt hb (by omega) (k0.natAbs * absS (trimL A2))
          obtain ⟨N3, hN3⟩ := far_ne z
          have h1 := hN1 (N1 + N2 + N3 + 1) (by omega)
          have h2 := hN2 (N1 + N2 + N3 + 1) (by omega)
          have h3 := hN3 (N1 + N2 + N3 + 1) (by omega)
          have h4 := ev_le (trimL A2) (n := N1 + N2 + N3 + 1) (by omega)
          obtain ⟨u, v, e⟩ := cop (N1 + N2 + N3 + 1) (by omega)
          have r := rel ((N1 + N2 + N3 + 1 : Nat) : Int)
          rw [ev_trimL] at h3 h4
          have n0 : 1 ≤ N1 + N2 + N3 + 1 := by omega
          generalize N1 + N2 + N3 + 1 = n at *
          have dv : k0 * ev A2 n = ev b n * (v * ev A2 n - u * ev B2 n) := by
            have : ev A2 n * ev a n = -(ev B2 n * ev b n) := by omega
            rw [← e]
            have : u * ev a n * ev A2 n = u * (ev A2 n * ev a n) := by grind
            grind
          have p1 : n ^ ((trimL A2).length - 1) ≤ n ^ (b.length - 2) := Nat.pow_le_pow_right n0 (by omega)
          have p2 : (k0 * ev A2 n).natAbs < (ev b n).natAbs := by
            rw [Int.natAbs_mul]
            have := Nat.mul_le_mul_left k0.natAbs (Nat.le_trans h4 (Nat.mul_le_mul_left (absS (trimL A2)) p1))
            rw [← Nat.mul_assoc] at this
            omega
          rw [dv, Int.natAbs_mul] at p2
          have p3 : (v * ev A2 n - u * ev B2 n).natAbs = 0 := by
            rcases Nat.eq_zero_or_pos (v * ev A2 n - u * ev B2 n).natAbs with z | z
            · exact z
            · have := Nat.mul_le_mul_left (ev b n).natAbs z
              omega
          have p4 : k0 * ev A2 n = 0 := by rw [dv, Int.natAbs_eq_zero.mp p3, Int.mul_zero]
          rcases Int.mul_eq_zero.mp p4 with z | z
          · exact hk0 z
          · exact h3 z
      refine nz ⟨zero, fun x => ?_⟩
      rcases trimL_last B2 with z | z
      · rw [← ev_trimL, z]; rfl
      · exfalso
        obtain ⟨N2, hN2⟩ := far_ne z
        obtain ⟨N3, hN3⟩ := far_ne hb
        have r := rel ((N2 + N3 : Nat) : Int)
        rw [zero, Int.zero_mul, Int.zero_add] at r
        rcases Int.mul_eq_zero.mp r with z | z
        · exact hN2 (N2 + N3) (by omega) (by rw [ev_trimL]; exact z)
        · exact hN3 (N2 + N3) (by omega) z
    have Ql := (trimL_last Q).resolve_left Q0
    have Pz : trimL P2 = mulL t (trimL Q) := by
      have l0 : lastZ (mulL t (trimL Q)) ≠ 0 := by rw [lastZ_mulL tn Q0]; exact Int.mul_ne_zero gt.ne Ql
      have ee : ∀ x, ev (trimL P2) x = ev (mulL t (trimL Q)) x := fun x => by rw [ev_trimL, ev_mulL, ev_trimL, eQ]
      rcases trimL_last P2 with z | z
      · exfalso
        obtain ⟨N, hN⟩ := far_ne l0
        have := ee N
        rw [z] at this
        exact hN N (Nat.le_refl _) this.symm
      · exact eq_of_same z l0 fun i => same_of i (N := 0) fun n _ => ee n
    have lQ := mulL_len tn Q0
    rw [← Pz] at lQ
    have lP2 := lz gP
    have lQ1 : (trimL Q).length = 1 := by have := List.length_pos_iff.mpr Q0; omega
    match hQ : trimL Q, lQ1 with
    | [k], _ =>
      rw [hQ] at Ql Pz
      have kne : k ≠ 0 := Ql
      have HH : H + H ≤ (4 * L * M + 1) ^ (2 * L) := by
        have h1 : (4 * L * M + 1) ^ (α + β + 2) ≤ (4 * L * M + 1) ^ (2 * L) := Nat.pow_le_pow_right (by omega) (by omega)
        have h2 : (4 * L * M + 1) ^ (α + β + 2) = (4 * L * M + 1) * H := by show _ = _ * (4 * L * M + 1) ^ (α + β + 1); rw [Nat.pow_succ, Nat.mul_comm]
        have h3 : 2 * H ≤ (4 * L * M + 1) * H := Nat.mul_le_mul_right _ (by
          have : 1 ≤ L * M := Nat.mul_pos (by omega) hM
          have e : 4 * L * M = 4 * (L * M) := by grind
          omega)
        omega
      have opp : ∀ {p : List Int}, Bd H p → Bd H (smul (-1) p) := fun h => by have := h.smul (-1) (k := 1) (by decide); rw [Nat.one_mul] at this; exact this
      have sl1 : ∀ p : List Int, (smul (-1) p).length = p.length := fun p => List.length_map _
      refine ⟨t, a, b, k, A2, B2, gt, ha, hb, ea, eb, kne, ?_, ⟨(bd_add (bA c) (opp (bA d))).mono HH, (bd_add (bB c) (opp (bB d))).mono HH, ?_, ?_, fun x => ?_⟩, tmax⟩
      · have e : smul k t = trimL P2 := by
          rw [Pz]
          refine eq_of_ev ?_ fun x => ?_
          · have := mulL_len tn (q := [k]) (by simp)
            have : (smul k t).length = t.length := List.length_map _
            simp only [List.length_cons, List.length_nil] at *; omega
          · rw [ev_smul, ev_mulL]; show _ = _ * (k + x * 0); grind
        rw [e]
        intro y hy
        obtain ⟨j, hj⟩ := List.mem_iff_getElem?.mp hy
        have y1 : y = (trimL P2).getD j 0 := by rw [List.getD_eq_getElem?_getD, hj]; rfl
        have y2 : (trimL P2).getD j 0 = (addL (P c) (smul (-1) (P d))).getD j 0 := same_of j (N := 0) fun n _ => by
          have h := ev_addL (P c) (smul (-1) (P d)) (n : Int)
          rw [ev_smul] at h
          rw [ev_trimL, eP, h]; omega
        rw [y1, y2, getD_addL, getD_smul]
        have w1 := (bP c).getD j
        have w2 := (bP d).getD j
        have w3 : 2 * R ≤ (4 * L * M + 1) ^ (2 * L) := by
          have : (α + β + 2) * (H * M) ≤ 2 * L * (H * M) := Nat.mul_le_mul_right _ (by omega)
          have h2 : 2 * (2 * L * (H * M)) ≤ (4 * L * M + 1) * H := by
            have : (4 * L * M + 1) * H = 2 * (2 * L * (H * M)) + H := by grind
            omega
          have h3 : (4 * L * M + 1) * H = (4 * L * M + 1) ^ (α + β + 2) := by
            show _ * (4 * L * M + 1) ^ (α + β + 1) = _
            rw [Nat.pow_succ _ (α + β + 1), Nat.mul_comm]
          have h4 : (4 * L * M + 1) ^ (α + β + 2) ≤ (4 * L * M + 1) ^ (2 * L) := Nat.pow_le_pow_right (by omega) (by omega)
          show 2 * ((α + β + 2) * (H * M)) ≤ _
          omega
        omega
      · show (addL _ _).length ≤ L
        rw [addL_len, sl1, lA, lA]; omega
      · show (addL _ _).length ≤ L
        rw [addL_len, sl1, lB, lB]; omega
      · have q : ev Q x = ev A2 x * ev a x + ev B2 x * ev b x := by show ev (addL _ _) x = _; rw [ev_addL, ev_mulL, ev_mulL]
        rw [← q, ← ev_trimL, hQ]
        show k + x * 0 = k
        omega
theorem bez {f g : List Int} {M L : Nat} (hM : 1 ≤ M) (gf : Good f) (gg : Good g) (bf : Bd M f) (bg : Bd M g) (lf : f.length ≤ L) (lg : g.length ≤ L) :
    ∃ (t a b : List Int) (k : Int), Good t ∧ lastZ a ≠ 0 ∧ lastZ b ≠ 0 ∧ f = mulL t a ∧ g = mulL t b ∧ k ≠ 0 ∧ Bd ((4 * L * M + 1) ^ (2 * L)) (smul k t) ∧ (∀ x, ∃ u v, u * ev a x + v * ev b x = k) ∧ ∀ D, Dv D f → Dv D g → Dv D t := by
  obtain ⟨t, a, b, k, U, V, h1, h2, h3, h4, h5, h6, h7, ⟨_, _, _, _, h8⟩, h9⟩ := bezX hM gf gg bf bg lf lg
  exact ⟨t, a, b, k, h1, h2, h3, h4, h5, h6, h7, fun x => ⟨_, _, h8 x⟩, h9⟩
end Rt

/-! rows at parts: values over Rat, how far they change -/
namespace Rt
def qa (x : Rat) : Rat := if x < 0 then -x else x
theorem qa_nn (x : Rat) : 0 ≤ qa x := by unfold qa; split <;> grind
theorem qa_le {x y : Rat} : qa x ≤ y ↔ -y ≤ x ∧ x ≤ y := by unfold qa; split <;> grind
theorem qa_ge {x : Rat} : x ≤ qa x ∧ -x ≤ qa x := by unfold qa; split <;> grind
theorem qa_add (x y : Rat) : qa (x + y) ≤ qa x + qa y := by unfold qa; split <;> split <;> split <;> grind
theorem qa_sub (x y : Rat) : qa (x - y) ≤ qa x + qa y := by unfold qa; split <;> split <;> split <;> grind
theorem qa_neg (x : Rat) : qa (-x) = qa x := by unfold qa; split <;> split <;> grind
theorem qa_comm (x y : Rat) : qa (x - y) = qa (y - x) := by unfold qa; split <;> split <;> grind
theorem qa_of {x : Rat} (h : 0 ≤ x) : qa x = x := by unfold qa; split <;> grind
theorem qa_zero : qa 0 = 0 := by decide +kernel
theorem qa_pos {x : Rat} (h : x ≠ 0) : 0 < qa x := by unfold qa; split <;> grind
theorem qm_pn {x y : Rat} (h : 0 ≤ x) (k : y < 0) : x * y ≤ 0 := by
  have := Rat.mul_nonneg h (show 0 ≤ -y by grind)
  grind
theorem qm_nn {x y : Rat} (h : x < 0) (k : y < 0) : 0 < x * y := by
  have := Rat.mul_pos (show 0 < -x by grind) (show 0 < -y by grind)
  grind
theorem qa_mul (x y : Rat) : qa (x * y) = qa x * qa y := by
  unfold qa
  by_cases h : x < 0
  · by_cases k : y < 0
    · have := qm_nn h k; grind
    · have := qm_pn (x := y) (y := x) (by grind) h
      by_cases z : x * y = 0 <;> grind
  · by_cases k : y < 0
    · have := qm_pn (x := x) (y := y) (by grind) k
      by_cases z : x * y = 0 <;> grind
    · have := Rat.mul_nonneg (show 0 ≤ x by grind) (show 0 ≤ y by grind)
      grind
theorem qmul_le {a b c d : Rat} (h0 : 0 ≤ a) (h1 : a ≤ b) (h2 : 0 ≤ c) (h3 : c ≤ d) : a * c ≤ b * d := by
  have x := Rat.mul_le_mul_of_nonneg_right h1 h2
  have y := Rat.mul_le_mul_of_nonneg_left (c := b) h3 (by grind)
  grind
theorem qpow_nn {x : Rat} (h : 0 ≤ x) : ∀ n : Nat, 0 ≤ x ^ n
  | 0 => by rw [Rat.pow_zero]; decide +kernel
  | n + 1 => by rw [Rat.pow_succ]; exact Rat.mul_nonneg (qpow_nn h n) h
theorem qpow_pos {x : Rat} (h : 0 < x) : ∀ n : Nat, 0 < x ^ n
  | 0 => by rw [Rat.pow_zero]; decide +kernel
  | n + 1 => by rw [Rat.pow_succ]; exact Rat.mul_pos (qpow_pos h n) h
theorem qpow_one {x : Rat} (h : 1 ≤ x) : ∀ n : Nat, 1 ≤ x ^ n
  | 0 => by rw [Rat.pow_zero]; decide +kernel
  | n + 1 => by rw [Rat.pow_succ]; have := qmul_le (by decide +kernel) (qpow_one h n) (by decide +kernel) h; grind
theorem qpow_le {x y : Rat} (h0 : 0 ≤ x) (h : x ≤ y) : ∀ n : Nat, x ^ n ≤ y ^ n
  | 0 => by rw [Rat.pow_zero, Rat.pow_zero]; exact Rat.le_refl
  | n + 1 => by rw [Rat.pow_succ, Rat.pow_succ]; exact qmul_le (qpow_nn h0 n) (qpow_le h0 h n) h0 h
theorem qpow_mono {x : Rat} (h : 1 ≤ x) {n m : Nat} (k : n ≤ m) : x ^ n ≤ x ^ m := by
  induction m with
  | zero => have : n = 0 := by omega
            subst this; exact Rat.le_refl
  | succ m ih =>
    by_cases z : n = m + 1
    · subst z; exact Rat.le_refl
    · have i := ih (by omega)
      rw [Rat.pow_succ]
      have p := qpow_nn (show 0 ≤ x by grind) m
      have := Rat.mul_le_mul_of_nonneg_left (c := x ^ m) h p
      grind
def evR : List Int → Rat → Rat
  | [], _ => 0
  | a :: r, x => (a : Rat) + x * evR r x
theorem evR_addL : ∀ (p q : List Int) (x : Rat), evR (addL p q) x = evR p x + evR q x
  | [], q, x => by simp [addL, evR]; grind
  | a :: p, [], x => by simp [addL, evR]; grind
  | a :: p, b :: q, x => by
    show ((a + b : Int) : Rat) + x * evR (addL p q) x = (a : Rat) + x * evR p x + ((b : Rat) + x * evR q x)
    rw [evR_addL p q x, Rat.intCast_add]; grind
theorem evR_smul (k : Int) : ∀ (p : List Int) (x : Rat), evR (smul k p) x = (k : Rat) * evR p x
  | [], x => by simp [Rt.smul, evR]
  | a :: p, x => by
    show ((k * a : Int) : Rat) + x * evR (smul k p) x = (k : Rat) * ((a : Rat) + x * evR p x)
    rw [evR_smul k p x, Rat.intCast_mul]; grind
theorem evR_mulL : ∀ (p q : List Int) (x : Rat), evR (mulL p q) x = evR p x * evR q x
  | [], q, x => by simp [mulL, evR]
  | a :: p, q, x => by
    show evR (addL (smul a q) (0 :: mulL p q)) x = ((a : Rat) + x * evR p x) * evR q x
    rw [evR_addL, evR_smul]
    show (a : Rat) * evR q x + (((0 : Int) : Rat) + x * evR (mulL p q) x) = _
    rw [evR_mulL p q x]
    have : ((0 : Int) : Rat) = 0 := rfl
    rw [this]; grind
theorem evR_same : ∀ {p q : List Int}, (∀ i, p.getD i 0 = q.getD i 0) → ∀ x, evR p x = evR q x
  | [], [], _, _ => rfl
  | [], b :: q, h, x => by
    have h0 : b = 0 := (h 0).symm
    have := evR_same (p := []) (q := q) (fun i => by have := h (i + 1); simpa using this) x
    show (0 : Rat) = (b : Rat) + x * evR q x
    rw [← this, h0]; show (0 : Rat) = ((0 : Int) : Rat) + x * 0; have : ((0 : Int) : Rat) = 0 := rfl
    grind
  | a :: p, [], h, x => by
    have h0 : a = 0 := h 0
    have := evR_same (p := p) (q := []) (fun i => by have := h (i + 1); simpa using this) x
    show (a : Rat) + x * evR p x = (0 : Rat)
    rw [this, h0]; show ((0 : Int) : Rat) + x * (0 : Rat) = 0; have : ((0 : Int) : Rat) = 0 := rfl
    grind
  | a :: p, b :: q, h, x => by
    have h0 : a = b := h 0
    have := evR_same (p := p) (q := q) (fun i => by have := h (i + 1); simpa using this) x
    show (a : Rat) + x * evR p x = (b : Rat) + x * evR q x
    rw [this, h0]
theorem evR_of {p q : List Int} (h : ∀ x, ev p x = ev q x) (x : Rat) : evR p x = evR q x :=
  evR_same (fun i => same_of i (N := 0) fun n _ => h n) x
theorem hor_R {t b : Int} (hb : b ≠ 0) : ∀ xs : List Int, evR xs ((t : Rat) / b) * (b : Rat) ^ xs.length = ((hor t b xs).1 : Rat) * b
  | [] => by simp [evR, hor]
  | a :: r => by
    have ih := hor_R (t := t) hb r
    have hb' : (b : Rat) ≠ 0 := by intro z; exact hb (by exact_mod_cast z)
    show ((a : Rat) + (t : Rat) / b * evR r ((t : Rat) / b)) * (b : Rat) ^ (r.length + 1) = (((hor t b r).1 * t + a * (hor t b r).2 : Int) : Rat) * b
    rw [hor_snd, Rat.intCast_add, Rat.intCast_mul, Rat.intCast_mul, Rat.intCast_pow, Rat.pow_succ]
    generalize evR r ((t : Rat) / b) = e at *
    generalize (b : Rat) ^ r.length = p at *
    have : (t : Rat) / b * b = t := by grind
    grind
/-- all values and their changes are below this -/
def bnd (C : Rat) (n : Nat) (R : Rat) : Rat := C * ((n : Rat) * n) * R ^ n
theorem cast_nn (n : Nat) : (0 : Rat) ≤ n := by exact_mod_cast Nat.zero_le n
theorem ab_cast {a : Int} {m : Nat} (h : a.natAbs ≤ m) : qa (a : Rat) ≤ (m : Rat) := by
  rw [qa_le]
  have h1 : -(m : Int) ≤ a := by omega
  have h2 : a ≤ (m : Int) := by omega
  have h1 : ((-(m : Int) : Int) : Rat) ≤ a := Rat.intCast_le_intCast.mpr h1
  have h2 : (a : Rat) ≤ ((m : Int) : Rat) := Rat.intCast_le_intCast.mpr h2
  rw [Rat.intCast_neg] at h1
  exact ⟨h1, h2⟩
theorem ev_bd {m : Nat} {R x : Rat} (hR : 1 ≤ R) (hx : qa x ≤ R) : ∀ {p : List Int}, Bd m p → qa (evR p x) ≤ (m : Rat) * (p.length : Rat) * R ^ p.length
  | [], _ => by simp [evR, qa_zero]
  | a :: r, h => by
    have ih := ev_bd hR hx (p := r) fun b hb => h b (List.mem_cons_of_mem _ hb)
    have ha := ab_cast (h a List.mem_cons_self)
    show qa ((a : Rat) + x * evR r x) ≤ (m : Rat) * ((r.length + 1 : Nat) : Rat) * R ^ (r.length + 1)
    have h1 := qa_add (a : Rat) (x * evR r x)
    rw [qa_mul] at h1
    have h2 := qmul_le (qa_nn x) hx (qa_nn _) ih
    have h3 := qpow_one hR (r.length + 1)
    have h4 := qmul_le (qa_nn _) ha (by decide +kernel : (0 : Rat) ≤ 1) h3
    rw [Rat.natCast_add, Rat.pow_succ] at *
    have e : ((1 : Nat) : Rat) = 1 := rfl
    rw [e]
    generalize R ^ r.length = P at *
    generalize (r.length : Rat) = n at *
    have e2 : (m : Rat) * (n + 1) * (P * R) = R * ((m : Rat) * n * P) + (m : Rat) * (P * R) := by grind
    rw [e2]
    grind
theorem ev_lip {m : Nat} {R x y : Rat} (hR : 1 ≤ R) (hx : qa x ≤ R) (hy : qa y ≤ R) : ∀ {p : List Int}, Bd m p → qa (evR p x - evR p y) ≤ (m : Rat) * ((p.length : Rat) * p.length) * R ^ p.length * qa (x - y)
  | [], _ => by
    show qa (0 - 0) ≤ (m : Rat) * (((0 : Nat) : Rat) * ((0 : Nat) : Rat)) * R ^ 0 * qa (x - y)
    have : ((0 : Nat) : Rat) = 0 := rfl
    rw [this]
    have : (0 : Rat) - 0 = 0 := by grind
    rw [this, qa_zero]; grind
  | a :: r, h => by
    have hb := fun b hb => h b (List.mem_cons_of_mem a hb)
    have ih := ev_lip hR hx hy (p := r) hb
    have bd := ev_bd hR hx (p := r) hb
    show qa ((a : Rat) + x * evR r x - ((a : Rat) + y * evR r y)) ≤ (m : Rat) * (((r.length + 1 : Nat) : Rat) * ((r.length + 1 : Nat) : Rat)) * R ^ (r.length + 1) * qa (x - y)
    have e : (a : Rat) + x * evR r x - ((a : Rat) + y * evR r y) = (x - y) * evR r x + y * (evR r x - evR r y) := by grind
    have h1 := qa_add ((x - y) * evR r x) (y * (evR r x - evR r y))
    rw [qa_mul, qa_mul] at h1
    have h2 := Rat.mul_le_mul_of_nonneg_left (c := qa (x - y)) bd (qa_nn _)
    have h3 := qmul_le (qa_nn y) hy (qa_nn _) ih
    rw [e, Rat.natCast_add, Rat.pow_succ]
    have e1 : ((1 : Nat) : Rat) = 1 := rfl
    rw [e1]
    have P1 := qpow_nn (show 0 ≤ R by grind) r.length
    have n0 := cast_nn r.length
    have m0 := cast_nn m
    have d0 := qa_nn (x - y)
    generalize R ^ r.length = P at *
    generalize (r.length : Rat) = n at *
    generalize (m : Rat) = M at *
    generalize qa (x - y) = d at *
    have k0 := Rat.mul_nonneg (Rat.mul_nonneg m0 P1) d0
    have k1 := Rat.mul_nonneg n0 k0
    have k2 : 0 ≤ (M * P * d) * (R - 1) := Rat.mul_nonneg k0 (by grind)
    have k3 : 0 ≤ n * (M * P * d) * (R - 1) := Rat.mul_nonneg k1 (by grind)
    have e2 : M * ((n + 1) * (n + 1)) * (P * R) * d = R * (M * (n * n) * P * d) + 2 * (n * (M * P * d)) * R + (M * P * d) * R := by grind
    have e3 : d * (M * n * P) = n * (M * P * d) := by grind
    rw [e2]
    rw [e3] at h2
    have k4 : n * (M * P * d) ≤ n * (M * P * d) * R := by grind
    have k5 : 0 ≤ (M * P * d) * R := by grind
    have k6 : 0 ≤ n * (M * P * d) * R := by grind
    grind
end Rt

/-! real numbers: sequences of parts that draw together -/
namespace Rt
def Cau (f : Nat → Rat) : Prop := ∀ e : Rat, 0 < e → ∃ N, ∀ m n, N ≤ m → N ≤ n → qa (f m - f n) < e
def Nul (f : Nat → Rat) : Prop := ∀ e : Rat, 0 < e → ∃ N, ∀ n, N ≤ n → qa (f n) < e
def PosS (f : Nat → Rat) : Prop := ∃ e : Rat, 0 < e ∧ ∃ N, ∀ n, N ≤ n → e ≤ f n
structure CS where
  f : Nat → Rat
  h : Cau f
theorem qa_lt {x y : Rat} : qa x < y ↔ -y < x ∧ x < y := by unfold qa; split <;> grind
theorem Cau.bd {f : Nat → Rat} (h : Cau f) : ∃ B : Rat, 0 < B ∧ ∃ N, ∀ n, N ≤ n → qa (f n) ≤ B := by
  obtain ⟨N, hN⟩ := h 1 (by decide +kernel)
  refine ⟨qa (f N) + 1, by have := qa_nn (f N); grind, N, fun n hn => ?_⟩
  have a := hN n N hn (Nat.le_refl _)
  have b := qa_add (f n - f N) (f N)
  have e : f n - f N + f N = f n := by grind
  rw [e] at b
  grind
theorem Cau.add {f g : Nat → Rat} (h : Cau f) (k : Cau g) : Cau fun n => f n + g n := fun e he => by
  obtain ⟨N, hN⟩ := h (e / 2) (by grind)
  obtain ⟨M, hM⟩ := k (e / 2) (by grind)
  refine ⟨N + M, fun m n hm hn => ?_⟩
  have a := hN m n (by omega) (by omega)
  have b := hM m n (by omega) (by omega)
  have c := qa_add (f m - f n) (g m - g n)
  have e1 : f m - f n + (g m - g n) = f m + g m - (f n + g n) := by grind
  rw [e1] at c
  show qa (f m + g m - (f n + g n)) < e
  grind
theorem Cau.neg {f : Nat → Rat} (h : Cau f) : Cau fun n => -f n := fun e he => by
  obtain ⟨N, hN⟩ := h e he
  refine ⟨N, fun m n hm hn => ?_⟩
  have a := hN m n hm hn
  have e1 : -f m - -f n = -(f m - f n) := by grind
  show qa (-f m - -f n) < e
  rw [e1, qa_neg]; exact a
theorem qdiv_pos' {a b : Rat} (h : 0 < a) (k : 0 < b) : 0 < a / b := by
  rw [Rat.div_def]; exact Rat.mul_pos h (Rat.inv_pos.mpr k)
theorem Cau.mul {f g : Nat → Rat} (h : Cau f) (k : Cau g) : Cau fun n => f n * g n := fun e he => by
  obtain ⟨B, B0, N1, h1⟩ := h.bd
  obtain ⟨C, C0, N2, h2⟩ := k.bd
  obtain ⟨N, hN⟩ := h (e / (4 * C)) (qdiv_pos' he (by grind))
  obtain ⟨M, hM⟩ := k (e / (4 * B)) (qdiv_pos' he (by grind))
  refine ⟨N1 + N2 + N + M, fun m n hm hn => ?_⟩
  have a := hN m n (by omega) (by omega)
  have b := hM m n (by omega) (by omega)
  have c := qa_add ((f m - f n) * g m) (f n * (g m - g n))
  have e1 : (f m - f n) * g m + f n * (g m - g n) = f m * g m - f n * g n := by grind
  rw [e1, qa_mul, qa_mul] at c
  have d1 := qmul_le (qa_nn _) (Rat.le_of_lt a) (qa_nn _) (h2 m (by omega))
  have d2 := qmul_le (qa_nn _) (h1 n (by omega)) (qa_nn _) (Rat.le_of_lt b)
  have f1 : e / (4 * C) * C = e / 4 := by grind
  have f2 : B * (e / (4 * B)) = e / 4 := by grind
  show qa (f m * g m - f n * g n) < e
  grind
theorem Cau.const (q : Rat) : Cau fun _ => q := fun e he => ⟨0, fun m n _ _ => by
  have : q - q = 0 := by grind
  show qa (q - q) < e
  rw [this, qa_zero]; exact he⟩
theorem Nul.add {f g : Nat → Rat} (h : Nul f) (k : Nul g) : Nul fun n => f n + g n := fun e he => by
  obtain ⟨N, hN⟩ := h (e / 2) (by grind)
  obtain ⟨M, hM⟩ := k (e / 2) (by grind)
  refine ⟨N + M, fun n hn => ?_⟩
  have a := hN n (by omega)
  have b := hM n (by omega)
  have c := qa_add (f n) (g n)
  show qa (f n + g n) < e
  grind
theorem Nul.neg {f : Nat → Rat} (h : Nul f) : Nul fun n => -f n := fun e he => by
  obtain ⟨N, hN⟩ := h e he
  exact ⟨N, fun n hn => by show qa (-f n) < e; rw [qa_neg]; exact hN n hn⟩
theorem Nul.mul {f g : Nat → Rat} (h : Nul f) (k : Cau g) : Nul fun n => f n * g n := fun e he => by
  obtain ⟨C, C0, N2, h2⟩ := k.bd
  obtain ⟨N, hN⟩ := h (e / (2 * C)) (qdiv_pos' he (by grind))
  refine ⟨N2 + N, fun n hn => ?_⟩
  have a := hN n (by omega)
  have d1 := qmul_le (qa_nn _) (Rat.le_of_lt a) (qa_nn _) (h2 n (by omega))
  have f1 : e / (2 * C) * C = e / 2 := by grind
  show qa (f n * g n) < e
  rw [qa_mul]
  grind
theorem Nul.cast {f g : Nat → Rat} (h : Nul f) (e : ∀ n, f n = g n) : Nul g := by have : f = g := funext e; rw [← this]; exact h
theorem nul_zero {f : Nat → Rat} (e : ∀ n, f n = 0) : Nul f := fun ε he => ⟨0, fun n _ => by rw [e, qa_zero]; exact he⟩
def eqC (x y : CS) : Prop := Nul fun n => x.f n - y.f n
instance stC : Setoid CS := ⟨eqC, fun x => nul_zero fun n => by grind, fun h => h.neg.cast fun n => by grind, fun h k => (h.add k).cast fun n => by grind⟩
def Re : Type := Quotient stC
namespace Re
def mk (x : CS) : Re := Quotient.mk stC x
theorem mk_eq {x y : CS} (h : ∀ n, x.f n = y.f n) : mk x = mk y := Quotient.sound (nul_zero fun n => by rw [h]; grind)
def addC (x y : CS) : CS := ⟨fun n => x.f n + y.f n, x.h.add y.h⟩
def mulC (x y : CS) : CS := ⟨fun n => x.f n * y.f n, x.h.mul y.h⟩
def negC (x : CS) : CS := ⟨fun n => -x.f n, x.h.neg⟩
def ofQ (q : Rat) : Re := mk ⟨fun _ => q, Cau.const q⟩
def add (a b : Re) : Re := Quotient.liftOn₂ a b (fun x y => mk (addC x y)) fun x y x' y' (h : eqC x x') (k : eqC y y') => Quotient.sound (Nul.cast (Nul.add h k) fun n => by show _ = x.f n + y.f n - (x'.f n + y'.f n); grind)
def mul (a b : Re) : Re := Quotient.liftOn₂ a b (fun x y => mk (mulC x y)) fun x y x' y' (h : eqC x x') (k : eqC y y') => Quotient.sound (Nul.cast (Nul.add (Nul.mul h y.h) (Nul.mul k x'.h)) fun n => by show _ = x.f n * y.f n - (x'.f n * y'.f n); grind)
def neg (a : Re) : Re := Quotient.liftOn a (fun x => mk (negC x)) fun x x' (h : eqC x x') => Quotient.sound (Nul.cast (Nul.neg h) fun n => by show _ = -x.f n - -x'.f n; grind)
theorem pos_of {f g : Nat → Rat} (h : Nul fun n => f n - g n) (p : PosS f) : PosS g := by
  obtain ⟨e, he, N, hN⟩ := p
  obtain ⟨M, hM⟩ := h (e / 2) (by grind)
  refine ⟨e / 2, by grind, N + M, fun n hn => ?_⟩
  have a := hN n (by omega)
  have b := (qa_lt.mp (hM n (by omega))).2
  grind
def pos (a : Re) : Prop := Quotient.liftOn a (fun x => PosS x.f) fun x y (h : eqC x y) => propext ⟨pos_of h, pos_of (h.neg.cast fun n => by grind)⟩
def pow (a : Re) : Nat → Re
  | 0 => ofQ 1
  | n + 1 => mul (pow a n) a
end Re
instance : Add Re := ⟨Re.add⟩
instance : Mul Re := ⟨Re.mul⟩
instance : Neg Re := ⟨Re.neg⟩
instance : Sub Re := ⟨fun a b => a + -b⟩
instance : NatCast Re := ⟨fun n => Re.ofQ n⟩
instance : IntCast Re := ⟨fun n => Re.ofQ n⟩
instance {n : Nat} : OfNat Re n := ⟨Re.ofQ n⟩
instance : HPow Re Nat Re := ⟨Re.pow⟩
instance : LT Re := ⟨fun a b => Re.pos (b - a)⟩
instance : LE Re := ⟨fun a b => ¬ b < a⟩
namespace Re
theorem ofQ_add (p q : Rat) : ofQ (p + q) = ofQ p + ofQ q := rfl
theorem ofQ_mul (p q : Rat) : ofQ (p * q) = ofQ p * ofQ q := rfl
theorem ofQ_neg (p : Rat) : ofQ (-p) = -ofQ p := rfl
theorem mk_add (x y : CS) : mk (addC x y) = mk x + mk y := rfl
theorem mk_mul (x y : CS) : mk (mulC x y) = mk x * mk y := rfl
theorem mk_neg (x : CS) : mk (negC x) = -mk x := rfl
end Re
instance : Lean.Grind.CommRing Re where
  nsmul := ⟨fun n a => (n : Re) * a⟩
  zsmul := ⟨fun n a => (n : Re) * a⟩
  add_assoc a b c := by
    induction a using Quotient.ind; induction b using Quotient.ind; induction c using Quotient.ind
    exact Re.mk_eq fun n => Rat.add_assoc _ _ _
  add_comm a b := by
    induction a using Quotient.ind; induction b using Quotient.ind
    exact Re.mk_eq fun n => Rat.add_comm _ _
  add_zero a := by
    induction a using Quotient.ind
    exact Re.mk_eq fun n => Rat.add_zero _
  neg_add_cancel a := by
    induction a using Quotient.ind
    exact Re.mk_eq fun n => Rat.neg_add_cancel _
  mul_assoc a b c := by
    induction a using Quotient.ind; induction b using Quotient.ind; induction c using Quotient.ind
    exact Re.mk_eq fun n => Rat.mul_assoc _ _ _
  mul_comm a b := by
    induction a using Quotient.ind; induction b using Quotient.ind
    exact Re.mk_eq fun n => Rat.mul_comm _ _
  mul_one a := by
    induction a using Quotient.ind
    exact Re.mk_eq fun n => Rat.mul_one _
  one_mul a := by
    induction a using Quotient.ind
    exact Re.mk_eq fun n => Rat.one_mul _
  left_distrib a b c := by
    induction a using Quotient.ind; induction b using Quotient.ind; induction c using Quotient.ind
    exact Re.mk_eq fun n => Rat.mul_add _ _ _
  right_distrib a b c := by
    induction a using Quotient.ind; induction b using Quotient.ind; induction c using Quotient.ind
    exact Re.mk_eq fun n => Rat.add_mul _ _ _
  zero_mul a := by
    induction a using Quotient.ind
    exact Re.mk_eq fun n => Rat.zero_mul _
  mul_zero a := by
    induction a using Quotient.ind
    exact Re.mk_eq fun n => Rat.mul_zero _
  pow_zero a := rfl
  pow_succ a n := rfl
  ofNat_succ x := by
    show Re.ofQ ((x + 1 : Nat) : Rat) = Re.ofQ (x : Rat) + Re.ofQ ((1 : Nat) : Rat)
    rw [← Re.ofQ_add, Rat.natCast_add]
  sub_eq_add_neg a b := rfl
  neg_zsmul i a := by
    show Re.ofQ ((-i : Int) : Rat) * a = -(Re.ofQ (i : Rat) * a)
    rw [Rat.intCast_neg]
    induction a using Quotient.ind
    exact Re.mk_eq fun n => Rat.neg_mul _ _
  intCast_neg i := by
    show Re.ofQ ((-i : Int) : Rat) = -Re.ofQ (i : Rat)
    rw [Rat.intCast_neg]; rfl
namespace Re
theorem lt_def {a b : Re} : a < b ↔ pos (b - a) := Iff.rfl
theorem le_def {a b : Re} : a ≤ b ↔ ¬ b < a := Iff.rfl
theorem pos_add {a b : Re} (h : pos a) (k : pos b) : pos (a + b) := by
  induction a using Quotient.ind; induction b using Quotient.ind
  obtain ⟨e, he, N, hN⟩ := h
  obtain ⟨d, hd, M, hM⟩ := k
  refine ⟨e + d, by grind, N + M, fun n hn => ?_⟩
  have a := hN n (by omega)
  have b := hM n (by omega)
  show e + d ≤ _ + _
  grind
theorem pos_mul {a b : Re} (h : pos a) (k : pos b) : pos (a * b) := by
  induction a using Quotient.ind; induction b using Quotient.ind
  obtain ⟨e, he, N, hN⟩ := h
  obtain ⟨d, hd, M, hM⟩ := k
  refine ⟨e * d, Rat.mul_pos he hd, N + M, fun n hn => ?_⟩
  exact qmul_le (Rat.le_of_lt he) (hN n (by omega)) (Rat.le_of_lt hd) (hM n (by omega))
theorem pos_tri (a : Re) : pos a ∨ a = 0 ∨ pos (-a) := by
  induction a using Quotient.ind
  rename_i x
  by_cases p : PosS x.f
  · exact .inl p
  · by_cases q : PosS fun n => -x.f n
    · exact .inr (.inr q)
    · refine .inr (.inl (Quotient.sound fun e he => ?_))
      obtain ⟨N, hN⟩ := x.h (e / 2) (by grind)
      refine ⟨N, fun n hn => ?_⟩
      show qa (x.f n - ((0 : Nat) : Rat)) < e
      have z : ((0 : Nat) : Rat) = 0 := rfl
      rw [z]
      apply Classical.byContradiction
      intro no
      have no : e ≤ qa (x.f n) := by
        have : x.f n - 0 = x.f n := by grind
        rw [this] at no; grind
      by_cases s : 0 ≤ x.f n
      · rw [qa_of s] at no
        refine p ⟨e / 2, by grind, N, fun m hm => ?_⟩
        have := (qa_lt.mp (hN m n hm hn)).1
        grind
      · have : qa (x.f n) = -x.f n := by rw [← qa_neg, qa_of (by grind)]
        rw [this] at no
        refine q ⟨e / 2, by grind, N, fun m hm => ?_⟩
        have := (qa_lt.mp (hN m n hm hn)).2
        grind
theorem not_pos_zero : ¬ pos (0 : Re) := fun ⟨e, he, N, hN⟩ => by
  have := hN N (Nat.le_refl _)
  have z : ((0 : Nat) : Rat) = 0 := rfl
  have : e ≤ ((0 : Nat) : Rat) := this
  grind
theorem asym {a : Re} (h : pos a) (k : pos (-a)) : False := by
  have := pos_add h k
  have e : a + -a = 0 := by grind
  rw [e] at this
  exact not_pos_zero this
theorem lt_asymm {a b : Re} (h : a < b) (k : b < a) : False := by
  rw [lt_def] at h k
  have e : a - b = -(b - a) := by grind
  rw [e] at k
  exact asym h k
theorem tri (a b : Re) : a < b ∨ a = b ∨ b < a := by
  rcases pos_tri (b - a) with h | h | h
  · exact .inl h
  · right; left; grind
  · right; right
    rw [lt_def]
    have e : a - b = -(b - a) := by grind
    rw [e]; exact h
theorem lt_trans {a b c : Re} (h : a < b) (k : b < c) : a < c := by
  rw [lt_def] at *
  have e : c - a = (b - a) + (c - b) := by grind
  rw [e]; exact pos_add h k
end Re
instance : Std.IsLinearOrder Re where
  le_refl a := fun h => by
    have h : Re.pos (a - a) := h
    have e : a - a = 0 := by grind
    rw [e] at h
    exact Re.not_pos_zero h
  le_trans a b c h k := fun z => by
    have h : ¬ b < a := h
    have k : ¬ c < b := k
    rcases Re.tri a b with x | x | x
    · rcases Re.tri b c with y | y | y
      · exact Re.lt_asymm z (Re.lt_trans x y)
      · subst y; exact Re.lt_asymm z x
      · exact k y
    · subst x; exact k z
    · exact h x
  le_antisymm a b h k := by
    have h : ¬ b < a := h
    have k : ¬ a < b := k
    rcases Re.tri a b with x | x | x
    · exact absurd x k
    · exact x
    · exact absurd x h
  le_total a b := by
    by_cases h : b < a
    · exact .inr fun z => Re.lt_asymm h z
    · exact .inl h
instance : Std.LawfulOrderLT Re where
  lt_iff a b := ⟨fun h => ⟨fun z => Re.lt_asymm h z, fun z => z h⟩, fun h => Classical.byContradiction fun z => h.2 z⟩
instance : Lean.Grind.OrderedRing Re where
  add_le_left_iff {a b} c := by
    show ¬ Re.pos (a - b) ↔ ¬ Re.pos (a + c - (b + c))
    have e : a + c - (b + c) = a - b := by grind
    rw [e]
  zero_lt_one := by
    show Re.pos (1 - 0)
    refine ⟨1, by decide +kernel, 0, fun n _ => ?_⟩
    show (1 : Rat) ≤ ((1 : Nat) : Rat) + -((0 : Nat) : Rat)
    decide +kernel
  mul_lt_mul_of_pos_left {a b c} h k := by
    show Re.pos (c * b - c * a)
    have e : c * b - c * a = (c - 0) * (b - a) := by grind
    rw [e]; exact Re.pos_mul k h
  mul_lt_mul_of_pos_right {a b c} h k := by
    show Re.pos (b * c - a * c)
    have e : b * c - a * c = (b - a) * (c - 0) := by grind
    rw [e]; exact Re.pos_mul h k
example (a b c : Re) (h : a < b) (k : b ≤ c) : a + 1 < c + 1 := by grind
example (a b : Re) : (a + b) * (a - b) = a ^ 2 - b ^ 2 := by grind
example (a b c : Re) (h : 2 * a = 2 * b) : a = b := by grind
end Rt

/-! two numbers, each told by a function that goes down through nought, steeply: apart or the same -/
namespace Rt
/-- bounded, and changes no faster, between lo and hi -/
structure Lp (f : Rat → Rat) (A lo hi : Rat) : Prop where
  b : ∀ x, lo ≤ x → x ≤ hi → qa (f x) ≤ A
  l : ∀ x y, lo ≤ x → x ≤ hi → lo ≤ y → y ≤ hi → qa (f x - f y) ≤ A * qa (x - y)
/-- above nought at u, below at v, and steep -/
structure Sl (c : Rat) (f : Rat → Rat) (u v : Rat) : Prop where
  c0 : 0 < c
  uv : u < v
  fu : 0 < f u
  fv : f v < 0
  s1 : ∀ x y, u < x → x < y → y < v → f x ≤ 0 → c * (y - x) ≤ -f y
  s2 : ∀ x y, u < x → x < y → y < v → 0 ≤ f y → c * (y - x) ≤ f x
theorem Lp.nn {f : Rat → Rat} {A lo hi : Rat} (h : Lp f A lo hi) (k : lo ≤ hi) : 0 ≤ A := by
  have := h.b lo Rat.le_refl k
  have := qa_nn (f lo)
  grind
theorem Lp.mirror {f : Rat → Rat} {A lo hi : Rat} (h : Lp f A lo hi) : Lp (fun x => f (-x)) A (-hi) (-lo) :=
  ⟨fun x h1 h2 => h.b _ (by grind) (by grind), fun x y h1 h2 h3 h4 => by
    have := h.l (-x) (-y) (by grind) (by grind) (by grind) (by grind)
    have e : qa (-x - -y) = qa (x - y) := by rw [qa_comm]; congr 1; grind
    rw [e] at this; exact this⟩
theorem Lp.neg {f : Rat → Rat} {A lo hi : Rat} (h : Lp f A lo hi) : Lp (fun x => -f x) A lo hi :=
  ⟨fun x h1 h2 => by rw [qa_neg]; exact h.b _ h1 h2, fun x y h1 h2 h3 h4 => by
    have e : -f x - -f y = -(f x - f y) := by grind
    rw [e, qa_neg]; exact h.l x y h1 h2 h3 h4⟩
theorem Sl.mirror {c : Rat} {f : Rat → Rat} {u v : Rat} (h : Sl c f u v) : Sl c (fun x => -f (-x)) (-v) (-u) :=
  ⟨h.c0, by have := h.uv; grind, by have := h.fv; simp only [Rat.neg_neg]; grind, by have := h.fu; simp only [Rat.neg_neg]; grind,
    fun x y h1 h2 h3 h4 => by
      have := h.s2 (-y) (-x) (by grind) (by grind) (by grind) (by grind)
      grind,
    fun x y h1 h2 h3 h4 => by
      have := h.s1 (-y) (-x) (by grind) (by grind) (by grind) (by grind)
      grind⟩
theorem Sl.past {c : Rat} {f : Rat → Rat} {u v : Rat} (h : Sl c f u v) {x y : Rat} (h1 : u < x) (h2 : x < y) (h3 : y ≤ v) (h4 : f x ≤ 0) : f y < 0 := by
  by_cases z : y = v
  · rw [z]; exact h.fv
  · have := h.s1 x y h1 h2 (by grind) h4
    have := Rat.mul_pos h.c0 (show 0 < y - x by grind)
    grind
theorem Sl.ahead {c : Rat} {f : Rat → Rat} {u v : Rat} (h : Sl c f u v) {x y : Rat} (h1 : u ≤ x) (h2 : x < y) (h3 : y < v) (h4 : 0 ≤ f y) : 0 < f x := by
  by_cases z : x = u
  · rw [z]; exact h.fu
  · have := h.s2 x y (by grind) h2 h3 h4
    have := Rat.mul_pos h.c0 (show 0 < y - x by grind)
    grind
/-- small where the sign changes near by -/
theorem Lp.near {f : Rat → Rat} {A lo hi x y w : Rat} (h : Lp f A lo hi) (x1 : lo ≤ x) (x2 : x ≤ hi) (y1 : lo ≤ y) (y2 : y ≤ hi) (o : f x * f y ≤ 0) (hw : qa (x - y) ≤ w) : qa (f x) ≤ A * w := by
  have k := h.l x y x1 x2 y1 y2
  have A0 := h.nn (Rat.le_trans x1 x2)
  have k2 := Rat.mul_le_mul_of_nonneg_left (c := A) hw A0
  have k3 : qa (f x) ≤ qa (f x - f y) := by
    by_cases z : f x < 0
    · by_cases z2 : f y < 0
      · have := qm_nn z z2; grind
      · unfold qa; split <;> split <;> grind
    · by_cases z3 : f x = 0
      · rw [z3, qa_zero]; exact qa_nn _
      · by_cases z2 : 0 < f y
        · have := Rat.mul_pos (show 0 < f x by grind) z2; grind
        · unfold qa; split <;> split <;> grind
  grind
theorem Lp.between {f : Rat → Rat} {A lo hi l h z w : Rat} (p : Lp f A lo hi) (l1 : lo ≤ l) (h1 : h ≤ hi) (z1 : l ≤ z) (z2 : z ≤ h) (o : f l * f h ≤ 0) (hw : h - l ≤ w) : qa (f z) ≤ A * w := by
  have q1 : qa (z - l) ≤ w := by rw [qa_le]; grind
  have q2 : qa (z - h) ≤ w := by rw [qa_le]; grind
  by_cases c : f z * f l ≤ 0
  · exact p.near (by grind) (by grind) l1 (by grind) c q1
  · refine p.near (by grind) (by grind) (by grind) h1 ?_ q2
    by_cases s : f l < 0
    · by_cases s2 : f h < 0
      · have := qm_nn s s2; grind
      · by_cases s3 : f z < 0
        · have := qm_pn (x := f h) (y := f z) (by grind) s3; grind
        · have := qm_pn (x := f z) (y := f l) (by grind) s; grind
    · by_cases s2 : 0 < f l
      · by_cases s4 : 0 < f h
        · have := Rat.mul_pos s2 s4; grind
        · by_cases s3 : 0 ≤ f z
          · by_cases s5 : f h = 0
            · rw [s5]; grind
            · exact qm_pn s3 (by grind)
          · have := qm_pn (x := f l) (y := f z) (by grind) (by grind); grind
      · have : f l = 0 := by grind
        rw [this] at c; grind
theorem big_pow (a : Rat) (b : Rat) (hb : 0 < b) : ∃ n : Nat, a < b * 2 ^ n := by
  have key : ∀ n : Nat, (n : Rat) + 1 ≤ 2 ^ n := fun n => by
    induction n with
    | zero => rw [Rat.pow_zero]; decide +kernel
    | succ n ih =>
      rw [Rat.pow_succ, Rat.natCast_add]
      have := cast_nn n
      have e : ((1 : Nat) : Rat) = 1 := rfl
      grind
  refine ⟨(a / b).floor.toNat, ?_⟩
  have k := key (a / b).floor.toNat
  have le := Rat.lt_floor_add_one (a / b)
  have n1 : ((a / b).floor : Rat) ≤ (((a / b).floor.toNat : Int) : Rat) := Rat.intCast_le_intCast.mpr (Int.self_le_toNat _)
  rw [Rat.intCast_add] at le
  have e1 : ((1 : Int) : Rat) = 1 := rfl
  have e2 : (((a / b).floor.toNat : Int) : Rat) = ((a / b).floor.toNat : Rat) := rfl
  rw [e1] at le
  rw [e2] at n1
  have := Rat.mul_lt_mul_of_pos_left (c := b) (show a / b < 2 ^ (a / b).floor.toNat by grind) hb
  have e : b * (a / b) = a := by grind
  grind
theorem qmul_ne {a b : Rat} (h : a ≠ 0) (k : b ≠ 0) : a * b ≠ 0 := by grind
/-- a factor has one sign behind the number -/
theorem right_one {c A lo hi u v : Rat} {f t a : Rat → Rat} (s : Sl c f u v) (hf : ∀ x, f x = t x * a x) (pt : Lp t A lo hi) (pa : Lp a A lo hi) (hu : lo ≤ u) (hv : v ≤ hi) {x y : Rat} (h1 : u < x) (h2 : x < y) (h3 : y ≤ v) (h4 : f x ≤ 0) (tx : t x ≠ 0) : 0 < t x * t y := by
  have A0 := pt.nn (by have := s.uv; grind)
  apply Classical.byContradiction
  intro no
  have fy := s.past h1 h2 h3 h4
  have ty : t y ≠ 0 := fun z => by rw [hf, z] at fy; grind
  have xy : t x * t y < 0 := by
    have : t x * t y ≠ 0 := qmul_ne tx ty
    grind
  obtain ⟨n, hn⟩ := big_pow (4 * (A * A) * (y - x)) c s.c0
  have key : ∀ n : Nat, ∃ z z', x ≤ z ∧ z < z' ∧ z' ≤ y ∧ (z' - z) * 2 ^ n = y - x ∧ t z * t z' < 0 ∧ f z ≤ 0 := fun n => by
    induction n with
    | zero => exact ⟨x, y, Rat.le_refl, h2, Rat.le_refl, by rw [Rat.pow_zero]; grind, xy, h4⟩
    | succ n ih =>
      obtain ⟨z, z', a1, a2, a3, a4, a5, a6⟩ := ih
      have fm := s.past (x := z) (y := (z + z') / 2) (by grind) (by grind) (by grind) a6
      have tm : t ((z + z') / 2) ≠ 0 := fun k => by rw [hf, k] at fm; grind
      by_cases k : t z * t ((z + z') / 2) < 0
      · exact ⟨z, (z + z') / 2, a1, by grind, by grind, by rw [Rat.pow_succ]; grind, k, a6⟩
      · refine ⟨(z + z') / 2, z', by grind, by grind, a3, by rw [Rat.pow_succ]; grind, ?_, by grind⟩
        have tz : t z ≠ 0 := fun k => by rw [k] at a5; grind
        have k2 : 0 < t z * t ((z + z') / 2) := by
          have := qmul_ne tz tm
          grind
        generalize t ((z + z') / 2) = m at *
        apply Classical.byContradiction
        intro no2
        have k3 : 0 ≤ m * t z' := by grind
        have k4 := Rat.mul_nonneg (show 0 ≤ t z * m by grind) k3
        have k5 : 0 < m * m := by
          by_cases q : m < 0
          · exact qm_nn q q
          · exact Rat.mul_pos (by grind) (by grind)
        have k6 := Rat.mul_pos k5 (show 0 < -(t z * t z') by grind)
        grind
  obtain ⟨z, z', a1, a2, a3, a4, a5, a6⟩ := key n
  have fz' := s.past (x := z) (y := z') (by grind) a2 (by grind) a6
  have aa : a z * a z' ≤ 0 := by
    have e : f z * f z' = (t z * t z') * (a z * a z') := by rw [hf, hf]; grind
    have p : 0 ≤ f z * f z' := by
      by_cases q : f z = 0
      · rw [q]; grind
      · have := qm_nn (show f z < 0 by grind) fz'; grind
    apply Classical.byContradiction
    intro no2
    have := Rat.mul_pos (show 0 < -(t z * t z') by grind) (show 0 < a z * a z' by grind)
    grind
  have b1 := pt.between (l := z) (h := z') (z := (z + z') / 2) (w := z' - z) (by grind) (by grind) (by grind) (by grind) (by grind) Rat.le_refl
  have b2 := pa.between (l := z) (h := z') (z := (z + z') / 2) (w := z' - z) (by grind) (by grind) (by grind) (by grind) aa Rat.le_refl
  have b3 := s.s1 z ((z + z') / 2) (by grind) (by grind) (by grind) a6
  have b4 := qmul_le (qa_nn _) b1 (qa_nn _) b2
  rw [← qa_mul, ← hf] at b4
  have b5 := (qa_ge (x := f ((z + z') / 2))).2
  have d0 : 0 < z' - z := by grind
  generalize hd : z' - z = d at *
  have b6 : c * d ≤ 2 * (A * A) * d * d := by
    have : (z + z') / 2 - z = d / 2 := by grind
    rw [this] at b3
    grind
  have b7 : c ≤ 2 * (A * A) * d := by
    have := Rat.le_of_mul_le_mul_right b6 d0
    exact this
  have p2 := qpow_pos (show (0 : Rat) < 2 by decide +kernel) n
  have b8 := Rat.mul_le_mul_of_nonneg_right b7 (Rat.le_of_lt p2)
  have b9 := Rat.mul_nonneg A0 A0
  have b10 : 0 ≤ A * A * (y - x) := Rat.mul_nonneg b9 (by grind)
  have e : 2 * (A * A) * d * 2 ^ n = 2 * (A * A) * (y - x) := by rw [← a4]; grind
  grind
theorem left_one {c A lo hi u v : Rat} {f t a : Rat → Rat} (s : Sl c f u v) (hf : ∀ x, f x = t x * a x) (pt : Lp t A lo hi) (pa : Lp a A lo hi) (hu : lo ≤ u) (hv : v ≤ hi) {x y : Rat} (h1 : u ≤ x) (h2 : x < y) (h3 : y < v) (h4 : 0 ≤ f y) (ty : t y ≠ 0) : 0 < t x * t y := by
  have := right_one (t := fun x => t (-x)) (a := fun x => -a (-x)) s.mirror (fun x => by rw [hf]; grind) pt.mirror pa.mirror.neg (by grind) (by grind) (x := -y) (y := -x) (by grind) (by grind) (by grind) (by simp only [Rat.neg_neg]; grind) (by simp only [Rat.neg_neg]; exact ty)
  simp only [Rat.neg_neg] at this
  grind
end Rt

namespace Rt
/-- x is above, below the number that is told in the stretch -/
def Abv (f : Rat → Rat) (u v x : Rat) : Prop := v ≤ x ∨ (u < x ∧ f x < 0)
def Blw (f : Rat → Rat) (u v x : Rat) : Prop := x ≤ u ∨ (x < v ∧ 0 < f x)
theorem Sl.blw {c : Rat} {f : Rat → Rat} {u v m x : Rat} (s : Sl c f u v) (h1 : u ≤ m) (h2 : m < v) (h3 : 0 < f m) (hx : x ≤ m) : Blw f u v x ∧ ¬ Abv f u v x := by
  by_cases z : x ≤ u
  · refine ⟨.inl z, fun k => ?_⟩
    have := s.uv
    rcases k with k | k <;> grind
  · have fx : 0 < f x := by
      by_cases e : x = m
      · rw [e]; exact h3
      · exact s.ahead (by grind) (show x < m by grind) h2 (by grind)
    refine ⟨.inr ⟨by grind, fx⟩, fun k => ?_⟩
    rcases k with k | k <;> grind
theorem Sl.abv {c : Rat} {f : Rat → Rat} {u v m x : Rat} (s : Sl c f u v) (h1 : u < m) (h2 : m ≤ v) (h3 : f m < 0) (hx : m ≤ x) : Abv f u v x ∧ ¬ Blw f u v x := by
  by_cases z : v ≤ x
  · refine ⟨.inl z, fun k => ?_⟩
    have := s.uv
    rcases k with k | k <;> grind
  · have fx : f x < 0 := by
      by_cases e : m = x
      · rw [← e]; exact h3
      · exact s.past h1 (show m < x by grind) (by grind) (by grind)
    refine ⟨.inr ⟨by grind, fx⟩, fun k => ?_⟩
    rcases k with k | k <;> grind
theorem opp_or {x y z : Rat} (o : x * y ≤ 0) : z * x ≤ 0 ∨ z * y ≤ 0 := by
  by_cases c : z * x ≤ 0
  · exact .inl c
  · right
    apply Classical.byContradiction
    intro no
    have k := Rat.mul_pos (show 0 < z * x by grind) (show 0 < z * y by grind)
    have k2 : 0 < z * z := by
      by_cases q : z < 0
      · exact qm_nn q q
      · by_cases q2 : z = 0
        · rw [q2] at c; grind
        · exact Rat.mul_pos (by grind) (by grind)
    have := Rat.mul_nonneg (show 0 ≤ z * z by grind) (show 0 ≤ -(x * y) by grind)
    grind
theorem sgn3 {a b c d : Rat} (h1 : 0 < a * c) (h2 : 0 < b * d) (h3 : a * b < 0) : c * d < 0 := by
  apply Classical.byContradiction
  intro no
  have k := Rat.mul_pos h1 h2
  have := Rat.mul_nonneg (show 0 ≤ -(a * b) by grind) (show 0 ≤ c * d by grind)
  grind
/-- a common factor that changes its sign where both stretches are: one number -/
theorem one_number {c c' A lo hi u v u' v' low high : Rat} {f g t a b : Rat → Rat} (s : Sl c f u v) (s' : Sl c' g u' v') (hf : ∀ x, f x = t x * a x) (hg : ∀ x, g x = t x * b x) (pt : Lp t A lo hi) (pa : Lp a A lo hi) (pb : Lp b A lo hi)
    (b1 : lo ≤ u) (b2 : v ≤ hi) (b3 : lo ≤ u') (b4 : v' ≤ hi) (l1 : u ≤ low) (l2 : u' ≤ low) (h1 : high ≤ v) (h2 : high ≤ v') (lh : low < high) (o : t low * t high < 0) (x : Rat) :
    (Abv f u v x ↔ Abv g u' v' x) ∧ (Blw f u v x ↔ Blw g u' v' x) := by
  have key : ∀ {c u v : Rat} {f a : Rat → Rat}, Sl c f u v → (∀ x, f x = t x * a x) → Lp a A lo hi → lo ≤ u → v ≤ hi → u ≤ low → high ≤ v →
      0 < f low ∧ f high < 0 ∧ (∀ x, low < x → x < high → t x ≠ 0 → (f x ≤ 0 → 0 < t x * t high) ∧ (0 ≤ f x → 0 < t low * t x)) := fun {c u v f a} s hf pa b1 b2 l1 h1 => by
    have tl : t low ≠ 0 := fun z => by rw [z] at o; grind
    have th : t high ≠ 0 := fun z => by rw [z] at o; grind
    have f1 : 0 < f low := by
      apply Classical.byContradiction
      intro no
      have ne : low ≠ u := fun z => by have := s.fu; rw [← z] at this; grind
      have := right_one s hf pt pa b1 b2 (x := low) (y := high) (by grind) lh h1 (by grind) tl
      grind
    have f2 : f high < 0 := by
      apply Classical.byContradiction
      intro no
      have ne : high ≠ v := fun z => by have := s.fv; rw [← z] at this; grind
      have := left_one s hf pt pa b1 b2 (x := low) (y := high) l1 lh (by grind) (by grind) th
      grind
    exact ⟨f1, f2, fun x x1 x2 tx => ⟨fun k => right_one s hf pt pa b1 b2 (by grind) x2 h1 k tx, fun k => left_one s hf pt pa b1 b2 l1 x1 (by grind) k tx⟩⟩
  obtain ⟨f1, f2, f3⟩ := key s hf pa b1 b2 l1 h1
  obtain ⟨g1, g2, g3⟩ := key s' hg pb b3 b4 l2 h2
  by_cases x1 : x ≤ low
  · have p := s.blw l1 (by grind) f1 x1
    have q := s'.blw l2 (by grind) g1 x1
    exact ⟨⟨fun k => absurd k p.2, fun k => absurd k q.2⟩, ⟨fun _ => q.1, fun _ => p.1⟩⟩
  · by_cases x2 : high ≤ x
    · have p := s.abv (by grind) h1 f2 x2
      have q := s'.abv (by grind) h2 g2 x2
      exact ⟨⟨fun _ => q.1, fun _ => p.1⟩, ⟨fun k => absurd k p.2, fun k => absurd k q.2⟩⟩
    · have x1 : low < x := by grind
      have x2 : x < high := by grind
      have cut : ∀ {c u v : Rat} {f : Rat → Rat}, u ≤ low → high ≤ v → (Abv f u v x ↔ f x < 0) ∧ (Blw f u v x ↔ 0 < f x) := fun {c u v f} l1 h1 => by
        refine ⟨⟨fun k => ?_, fun k => .inr ⟨by grind, k⟩⟩, ⟨fun k => ?_, fun k => .inr ⟨by grind, k⟩⟩⟩
        · rcases k with k | k <;> grind
        · rcases k with k | k <;> grind
      have imp : ∀ {f g a : Rat → Rat}, (∀ x, f x = t x * a x) → (t x ≠ 0 → (f x ≤ 0 → 0 < t x * t high) ∧ (0 ≤ f x → 0 < t low * t x)) → (t x ≠ 0 → (g x ≤ 0 → 0 < t x * t high) ∧ (0 ≤ g x → 0 < t low * t x)) → (f x < 0 → g x < 0) ∧ (0 < f x → 0 < g x) := fun {f g a} hf p q => by
        constructor
        · intro k
          have tx : t x ≠ 0 := fun z => by rw [hf, z] at k; grind
          have k1 := (p tx).1 (by grind)
          apply Classical.byContradiction
          intro no
          have k2 := (q tx).2 (by grind)
          have := sgn3 (a := t low) (b := t high) (c := t x) (d := t x) k2 (by grind) o
          have : 0 ≤ t x * t x := by
            by_cases q : t x < 0
            · have := qm_nn q q; grind
            · exact Rat.mul_nonneg (by grind) (by grind)
          grind
        · intro k
          have tx : t x ≠ 0 := fun z => by rw [hf, z] at k; grind
          have k2 := (p tx).2 (by grind)
          apply Classical.byContradiction
          intro no
          have k1 := (q tx).1 (by grind)
          have := sgn3 (a := t low) (b := t high) (c := t x) (d := t x) k2 (by grind) o
          have : 0 ≤ t x * t x := by
            by_cases q : t x < 0
            · have := qm_nn q q; grind
            · exact Rat.mul_nonneg (by grind) (by grind)
          grind
      have i1 := imp hf (f3 x x1 x2) (g3 x x1 x2)
      have i2 := imp hg (g3 x x1 x2) (f3 x x1 x2)
      have c1 := cut (c := 0) (f := f) l1 h1
      have c2 := cut (c := 0) (f := g) l2 h2
      rw [c1.1, c1.2, c2.1, c2.2]
      exact ⟨⟨i1.1, i2.1⟩, ⟨i1.2, i2.2⟩⟩
/-- near the number of a thin stretch that meets the other one, the common factor changes its sign -/
theorem com_turns {c A U w lo hi u v l h l' h' : Rat} {f g t a : Rat → Rat} (s : Sl c f u v) (hf : ∀ x, f x = t x * a x) (pf : Lp f A lo hi) (pg : Lp g A lo hi) (pa : Lp a A lo hi)
    (b1 : lo ≤ u) (b2 : v ≤ hi) (ul : u ≤ l) (lh : l < h) (hv : h ≤ v) (fl : 0 < f l) (fh : f h < 0) (hw : h - l ≤ w) (b3 : lo ≤ l') (b4 : h' ≤ hi) (lh' : l' < h') (hw' : h' - l' ≤ w) (gg : g l' * g h' ≤ 0)
    (m1 : l < h') (m2 : l' < h) (U0 : 0 ≤ U) (tb : ∀ x, lo ≤ x → x ≤ hi → qa (t x) ≤ U * (qa (f x) + qa (g x))) (small : 12 * U * (A * A) * w < c) : t l * t h < 0 := by
  apply Classical.byContradiction
  intro no
  have ff : f l * f h < 0 := by have := Rat.mul_pos fl (show 0 < -f h by grind); grind
  have A0 := pf.nn (show lo ≤ hi by grind)
  have tl : t l ≠ 0 := fun z => by rw [hf, z] at fl; grind
  have th : t h ≠ 0 := fun z => by rw [hf, z] at fh; grind
  have tp : 0 < t l * t h := by have := qmul_ne tl th; grind
  have aa : a l * a h ≤ 0 := by
    apply Classical.byContradiction
    intro no2
    have := Rat.mul_pos tp (show 0 < a l * a h by grind)
    rw [hf, hf] at ff
    grind
  have ex : ∃ z, l ≤ z ∧ z ≤ h ∧ c * ((h - l) / 4) ≤ qa (f z) := by
    by_cases k : f ((l + h) / 2) ≤ 0
    · refine ⟨((l + h) / 2 + h) / 2, by grind, by grind, ?_⟩
      have k1 := s.s1 ((l + h) / 2) (((l + h) / 2 + h) / 2) (by grind) (by grind) (by grind) k
      have k2 := (qa_ge (x := f (((l + h) / 2 + h) / 2))).2
      have e : ((l + h) / 2 + h) / 2 - (l + h) / 2 = (h - l) / 4 := by grind
      rw [e] at k1; grind
    · refine ⟨(l + (l + h) / 2) / 2, by grind, by grind, ?_⟩
      have k1 := s.s2 ((l + (l + h) / 2) / 2) ((l + h) / 2) (by grind) (by grind) (by grind) (by grind)
      have k2 := (qa_ge (x := f ((l + (l + h) / 2) / 2))).1
      have e : (l + h) / 2 - (l + (l + h) / 2) / 2 = (h - l) / 4 := by grind
      rw [e] at k1; grind
  obtain ⟨z, z1, z2, z3⟩ := ex
  have az := pa.between (l := l) (h := h) (z := z) (w := h - l) (by grind) (by grind) z1 z2 aa Rat.le_refl
  have fz := pf.between (l := l) (h := h) (z := z) (w := w) (by grind) (by grind) z1 z2 (by grind) hw
  have gz : qa (g z) ≤ A * (2 * w) := by
    rcases opp_or (z := g z) gg with k | k
    · exact pg.near (by grind) (by grind) b3 (by grind) k (by rw [qa_le]; grind)
    · exact pg.near (by grind) (by grind) (by grind) b4 k (by rw [qa_le]; grind)
  have tz := tb z (by grind) (by grind)
  have d0 : 0 < h - l := by grind
  rw [hf, qa_mul] at z3
  have k1 := Rat.mul_le_mul_of_nonneg_left (c := qa (t z)) az (qa_nn _)
  have k2 : c / 4 * (h - l) ≤ qa (t z) * A * (h - l) := by grind
  have k3 := Rat.le_of_mul_le_mul_right k2 d0
  have k4 := Rat.mul_le_mul_of_nonneg_left (c := U) (show qa (f z) + qa (g z) ≤ 3 * (A * w) by grind) U0
  have k5 := Rat.mul_le_mul_of_nonneg_right (show qa (t z) ≤ U * (3 * (A * w)) by grind) A0
  grind
/-- two numbers that no common factor tells are apart -/
theorem no_meet {c c' A U w lo hi u v u' v' l h l' h' low high : Rat} {f g t a b : Rat → Rat} (s : Sl c f u v) (s' : Sl c' g u' v') (hf : ∀ x, f x = t x * a x) (hg : ∀ x, g x = t x * b x)
    (pf : Lp f A lo hi) (pg : Lp g A lo hi) (pt : Lp t A lo hi) (pa : Lp a A lo hi) (pb : Lp b A lo hi)
    (b1 : lo ≤ u) (b2 : v ≤ hi) (b3 : lo ≤ u') (b4 : v' ≤ hi)
    (ul : u ≤ l) (lh : l < h) (hv : h ≤ v) (fl : 0 < f l) (fh : f h < 0) (hw : h - l ≤ w)
    (ul' : u' ≤ l') (lh' : l' < h') (hv' : h' ≤ v') (fl' : 0 < g l') (fh' : g h' < 0) (hw' : h' - l' ≤ w)
    (U0 : 0 ≤ U) (tb : ∀ x, lo ≤ x → x ≤ hi → qa (t x) ≤ U * (qa (f x) + qa (g x))) (small : 12 * U * (A * A) * w < c) (small' : 12 * U * (A * A) * w < c')
    (m1 : l < h') (m2 : l' < h) (l1 : u ≤ low) (l2 : u' ≤ low) (l3 : low = u ∨ low = u') (h1 : high ≤ v) (h2 : high ≤ v') (h3 : high = v ∨ high = v') (lh0 : low < high)
    (d1 : u < v' → 2 * w < v' - u) (d2 : u' < v → 2 * w < v - u') (o : 0 < t low * t high) : False := by
  have ff : f l * f h ≤ 0 := by have := Rat.mul_pos fl (show 0 < -f h by grind); grind
  have gg : g l' * g h' ≤ 0 := by have := Rat.mul_pos fl' (show 0 < -g h' by grind); grind
  have t1 := com_turns s hf pf pg pa b1 b2 ul lh hv fl fh hw (by grind) (by grind) lh' hw' gg m1 m2 U0 tb small
  have t2 := com_turns s' hg pg pf pb b3 b4 ul' lh' hv' fl' fh' hw' (by grind) (by grind) lh hw ff m2 m1 U0 (fun x x1 x2 => by have := tb x x1 x2; grind) small'
  have side : ∀ {c u v l h : Rat} {f a : Rat → Rat}, Sl c f u v → (∀ x, f x = t x * a x) → Lp a A lo hi → lo ≤ u → v ≤ hi → u ≤ l → l < h → h ≤ v → 0 < f l → f h < 0 → t l * t h < 0 → u ≤ low → high ≤ v → 0 ≤ f high ∨ f low ≤ 0 := fun {c u v l h f a} s hf pa b1 b2 ul lh hv fl fh tt l1 h1 => by
    apply Classical.byContradiction
    intro no
    have n1 : f high < 0 := by grind
    have n2 : 0 < f low := by grind
    have ne : ∀ {x : Rat}, f x ≠ 0 → t x ≠ 0 := fun k z => k (by rw [hf, z]; grind)
    have sq : ∀ {x : Rat}, x ≠ 0 → 0 < x * x := fun {x} k => by
      by_cases q : x < 0
      · exact qm_nn q q
      · exact Rat.mul_pos (by grind) (by grind)
    have k1 : 0 < t h * t high := by
      by_cases e : h = high
      · rw [e]; exact sq (ne (by grind))
      · by_cases e2 : h < high
        · exact right_one s hf pt pa b1 b2 (by grind) e2 h1 (by grind) (ne (by grind))
        · have := right_one s hf pt pa b1 b2 (x := high) (y := h) (by grind) (by grind) hv (by grind) (ne (by grind))
          grind
    have k2 : 0 < t l * t low := by
      by_cases e : l = low
      · rw [e]; exact sq (ne (by grind))
      · by_cases e2 : l < low
        · exact left_one s hf pt pa b1 b2 ul e2 (by grind) (by grind) (ne (by grind))
        · have := left_one s hf pt pa b1 b2 (x := low) (y := l) l1 (by grind) (by grind) (by grind) (ne (by grind))
          grind
    have := sgn3 k2 k1 tt
    grind
  have c1 := side s hf pa b1 b2 ul lh hv fl fh t1 l1 h1
  have c2 := side s' hg pb b3 b4 ul' lh' hv' fl' fh' t2 l2 h2
  -- one number ahead of the other, with a gap
  have gap : ∀ {c c' u v u' v' l h l' h' : Rat} {f g : Rat → Rat}, Sl c f u v → Sl c' g u' v' → u ≤ l → l < h → h ≤ v → 0 < f l → f h < 0 → u' ≤ l' → l' < h' → h' ≤ v' → 0 < g l' → g h' < 0 → h - l ≤ w → h' - l' ≤ w → l < h' → l' < h →
      (low = u ∨ low = u') → (high = v ∨ high = v') → u ≤ low → u' ≤ low → high ≤ v → (u < v' → 2 * w < v' - u) → 0 ≤ f high → (0 ≤ g high ∨ g low ≤ 0) → False := fun {c c' u v u' v' l h l' h' f g} s s' ul lh hv fl fh ul' lh' hv' fl' fh' hw hw' m1 m2 l3 h3 l1 l2 h1 d1 k1 k2 => by
    have e1 : high = v' := by
      rcases h3 with e | e
      · have := s.fv; rw [← e] at this; grind
      · exact e
    have hv1 : high < v := by
      by_cases e : high = v
      · have := s.fv; rw [← e] at this; grind
      · grind
    have g1 : g high < 0 := by rw [e1]; exact s'.fv
    have g2 : g low ≤ 0 := by
      rcases k2 with k | k
      · grind
      · exact k
    have e2 : low = u := by
      rcases l3 with e | e
      · exact e
      · have := s'.fu; rw [← e] at this; grind
    have n1 : v' ≤ h := by
      apply Classical.byContradiction
      intro no
      have := s.ahead (x := h) (y := high) (by grind) (by grind) hv1 k1
      grind
    have n2 : l' ≤ u := by
      apply Classical.byContradiction
      intro no
      have lu : u' < u := by
        have : u' ≠ u := fun e => by have := s'.fu; rw [e, ← e2] at this; grind
        grind
      have := s'.past (x := low) (y := l') (by grind) (by grind) (by grind) g2
      grind
    have := d1 (by grind)
    grind
  rcases c1 with k | k
  · exact gap s s' ul lh hv fl fh ul' lh' hv' fl' fh' hw hw' m1 m2 l3 h3 l1 l2 h1 d1 k c2
  · rcases c2 with k2 | k2
    · exact gap s' s ul' lh' hv' fl' fh' ul lh hv fl fh hw' hw m2 m1 l3.symm h3.symm l2 l1 h2 d2 k2 (.inr k)
    · rcases l3 with e | e
      · have := s.fu; rw [← e] at this; grind
      · have := s'.fu; rw [← e] at this; grind
end Rt

/-! a row that turns once is steep where it turns -/
namespace Rt
theorem evR_app (y : Rat) (N : List Int) : ∀ P : List Int, evR (P ++ N) y = evR P y + y ^ P.length * evR N y
  | [] => by
    show evR N y = 0 + y ^ 0 * evR N y
    rw [Rat.pow_zero]; grind
  | a :: r => by
    show (a : Rat) + y * evR (r ++ N) y = (a : Rat) + y * evR r y + y ^ (r.length + 1) * evR N y
    rw [evR_app y N r, Rat.pow_succ]; grind
theorem cast_nn' {a : Int} (h : 0 ≤ a) : (0 : Rat) ≤ a := by exact_mod_cast h
theorem posR {y : Rat} (h : 0 ≤ y) : ∀ {P : List Int}, (∀ a ∈ P, 0 ≤ a) → 0 ≤ evR P y
  | [], _ => Rat.le_refl
  | a :: r, ha => by
    have := posR h (P := r) fun b hb => ha b (List.mem_cons_of_mem _ hb)
    have := Rat.mul_nonneg h this
    have := cast_nn' (ha a List.mem_cons_self)
    show 0 ≤ (a : Rat) + y * evR r y
    grind
theorem posR_mono {y1 y2 : Rat} (h1 : 0 < y1) (h : y1 ≤ y2) : ∀ {P : List Int}, (∀ a ∈ P, 0 ≤ a) → y1 ^ P.length * evR P y2 ≤ y2 ^ P.length * evR P y1
  | [], _ => by show y1 ^ 0 * 0 ≤ y2 ^ 0 * (0 : Rat); grind
  | a :: r, ha => by
    have ih := posR_mono h1 h (P := r) fun b hb => ha b (List.mem_cons_of_mem _ hb)
    have a0 := cast_nn' (ha a List.mem_cons_self)
    have pw := qpow_le (Rat.le_of_lt h1) h (r.length + 1)
    have k1 := Rat.mul_le_mul_of_nonneg_left (c := y1 * y2) ih (Rat.mul_nonneg (Rat.le_of_lt h1) (by grind))
    have k2 := Rat.mul_le_mul_of_nonneg_left (c := (a : Rat)) pw a0
    show y1 ^ (r.length + 1) * ((a : Rat) + y2 * evR r y2) ≤ y2 ^ (r.length + 1) * ((a : Rat) + y1 * evR r y1)
    rw [Rat.pow_succ, Rat.pow_succ] at *
    grind
theorem negR {y1 y2 : Rat} (h1 : 0 < y1) (h : y1 ≤ y2) : ∀ {N : List Int}, (∀ a ∈ N, a ≤ 0) → evR N y2 ≤ evR N y1 ∧ evR N y1 ≤ 0
  | [], _ => ⟨Rat.le_refl, Rat.le_refl⟩
  | a :: r, ha => by
    obtain ⟨i1, i2⟩ := negR h1 h (N := r) fun b hb => ha b (List.mem_cons_of_mem _ hb)
    have a0 := cast_nn' (a := -a) (by have := ha a List.mem_cons_self; omega)
    rw [Rat.intCast_neg] at a0
    have k1 := Rat.mul_le_mul_of_nonneg_left (c := y2) i1 (by grind)
    have k2 := Rat.mul_nonneg (show 0 ≤ y2 - y1 by grind) (show 0 ≤ -evR r y1 by grind)
    have k3 := Rat.mul_nonneg (show 0 ≤ y1 by grind) (show 0 ≤ -evR r y1 by grind)
    show (a : Rat) + y2 * evR r y2 ≤ (a : Rat) + y1 * evR r y1 ∧ (a : Rat) + y1 * evR r y1 ≤ 0
    constructor <;> grind
/-- between two places, from the first number and the one change -/
theorem once_step {y1 y2 : Rat} (h1 : 0 < y1) (h : y1 < y2) {a : Int} {r : List Int} (ha : 0 < a) (hc : chg 0 (a :: r) = 1) :
    (evR (a :: r) y1 ≤ 0 → y2 - y1 ≤ y1 * -evR (a :: r) y2) ∧ (0 ≤ evR (a :: r) y2 → y2 - y1 ≤ y2 * evR (a :: r) y1) := by
  have hc : (if a * 0 < 0 then 1 else 0) + chg (if a = 0 then 0 else a) r = 1 := hc
  rw [if_neg (by simp), if_neg (by omega), Nat.zero_add] at hc
  obtain ⟨P, N, e, p, n, x⟩ := split_of ha hc
  have e2 : a :: r = (a :: P) ++ N := by rw [e]; rfl
  rw [e2, evR_app, evR_app]
  have a1 : (1 : Rat) ≤ (a : Rat) := by
    have := Rat.intCast_le_intCast.mpr (show (1 : Int) ≤ a by omega)
    exact this
  have kp := posR_mono h1 (Rat.le_of_lt h) p
  obtain ⟨kn, _⟩ := negR h1 (Rat.le_of_lt h) n
  have q1 := qpow_pos h1 P.length
  have q2 := qpow_pos (show 0 < y2 by grind) P.length
  have q3 := qpow_le (Rat.le_of_lt h1) (Rat.le_of_lt h) P.length
  have f1 : evR (a :: P) y1 = (a : Rat) + y1 * evR P y1 := rfl
  have f2 : evR (a :: P) y2 = (a : Rat) + y2 * evR P y2 := rfl
  have l1 : (a :: P).length = P.length + 1 := rfl
  rw [f1, f2, l1, Rat.pow_succ, Rat.pow_succ]
  generalize evR P y1 = p1 at *
  generalize evR P y2 = p2 at *
  generalize evR N y1 = n1 at *
  generalize evR N y2 = n2 at *
  generalize y1 ^ P.length = w1 at *
  generalize y2 ^ P.length = w2 at *
  -- the sum of both
  have main : w2 * y2 - w1 * y1 ≤ w2 * y2 * ((a : Rat) + y1 * p1 + w1 * y1 * n1) - w1 * y1 * ((a : Rat) + y2 * p2 + w2 * y2 * n2) := by
    have k1 := Rat.mul_le_mul_of_nonneg_left (c := y1 * y2) kp (Rat.mul_nonneg (Rat.le_of_lt h1) (by grind))
    have k2 := Rat.mul_le_mul_of_nonneg_left (c := w1 * y1 * (w2 * y2)) kn (Rat.mul_nonneg (Rat.mul_nonneg (Rat.le_of_lt q1) (Rat.le_of_lt h1)) (Rat.mul_nonneg (Rat.le_of_lt q2) (by grind)))
    have k3 : 0 ≤ w2 * y2 - w1 * y1 := by have := qmul_le (Rat.le_of_lt q1) q3 (Rat.le_of_lt h1) (Rat.le_of_lt h); grind
    have k4 := Rat.mul_nonneg (show 0 ≤ (a : Rat) - 1 by grind) k3
    grind
  generalize (a : Rat) + y1 * p1 + w1 * y1 * n1 = s1 at *
  generalize (a : Rat) + y2 * p2 + w2 * y2 * n2 = s2 at *
  constructor
  · intro z
    have k1 := Rat.mul_nonneg (show 0 ≤ w2 * y2 from Rat.mul_nonneg (Rat.le_of_lt q2) (by grind)) (show 0 ≤ -s1 by grind)
    have k2 := Rat.mul_nonneg (show 0 ≤ w2 - w1 by grind) (show 0 ≤ y2 by grind)
    refine Rat.le_of_mul_le_mul_right (c := w1) ?_ q1
    grind
  · intro z
    have k1 := Rat.mul_nonneg (show 0 ≤ w1 * y1 from Rat.mul_nonneg (Rat.le_of_lt q1) (by grind)) z
    have k2 := Rat.mul_nonneg (show 0 ≤ w2 - w1 by grind) (show 0 ≤ y1 by grind)
    refine Rat.le_of_mul_le_mul_right (c := w2) ?_ q2
    grind
theorem revR {y z : Rat} (h : z * y = 1) : ∀ S : List Int, evR S.reverse z * y ^ S.length = y * evR S y
  | [] => by show (0 : Rat) * y ^ 0 = y * 0; grind
  | a :: r => by
    have ih := revR h r
    have pw : z ^ r.length * y ^ r.length = 1 := by
      induction r.length with
      | zero => rw [Rat.pow_zero, Rat.pow_zero]; decide +kernel
      | succ n ih => rw [Rat.pow_succ, Rat.pow_succ]; grind
    rw [List.reverse_cons, evR_app, List.length_reverse]
    show (evR r.reverse z + z ^ r.length * ((a : Rat) + z * 0)) * y ^ (r.length + 1) = y * ((a : Rat) + y * evR r y)
    rw [Rat.pow_succ]
    grind
def pt (u : Int × Int) : Rat := (u.1 : Rat) / (u.2 : Rat)
theorem cast_pos {a : Int} (h : 0 < a) : (0 : Rat) < a := by exact_mod_cast h
theorem pt_lt {u v : Int × Int} (hu : 0 < u.2) (hv : 0 < v.2) : pt u < pt v ↔ PL u v := by
  unfold pt PL
  have a := cast_pos hu
  have b := cast_pos hv
  rw [Rat.div_lt_iff a]
  have e : (v.1 : Rat) / (v.2 : Rat) * (u.2 : Rat) = (v.1 : Rat) * (u.2 : Rat) / (v.2 : Rat) := by grind
  rw [e, Rat.lt_div_iff b, ← Rat.intCast_mul, ← Rat.intCast_mul, Rat.intCast_lt_intCast]
theorem qmul_pow (a b : Rat) : ∀ n : Nat, (a * b) ^ n = a ^ n * b ^ n
  | 0 => by rw [Rat.pow_zero, Rat.pow_zero, Rat.pow_zero]; grind
  | n + 1 => by rw [Rat.pow_succ, Rat.pow_succ, Rat.pow_succ, qmul_pow a b n]; grind
theorem dq {a b c d : Rat} (h : a * d = c * b) (hb : b ≠ 0) (hd : d ≠ 0) : a / b = c / d := by grind
/-- the row seen from a stretch -/
theorem seen_R {u v : Int × Int} (hu : 0 < u.2) (hv : 0 < v.2) (xs : List Int) {y : Rat} (hy : 0 < y) :
    evR (seenL u v xs) y * ((u.2 : Rat) * v.2 * (1 + y)) = evR xs ((pt u + pt v * y) / (1 + y)) * ((u.2 : Rat) * v.2 * (1 + y)) ^ xs.length := by
  have e : y = (y.num : Rat) / ((y.den : Int) : Rat) := by
    have := Rat.num_divInt_den y
    rw [Rat.divInt_eq_div] at this
    exact this.symm
  have dp : (0 : Int) < (y.den : Int) := by have := y.den_pos; omega
  have tp : 0 < y.num := by
    have b2 := cast_pos dp
    have k := Rat.mul_pos hy b2
    have k2 : y * ((y.den : Int) : Rat) = (y.num : Rat) := by
      generalize ((y.den : Int) : Rat) = bb at *
      generalize (y.num : Rat) = tt at *
      rw [e]; grind
    rw [k2] at k
    exact_mod_cast k
  generalize y.num = t at *
  generalize (y.den : Int) = b at *
  have h1 := hor_R (t := t) (b := b) (by omega) (seenL u v xs)
  rw [seen_len, ← e, seen_hom] at h1
  have u2 := cast_pos hu
  have v2 := cast_pos hv
  have b2 := cast_pos dp
  have t2 := cast_pos tp
  have Bp : 0 < u.2 * v.2 * b + u.2 * v.2 * t := by
    have := Int.mul_pos (Int.mul_pos hu hv) dp
    have := Int.mul_pos (Int.mul_pos hu hv) tp
    omega
  have h2 := hor_R (t := u.1 * v.2 * b + v.1 * u.2 * t) (b := u.2 * v.2 * b + u.2 * v.2 * t) (by omega) xs
  have Bq := cast_pos Bp
  have eB : ((u.2 * v.2 * b + u.2 * v.2 * t : Int) : Rat) = (u.2 : Rat) * v.2 * (1 + y) * b := by
    rw [Rat.intCast_add, Rat.intCast_mul, Rat.intCast_mul, Rat.intCast_mul, e]
    rw [Rat.intCast_mul]
    grind
  have eT : ((u.1 * v.2 * b + v.1 * u.2 * t : Int) : Rat) / ((u.2 * v.2 * b + u.2 * v.2 * t : Int) : Rat) = (pt u + pt v * y) / (1 + y) := by
    rw [eB, Rat.intCast_add, Rat.intCast_mul, Rat.intCast_mul, Rat.intCast_mul, Rat.intCast_mul]
    unfold pt
    have y1 : (1 : Rat) + y ≠ 0 := by grind
    have : (t : Rat) = y * b := by rw [e]; grind
    rw [this]
    have u2' : (u.2 : Rat) ≠ 0 := by grind
    have v2' : (v.2 : Rat) ≠ 0 := by grind
    have b2' : (b : Rat) ≠ 0 := by grind
    generalize (u.2 : Rat) = x2 at *
    generalize (v.2 : Rat) = z2 at *
    generalize (b : Rat) = bb at *
    refine dq ?_ (by have := Rat.mul_pos (Rat.mul_pos (Rat.mul_pos u2 v2) (show 0 < 1 + y by grind)) b2; grind) y1
    grind
  rw [eT, eB, qmul_pow] at h2
  generalize ((hor (u.1 * v.2 * b + v.1 * u.2 * t) (u.2 * v.2 * b + u.2 * v.2 * t) xs).1 : Rat) = H at *
  generalize evR (seenL u v xs) y = S at *
  generalize evR xs _ = F at *
  generalize (u.2 : Rat) * v.2 * (1 + y) = β at *
  have bp := qpow_pos b2 xs.length
  generalize (b : Rat) ^ xs.length = bn at *
  generalize β ^ xs.length = βn at *
  have k : (S * β) * (bn * b) = (F * βn) * (bn * b) := by grind
  have ne : bn * (b : Rat) ≠ 0 := by have := Rat.mul_pos bp b2; grind
  grind

/-- once more, told by the stretch: x in the place of y -/
theorem seen_X {u v : Int × Int} (hu : 0 < u.2) (hv : 0 < v.2) {xs : List Int} {n : Nat} (hn : xs.length = n + 1) {x : Rat} (h1 : pt u < x) (h2 : x < pt v) :
    evR (seenL u v xs) ((x - pt u) / (pt v - x)) = evR xs x * ((u.2 : Rat) * v.2 * ((pt v - pt u) / (pt v - x))) ^ n := by
  have d0 : pt v - x ≠ 0 := by grind
  have y0 : 0 < (x - pt u) / (pt v - x) := by
    have := Rat.mul_pos (show 0 < x - pt u by grind) (Rat.inv_pos.mpr (show 0 < pt v - x by grind))
    rw [Rat.div_def]; exact this
  have k := seen_R hu hv xs y0
  have e1 : 1 + (x - pt u) / (pt v - x) = (pt v - pt u) / (pt v - x) := by grind
  have w0 : pt v - pt u ≠ 0 := by grind
  have e2 : (pt u + pt v * ((x - pt u) / (pt v - x))) / (1 + (x - pt u) / (pt v - x)) = x := by
    rw [e1]
    generalize pt v = V at *
    generalize pt u = U at *
    have : U + V * ((x - U) / (V - x)) = x * ((V - U) / (V - x)) := by grind
    rw [this]
    have : (V - U) / (V - x) ≠ 0 := by rw [Rat.div_def]; exact qmul_ne w0 (by have := Rat.inv_pos.mpr (show 0 < V - x by grind); grind)
    grind
  rw [e2, e1, hn, Rat.pow_succ] at k
  have u2 := cast_pos hu
  have v2 := cast_pos hv
  have β0 : (u.2 : Rat) * v.2 * ((pt v - pt u) / (pt v - x)) ≠ 0 := by
    have : (pt v - pt u) / (pt v - x) ≠ 0 := by rw [Rat.div_def]; exact qmul_ne w0 (by have := Rat.inv_pos.mpr (show 0 < pt v - x by grind); grind)
    exact qmul_ne (qmul_ne (by grind) (by grind)) this
  generalize (u.2 : Rat) * v.2 * ((pt v - pt u) / (pt v - x)) = β at *
  generalize evR (seenL u v xs) _ = S at *
  generalize evR xs x = F at *
  generalize β ^ n = βn at *
  have : (S - F * βn) * β = 0 := by grind
  rcases Rat.mul_eq_zero.mp this with z | z
  · grind
  · exact absurd z β0
theorem up_to {F β B D : Rat} (n : Nat) (hF : 0 ≤ F) (hβ : 0 ≤ β) (hB : β ≤ B) (h : D ≤ F * β ^ n) : D ≤ F * B ^ n := by
  have := Rat.mul_le_mul_of_nonneg_left (c := F) (qpow_le hβ hB n) hF
  grind
theorem qdiv_pos {a b : Rat} (h : 0 < a) (k : 0 < b) : 0 < a / b := by
  rw [Rat.div_def]; exact Rat.mul_pos h (Rat.inv_pos.mpr k)
theorem qdiv_le {a b c : Rat} (hb : 0 < b) (h : a ≤ c * b) : a / b ≤ c := by
  refine Rat.le_of_mul_le_mul_right (c := b) ?_ hb
  have : a / b * b = a := by grind
  grind
theorem le_qdiv {a b c : Rat} (hb : 0 < b) (h : c * b ≤ a) : c ≤ a / b := by
  refine Rat.le_of_mul_le_mul_right (c := b) ?_ hb
  have : a / b * b = a := by grind
  grind
theorem est {W d p r s : Rat} (hW : 0 < W) (hd : 0 < d) (p0 : 0 < p) (p1 : p ≤ W) (r0 : 0 < r) (r1 : r ≤ W) (h : W * d ≤ p * r * s) : d ≤ W * s ∧ 0 ≤ s := by
  have pr := Rat.mul_pos p0 r0
  have Wd := Rat.mul_pos hW hd
  have s0 : 0 ≤ s := by
    apply Classical.byContradiction
    intro no
    have := Rat.mul_pos pr (show 0 < -s by grind)
    grind
  refine ⟨?_, s0⟩
  have k1 := qmul_le (Rat.le_of_lt p0) p1 (Rat.le_of_lt r0) r1
  have k2 := Rat.mul_le_mul_of_nonneg_right k1 s0
  refine Rat.le_of_mul_le_mul_left (c := W) ?_ hW
  grind
/-- the four estimates, by numbers alone -/
theorem steep {X1 X2 Y1 Y2 W d s1 s2 t1 t2 y1 y2 z1 z2 F1 F2 q β1 β2 γ1 γ2 : Rat} (n : Nat) (x1 : 0 < X1) (x2 : 0 < X2) (v1 : 0 < Y1) (v2 : 0 < Y2) (w1 : X1 + Y1 = W) (w2 : X2 + Y2 = W) (hd : X2 - X1 = d) (d0 : 0 < d) (hq : 0 < q)
    (hy1 : y1 * Y1 = X1) (hy2 : y2 * Y2 = X2) (hz1 : z1 * X1 = Y1) (hz2 : z2 * X2 = Y2)
    (hβ1 : β1 * Y1 = q * W) (hβ2 : β2 * Y2 = q * W) (hγ1 : γ1 * X1 = q * W) (hγ2 : γ2 * X2 = q * W)
    (e1 : s1 = F1 * β1 ^ n) (e2 : s2 = F2 * β2 ^ n) (g1 : t1 = -(F1 * γ1 ^ n)) (g2 : t2 = -(F2 * γ2 ^ n))
    (a1 : s1 ≤ 0 → y2 - y1 ≤ y1 * -s2) (a2 : 0 ≤ s2 → y2 - y1 ≤ y2 * s1) (b1 : t2 ≤ 0 → z1 - z2 ≤ z2 * -t1) (b2 : 0 ≤ t1 → z1 - z2 ≤ z1 * t2) :
    (F1 ≤ 0 → d ≤ W * (-F2 * (2 * q) ^ n)) ∧ (0 ≤ F2 → d ≤ W * (F1 * (2 * q) ^ n)) := by
  have W0 : 0 < W := by grind
  have qW := Rat.mul_pos hq W0
  have pos : ∀ {b y : Rat}, 0 < y → b * y = q * W → 0 < b := fun {b y} hy h => by
    apply Classical.byContradiction
    intro no
    have := Rat.mul_nonneg (show 0 ≤ -b by grind) (Rat.le_of_lt hy)
    grind
  have small : ∀ {b y : Rat}, 0 < y → b * y = q * W → W ≤ 2 * y → b ≤ 2 * q := fun {b y} hy h k => by
    refine Rat.le_of_mul_le_mul_right (c := y) ?_ hy
    have := Rat.mul_le_mul_of_nonneg_left (c := q) k (Rat.le_of_lt hq)
    grind
  have pb1 := qpow_pos (pos v1 hβ1) n
  have pb2 := qpow_pos (pos v2 hβ2) n
  have pg1 := qpow_pos (pos x1 hγ1) n
  have pg2 := qpow_pos (pos x2 hγ2) n
  have sgn : ∀ {F p : Rat}, 0 < p → 0 ≤ F * p → 0 ≤ F := fun {F p} hp h => by
    apply Classical.byContradiction
    intro no
    have := Rat.mul_pos (show 0 < -F by grind) hp
    grind
  have fin : ∀ {F b p : Rat}, 0 < b → b ≤ 2 * q → d ≤ W * (F * b ^ n) → 0 ≤ F * b ^ n → d ≤ W * (F * (2 * q) ^ n) := fun {F b p} hb hb2 h h0 => by
    have k := Rat.mul_le_mul_of_nonneg_left (c := W) (up_to n (sgn (qpow_pos hb n) h0) (Rat.le_of_lt hb) hb2 Rat.le_refl) (Rat.le_of_lt W0)
    grind
  have Yy := Rat.mul_pos v1 v2
  have Xx := Rat.mul_pos x1 x2
  have ey : (y2 - y1) * (Y1 * Y2) = W * d := by
    have : (y2 - y1) * (Y1 * Y2) = (y2 * Y2) * Y1 - (y1 * Y1) * Y2 := by grind
    rw [this, hy1, hy2]; grind
  have ez : (z1 - z2) * (X1 * X2) = W * d := by
    have : (z1 - z2) * (X1 * X2) = (z1 * X1) * X2 - (z2 * X2) * X1 := by grind
    rw [this, hz1, hz2]; grind
  constructor
  · intro f
    by_cases c : W ≤ 2 * Y2
    · have k := a1 (by have := Rat.mul_nonneg (show 0 ≤ -F1 by grind) (Rat.le_of_lt pb1); grind)
      have k2 := Rat.mul_le_mul_of_nonneg_right k (Rat.le_of_lt Yy)
      have k3 : W * d ≤ X1 * Y2 * -s2 := by rw [← hy1]; grind
      obtain ⟨k4, k5⟩ := est W0 d0 x1 (by grind) v2 (by grind) k3
      exact fin (p := 0) (pos v2 hβ2) (small v2 hβ2 c) (by rw [e2] at k4; grind) (by rw [e2] at k5; grind)
    · have c : W ≤ 2 * X2 := by grind
      have k := b2 (by have := Rat.mul_nonneg (show 0 ≤ -F1 by grind) (Rat.le_of_lt pg1); grind)
      have k2 := Rat.mul_le_mul_of_nonneg_right k (Rat.le_of_lt Xx)
      have k3 : W * d ≤ Y1 * X2 * t2 := by rw [← hz1]; grind
      obtain ⟨k4, k5⟩ := est W0 d0 v1 (by grind) x2 (by grind) k3
      exact fin (p := 0) (pos x2 hγ2) (small x2 hγ2 c) (by rw [g2] at k4; grind) (by rw [g2] at k5; grind)
  · intro f
    by_cases c : W ≤ 2 * Y1
    · have k := a2 (by have := Rat.mul_nonneg f (Rat.le_of_lt pb2); grind)
      have k2 := Rat.mul_le_mul_of_nonneg_right k (Rat.le_of_lt Yy)
      have k3 : W * d ≤ X2 * Y1 * s1 := by rw [← hy2]; grind
      obtain ⟨k4, k5⟩ := est W0 d0 x2 (by grind) v1 (by grind) k3
      exact fin (p := 0) (pos v1 hβ1) (small v1 hβ1 c) (by rw [e1] at k4; grind) (by rw [e1] at k5; grind)
    · have c : W ≤ 2 * X1 := by grind
      have k := b1 (by have := Rat.mul_nonneg f (Rat.le_of_lt pg2); grind)
      have k2 := Rat.mul_le_mul_of_nonneg_right k (Rat.le_of_lt Xx)
      have k3 : W * d ≤ Y2 * X1 * -t1 := by rw [← hz2]; grind
      obtain ⟨k4, k5⟩ := est W0 d0 v2 (by grind) x1 (by grind) k3
      exact fin (p := 0) (pos x1 hγ1) (small x1 hγ1 c) (by rw [g1] at k4; grind) (by rw [g1] at k5; grind)
end Rt

/-! pegs are steep -/
namespace Rt
theorem hor_sgn {u : Int × Int} (hu : 0 < u.2) (xs : List Int) : (0 < evR xs (pt u) ↔ 0 < (hor u.1 u.2 xs).1) ∧ (evR xs (pt u) < 0 ↔ (hor u.1 u.2 xs).1 < 0) := by
  have h := hor_R (t := u.1) (b := u.2) (by omega) xs
  have b := cast_pos hu
  have p := qpow_pos b xs.length
  unfold pt
  generalize evR xs _ = F at *
  generalize (u.2 : Rat) ^ xs.length = q at *
  have up : ∀ {F H q b : Rat}, 0 < q → 0 < b → F * q = H * b → 0 < F → 0 < H := fun {F H q b} hq hb h k => by
    apply Classical.byContradiction
    intro no
    have k1 := Rat.mul_pos k hq
    have k2 := Rat.mul_nonneg (show 0 ≤ -H by grind) (Rat.le_of_lt hb)
    grind
  have c1 : (0 : Rat) < ((hor u.1 u.2 xs).1 : Rat) ↔ 0 < (hor u.1 u.2 xs).1 := by
    constructor <;> intro k <;> exact_mod_cast k
  have c2 : ((hor u.1 u.2 xs).1 : Rat) < 0 ↔ (hor u.1 u.2 xs).1 < 0 := by
    constructor <;> intro k <;> exact_mod_cast k
  rw [← c1, ← c2]
  generalize ((hor u.1 u.2 xs).1 : Rat) = H at *
  refine ⟨⟨up p b h, up b p h.symm⟩, ⟨fun k => ?_, fun k => ?_⟩⟩
  · have := up (F := -F) (H := -H) p b (by grind) (by grind); grind
  · have := up (F := -H) (H := -F) b p (by grind) (by grind); grind
theorem head_of {S : List Int} {a : Int} (h : 0 < S.getD 0 0) : ∃ r, S = S.getD 0 0 :: r := by
  cases S with
  | nil => simp at h
  | cons b r => exact ⟨r, rfl⟩
theorem chg_smul {σ : Int} (h : σ = 1 ∨ σ = -1) (S : List Int) : chg 0 (smul σ S) = chg 0 S := by
  rcases h with rfl | rfl
  · have : smul 1 S = S := by
      unfold smul
      have : (fun a : Int => 1 * a) = id := by funext a; exact Int.one_mul a
      rw [this, List.map_id]
    rw [this]
  · have := chg_opp S 0
    rwa [Int.neg_zero] at this
theorem ev_zero (S : List Int) : ev S 0 = S.getD 0 0 := by
  cases S with
  | nil => rfl
  | cons a r => show a + 0 * ev r 0 = a; omega
theorem smul_get (k : Int) (S : List Int) : (smul k S).getD 0 0 = k * S.getD 0 0 := getD_smul k S 0
theorem rev_get (S : List Int) : S.reverse.getD 0 0 = lastZ S := by
  unfold lastZ
  rw [List.getD_eq_getElem?_getD, ← List.head?_eq_getElem?, List.head?_reverse]
/-- the steepness -/
def stp (u v : Int × Int) (n : Nat) : Rat := 1 / ((pt v - pt u) * (2 * ((u.2 : Rat) * v.2)) ^ n)
theorem Pg.sl {xs : List Int} {u v : Int × Int} {n : Nat} (p : Pg xs u v) (hn : xs.length = n + 1) {σ : Int} (hs : σ = 1 ∨ σ = -1) (pos : 0 < σ * (hor u.1 u.2 xs).1) :
    Sl (stp u v n) (fun x => (σ : Rat) * evR xs x) (pt u) (pt v) := by
  have o := p.opp
  have neg : σ * (hor v.1 v.2 xs).1 < 0 := by
    rw [neg_iff] at o
    rcases hs with rfl | rfl <;> omega
  have uv := (pt_lt p.pu p.pv).mpr p.lt
  have q0 := Rat.mul_pos (cast_pos p.pu) (cast_pos p.pv)
  have W0 : 0 < pt v - pt u := by grind
  have den := Rat.mul_pos W0 (qpow_pos (show 0 < 2 * ((u.2 : Rat) * v.2) by grind) n)
  have c0 : 0 < stp u v n := by unfold stp; exact qdiv_pos (by decide +kernel) den
  have c1 : stp u v n * ((pt v - pt u) * (2 * ((u.2 : Rat) * v.2)) ^ n) = 1 := by unfold stp; grind
  have su := hor_sgn p.pu xs
  have sv := hor_sgn p.pv xs
  -- the rows
  have S1 : chg 0 (smul σ (seenL u v xs)) = 1 := by rw [chg_smul hs]; exact p.one
  have S2 : chg 0 (smul (-1) (smul σ (seenL u v xs)).reverse) = 1 := by rw [chg_smul (.inr rfl), chg_rev]; exact S1
  have f1 := seen_first (u := u) p.pv xs
  have f2 := seen_last (v := v) p.pu p.ne
  rw [ev_zero] at f1
  have g1 : 0 < (smul σ (seenL u v xs)).getD 0 0 := by
    rw [smul_get]
    unfold SS at f1
    rcases hs with rfl | rfl <;> omega
  have g2 : 0 < (smul (-1) (smul σ (seenL u v xs)).reverse).getD 0 0 := by
    rw [smul_get, rev_get, lastZ_smul]
    unfold SS at f2
    rcases hs with rfl | rfl <;> omega
  obtain ⟨r1, h1⟩ := head_of (a := 0) g1
  obtain ⟨r2, h2⟩ := head_of (a := 0) g2
  have main : ∀ x y, pt u < x → x < y → y < pt v → ((σ : Rat) * evR xs x ≤ 0 → y - x ≤ (pt v - pt u) * (-((σ : Rat) * evR xs y) * (2 * ((u.2 : Rat) * v.2)) ^ n)) ∧ (0 ≤ (σ : Rat) * evR xs y → y - x ≤ (pt v - pt u) * ((σ : Rat) * evR xs x * (2 * ((u.2 : Rat) * v.2)) ^ n)) := fun x y hx hxy hy => by
    have X1 : 0 < x - pt u := by grind
    have X2 : 0 < y - pt u := by grind
    have Y1 : 0 < pt v - x := by grind
    have Y2 : 0 < pt v - y := by grind
    have e1 := seen_X p.pu p.pv hn hx (show x < pt v by grind)
    have e2 := seen_X p.pu p.pv hn (show pt u < y by grind) hy
    have yp1 := qdiv_pos X1 Y1
    have yp2 := qdiv_pos X2 Y2
    have zp1 := qdiv_pos Y1 X1
    have zp2 := qdiv_pos Y2 X2
    have ylt : (x - pt u) / (pt v - x) < (y - pt u) / (pt v - y) := by
      rw [Rat.div_lt_iff Y1]
      have : (y - pt u) / (pt v - y) * (pt v - x) = (y - pt u) * (pt v - x) / (pt v - y) := by grind
      rw [this, Rat.lt_div_iff Y2]
      have := Rat.mul_pos W0 (show 0 < y - x by grind)
      grind
    have zlt : (pt v - y) / (y - pt u) < (pt v - x) / (x - pt u) := by
      rw [Rat.div_lt_iff X2]
      have : (pt v - x) / (x - pt u) * (y - pt u) = (pt v - x) * (y - pt u) / (x - pt u) := by grind
      rw [this, Rat.lt_div_iff X1]
      have := Rat.mul_pos W0 (show 0 < y - x by grind)
      grind
    have k1 := once_step yp1 ylt (a := (smul σ (seenL u v xs)).getD 0 0) (r := r1) g1 (by rw [← h1]; exact S1)
    have k2 := once_step zp2 zlt (a := (smul (-1) (smul σ (seenL u v xs)).reverse).getD 0 0) (r := r2) g2 (by rw [← h2]; exact S2)
    rw [← h1] at k1
    rw [← h2] at k2
    have sl : (smul σ (seenL u v xs)).length = n + 1 := by unfold smul; rw [List.length_map, seen_len, hn]
    have rv : ∀ x, pt u < x → x < pt v → evR (smul (-1) (smul σ (seenL u v xs)).reverse) ((pt v - x) / (x - pt u)) = -((σ : Rat) * evR xs x * ((u.2 : Rat) * v.2 * ((pt v - pt u) / (x - pt u))) ^ n) := fun x hx hy => by
      have X1 : 0 < x - pt u := by grind
      have Y1 : 0 < pt v - x := by grind
      have e1 := seen_X p.pu p.pv hn hx hy
      have yp1 := qdiv_pos X1 Y1
      have r := revR (y := (x - pt u) / (pt v - x)) (z := (pt v - x) / (x - pt u)) (by grind) (smul σ (seenL u v xs))
      rw [sl, evR_smul, e1, Rat.pow_succ] at r
      have eg : (u.2 : Rat) * v.2 * ((pt v - pt u) / (pt v - x)) = (u.2 : Rat) * v.2 * ((pt v - pt u) / (x - pt u)) * ((x - pt u) / (pt v - x)) := by grind
      rw [eg, qmul_pow] at r
      rw [evR_smul]
      have m1 : ((-1 : Int) : Rat) = -1 := rfl
      rw [m1]
      have yn := qpow_pos yp1 n
      have ynn := Rat.mul_pos yn yp1
      generalize evR (smul σ (seenL u v xs)).reverse _ = R at *
      generalize ((x - pt u) / (pt v - x)) ^ n = Yn at *
      generalize (x - pt u) / (pt v - x) = Y at *
      generalize ((u.2 : Rat) * v.2 * ((pt v - pt u) / (x - pt u))) ^ n = G at *
      have : (R - (σ : Rat) * evR xs x * G) * (Yn * Y) = 0 := by grind
      rcases Rat.mul_eq_zero.mp this with z | z
      · grind
      · grind
    have t1 := rv x hx (by grind)
    have t2 := rv y (by grind) hy
    exact steep n X1 X2 Y1 Y2 (W := pt v - pt u) (by grind) (by grind) (by grind) (show 0 < y - x by grind) q0 (by grind) (by grind) (by grind) (by grind)
      (β1 := (u.2 : Rat) * v.2 * ((pt v - pt u) / (pt v - x))) (β2 := (u.2 : Rat) * v.2 * ((pt v - pt u) / (pt v - y))) (γ1 := (u.2 : Rat) * v.2 * ((pt v - pt u) / (x - pt u))) (γ2 := (u.2 : Rat) * v.2 * ((pt v - pt u) / (y - pt u))) (by grind) (by grind) (by grind) (by grind)
      (by rw [evR_smul, e1]; grind) (by rw [evR_smul, e2]; grind) t1 t2 k1.1 k1.2 k2.1 k2.2
  have fin : ∀ {d F : Rat}, d ≤ (pt v - pt u) * (F * (2 * ((u.2 : Rat) * v.2)) ^ n) → stp u v n * d ≤ F := fun {d F} h => by
    have := Rat.mul_le_mul_of_nonneg_left (c := stp u v n) h (Rat.le_of_lt c0)
    generalize stp u v n = c at *
    generalize (2 * ((u.2 : Rat) * v.2)) ^ n = B at *
    generalize pt v - pt u = W at *
    have e : c * (W * (F * B)) = F * (c * (W * B)) := by grind
    rw [e, c1] at this
    grind
  refine ⟨c0, uv, ?_, ?_, fun x y a b c d => fin ((main x y a b c).1 d), fun x y a b c d => fin ((main x y a b c).2 d)⟩
  · show 0 < (σ : Rat) * evR xs (pt u)
    rcases hs with rfl | rfl
    · have := su.1.mpr (by omega); have e : ((1 : Int) : Rat) = 1 := rfl; grind
    · have := su.2.mpr (by omega); have e : ((-1 : Int) : Rat) = -1 := rfl; grind
  · show (σ : Rat) * evR xs (pt v) < 0
    rcases hs with rfl | rfl
    · have := sv.2.mpr (by omega); have e : ((1 : Int) : Rat) = 1 := rfl; grind
    · have := sv.1.mpr (by omega); have e : ((-1 : Int) : Rat) = -1 := rfl; grind
end Rt

/-! factors of a row: how large, how fast they change -/
namespace Rt
theorem nodes {L M : Nat} {f r v : List Int} (hL : L ≤ 13) (hf : f = mulL r v) (hb : Bd M f) (hl : f.length ≤ L) (hr : lastZ r ≠ 0) (hv : lastZ v ≠ 0) :
    ∃ S : List Int, S.length = v.length ∧ S.Nodup ∧ ∀ x ∈ S, x.natAbs ≤ 6 ∧ (ev v x).natAbs ≤ L * (M * 6 ^ (L - 1)) := by
  have rn := lastZ_ne hr
  have vn := lastZ_ne hv
  have vp := List.length_pos_iff.mpr vn
  have rp := List.length_pos_iff.mpr rn
  have hlen := mulL_len rn vn
  rw [← hf] at hlen
  let S0 : List Int := (List.range f.length).map fun k : Nat => (k : Int) - 6
  have nd0 : S0.Nodup := by
    refine List.Pairwise.map _ (fun x y (h : x ≠ y) => ?_) List.nodup_range
    intro e; apply h; omega
  have in0 : ∀ x ∈ S0, x.natAbs ≤ 6 := fun x hx => by
    obtain ⟨k, hk, rfl⟩ := List.mem_map.mp hx
    have := List.mem_range.mp hk
    omega
  have len0 : S0.length = f.length := by show (List.map _ _).length = _; rw [List.length_map, List.length_range]
  have hroots : (S0.filter fun x => ev r x == 0).length ≤ r.length - 1 := roots_le (r.length - 1) (p := r) (by omega) (by
    obtain ⟨K, hK⟩ := far_ne (p := r) hr
    exact ⟨(K : Int), hK K (Nat.le_refl _)⟩) (nd0.sublist List.filter_sublist) fun x hx => by
    have := (List.mem_filter.mp hx).2
    exact of_decide_eq_true (by simpa using this)
  have split := filter_split (fun x => ev r x == 0) S0
  refine ⟨(S0.filter fun x => !(ev r x == 0)).take v.length, by rw [List.length_take]; omega, nd0.sublist ((List.take_sublist _ _).trans List.filter_sublist), fun x hx => ?_⟩
  have sub : List.Sublist ((S0.filter fun x => !(ev r x == 0)).take v.length) S0 := (List.take_sublist _ _).trans List.filter_sublist
  have hx0 := sub.subset hx
  have x6 := in0 x hx0
  refine ⟨x6, ?_⟩
  have hr1 : ev r x ≠ 0 := by
    have := (List.mem_filter.mp (List.mem_of_mem_take hx)).2
    intro e
    rw [e] at this
    exact absurd this (by decide)
  have e : (ev f x).natAbs = (ev r x).natAbs * (ev v x).natAbs := by rw [hf, ev_mulL, Int.natAbs_mul]
  have u := ev_ub hb x6 (by decide)
  have u2 : f.length * (M * 6 ^ (f.length - 1)) ≤ L * (M * 6 ^ (L - 1)) := Nat.mul_le_mul hl (Nat.mul_le_mul_left _ (Nat.pow_le_pow_right (by decide) (by omega)))
  have u3 : 1 * (ev v x).natAbs ≤ (ev r x).natAbs * (ev v x).natAbs := Nat.mul_le_mul_right _ (by omega)
  omega
theorem ev_int (p : List Int) (x : Int) : evR p (x : Rat) = ((ev p x : Int) : Rat) := by
  induction p with
  | nil => rfl
  | cons a r ih =>
    show (a : Rat) + (x : Rat) * evR r x = ((a + x * ev r x : Int) : Rat)
    rw [ih, Rat.intCast_add, Rat.intCast_mul]
/-- by the values at as many places as there are numbers: how large, how fast -/
theorem node_bd {R : Rat} (hR : 1 ≤ R) : ∀ (m : Nat) (B : Rat) {v : List Int} {S : List Int}, v.length ≤ m + 1 → S.length = m + 1 → S.Nodup → (∀ s ∈ S, s.natAbs ≤ 6 ∧ qa (evR v (s : Rat)) ≤ B) →
    (∀ x, qa x ≤ R → qa (evR v x) ≤ B * (2 * R + 14) ^ m) ∧ (∀ x y, qa x ≤ R → qa y ≤ R → qa (evR v x - evR v y) ≤ B * (2 * R + 14) ^ m * qa (x - y))
  | 0, B, v, S, hl, hS, _, h => by
    match S, hS with
    | s :: S', _ =>
      have e : ∀ x y, evR v x = evR v y := fun x y => by
        match v, hl with
        | [], _ => rfl
        | [a], _ => show (a : Rat) + x * 0 = (a : Rat) + y * 0; grind
      have hs := (h s List.mem_cons_self).2
      have B0 : 0 ≤ B := Rat.le_trans (qa_nn _) hs
      rw [Rat.pow_zero]
      refine ⟨fun x _ => by rw [e x s]; grind, fun x y _ _ => ?_⟩
      rw [e x y]
      have : evR v y - evR v y = 0 := by grind
      rw [this, qa_zero]
      have := Rat.mul_nonneg B0 (qa_nn (x - y))
      grind
  | m + 1, B, v, S, hl, hS, hn, h => by
    match S, hS with
    | s :: S', hS =>
      have hs := h s List.mem_cons_self
      have key : ∃ q : List Int, q.length ≤ m + 1 ∧ ∀ T : Int, ev v T = (T - s) * ev q T + ev v s := by
        match v, hl with
        | [], _ => exact ⟨[], by simp, fun T => by simp [ev]⟩
        | a :: r, hl => exact ⟨synL s r, by rw [synL_len]; simp only [List.length_cons] at hl; omega, fun T => ev_syn T s a r⟩
      obtain ⟨q, ql, hq⟩ := key
      have hqR : ∀ x, evR v x = (x - s) * evR q x + evR v s := fun x => by
        have k := evR_of (p := v) (q := addL (mulL [-s, 1] q) [ev v s]) (fun T => by
          rw [ev_addL, ev_mulL, hq T]
          show _ = (-s + T * (1 + T * 0)) * ev q T + (ev v s + T * 0)
          grind) x
        rw [k, evR_addL, evR_mulL, ev_int]
        show (((-s : Int) : Rat) + x * (((1 : Int) : Rat) + x * 0)) * evR q x + (((ev v s : Int) : Rat) + x * 0) = _
        have e1 : ((1 : Int) : Rat) = 1 := rfl
        rw [Rat.intCast_neg, e1]; grind
      have B0 : 0 ≤ B := Rat.le_trans (qa_nn _) hs.2
      have s6 : qa (s : Rat) ≤ 6 := ab_cast (m := 6) hs.1
      obtain ⟨i1, i2⟩ := node_bd hR m (2 * B) (v := q) (S := S') ql (by simp only [List.length_cons] at hS; omega) (List.nodup_cons.mp hn).2 (fun x hx => by
        have h1 := h x (List.mem_cons_of_mem _ hx)
        refine ⟨h1.1, ?_⟩
        have ne : x ≠ s := fun e => (List.nodup_cons.mp hn).1 (e ▸ hx)
        have e := hqR x
        have e2 : ((x : Rat) - s) * evR q x = evR v x - evR v s := by grind
        have e3 := qa_sub (evR v x) (evR v s)
        rw [← e2, qa_mul] at e3
        have one : 1 ≤ qa ((x : Rat) - s) := by
          have : (x : Rat) - s = ((x - s : Int) : Rat) := by rw [Rat.intCast_sub]
          rw [this]
          rcases Int.lt_trichotomy (x - s) 0 with z | z | z
          · have k := Rat.intCast_le_intCast.mpr (show x - s ≤ -1 by omega)
            have k1 : ((-1 : Int) : Rat) = -1 := rfl
            rw [k1] at k
            have := (qa_ge (x := ((x - s : Int) : Rat))).2
            grind
          · omega
          · have k := Rat.intCast_le_intCast.mpr (show (1 : Int) ≤ x - s by omega)
            have k1 : ((1 : Int) : Rat) = 1 := rfl
            rw [k1] at k
            have := (qa_ge (x := ((x - s : Int) : Rat))).1
            grind
        have e4 := Rat.mul_le_mul_of_nonneg_right one (qa_nn (evR q x))
        have h2 := hs.2
        have h3 := h1.2
        grind)
      have E0 : 0 ≤ (2 * R + 14) := by grind
      have P0 := qpow_nn E0 m
      have P1 := qpow_one (show 1 ≤ 2 * R + 14 by grind) m
      have BP := Rat.mul_nonneg B0 P0
      have Bx : B ≤ B * (2 * R + 14) ^ m := by have := Rat.mul_le_mul_of_nonneg_left (c := B) P1 B0; grind
      have d6 : ∀ x, qa x ≤ R → qa (x - s) ≤ R + 6 := fun x hx => by have := qa_sub x (s : Rat); grind
      constructor
      · intro x hx
        have a1 := qa_add ((x - s) * evR q x) (evR v s)
        rw [← hqR x, qa_mul] at a1
        have a2 := qmul_le (qa_nn _) (d6 x hx) (qa_nn _) (i1 x hx)
        have h2 := hs.2
        rw [Rat.pow_succ]
        generalize (2 * R + 14) ^ m = P at *
        grind
      · intro x y hx hy
        have e : evR v x - evR v y = (x - y) * evR q x + (y - s) * (evR q x - evR q y) := by rw [hqR x, hqR y]; grind
        have a1 := qa_add ((x - y) * evR q x) ((y - s) * (evR q x - evR q y))
        rw [← e, qa_mul, qa_mul] at a1
        have a2 := Rat.mul_le_mul_of_nonneg_left (c := qa (x - y)) (i1 x hx) (qa_nn _)
        have a3 := qmul_le (qa_nn _) (d6 y hy) (qa_nn _) (i2 x y hx hy)
        have d0 := Rat.mul_nonneg BP (qa_nn (x - y))
        rw [Rat.pow_succ]
        generalize (2 * R + 14) ^ m = P at *
        generalize qa (x - y) = d at *
        have e1 : d * (2 * B * P) = 2 * (B * P * d) := by grind
        have e2 : (R + 6) * (2 * B * P * d) = 2 * (R + 6) * (B * P * d) := by grind
        have e3 : B * (P * (2 * R + 14)) * d = (2 * R + 14) * (B * P * d) := by grind
        rw [e3]
        grind
/-- of a factor -/
theorem fac_R {L M : Nat} {f r v : List Int} {R : Rat} (hR : 1 ≤ R) (hL : L ≤ 13) (hf : f = mulL r v) (hb : Bd M f) (hl : f.length ≤ L) (hr : lastZ r ≠ 0) (hv : lastZ v ≠ 0) :
    Lp (evR v) (((L * (M * 6 ^ (L - 1)) : Nat) : Rat) * (2 * R + 14) ^ L) (-R) R := by
  obtain ⟨S, s1, s2, s3⟩ := nodes hL hf hb hl hr hv
  have vp := List.length_pos_iff.mpr (lastZ_ne hv)
  have rp := List.length_pos_iff.mpr (lastZ_ne hr)
  have hlen := mulL_len (lastZ_ne hr) (lastZ_ne hv)
  rw [← hf] at hlen
  obtain ⟨m, hm⟩ : ∃ m, v.length = m + 1 := ⟨v.length - 1, by omega⟩
  obtain ⟨i1, i2⟩ := node_bd hR m ((L * (M * 6 ^ (L - 1)) : Nat) : Rat) (v := v) (S := S) (by omega) (by omega) s2 fun s hs => ⟨(s3 s hs).1, by rw [ev_int]; exact ab_cast (s3 s hs).2⟩
  have pm := qpow_mono (show 1 ≤ 2 * R + 14 by grind) (show m ≤ L by omega)
  have k := Rat.mul_le_mul_of_nonneg_left (c := ((L * (M * 6 ^ (L - 1)) : Nat) : Rat)) pm (cast_nn _)
  refine ⟨fun x h1 h2 => Rat.le_trans (i1 x (by rw [qa_le]; grind)) k, fun x y h1 h2 h3 h4 => Rat.le_trans (i2 x y (by rw [qa_le]; grind) (by rw [qa_le]; grind)) (Rat.mul_le_mul_of_nonneg_right k (qa_nn _))⟩
end Rt

/-! two pegs: the same number, or apart after so many halvings -/
namespace Rt
/-- halved so often -/
def hk (xs : List Int) (u v : Int × Int) : Nat → (Int × Int) × (Int × Int)
  | 0 => (u, v)
  | k + 1 => halfV xs (hk xs u v k).1 (hk xs u v k).2
theorem pt_sub {u v : Int × Int} (hu : 0 < u.2) (hv : 0 < v.2) : (pt v - pt u) * ((u.2 : Rat) * v.2) = ((v.1 * u.2 - u.1 * v.2 : Int) : Rat) := by
  have a := cast_pos hu
  have b := cast_pos hv
  unfold pt
  rw [Rat.intCast_sub, Rat.intCast_mul, Rat.intCast_mul]
  generalize (u.2 : Rat) = x at *
  generalize (v.2 : Rat) = y at *
  have : x ≠ 0 := by grind
  have : y ≠ 0 := by grind
  grind
theorem half_R {xs : List Int} {u v : Int × Int} (p : Pg xs u v) : pt (halfV xs u v).2 - pt (halfV xs u v).1 = (pt v - pt u) / 2 := by
  have e := half_wide p
  have q := p.half
  have k1 := pt_sub p.pu p.pv
  have k2 := pt_sub q.pu q.pv
  have a := Rat.mul_pos (cast_pos p.pu) (cast_pos p.pv)
  have b := Rat.mul_pos (cast_pos q.pu) (cast_pos q.pv)
  generalize (halfV xs u v).1 = l at *
  generalize (halfV xs u v).2 = h at *
  have e : ((2 * (h.1 * l.2 - l.1 * h.2) * (u.2 * v.2) : Int) : Rat) = (((v.1 * u.2 - u.1 * v.2) * (l.2 * h.2) : Int) : Rat) := by rw [e]
  rw [Rat.intCast_mul, Rat.intCast_mul, Rat.intCast_mul, Rat.intCast_mul _ (l.2 * h.2), Rat.intCast_mul, ← k1, ← k2] at e
  have two : ((2 : Int) : Rat) = 2 := rfl
  rw [two] at e
  generalize (u.2 : Rat) * v.2 = x at *
  generalize (l.2 : Rat) * h.2 = y at *
  have xy := Rat.mul_pos a b
  have : (2 * (pt h - pt l) - (pt v - pt u)) * (x * y) = 0 := by grind
  rcases Rat.mul_eq_zero.mp this with z | z
  · grind
  · grind
theorem pt_le {u v : Int × Int} (hu : 0 < u.2) (hv : 0 < v.2) (h : ¬ PL v u) : pt u ≤ pt v := by
  rw [← pt_lt hv hu] at h
  grind
theorem hk_ok {n a b : Nat} {D M : Int} {xs : List Int} {u v : Int × Int} (p : PgS n a b D M xs u v) : ∀ k : Nat,
    PgS n (a + 2 * k) b (4 ^ k * D) M xs (hk xs u v k).1 (hk xs u v k).2 ∧ pt u ≤ pt (hk xs u v k).1 ∧ pt (hk xs u v k).2 ≤ pt v ∧ (pt (hk xs u v k).2 - pt (hk xs u v k).1) * 2 ^ k = pt v - pt u
  | 0 => by
    refine ⟨?_, Rat.le_refl, Rat.le_refl, by rw [Rat.pow_zero]; show (pt v - pt u) * 1 = _; grind⟩
    rw [Int.pow_zero, Int.one_mul]; exact p
  | k + 1 => by
    obtain ⟨q, h1, h2, h3⟩ := hk_ok p k
    have hi := half_in q.pg
    have hR := half_R q.pg
    have qh := q.half
    refine ⟨?_, Rat.le_trans h1 (pt_le q.pg.pu qh.pg.pu hi.1), Rat.le_trans (pt_le qh.pg.pv q.pg.pv hi.2) h2, ?_⟩
    · rw [Int.pow_succ, show (4 : Int) ^ k * 4 * D = 4 * (4 ^ k * D) by grind]
      exact qh
    · rw [Rat.pow_succ]
      show (pt (halfV xs (hk xs u v k).1 (hk xs u v k).2).2 - pt (halfV xs (hk xs u v k).1 (hk xs u v k).2).1) * _ = _
      rw [hR, ← h3]; grind
/-- the sign at the low end; the row so taken that it goes down -/
def sg (xs : List Int) (u : Int × Int) : Int := sgn (hor u.1 u.2 xs).1
def fn (xs : List Int) (u : Int × Int) (x : Rat) : Rat := (sg xs u : Rat) * evR xs x
theorem sg_or {xs : List Int} {u : Int × Int} (h : (hor u.1 u.2 xs).1 ≠ 0) : (sg xs u = 1 ∨ sg xs u = -1) ∧ 0 < sg xs u * (hor u.1 u.2 xs).1 := by
  unfold sg sgn
  split <;> (try split) <;> omega
theorem Pg.sl' {xs : List Int} {u v : Int × Int} {n : Nat} (p : Pg xs u v) (hn : xs.length = n + 1) : Sl (stp u v n) (fn xs u) (pt u) (pt v) :=
  p.sl hn (sg_or p.nu).1 (sg_or p.nu).2
theorem opp_R {xs : List Int} {u v : Int × Int} (p : Pg xs u v) : evR xs (pt u) * evR xs (pt v) < 0 := by
  have o := p.opp
  rw [neg_iff] at o
  have a := hor_sgn p.pu xs
  have b := hor_sgn p.pv xs
  rcases o.symm with ⟨x, y⟩ | ⟨x, y⟩
  · have := Rat.mul_pos (show 0 < -evR xs (pt u) by have := a.2.mpr (by omega); grind) (b.1.mpr (by omega)); grind
  · have := Rat.mul_pos (a.1.mpr (by omega)) (show 0 < -evR xs (pt v) by have := b.2.mpr (by omega); grind); grind
/-- a stretch within, with unlike signs: above nought at its low end -/
theorem Sl.inner {c u v l h : Rat} {f : Rat → Rat} (s : Sl c f u v) (h1 : u ≤ l) (h2 : l < h) (h3 : h ≤ v) (o : f l * f h < 0) : 0 < f l ∧ f h < 0 := by
  have k1 : 0 < f l := by
    apply Classical.byContradiction
    intro no
    have ne : l ≠ u := fun z => by have := s.fu; rw [← z] at this; grind
    have := s.past (x := l) (y := h) (by grind) h2 h3 (by grind)
    have := Rat.mul_nonneg (show 0 ≤ -f l by grind) (show 0 ≤ -f h by grind)
    grind
  refine ⟨k1, ?_⟩
  apply Classical.byContradiction
  intro no
  have := Rat.mul_nonneg (Rat.le_of_lt k1) (show 0 ≤ f h by grind)
  grind
def AbvP (xs : List Int) (u v : Int × Int) (x : Rat) : Prop := Abv (fn xs u) (pt u) (pt v) x
def BlwP (xs : List Int) (u v : Int × Int) (x : Rat) : Prop := Blw (fn xs u) (pt u) (pt v) x
def Over (u v u' v' : Int × Int) : Prop := PL u v' ∧ PL u' v
def loV (u u' : Int × Int) : Int × Int := if u.1 * u'.2 < u'.1 * u.2 then u' else u
def hiV (v v' : Int × Int) : Int × Int := if v.1 * v'.2 < v'.1 * v.2 then v else v'
/-- after the halvings: apart, and the one ahead of the other -/
theorem ahead_of {n a b n' a' b' : Nat} {D M D' M' : Int} {xs ys : List Int} {u v u' v' : Int × Int} (p : PgS n a b D M xs u v) (q : PgS n' a' b' D' M' ys u' v') (hx : 2 ≤ xs.length) (hy : 2 ≤ ys.length) {k : Nat} (no : ¬ Over (hk xs u v k).1 (hk xs u v k).2 (hk ys u' v' k).1 (hk ys u' v' k).2) :
    (PL (hk xs u v k).1 (hk ys u' v' k).1 → ∃ x, AbvP xs u v x ∧ BlwP ys u' v' x) ∧ (¬ PL (hk xs u v k).1 (hk ys u' v' k).1 → ∃ x, AbvP ys u' v' x ∧ BlwP xs u v x) := by
  obtain ⟨⟨n1, hn1⟩, ⟨n2, hn2⟩⟩ : (∃ n1, xs.length = n1 + 1) ∧ ∃ n2, ys.length = n2 + 1 := ⟨⟨xs.length - 1, by omega⟩, ⟨ys.length - 1, by omega⟩⟩
  obtain ⟨p1, p2, p3, p4⟩ := hk_ok p k
  obtain ⟨q1, q2, q3, q4⟩ := hk_ok q k
  have sp := p.pg.sl' hn1
  have sq := q.pg.sl' hn2
  have op := opp_R p1.pg
  have oq := opp_R q1.pg
  generalize (hk xs u v k).1 = l at *
  generalize (hk xs u v k).2 = h at *
  generalize (hk ys u' v' k).1 = l' at *
  generalize (hk ys u' v' k).2 = h' at *
  have lt1 := (pt_lt p1.pg.pu p1.pg.pv).mpr p1.pg.lt
  have lt2 := (pt_lt q1.pg.pu q1.pg.pv).mpr q1.pg.lt
  have sq1 : ∀ {xs : List Int} {u l h : Int × Int}, (hor u.1 u.2 xs).1 ≠ 0 → evR xs (pt l) * evR xs (pt h) < 0 → fn xs u (pt l) * fn xs u (pt h) < 0 := fun {xs u l h} nu o => by
    unfold fn
    rcases (sg_or nu).1 with e | e <;> rw [e]
    · have e1 : ((1 : Int) : Rat) = 1 := rfl
      grind
    · have e1 : ((-1 : Int) : Rat) = -1 := rfl
      grind
  have ip := sp.inner p2 lt1 p3 (sq1 p.pg.nu op)
  have iq := sq.inner q2 lt2 q3 (sq1 q.pg.nu oq)
  unfold Over at no
  rw [← pt_lt p1.pg.pu q1.pg.pv, ← pt_lt q1.pg.pu p1.pg.pv] at no
  rw [← pt_lt p1.pg.pu q1.pg.pu]
  constructor
  · intro hl
    have hh : pt h ≤ pt l' := by grind
    exact ⟨pt h, (sp.abv (by grind) p3 ip.2 Rat.le_refl).1, (sq.blw q2 (by grind) iq.1 hh).1⟩
  · intro hl
    have hh : pt h' ≤ pt l := by grind
    exact ⟨pt h', (sq.abv (by grind) q3 iq.2 Rat.le_refl).1, (sp.blw p2 (by grind) ip.1 hh).1⟩

theorem Lp.mono {f : Rat → Rat} {A B lo hi : Rat} (h : Lp f A lo hi) (k : A ≤ B) : Lp f B lo hi :=
  ⟨fun x a b => Rat.le_trans (h.b x a b) k, fun x y a b c d => Rat.le_trans (h.l x y a b c d) (Rat.mul_le_mul_of_nonneg_right k (qa_nn _))⟩
theorem Lp.sgn {f : Rat → Rat} {A lo hi : Rat} (h : Lp f A lo hi) {σ : Int} (hs : σ = 1 ∨ σ = -1) : Lp (fun x => (σ : Rat) * f x) A lo hi := by
  rcases hs with rfl | rfl
  · have : (fun x => ((1 : Int) : Rat) * f x) = f := by funext x; have e1 : ((1 : Int) : Rat) = 1 := rfl; grind
    rw [this]; exact h
  · have : (fun x => ((-1 : Int) : Rat) * f x) = fun x => -f x := by funext x; have e1 : ((-1 : Int) : Rat) = -1 := rfl; grind
    rw [this]; exact h.neg
/-- powers of two -/
def tp (n : Nat) : Rat := 2 ^ n
theorem tp_add (n m : Nat) : tp (n + m) = tp n * tp m := by
  unfold tp
  induction m with
  | zero => rw [Nat.add_zero, Rat.pow_zero]; grind
  | succ m ih => rw [← Nat.add_assoc, Rat.pow_succ, Rat.pow_succ, ih]; grind
theorem tp_pos (n : Nat) : 0 < tp n := qpow_pos (by decide +kernel) n
theorem tp_mono {n m : Nat} (h : n ≤ m) : tp n ≤ tp m := qpow_mono (by decide +kernel) h
theorem tp_one (n : Nat) : 1 ≤ tp n := qpow_one (by decide +kernel) n
theorem tp_cast (n : Nat) : ((2 ^ n : Nat) : Rat) = tp n := by
  unfold tp
  induction n with
  | zero => rfl
  | succ n ih => rw [Nat.pow_succ, Rat.natCast_mul, ih, Rat.pow_succ]; rfl
theorem tp_pow (n m : Nat) : tp n ^ m = tp (n * m) := by
  induction m with
  | zero => rw [Rat.pow_zero, Nat.mul_zero]; rfl
  | succ m ih => rw [Rat.pow_succ, ih, Nat.mul_succ, tp_add]
theorem nat_tp {m n : Nat} (h : m ≤ 2 ^ n) : (m : Rat) ≤ tp n := by
  rw [← tp_cast]; exact_mod_cast h
/-- a row's factor, in powers of two -/
theorem fac_tp {L s b : Nat} {f r v : List Int} (hb1 : 1 ≤ b) (hL : L ≤ 13) (hL1 : 1 ≤ L) (hf : f = mulL r v) (hb : Bd (2 ^ s) f) (hl : f.length ≤ L) (hr : lastZ r ≠ 0) (hv : lastZ v ≠ 0) :
    Lp (evR v) (tp (s + 40 + (b + 4) * L)) (-tp b) (tp b) := by
  refine (fac_R (tp_one b) hL hf hb hl hr hv).mono ?_
  have e6 : (6 : Nat) ^ (L - 1) ≤ 2 ^ 32 := Nat.le_trans (Nat.pow_le_pow_right (by decide) (show L - 1 ≤ 12 by omega)) (by decide)
  have e1 : L * (2 ^ s * 6 ^ (L - 1)) ≤ 2 ^ (s + 40) := by
    have e2 : L * (2 ^ s * 6 ^ (L - 1)) ≤ 2 ^ 4 * (2 ^ s * 2 ^ 32) := Nat.mul_le_mul (by omega) (Nat.mul_le_mul_left _ e6)
    have e3 : (2 : Nat) ^ (s + 40) = 16 * (2 ^ 4 * (2 ^ s * 2 ^ 32)) := by
      rw [Nat.pow_add]
      have : (2 : Nat) ^ 40 = 16 * (2 ^ 4 * 2 ^ 32) := by decide
      rw [this]; generalize (2 : Nat) ^ s = y; generalize (2 : Nat) ^ 4 = z; generalize (2 : Nat) ^ 32 = w; grind
    omega
  have t1 := tp_mono hb1
  have tb : 2 * tp b + 14 ≤ tp (b + 4) := by
    rw [tp_add]
    have e4 : tp 4 = 16 := by decide +kernel
    have e1 : tp 1 = 2 := by decide +kernel
    rw [e4]
    grind
  have tb0 : 0 ≤ 2 * tp b + 14 := by have := tp_pos b; grind
  rw [tp_add, ← tp_pow]
  exact qmul_le (cast_nn _) (nat_tp e1) (qpow_nn tb0 L) (qpow_le tb0 tb L)
/-- values of a row, in powers of two -/
theorem val_tp {L h b : Nat} {U : List Int} (hL : L ≤ 13) (hb : Bd (2 ^ h) U) (hl : U.length ≤ L) {x : Rat} (hx : qa x ≤ tp b) : qa (evR U x) ≤ tp (h + 4 + b * L) := by
  refine Rat.le_trans (ev_bd (tp_one b) hx hb) ?_
  rw [tp_cast, tp_add, tp_add, tp_pow]
  have e1 : (U.length : Rat) ≤ tp 4 := nat_tp (by omega)
  have e2 := tp_mono (Nat.mul_le_mul_left b hl)
  exact qmul_le (Rat.mul_nonneg (Rat.le_of_lt (tp_pos h)) (cast_nn _)) (Rat.mul_le_mul_of_nonneg_left e1 (Rat.le_of_lt (tp_pos h))) (Rat.le_of_lt (tp_pos _)) e2
theorem Dy.R {D M : Int} {u : Int × Int} {b : Nat} (h : Dy D M u) (hm : Lt2 b M) (m0 : 0 ≤ M) : -tp b ≤ pt u ∧ pt u ≤ tp b := by
  have u2 := cast_pos h.pos
  have lo := Rat.intCast_le_intCast.mpr h.lo
  have hi := Rat.intCast_le_intCast.mpr h.hi
  rw [Rat.intCast_neg, Rat.intCast_mul] at lo
  rw [Rat.intCast_mul] at hi
  have mb : (M : Rat) ≤ tp b := by
    rw [← tp_cast]
    have : M ≤ ((2 ^ b : Nat) : Int) := by unfold Lt2 at hm; omega
    exact Rat.intCast_le_intCast.mpr this
  have e : pt u * (u.2 : Rat) = u.1 := by unfold pt; grind
  constructor
  · refine Rat.le_of_mul_le_mul_right (c := (u.2 : Rat)) ?_ u2
    have := Rat.mul_le_mul_of_nonneg_right mb (Rat.le_of_lt u2)
    grind
  · refine Rat.le_of_mul_le_mul_right (c := (u.2 : Rat)) ?_ u2
    have := Rat.mul_le_mul_of_nonneg_right mb (Rat.le_of_lt u2)
    grind
theorem Dy.bot {D M : Int} {u : Int × Int} {a : Nat} (h : Dy D M u) (hd : Lt2 a D) (d0 : 0 < D) : (u.2 : Rat) ≤ tp a := by
  rw [← tp_cast]
  have k := Int.le_of_dvd d0 h.dvd
  have : u.2 ≤ ((2 ^ a : Nat) : Int) := by unfold Lt2 at hd; omega
  exact Rat.intCast_le_intCast.mpr this
/-- how steep, in powers of two -/
theorem stp_tp {n0 a b n : Nat} {D M : Int} {xs : List Int} {u v : Int × Int} (p : PgS n0 a b D M xs u v) : 1 ≤ stp u v n * tp (b + 1 + (2 * a + 1) * n) := by
  have uv := (pt_lt p.pg.pu p.pg.pv).mpr p.pg.lt
  have ru := p.du.R p.lm p.m0
  have rv := p.dv.R p.lm p.m0
  have bu := p.du.bot p.ld p.d0
  have bv := p.dv.bot p.ld p.d0
  have u2 := cast_pos p.pg.pu
  have v2 := cast_pos p.pg.pv
  have q0 := Rat.mul_pos u2 v2
  have W0 : 0 < pt v - pt u := by grind
  have pw := qpow_pos (show 0 < 2 * ((u.2 : Rat) * v.2) by grind) n
  have den := Rat.mul_pos W0 pw
  have c1 : stp u v n * ((pt v - pt u) * (2 * ((u.2 : Rat) * v.2)) ^ n) = 1 := by unfold stp; grind
  have s0 : 0 < stp u v n := by unfold stp; exact qdiv_pos (by decide +kernel) den
  have one : tp 1 = 2 := by decide +kernel
  have e1 : pt v - pt u ≤ tp (b + 1) := by rw [tp_add, one]; grind
  have e2 : 2 * ((u.2 : Rat) * v.2) ≤ tp (2 * a + 1) := by
    rw [tp_add, one, show 2 * a = a + a by omega, tp_add]
    have := qmul_le (Rat.le_of_lt u2) bu (Rat.le_of_lt v2) bv
    grind
  have e3 := qmul_le (Rat.le_of_lt W0) e1 (Rat.le_of_lt pw) (qpow_le (by grind) e2 n)
  rw [tp_pow, ← tp_add] at e3
  have := Rat.mul_le_mul_of_nonneg_left (c := stp u v n) e3 (Rat.le_of_lt s0)
  rw [c1] at this
  exact this
/-- parts of small bottoms are apart -/
theorem gap_tp {u v : Int × Int} {a : Nat} (hu : 0 < u.2) (hv : 0 < v.2) (bu : (u.2 : Rat) ≤ tp a) (bv : (v.2 : Rat) ≤ tp a) (h : pt u < pt v) : 1 ≤ (pt v - pt u) * tp (2 * a) := by
  have e := pt_sub hu hv
  have k := (pt_lt hu hv).mp h
  unfold PL at k
  have k1 := Rat.intCast_le_intCast.mpr (show (1 : Int) ≤ v.1 * u.2 - u.1 * v.2 by omega)
  rw [← e] at k1
  have k2 := qmul_le (Rat.le_of_lt (cast_pos hu)) bu (Rat.le_of_lt (cast_pos hv)) bv
  have k3 := Rat.mul_le_mul_of_nonneg_left (c := pt v - pt u) k2 (by grind)
  rw [show 2 * a = a + a by omega, tp_add]
  have one : ((1 : Int) : Rat) = 1 := rfl
  grind
end Rt

/-! the real number of a peg -/
namespace Rt
namespace Re
theorem ofQ_lt {p q : Rat} : ofQ p < ofQ q ↔ p < q := by
  constructor
  · intro ⟨e, he, N, hN⟩
    have := hN N (Nat.le_refl _)
    have : e ≤ q + -p := this
    grind
  · intro h
    refine ⟨q - p, by grind, 0, fun n _ => ?_⟩
    show q - p ≤ q + -p
    grind
theorem ofQ_le {p q : Rat} : ofQ p ≤ ofQ q ↔ p ≤ q := by
  rw [le_def, ofQ_lt]; grind
theorem ofQ_inj {p q : Rat} : ofQ p = ofQ q ↔ p = q := by
  constructor
  · intro h
    have a : ofQ p ≤ ofQ q := by rw [h]; exact Std.IsPreorder.le_refl _
    have b : ofQ q ≤ ofQ p := by rw [h]; exact Std.IsPreorder.le_refl _
    rw [ofQ_le] at a b
    grind
  · rintro rfl; rfl
theorem mul_pos {a b : Re} (h : 0 < a) (k : 0 < b) : 0 < a * b := by
  have h : pos (a - 0) := h
  have k : pos (b - 0) := k
  show pos (a * b - 0)
  have e : a * b - 0 = (a - 0) * (b - 0) := by grind
  rw [e]; exact pos_mul h k
theorem dens {a b : Re} (h : a < b) : ∃ q : Rat, a < ofQ q ∧ ofQ q < b := by
  induction a using Quotient.ind; induction b using Quotient.ind
  rename_i x y
  obtain ⟨e, he, N, hN⟩ := h
  obtain ⟨N1, h1⟩ := x.h (e / 4) (by grind)
  obtain ⟨N2, h2⟩ := y.h (e / 4) (by grind)
  have hN : ∀ n, N ≤ n → e ≤ y.f n + -x.f n := hN
  refine ⟨(x.f (N + N1 + N2) + y.f (N + N1 + N2)) / 2, ⟨e / 4, by grind, N + N1 + N2, fun n hn => ?_⟩, ⟨e / 4, by grind, N + N1 + N2, fun n hn => ?_⟩⟩
  · have a := hN (N + N1 + N2) (by omega)
    have b := (qa_lt.mp (h1 n (N + N1 + N2) (by omega) (by omega)))
    show e / 4 ≤ (x.f (N + N1 + N2) + y.f (N + N1 + N2)) / 2 + -x.f n
    grind
  · have a := hN (N + N1 + N2) (by omega)
    have b := (qa_lt.mp (h2 n (N + N1 + N2) (by omega) (by omega)))
    show e / 4 ≤ y.f n + -((x.f (N + N1 + N2) + y.f (N + N1 + N2)) / 2)
    grind
end Re
open Re
def evX : List Int → Re → Re
  | [], _ => 0
  | a :: r, x => (a : Re) + x * evX r x
theorem castX (a : Int) : (a : Re) = ofQ (a : Rat) := rfl
theorem castX_add (a b : Int) : ((a + b : Int) : Re) = (a : Re) + b := by rw [castX, castX, castX, ← ofQ_add, Rat.intCast_add]
theorem castX_mul (a b : Int) : ((a * b : Int) : Re) = (a : Re) * b := by rw [castX, castX, castX, ← ofQ_mul, Rat.intCast_mul]
theorem castX_neg (a : Int) : ((-a : Int) : Re) = -(a : Re) := by rw [castX, castX, ← ofQ_neg, Rat.intCast_neg]
theorem castX_lt {a b : Int} : (a : Re) < b ↔ a < b := by rw [castX, castX, ofQ_lt, Rat.intCast_lt_intCast]
theorem castX_le {a b : Int} : (a : Re) ≤ b ↔ a ≤ b := by rw [castX, castX, ofQ_le, Rat.intCast_le_intCast]
theorem castX_inj {a b : Int} : (a : Re) = b ↔ a = b := by rw [castX, castX, ofQ_inj, Rat.intCast_inj]
theorem castX_zero : ((0 : Int) : Re) = 0 := rfl
theorem castX_one : ((1 : Int) : Re) = 1 := rfl
theorem evX_addL : ∀ (p q : List Int) (x : Re), evX (addL p q) x = evX p x + evX q x
  | [], q, x => by simp only [addL, evX]; grind
  | a :: p, [], x => by simp only [addL, evX]; grind
  | a :: p, b :: q, x => by
    show ((a + b : Int) : Re) + x * evX (addL p q) x = (a : Re) + x * evX p x + ((b : Re) + x * evX q x)
    rw [evX_addL p q x, castX_add]; grind
theorem evX_smul (k : Int) : ∀ (p : List Int) (x : Re), evX (smul k p) x = (k : Re) * evX p x
  | [], x => by show (0 : Re) = (k : Re) * 0; grind
  | a :: p, x => by
    show ((k * a : Int) : Re) + x * evX (smul k p) x = (k : Re) * ((a : Re) + x * evX p x)
    rw [evX_smul k p x, castX_mul]; grind
theorem evX_mulL : ∀ (p q : List Int) (x : Re), evX (mulL p q) x = evX p x * evX q x
  | [], q, x => by show (0 : Re) = 0 * evX q x; grind
  | a :: p, q, x => by
    show evX (addL (smul a q) (0 :: mulL p q)) x = ((a : Re) + x * evX p x) * evX q x
    rw [evX_addL, evX_smul]
    show (a : Re) * evX q x + (((0 : Int) : Re) + x * evX (mulL p q) x) = _
    rw [evX_mulL p q x, castX_zero]; grind
theorem evX_same : ∀ {p q : List Int}, (∀ i, p.getD i 0 = q.getD i 0) → ∀ x, evX p x = evX q x
  | [], [], _, _ => rfl
  | [], b :: q, h, x => by
    have h0 : b = 0 := (h 0).symm
    have := evX_same (p := []) (q := q) (fun i => by have := h (i + 1); simpa using this) x
    show (0 : Re) = (b : Re) + x * evX q x
    rw [← this, h0, castX_zero]; show (0 : Re) = 0 + x * 0; grind
  | a :: p, [], h, x => by
    have h0 : a = 0 := h 0
    have := evX_same (p := p) (q := []) (fun i => by have := h (i + 1); simpa using this) x
    show (a : Re) + x * evX p x = (0 : Re)
    rw [this, h0, castX_zero]; show 0 + x * (0 : Re) = 0; grind
  | a :: p, b :: q, h, x => by
    have h0 : a = b := h 0
    have := evX_same (p := p) (q := q) (fun i => by have := h (i + 1); simpa using this) x
    show (a : Re) + x * evX p x = (b : Re) + x * evX q x
    rw [this, h0]
theorem evX_of {p q : List Int} (h : ∀ x, ev p x = ev q x) (x : Re) : evX p x = evX q x :=
  evX_same (fun i => same_of i (N := 0) fun n _ => h n) x
theorem evX_ofQ (q : Rat) : ∀ p : List Int, evX p (ofQ q) = ofQ (evR p q)
  | [] => rfl
  | a :: r => by
    show (a : Re) + ofQ q * evX r (ofQ q) = ofQ ((a : Rat) + q * evR r q)
    rw [evX_ofQ q r, ofQ_add, ofQ_mul]; rfl
theorem evX_mk (x : CS) : ∀ p : List Int, ∃ h, evX p (mk x) = mk ⟨fun n => evR p (x.f n), h⟩
  | [] => ⟨Cau.const 0, rfl⟩
  | a :: r => by
    obtain ⟨h, e⟩ := evX_mk x r
    refine ⟨(Cau.const (a : Rat)).add (x.h.mul h), ?_⟩
    show (a : Re) + mk x * evX r (mk x) = _
    rw [e]; rfl
theorem mk_zero {x : CS} (h : mk x = 0) {e : Rat} (he : 0 < e) : ∃ N, ∀ n, N ≤ n → qa (x.f n) < e := by
  have k : eqC x ⟨fun _ => ((0 : Nat) : Rat), Cau.const _⟩ := Quotient.exact h
  obtain ⟨N, hN⟩ := k e he
  refine ⟨N, fun n hn => ?_⟩
  have := hN n hn
  have z : ((0 : Nat) : Rat) = 0 := rfl
  have this : qa (x.f n - ((0 : Nat) : Rat)) < e := this
  rw [z] at this
  have e : x.f n - 0 = x.f n := by grind
  rw [e] at this
  exact this
/-- a root in the stretch is the number -/
theorem root_at {xs : List Int} {c : Rat} {σ : Int} {u v : Rat} (s : Sl c (fun x => (σ : Rat) * evR xs x) u v) {β : Re} (h1 : ofQ u < β) (h2 : β < ofQ v) (h0 : evX xs β = 0) {x : Rat} (x1 : u < x) (x2 : x < v) :
    ((σ : Rat) * evR xs x ≤ 0 → β ≤ ofQ x) ∧ (0 ≤ (σ : Rat) * evR xs x → ofQ x ≤ β) := by
  have far : ∀ {d : Rat}, 0 < d → ∀ (y : CS), mk y = β → ∀ N, (∀ n, N ≤ n → d ≤ (σ : Rat) * evR xs (y.f n) ∨ (σ : Rat) * evR xs (y.f n) ≤ -d) → False := fun {d} hd y hy N hN => by
    subst hy
    obtain ⟨h, e⟩ := evX_mk y xs
    rw [e] at h0
    have q1 : 0 < qa (σ : Rat) + 1 := by have := qa_nn (σ : Rat); grind
    obtain ⟨M, hM⟩ := mk_zero h0 (qdiv_pos' hd q1)
    have a := hM (N + M) (by omega)
    have b := hN (N + M) (by omega)
    have a : qa (evR xs (y.f (N + M))) < d / (qa (σ : Rat) + 1) := a
    have k := Rat.mul_le_mul_of_nonneg_left (c := qa (σ : Rat)) (Rat.le_of_lt a) (qa_nn _)
    rw [← qa_mul] at k
    have k2 := qa_ge (x := (σ : Rat) * evR xs (y.f (N + M)))
    have k3 : (qa (σ : Rat) + 1) * (d / (qa (σ : Rat) + 1)) = d := by generalize qa (σ : Rat) + 1 = z at *; grind
    have k4 := qdiv_pos' hd q1
    generalize d / (qa (σ : Rat) + 1) = w at *
    generalize qa (σ : Rat) = z at *
    grind
  constructor
  · intro hx
    apply Classical.byContradiction
    intro no
    have lt : ofQ x < β := by rw [le_def] at no; exact Classical.byContradiction fun z => no fun w => z w
    obtain ⟨m, m1, m2⟩ := dens lt
    rw [ofQ_lt] at m1
    obtain ⟨y, hy⟩ := Quotient.exists_rep β
    have hy : mk y = β := hy
    have d0 := Rat.mul_pos s.c0 (show 0 < m - x by grind)
    rw [← hy] at m2 h2
    obtain ⟨e1, he1, N1, hN1⟩ := m2
    obtain ⟨e2, he2, N2, hN2⟩ := h2
    refine far d0 y hy (N1 + N2) fun n hn => .inr ?_
    have a := hN1 n (by omega)
    have b := hN2 n (by omega)
    have a : e1 ≤ y.f n + -m := a
    have b : e2 ≤ v + -y.f n := b
    have k : c * (y.f n - x) ≤ -((σ : Rat) * evR xs (y.f n)) := s.s1 x (y.f n) x1 (by grind) (by grind) hx
    have := Rat.mul_le_mul_of_nonneg_left (c := c) (show m - x ≤ y.f n - x by grind) (Rat.le_of_lt s.c0)
    grind
  · intro hx
    apply Classical.byContradiction
    intro no
    have lt : β < ofQ x := by rw [le_def] at no; exact Classical.byContradiction fun z => no fun w => z w
    obtain ⟨m, m1, m2⟩ := dens lt
    rw [ofQ_lt] at m2
    obtain ⟨y, hy⟩ := Quotient.exists_rep β
    have hy : mk y = β := hy
    have d0 := Rat.mul_pos s.c0 (show 0 < x - m by grind)
    rw [← hy] at m1 h1
    obtain ⟨e1, he1, N1, hN1⟩ := m1
    obtain ⟨e2, he2, N2, hN2⟩ := h1
    refine far d0 y hy (N1 + N2) fun n hn => .inl ?_
    have a := hN1 n (by omega)
    have b := hN2 n (by omega)
    have a : e1 ≤ m + -y.f n := a
    have b : e2 ≤ y.f n + -u := b
    have k : c * (x - y.f n) ≤ (σ : Rat) * evR xs (y.f n) := s.s2 (y.f n) x (by grind) (by grind) x2 hx
    have := Rat.mul_le_mul_of_nonneg_left (c := c) (show x - m ≤ x - y.f n by grind) (Rat.le_of_lt s.c0)
    grind
/-- the number of a peg: the root in its stretch -/
structure Num (xs : List Int) (u v : Int × Int) (α : Re) : Prop where
  lo : ofQ (pt u) < α
  hi : α < ofQ (pt v)
  root : evX xs α = 0
theorem Num.cut {xs : List Int} {u v : Int × Int} {α : Re} (p : Pg xs u v) (hx : 2 ≤ xs.length) (h : Num xs u v α) (x : Rat) : (AbvP xs u v x ↔ α < ofQ x) ∧ (BlwP xs u v x ↔ ofQ x < α) := by
  obtain ⟨n, hn⟩ : ∃ n, xs.length = n + 1 := ⟨xs.length - 1, by omega⟩
  have s := p.sl' hn
  obtain ⟨h1, h2, h0⟩ := h
  have so := (sg_or p.nu).1
  unfold AbvP BlwP Abv Blw
  by_cases c1 : x ≤ pt u
  · have k : ofQ x < α := by have := ofQ_le.mpr c1; grind
    have uv := s.uv
    refine ⟨⟨fun z => by rcases z with z | z <;> grind, fun z => by grind⟩, ⟨fun _ => k, fun _ => .inl c1⟩⟩
  · by_cases c2 : pt v ≤ x
    · have k : α < ofQ x := by have := ofQ_le.mpr c2; grind
      have uv := s.uv
      refine ⟨⟨fun _ => k, fun _ => .inl c2⟩, ⟨fun z => by rcases z with z | z <;> grind, fun z => by grind⟩⟩
    · have r := root_at (σ := sg xs u) s h1 h2 h0 (show pt u < x by grind) (show x < pt v by grind)
      have ne : (fn xs u x ≠ 0) → α ≠ ofQ x := fun z e => z (by
        rw [e, evX_ofQ] at h0
        have : evR xs x = 0 := ofQ_inj.mp h0
        unfold fn; rw [this]; grind)
      have r1 : fn xs u x ≤ 0 → α ≤ ofQ x := r.1
      have r2 : 0 ≤ fn xs u x → ofQ x ≤ α := r.2
      have t1 : fn xs u x < 0 → α < ofQ x := fun z => by have := r1 (by grind); have := ne (by grind); grind
      have t2 : 0 < fn xs u x → ofQ x < α := fun z => by have := r2 (by grind); have := ne (by grind); grind
      refine ⟨⟨fun z => by rcases z with z | z <;> grind, fun z => ?_⟩, ⟨fun z => by rcases z with z | z <;> grind, fun z => ?_⟩⟩
      · refine .inr ⟨by grind, ?_⟩
        apply Classical.byContradiction
        intro no
        have := r2 (by grind)
        grind
      · refine .inr ⟨by grind, ?_⟩
        apply Classical.byContradiction
        intro no
        have := r1 (by grind)
        grind
end Rt

namespace Rt
theorem lo_pt {u u' : Int × Int} (hu : 0 < u.2) (hu' : 0 < u'.2) : pt u ≤ pt (loV u u') ∧ pt u' ≤ pt (loV u u') ∧ (loV u u' = u ∨ loV u u' = u') ∧ 0 < (loV u u').2 := by
  have k := pt_lt hu hu'
  unfold PL at k
  unfold loV
  split
  · rename_i h
    have := k.mpr h
    exact ⟨Rat.le_of_lt this, Rat.le_refl, .inr rfl, hu'⟩
  · rename_i h
    have : ¬ pt u < pt u' := fun z => h (k.mp z)
    exact ⟨Rat.le_refl, by grind, .inl rfl, hu⟩
theorem hi_pt {v v' : Int × Int} (hv : 0 < v.2) (hv' : 0 < v'.2) : pt (hiV v v') ≤ pt v ∧ pt (hiV v v') ≤ pt v' ∧ (hiV v v' = v ∨ hiV v v' = v') ∧ 0 < (hiV v v').2 := by
  have k := pt_lt hv hv'
  unfold PL at k
  unfold hiV
  split
  · rename_i h
    have := k.mpr h
    exact ⟨Rat.le_refl, Rat.le_of_lt this, .inl rfl, hv⟩
  · rename_i h
    have : ¬ pt v < pt v' := fun z => h (k.mp z)
    exact ⟨by grind, Rat.le_refl, .inr rfl, hv'⟩
/-- so many halvings are enough -/
def kMin (L s h a b : Nat) : Nat := 4 + (h + 4 + b * L) + 2 * (s + 40 + (b + 4) * L) + (b + 1) + (b + 1 + (2 * a + 1) * L)
theorem verdict {L s h a b n1 n2 : Nat} {D M D' M' : Int} {xs ys : List Int} {u v u' v' : Int × Int} (p : PgS n1 a b D M xs u v) (q : PgS n2 a b D' M' ys u' v') (hx : 2 ≤ xs.length) (hy : 2 ≤ ys.length) (lx : xs.length ≤ L) (ly : ys.length ≤ L) (hL : L ≤ 13) (hb1 : 1 ≤ b)
    (bx : Bd (2 ^ s) xs) (by' : Bd (2 ^ s) ys) {t A B U V : List Int} {κ : Int} (gt : Good t) (ha : lastZ A ≠ 0) (hb : lastZ B ≠ 0) (ea : xs = mulL t A) (eb : ys = mulL t B) (k0 : κ ≠ 0)
    (bU : Bd (2 ^ h) U) (bV : Bd (2 ^ h) V) (lU : U.length ≤ L) (lV : V.length ≤ L) (eU : ∀ x, ev U x * ev A x + ev V x * ev B x = κ) (ov : Over u v u' v') :
    (evR t (pt (loV u u')) * evR t (pt (hiV v v')) < 0 ∧ ∀ x, (AbvP xs u v x ↔ AbvP ys u' v' x) ∧ (BlwP xs u v x ↔ BlwP ys u' v' x)) ∨
    (0 < evR t (pt (loV u u')) * evR t (pt (hiV v v')) ∧ ∀ K, kMin L s h a b ≤ K → ¬ Over (hk xs u v K).1 (hk xs u v K).2 (hk ys u' v' K).1 (hk ys u' v' K).2) := by
  obtain ⟨⟨m1, hm1⟩, ⟨m2, hm2⟩⟩ : (∃ n1, xs.length = n1 + 1) ∧ ∃ n2, ys.length = n2 + 1 := ⟨⟨xs.length - 1, by omega⟩, ⟨ys.length - 1, by omega⟩⟩
  have sp := p.pg.sl' hm1
  have sq := q.pg.sl' hm2
  obtain ⟨so, _⟩ := sg_or p.pg.nu
  obtain ⟨so', _⟩ := sg_or q.pg.nu
  have tn := gt.ne
  -- bounds
  have pf : Lp (evR xs) (tp (s + 40 + (b + 4) * L)) (-tp b) (tp b) := fac_tp (f := xs) (r := [1]) (v := xs) hb1 hL (by omega) (eq_of_ev (by have := mulL_len (p := [1]) (q := xs) (by simp) p.pg.ne; simp only [List.length_cons, List.length_nil] at this; omega) fun x => by rw [ev_mulL]; simp [ev]) bx lx (by decide) (by
      rw [ea, lastZ_mulL (lastZ_ne tn) (lastZ_ne ha)]; exact Int.mul_ne_zero tn ha)
  have pg : Lp (evR ys) (tp (s + 40 + (b + 4) * L)) (-tp b) (tp b) := fac_tp (f := ys) (r := [1]) (v := ys) hb1 hL (by omega) (eq_of_ev (by have := mulL_len (p := [1]) (q := ys) (by simp) q.pg.ne; simp only [List.length_cons, List.length_nil] at this; omega) fun x => by rw [ev_mulL]; simp [ev]) by' ly (by decide) (by
      rw [eb, lastZ_mulL (lastZ_ne tn) (lastZ_ne hb)]; exact Int.mul_ne_zero tn hb)
  have pt' : Lp (evR t) (tp (s + 40 + (b + 4) * L)) (-tp b) (tp b) := fac_tp (f := xs) (r := A) (v := t) hb1 hL (by omega) (eq_of_ev (by
      have h1 := mulL_len (lastZ_ne tn) (lastZ_ne ha)
      have h2 := mulL_len (lastZ_ne ha) (lastZ_ne tn)
      rw [ea]; omega) fun x => by rw [ea, ev_mulL, ev_mulL, Int.mul_comm]) bx lx ha tn
  have pa := (fac_tp (f := xs) (r := t) (v := A) hb1 hL (by omega) ea bx lx tn ha).sgn so
  have pb := (fac_tp (f := ys) (r := t) (v := B) hb1 hL (by omega) eb by' ly tn hb).sgn so'
  have ru := p.du.R p.lm p.m0
  have rv := p.dv.R p.lm p.m0
  have ru' := q.du.R q.lm q.m0
  have rv' := q.dv.R q.lm q.m0
  have hf : ∀ x, fn xs u x = evR t x * ((sg xs u : Rat) * evR A x) := fun x => by unfold fn; rw [ea, evR_mulL]; grind
  have hg : ∀ x, fn ys u' x = evR t x * ((sg ys u' : Rat) * evR B x) := fun x => by unfold fn; rw [eb, evR_mulL]; grind
  obtain ⟨l1, l2, l3, l4⟩ := lo_pt p.pg.pu q.pg.pu
  obtain ⟨h1, h2, h3, h4⟩ := hi_pt p.pg.pv q.pg.pv
  obtain ⟨o1, o2⟩ := ov
  rw [← pt_lt p.pg.pu q.pg.pv] at o1
  rw [← pt_lt q.pg.pu p.pg.pv] at o2
  have l3' : pt (loV u u') = pt u ∨ pt (loV u u') = pt u' := by rcases l3 with e | e <;> rw [e] <;> simp
  have h3' : pt (hiV v v') = pt v ∨ pt (hiV v v') = pt v' := by rcases h3 with e | e <;> rw [e] <;> simp
  have lh : pt (loV u u') < pt (hiV v v') := by
    have := sp.uv
    have := sq.uv
    rcases l3' with e | e <;> rcases h3' with e2 | e2 <;> rw [e, e2] <;> assumption
  have tl : evR t (pt (loV u u')) ≠ 0 := fun z => by
    rcases l3' with e | e <;> rw [e] at z
    · have := sp.fu; rw [hf, z] at this; grind
    · have := sq.fu; rw [hg, z] at this; grind
  have th : evR t (pt (hiV v v')) ≠ 0 := fun z => by
    rcases h3' with e | e <;> rw [e] at z
    · have := sp.fv; rw [hf, z] at this; grind
    · have := sq.fv; rw [hg, z] at this; grind
  by_cases c : evR t (pt (loV u u')) * evR t (pt (hiV v v')) < 0
  · refine .inl ⟨c, fun x => ?_⟩
    exact one_number sp sq hf hg pt' pa pb ru.1 rv.2 ru'.1 rv'.2 l1 l2 h1 h2 lh c x
  · have c : 0 < evR t (pt (loV u u')) * evR t (pt (hiV v v')) := by have := qmul_ne tl th; grind
    refine .inr ⟨c, fun K hK no => ?_⟩
    obtain ⟨p1, p2, p3, p4⟩ := hk_ok p K
    obtain ⟨q1, q2, q3, q4⟩ := hk_ok q K
    have op := opp_R p1.pg
    have oq := opp_R q1.pg
    generalize (hk xs u v K).1 = l at *
    generalize (hk xs u v K).2 = hh at *
    generalize (hk ys u' v' K).1 = l' at *
    generalize (hk ys u' v' K).2 = hh' at *
    have lt1 := (pt_lt p1.pg.pu p1.pg.pv).mpr p1.pg.lt
    have lt2 := (pt_lt q1.pg.pu q1.pg.pv).mpr q1.pg.lt
    have sq1 : ∀ {xs : List Int} {u l h : Int × Int}, (hor u.1 u.2 xs).1 ≠ 0 → evR xs (pt l) * evR xs (pt h) < 0 → fn xs u (pt l) * fn xs u (pt h) < 0 := fun {xs u l h} nu o => by
      unfold fn
      rcases (sg_or nu).1 with e | e <;> rw [e]
      · have e1 : ((1 : Int) : Rat) = 1 := rfl
        grind
      · have e1 : ((-1 : Int) : Rat) = -1 := rfl
        grind
    have ip := sp.inner p2 lt1 p3 (sq1 p.pg.nu op)
    have iq := sq.inner q2 lt2 q3 (sq1 q.pg.nu oq)
    obtain ⟨n1', n2'⟩ := no
    rw [← pt_lt p1.pg.pu q1.pg.pv] at n1'
    rw [← pt_lt q1.pg.pu p1.pg.pv] at n2'
    have KP := tp_pos K
    -- the width
    have one : tp 1 = 2 := by decide +kernel
    have wide : ∀ {d0 d1 : Rat}, d1 * 2 ^ K = d0 → d0 ≤ tp (b + 1) → d1 ≤ tp (b + 1) / tp K := fun {d0 d1} e k => by
      refine le_qdiv KP ?_
      show d1 * 2 ^ K ≤ _
      rw [e]; exact k
    have w1 := wide p4 (show pt v - pt u ≤ tp (b + 1) by rw [tp_add, one]; grind)
    have w2 := wide q4 (show pt v' - pt u' ≤ tp (b + 1) by rw [tp_add, one]; grind)
    have wK : tp (b + 1) / tp K * tp K = tp (b + 1) := by generalize tp (b + 1) = z; generalize tp K = y at *; grind
    have w0 : 0 < tp (b + 1) / tp K := qdiv_pos (tp_pos _) KP
    have U0 : 0 ≤ tp (h + 4 + b * L) := Rat.le_of_lt (tp_pos _)
    have tb : ∀ x, -tp b ≤ x → x ≤ tp b → qa (evR t x) ≤ tp (h + 4 + b * L) * (qa (fn xs u x) + qa (fn ys u' x)) := fun x x1 x2 => by
      have hx : qa x ≤ tp b := by rw [qa_le]; exact ⟨x1, x2⟩
      have vU := val_tp hL bU lU hx
      have vV := val_tp hL bV lV hx
      have id := evR_of (p := addL (mulL U xs) (mulL V ys)) (q := smul κ t) (fun z => by
        rw [ev_addL, ev_mulL, ev_mulL, ev_smul, ea, eb, ev_mulL, ev_mulL, ← eU z]; grind) x
      rw [evR_addL, evR_mulL, evR_mulL, evR_smul] at id
      have ab : ∀ {xs : List Int} {u : Int × Int}, (sg xs u = 1 ∨ sg xs u = -1) → qa (fn xs u x) = qa (evR xs x) := fun {xs u} s => by
        unfold fn
        rcases s with e | e <;> rw [e]
        · have e1 : ((1 : Int) : Rat) = 1 := rfl
          rw [e1]; congr 1; grind
        · have e1 : ((-1 : Int) : Rat) = -1 := rfl
          rw [e1, ← qa_neg]; congr 1; grind
      rw [ab so, ab so']
      have k1 := qa_add (evR U x * evR xs x) (evR V x * evR ys x)
      rw [id, qa_mul, qa_mul, qa_mul] at k1
      have k2 := Rat.mul_le_mul_of_nonneg_right vU (qa_nn (evR xs x))
      have k3 := Rat.mul_le_mul_of_nonneg_right vV (qa_nn (evR ys x))
      have kk : 1 ≤ qa (κ : Rat) := by
        rcases Int.lt_trichotomy κ 0 with z | z | z
        · have k := Rat.intCast_le_intCast.mpr (show κ ≤ -1 by omega)
          have e1 : ((-1 : Int) : Rat) = -1 := rfl
          have := (qa_ge (x := (κ : Rat))).2
          grind
        · exact absurd z k0
        · have k := Rat.intCast_le_intCast.mpr (show (1 : Int) ≤ κ by omega)
          have e1 : ((1 : Int) : Rat) = 1 := rfl
          have := (qa_ge (x := (κ : Rat))).1
          grind
      have k4 := Rat.mul_le_mul_of_nonneg_right kk (qa_nn (evR t x))
      grind
    have small : ∀ {u v : Int × Int} {xs : List Int} {D M : Int} {n0 n : Nat}, PgS n0 a b D M xs u v → n ≤ L → 12 * tp (h + 4 + b * L) * (tp (s + 40 + (b + 4) * L) * tp (s + 40 + (b + 4) * L)) * (tp (b + 1) / tp K) < stp u v n := fun {u v xs D M n0 n} p hn => by
      have st := stp_tp (n := n) p
      have m := tp_mono (show b + 1 + (2 * a + 1) * n ≤ b + 1 + (2 * a + 1) * L from Nat.add_le_add_left (Nat.mul_le_mul_left _ hn) _)
      have s0 : 0 < stp u v n := by
        apply Classical.byContradiction
        intro no
        have := Rat.mul_nonneg (show 0 ≤ -stp u v n by grind) (Rat.le_of_lt (tp_pos (b + 1 + (2 * a + 1) * n)))
        grind
      have st2 := Rat.mul_le_mul_of_nonneg_left (c := stp u v n) m (Rat.le_of_lt s0)
      have kk := tp_mono hK
      unfold kMin at kk
      rw [show 4 + (h + 4 + b * L) + 2 * (s + 40 + (b + 4) * L) + (b + 1) + (b + 1 + (2 * a + 1) * L) = 4 + (h + 4 + b * L) + ((s + 40 + (b + 4) * L) + (s + 40 + (b + 4) * L)) + (b + 1) + (b + 1 + (2 * a + 1) * L) by omega] at kk
      rw [tp_add _ (b + 1 + (2 * a + 1) * L), tp_add _ (b + 1), tp_add _ ((s + 40 + (b + 4) * L) + (s + 40 + (b + 4) * L)), tp_add 4, tp_add (s + 40 + (b + 4) * L)] at kk
      have e4 : tp 4 = 16 := by decide +kernel
      rw [e4] at kk
      have q1 := tp_pos (h + 4 + b * L)
      have q2 := tp_pos (s + 40 + (b + 4) * L)
      have q3 := tp_pos (b + 1)
      have q4 := tp_pos (b + 1 + (2 * a + 1) * L)
      generalize tp (h + 4 + b * L) = y1 at *
      generalize tp (s + 40 + (b + 4) * L) = y2 at *
      generalize tp (b + 1 + (2 * a + 1) * L) = y4 at *
      generalize stp u v n = c at *
      generalize tp (b + 1) / tp K = w at *
      rw [← wK] at kk q3
      generalize tp K = y5 at *
      have w0' : 0 < w := w0
      -- 16 y1 y2 y2 w y4 ≤ 1
      have g1 : 16 * y1 * (y2 * y2) * w * y4 ≤ 1 := by
        refine Rat.le_of_mul_le_mul_right (c := y5) ?_ KP
        grind
      have g2 : 0 < y1 * (y2 * y2) * w * y4 := Rat.mul_pos (Rat.mul_pos (Rat.mul_pos q1 (Rat.mul_pos q2 q2)) w0') q4
      apply Classical.byContradiction
      intro no
      have := Rat.mul_le_mul_of_nonneg_right (show c ≤ 12 * y1 * (y2 * y2) * w by grind) (Rat.le_of_lt q4)
      grind
    have gap : ∀ {u v : Int × Int}, 0 < u.2 → 0 < v.2 → (u.2 : Rat) ≤ tp a → (v.2 : Rat) ≤ tp a → pt u < pt v → 2 * (tp (b + 1) / tp K) < pt v - pt u := fun {u v} hu hv bu bv k => by
      have g := gap_tp hu hv bu bv k
      have kk := tp_mono (show b + 1 + 2 + 2 * a ≤ K by
        refine Nat.le_trans ?_ hK
        unfold kMin
        have : (2 * a + 1) * 2 ≤ (2 * a + 1) * L := Nat.mul_le_mul_left _ (by omega)
        omega)
      rw [tp_add, tp_add] at kk
      have e4 : tp 2 = 4 := by decide +kernel
      rw [e4] at kk
      have q4 := tp_pos (2 * a)
      generalize tp (2 * a) = y4 at *
      generalize tp (b + 1) / tp K = w at *
      rw [← wK] at kk
      generalize tp K = y5 at *
      have g1 : w * 4 * y4 ≤ 1 := by
        refine Rat.le_of_mul_le_mul_right (c := y5) ?_ KP
        grind
      have g2 := Rat.mul_pos w0 q4
      apply Classical.byContradiction
      intro no
      have := Rat.mul_le_mul_of_nonneg_right (show pt v - pt u ≤ 2 * w by grind) (Rat.le_of_lt q4)
      grind
    exact no_meet sp sq hf hg (pf.sgn so) (pg.sgn so') pt' pa pb ru.1 rv.2 ru'.1 rv'.2 p2 lt1 p3 ip.1 ip.2 w1 q2 lt2 q3 iq.1 iq.2 w2 U0 tb (small p (by omega)) (small q (by omega)) n1' n2' l1 l2 l3' h1 h2 h3' lh
      (gap p.pg.pu q.pg.pv (p.du.bot p.ld p.d0) (q.dv.bot q.ld q.d0)) (gap q.pg.pu p.pg.pv (q.du.bot q.ld q.d0) (p.dv.bot p.ld p.d0)) c
end Rt

/-! any, max, min, bits, shifts, none, a module's number -/
namespace L2
open PySem PySem.Spec PyProof.Rows
section
variable {X : Cx}
def rAnyI (K : PySem.W.Frag) : List V → Hp → VK → Prop := fun vs H Q => ∃ (a : Addr) (ns : List Int), vs = [V.ref a] ∧ SqL K H a (ns.map V.int) ∧ Q (.bl (ns.any fun n => n != 0)) H
theorem truth_ints {prog : Program} {w : World} {A : Around} {ns : List Int} {its : List Value} (e : Vals (ns.map V.int) its) :
    TruthOf prog w A (fun i v => its.toArray[i]? = some v) (fun i => ns.getD i 0 != 0) := fun i v s Q E hv hq => by
  have hi : its[i]? = some v := by simpa using hv
  have hlt := (List.getElem?_eq_some_iff.mp hi).1
  have hl := e.length
  rw [List.length_map] at hl
  have hn : (ns.map V.int)[i]? = some (.int (ns.getD i 0)) := by
    rw [List.getElem?_map, List.getD_eq_getElem?_getD, List.getElem?_eq_getElem (by omega)]; rfl
  obtain ⟨u, h1, h2⟩ := e.get hn
  rw [hi] at h1
  cases h1
  obtain ⟨t, rfl⟩ := h2
  exact PyProof.Rows.truthy_int hq
theorem anyI_range : ∀ ns : List Int, (List.range ns.length).any (fun i => ns.getD i 0 != 0) = ns.any fun n => n != 0
  | [] => rfl
  | n :: ns => by
    have ih := anyI_range ns
    rw [List.length_cons, List.range_succ_eq_map, List.any_cons, List.any_map, List.any_cons, ← ih]
    rfl
theorem cr_anyI (hc : X.calm = true) : CallR X (.builtin "any") (rAnyI X.K) := by
  intro pins s σ H vs us Q I r h
  obtain ⟨a, ns, rfl, hs, q⟩ := h
  obtain ⟨its, rv, hl, hz⟩ := I.list hs
  rw [Vals.ref1 r]
  have ln := rv.length
  rw [List.length_map] at ln
  refine call_any_walk (iter_any hl.isList fun s₂ es st hne => ?_)
  subst es
  refine ⟨_, _, _, _, _, _, _, rfl, Walks.list (A := X.A.in1) (I.ok.hd hc) _ a hne its.toArray, st, truth_ints rv, fun h' tk hk => ?_⟩
  refine ⟨.bl _, H, I.kept fun b o eo => hk b o (fun hm => ?_) (Heap.get?_push_of_some _ eo), ?_, q⟩
  · cases hm with
    | head => exact absurd (Heap.lt_size eo) (Nat.lt_irrefl _)
    | tail _ hm => cases hm
  · show Value.bool _ = Value.bool _
    rw [← anyI_range, List.size_toArray, ln]
def rMin2 : List V → Hp → VK → Prop := fun xs H Q => ∃ i j, xs = [.int i, .int j] ∧ Q (.int (if j < i then j else i)) H
theorem cr_min2 (hc : X.calm = true) : CallR X (.builtin "min") rMin2 := call_min2 hc
def rNotNn : R2 := fun x y H Q => y = .non ∧ Q (.bl (!decide (x = .non))) H
theorem op_notNn : OpR X (compareOp .IsNot) rNotNn := op_notN
/-- a module's number -/
theorem pe_const {x : Str} {pos : Pos} {i : Int} (hg : Gl X x) (h : ∃ t, X.mg x = some (.int i t)) (hdb : (x == ("__debug__" : Str)) = false := by decide) : PE X (.Name x pos) (tC (.int i)) := by
  obtain ⟨t, h⟩ := h
  exact pe_glob hg h ⟨t, rfl⟩ (by assumption)
end
end L2
namespace Rt
open PySem L2 Evl
section
variable {K : PySem.W.Frag} {G : Hp} {B0 B : Hp} {ρ : Rho} {ta tb te : TE} {d e : PyData} {ds : List PyData} {i j : Int} {xs : List Int}
theorem dpa_rD : ∀ {xs : List Int} {vs : List V}, DpAll K G vs (rD xs) → vs = xs.map V.int
  | [], _, h => by cases h; rfl
  | x :: xs, _, h => by
    cases h with
    | cons h1 h2 => rw [dp_int h1, dpa_rD h2]; rfl
theorem ed_anyI (ha : ED K ta ρ (.list (rD xs))) : ED K (tCB (rAnyI K) (tCons ta tNil)) ρ (.bool (xs.any fun n => n != 0)) := fun G H σ I Q q => ha G H σ I _ fun v G2 H2 s hv => by
  cases hv with
  | lst hs hd => exact ⟨_, xs, rfl, by rw [← dpa_rD hd]; exact ex_l s.gh hs, q _ G2 H2 s (.bl _)⟩
theorem ed_max {m : Int} (ha : ED K ta ρ (.list (rD xs))) (hm : m ∈ xs) (hle : ∀ y ∈ xs, y ≤ m) : ED K (tCB (rMax K) (tCons ta tNil)) ρ (.int m) := fun G H σ I Q q => ha G H σ I _ fun v G2 H2 s hv => by
  cases hv with
  | lst hs hd =>
    refine ⟨_, xs, rfl, by rw [← dpa_rD hd]; exact ex_l s.gh hs, List.length_pos_of_mem hm, fun m' h1 h2 => ?_⟩
    have : m' = m := Int.le_antisymm (hle _ h1) (h2 _ hm)
    rw [this]
    exact q _ G2 H2 s (.int _)
theorem ed_min2 (ha : ED K ta ρ (.int i)) (hb : ED K tb ρ (.int j)) : ED K (tCB rMin2 (tCons ta (tCons tb tNil))) ρ (.int (if j < i then j else i)) := fun G H σ I Q q =>
  ha G H σ I _ fun v G1 H1 s1 hv => hb G1 H1 σ (I.step s1) _ fun y G2 H2 s2 hy => by
    cases dp_int hv; cases dp_int hy
    exact ⟨i, j, rfl, q _ G2 H2 (s1.trans s2) (.int _)⟩
theorem ed_bits (ha : ED K te ρ (.int i)) : ED K (tBits te) ρ (.int (Builtin.Int.intBits i : Nat)) := fun G H σ I Q q => ha G H σ I _ fun v G2 H2 s hv => by
  cases dp_int hv
  exact ⟨i, rfl, q _ G2 H2 s (.int _)⟩
theorem ed_shl (ha : ED K ta ρ (.int i)) (hb : ED K tb ρ (.int j)) (hc : CPow i j) : ED K (tOp (rI CPow fun i j => .int (i * 2 ^ j.toNat)) ta tb) ρ (.int (i * 2 ^ j.toNat)) := ed_I (g := fun i j => i * 2 ^ j.toNat) ha hb hc
theorem bits_lt (i : Int) : i.natAbs < 2 ^ (Builtin.Int.intBits i) := by
  unfold Builtin.Int.intBits
  split
  · rename_i h
    have : i = 0 := by simpa using h
    subst this; decide
  · exact Nat.lt_log2_self
theorem bits_ge (i : Int) (h : i ≠ 0) : 2 ^ (Builtin.Int.intBits i) ≤ 2 * i.natAbs := by
  unfold Builtin.Int.intBits
  rw [if_neg (by simpa using h), Nat.pow_succ]
  have := Nat.log2_self_le (n := i.natAbs) (by omega)
  omega
def noneD : PyData → Bool
  | .none => true
  | _ => false
theorem td_notNn (ha : ED K ta ρ d) : TD K (tTest (tOp rNotNn ta (tC .non))) ρ (!noneD d) := fun G H σ I Q q => ha G H σ I _ fun v G2 H2 s hv => by
  refine ⟨rfl, _, rfl, ?_⟩
  have e : (!decide (v = V.non)) = !noneD d := by
    cases hv <;> simp [noneD]
  rw [e]
  exact q G2 H2 s
end
end Rt

namespace Rt
open PySem PySem.Spec PyProof.Rows L2 Evl
/-! the steps that need no thought; «walk_at "ev"» goes on till it is stuck -/
local macro_rules | `(tactic| walk_at "rt1") => `(tactic| first
  | ((with_reducible show _ = true → ED _ _ _ _); intro _) | ((with_reducible show _ = false → ED _ _ _ _); intro _) | ((with_reducible show _ = true → TD _ _ _ _); intro _) | ((with_reducible show _ = false → TD _ _ _ _); intro _)
  | with_reducible exact ed_int | with_reducible exact ed_bl | with_reducible exact ed_non | with_reducible exact ad_nil | with_reducible exact od_none | with_reducible exact td_yes
  | ((with_reducible apply ed_var); exact rfl)
  | (with_reducible apply ad_cons)
  | (with_reducible apply td_test) | (with_reducible apply td_truth) | (with_reducible apply td_not) | (with_reducible apply td_and) | (with_reducible apply td_or)
  | (with_reducible apply ed_add) | (with_reducible apply ed_sub) | (with_reducible apply ed_mul) | (with_reducible apply ed_mod) | (with_reducible apply ed_fdivP) | (with_reducible apply ed_pow) | (with_reducible apply ed_neg)
  | (with_reducible apply ed_lt) | (with_reducible apply ed_le) | (with_reducible apply ed_gt) | (with_reducible apply ed_ge)
  | (with_reducible apply ed_eqD) | (with_reducible apply ed_neD)
  | (with_reducible apply ed_ix) | (with_reducible apply ed_len) | (with_reducible apply ed_abs) | (with_reducible apply ed_gcd) | (with_reducible apply ed_isi)
  | (with_reducible apply ed_tup) | (with_reducible apply ed_tuple) | (with_reducible apply ed_andV) | (with_reducible apply ed_orV) | (with_reducible apply ed_notV)
  | (with_reducible apply od_some)
  | (with_reducible apply ef_lst) | (with_reducible apply ef_list) | (with_reducible apply ef_sl) | (with_reducible apply ef_cat)
  | (with_reducible apply EF.ed; with_reducible apply ef_lst) | (with_reducible apply EF.ed; with_reducible apply ef_list) | (with_reducible apply EF.ed; with_reducible apply ef_sl) | (with_reducible apply EF.ed; with_reducible apply ef_cat)
  | (with_reducible apply ed_call)
  | ((with_reducible show SeqD _ _); first | exact SeqD.l _ | exact SeqD.t _ | assumption)
  | ((with_reducible show Truth _ _); first | exact Truth.bool _ | exact Truth.int _ | exact Truth.l _ | exact Truth.t _)
  | ((with_reducible show SeqAt.shaped _ = true); exact rfl)
  | ((with_reducible show atI _ _ = some _); first | exact rfl | assumption)
  | ((with_reducible show kitB _ _ = some _); first | exact rfl | decide +kernel)
  | ((with_reducible show List.length _ = _); rfl)
  | ((with_reducible show List.length _ ≤ 100000); first | exact Nat.le_of_ble_eq_true rfl | (simp; done) | (simp; omega)))
local macro_rules | `(tactic| walk_at "ev") => `(tactic| repeat' walk_at "rt1")
/-- how far from nought a number of the row is at most -/
def bigL : List Int → Nat
  | [] => 0
  | a :: r => max a.natAbs (bigL r)
theorem big_bd : ∀ xs : List Int, Bd (bigL xs) xs
  | [] => fun a h => nomatch h
  | a :: r => fun b h => by
    rcases List.mem_cons.mp h with rfl | h
    · exact Nat.le_max_left _ _
    · exact Nat.le_trans (big_bd r b h) (Nat.le_max_right _ _)
theorem big_mem : ∀ {xs : List Int}, xs ≠ [] → (bigL xs : Int) ∈ xs.map fun a => if a < 0 then -a else a
  | [], h => absurd rfl h
  | [a], _ => by
    show ((max a.natAbs 0 : Nat) : Int) ∈ [if a < 0 then -a else a]
    rw [List.mem_singleton]
    split <;> omega
  | a :: b :: r, _ => by
    have ih := big_mem (xs := b :: r) (by simp)
    show ((max a.natAbs (bigL (b :: r)) : Nat) : Int) ∈ _ :: _
    by_cases c : a.natAbs ≤ bigL (b :: r)
    · rw [Nat.max_eq_right c]; exact List.mem_cons_of_mem _ ih
    · rw [Nat.max_eq_left (by omega)]
      have : ((a.natAbs : Nat) : Int) = if a < 0 then -a else a := by split <;> omega
      rw [this]; exact List.mem_cons_self
theorem big_le {m : Nat} : ∀ {xs : List Int}, Bd m xs → bigL xs ≤ m
  | [], _ => Nat.zero_le _
  | a :: r, h => Nat.max_le.mpr ⟨h a List.mem_cons_self, big_le fun b hb => h b (List.mem_cons_of_mem _ hb)⟩
theorem big_pos {xs : List Int} (h : lastZ xs ≠ 0) : 1 ≤ bigL xs := by
  have hx := lastZ_ne h
  have hm : lastZ xs ∈ xs := by
    unfold lastZ
    rw [List.getLast?_eq_some_getLast hx]
    exact List.getLast_mem hx
  have := big_bd xs _ hm
  omega
/-- the digits of a number, in the middle about nought -/
def dgt (N : Nat) (h : Int) : Int := (h + ((N / 2 : Nat) : Int)).fmod N - ((N / 2 : Nat) : Int)
def digN (N : Nat) : Nat → Int → List Int
  | 0, _ => []
  | L + 1, h => if h = 0 then [] else dgt N h :: digN N L ((h - dgt N h).fdiv N)
theorem dgt_bd {N : Nat} (h3 : 3 ≤ N) (ho : N % 2 = 1) (h : Int) : (dgt N h).natAbs ≤ N / 2 := by
  unfold dgt
  have a := Int.fmod_nonneg_of_pos (h + ((N / 2 : Nat) : Int)) (b := (N : Int)) (by omega)
  have b := Int.fmod_lt_of_pos (h + ((N / 2 : Nat) : Int)) (b := (N : Int)) (by omega)
  omega
theorem dgt_eq {N : Nat} (h3 : 3 ≤ N) (h : Int) : h = dgt N h + N * (h - dgt N h).fdiv N := by
  have e := Int.mul_fdiv_add_fmod (h + ((N / 2 : Nat) : Int)) (N : Int)
  have d : h - dgt N h = N * (h + ((N / 2 : Nat) : Int)).fdiv N := by unfold dgt; omega
  rw [d, Int.mul_fdiv_cancel_left _ (by omega)]
  omega
theorem dgt_un {N : Nat} (h3 : 3 ≤ N) (ho : N % 2 = 1) {a q : Int} (ha : a.natAbs ≤ N / 2) : dgt N (a + N * q) = a ∧ (a + N * q - dgt N (a + N * q)).fdiv N = q := by
  have e : dgt N (a + N * q) = a := by
    unfold dgt
    have : a + N * q + ((N / 2 : Nat) : Int) = (a + ((N / 2 : Nat) : Int)) + N * q := by omega
    rw [this, Int.add_mul_fmod_self_left, Int.fmod_eq_of_lt (by omega) (by omega)]
    omega
  refine ⟨e, ?_⟩
  rw [e]
  have : a + N * q - a = N * q := by omega
  rw [this, Int.mul_fdiv_cancel_left _ (by omega)]
/-- a place fewer -/
theorem dgt_less {N L : Nat} (h3 : 3 ≤ N) (ho : N % 2 = 1) {h : Int} (hh : 2 * h.natAbs < N ^ (L + 1)) : 2 * ((h - dgt N h).fdiv N).natAbs < N ^ L := by
  have e := dgt_eq h3 h
  have b := dgt_bd h3 ho h
  generalize dgt N h = d at *
  generalize (h - d).fdiv N = q at *
  have e2 : ((N : Int) * q).natAbs = N * q.natAbs := by rw [Int.natAbs_mul]; rfl
  have odd : N ^ L % 2 = 1 := by
    rw [Nat.pow_mod, ho, Nat.one_pow]
  have k : N * (2 * q.natAbs) < N * (N ^ L + 1) := by
    rw [Nat.pow_succ] at hh
    have g1 : N * (2 * q.natAbs) = 2 * ((N : Int) * q).natAbs := by rw [e2]; grind
    have g2 : N * (N ^ L + 1) = N ^ L * N + N := by grind
    omega
  have := Nat.lt_of_mul_lt_mul_left k
  omega
theorem dig_ev {N : Nat} (h3 : 3 ≤ N) (ho : N % 2 = 1) : ∀ {L : Nat} {h : Int}, 2 * h.natAbs < N ^ L → ev (digN N L h) N = h
  | 0, h, hh => by
    have : h = 0 := by rw [Nat.pow_zero] at hh; omega
    subst this; rfl
  | L + 1, h, hh => by
    unfold digN
    split
    · rename_i z; rw [z]; rfl
    · show dgt N h + N * ev (digN N L ((h - dgt N h).fdiv N)) N = h
      rw [dig_ev h3 ho (dgt_less h3 ho hh)]
      exact (dgt_eq h3 h).symm
theorem dig_bd {N : Nat} (h3 : 3 ≤ N) (ho : N % 2 = 1) : ∀ (L : Nat) (h : Int), Bd (N / 2) (digN N L h)
  | 0, _ => fun a h => nomatch h
  | L + 1, h => by
    unfold digN
    split
    · exact fun a h => nomatch h
    · intro a ha
      rcases List.mem_cons.mp ha with rfl | ha
      · exact dgt_bd h3 ho h
      · exact dig_bd h3 ho L _ a ha
theorem dig_len (N : Nat) : ∀ (L : Nat) (h : Int), (digN N L h).length ≤ L
  | 0, _ => Nat.le_refl _
  | L + 1, h => by
    unfold digN
    split
    · exact Nat.zero_le _
    · exact Nat.succ_le_succ (dig_len N L _)
theorem dig_last {N : Nat} (h3 : 3 ≤ N) (ho : N % 2 = 1) : ∀ {L : Nat} {h : Int}, 2 * h.natAbs < N ^ L → h ≠ 0 → lastZ (digN N L h) ≠ 0
  | 0, h, hh, h0 => by rw [Nat.pow_zero] at hh; omega
  | L + 1, h, hh, h0 => by
    have e := dgt_eq h3 h
    have ih := dig_last h3 ho (L := L) (h := (h - dgt N h).fdiv N) (dgt_less h3 ho hh)
    unfold digN
    rw [if_neg h0]
    by_cases c : (h - dgt N h).fdiv N = 0
    · rw [c] at e ⊢
      have : digN N L 0 = [] := by cases L <;> simp [digN]
      rw [this]
      show dgt N h ≠ 0
      intro z; rw [z] at e; simp at e; exact h0 e
    · have l := ih c
      cases q : digN N L ((h - dgt N h).fdiv N) with
      | nil => rw [q] at l; exact absurd rfl l
      | cons b r => rw [q] at l; rw [lastZ_cons]; exact l
theorem ev_dig_ne {N : Nat} (h3 : 3 ≤ N) : ∀ {G : List Int}, Bd (N / 2) G → lastZ G ≠ 0 → ev G N ≠ 0
  | [], _, h => absurd rfl h
  | [a], _, h => by
    have h : a ≠ 0 := h
    show a + N * 0 ≠ 0
    rw [Int.mul_zero]; omega
  | a :: b :: r, hb, h => by
    rw [lastZ_cons] at h
    have ih := ev_dig_ne h3 (G := b :: r) (fun c hc => hb c (List.mem_cons_of_mem _ hc)) h
    have ha := hb a List.mem_cons_self
    show a + N * ev (b :: r) N ≠ 0
    intro z
    have e : ((N : Int) * ev (b :: r) N).natAbs = a.natAbs := by omega
    rw [Int.natAbs_mul] at e
    have : N * 1 ≤ ((N : Int)).natAbs * (ev (b :: r) N).natAbs := Nat.mul_le_mul (by omega) (by omega)
    omega
/-- the digits are just these -/
theorem dig_un {N : Nat} (h3 : 3 ≤ N) (ho : N % 2 = 1) : ∀ {L : Nat} {G : List Int}, Bd (N / 2) G → lastZ G ≠ 0 → 2 * (ev G N).natAbs < N ^ L → digN N L (ev G N) = G
  | 0, G, hb, hl, hh => by
    have := ev_dig_ne h3 hb hl
    rw [Nat.pow_zero] at hh; omega
  | L + 1, [], hb, hl, hh => absurd rfl hl
  | L + 1, a :: r, hb, hl, hh => by
    have ne := ev_dig_ne h3 hb hl
    have ha := hb a List.mem_cons_self
    obtain ⟨e1, e2⟩ := dgt_un (N := N) h3 ho (a := a) (q := ev r N) ha
    have less := dgt_less (L := L) h3 ho hh
    have ev1 : ev (a :: r) N = a + N * ev r N := rfl
    rw [ev1] at less ne ⊢
    rw [e2] at less
    unfold digN
    rw [if_neg ne, e1]
    have e3 : (a + N * ev r N - a).fdiv N = ev r N := by have := e2; rw [e1] at this; exact this
    rw [e3]
    congr 1
    cases r with
    | nil => cases L <;> simp [digN, ev]
    | cons b r =>
      rw [lastZ_cons] at hl
      exact dig_un h3 ho (fun c hc => hb c (List.mem_cons_of_mem _ hc)) hl less
/-- what dividing gives, if nothing is left over -/
def quoO : Nat → List Int → List Int → Option (List Int)
  | 0, left, _ => if left.any (fun n => n != 0) then none else some []
  | n + 1, left, other => if left.length < other.length then (if left.any (fun n => n != 0) then none else some []) else
    if (lastZ left).fdiv (lastZ other) * lastZ other = lastZ left then (quoO n (lowL left other ((lastZ left).fdiv (lastZ other))) other).map (· ++ [(lastZ left).fdiv (lastZ other)]) else none
theorem ev_any {left : List Int} (h : left.any (fun n => n != 0) = false) (x : Int) : ev left x = 0 := by
  induction left with
  | nil => rfl
  | cons a r ih =>
    rw [List.any_cons, Bool.or_eq_false_iff] at h
    have : a = 0 := by simpa using h.1
    show a + x * ev r x = 0
    rw [ih h.2, this]; simp
theorem quoO_ok {other : List Int} (ho : other ≠ []) : ∀ (n : Nat) {left P : List Int}, left.length ≤ n → quoO n left other = some P → (∀ x, ev left x = ev P x * ev other x) ∧ P.length = left.length + 1 - other.length
  | 0, left, P, hn, h => by
    have op := List.length_pos_iff.mpr ho
    have : left = [] := List.length_eq_zero_iff.mp (by omega)
    subst this
    cases h
    exact ⟨fun x => by show (0 : Int) = 0 * _; rw [Int.zero_mul], by show 0 = 0 + 1 - _; omega⟩
  | n + 1, left, P, hn, h => by
    unfold quoO at h
    split at h
    · split at h
      · cases h
      · rename_i c0 c
        cases h
        exact ⟨fun x => by rw [ev_any (by simpa using c)]; show (0 : Int) = 0 * _; rw [Int.zero_mul], by show 0 = _; omega⟩
    · rename_i c
      split at h
      · rename_i e
        have hl := low_len (row := left) (other := other) ((lastZ left).fdiv (lastZ other)) (by omega) ho
        cases q : quoO n (lowL left other ((lastZ left).fdiv (lastZ other))) other with
        | none => rw [q] at h; cases h
        | some Q =>
          rw [q] at h
          cases h
          obtain ⟨i1, i2⟩ := quoO_ok ho n (by omega) q
          have gq : Q.length = left.length - other.length := by omega
          refine ⟨fun x => ?_, by rw [List.length_append]; show Q.length + 1 = _; omega⟩
          have := i1 x
          rw [ev_low (by omega) ho e.symm] at this
          rw [ev_snoc, gq]
          generalize x ^ (left.length - other.length) = w at *
          generalize (lastZ left).fdiv (lastZ other) = f at *
          have e2 : (ev Q x + f * w) * ev other x = ev Q x * ev other x + f * (w * ev other x) := by grind
          rw [e2, ← this]; omega
      · cases h
theorem quoO_mul {D : List Int} (hD : lastZ D ≠ 0) : ∀ (n : Nat) {P left : List Int}, left.length ≤ n → left.length + 1 = P.length + D.length → (P ≠ [] → ∀ x, ev left x = ev P x * ev D x) → (P = [] → ∀ a ∈ left, a = 0) → quoO n left D = some P
  | 0, P, left, hn, hl, he, hz => by
    have := List.length_pos_iff.mpr (lastZ_ne hD)
    have l0 : left = [] := List.length_eq_zero_iff.mp (by omega)
    have : P = [] := List.length_eq_zero_iff.mp (by omega)
    subst this; subst l0; rfl
  | n + 1, P, left, hn, hl, he, hz => by
    have d0 := List.length_pos_iff.mpr (lastZ_ne hD)
    unfold quoO
    by_cases c : left.length < D.length
    · rw [if_pos c]
      have p0 : P = [] := List.length_eq_zero_iff.mp (by omega)
      have : left.any (fun n => n != 0) = false := by
        rw [List.any_eq_false]
        intro a ha
        have := hz p0 a ha
        simp [this]
      rw [this, p0]; rfl
    · rw [if_neg c]
      have hP : P ≠ [] := by intro z; rw [z] at hl; simp at hl; omega
      have em : left = mulL P D := eq_of_ev (by have := mulL_len hP (lastZ_ne hD); omega) fun x => by rw [he hP, ev_mulL]
      have el : lastZ left = lastZ P * lastZ D := by rw [em]; exact lastZ_mulL hP (lastZ_ne hD)
      have ef : (lastZ left).fdiv (lastZ D) = lastZ P := by rw [el, Int.mul_comm]; exact Int.mul_fdiv_cancel_left _ hD
      rw [ef, if_pos el.symm]
      obtain ⟨P', hP'⟩ := snoc_of hP
      have ll := low_len (row := left) (other := D) (lastZ P) (by omega) (lastZ_ne hD)
      have lP : P.length = P'.length + 1 := by rw [hP']; simp
      have e3 : ∀ x, ev (lowL left D (lastZ P)) x = ev P' x * ev D x := fun x => by
        rw [ev_low (by omega) (lastZ_ne hD) el, he hP]
        have e3 : ev P x = ev P' x + lastZ P * x ^ P'.length := by
          have := ev_snoc P' (lastZ P) x
          rwa [← hP'] at this
        rw [e3, show left.length - D.length = P'.length by omega]
        generalize x ^ P'.length = r; grind
      have := quoO_mul hD n (P := P') (left := lowL left D (lastZ P)) (by omega) (by omega) (fun _ => e3) fun p0 a ha => by
        obtain ⟨i, hi⟩ := List.mem_iff_getElem?.mp ha
        have g : (lowL left D (lastZ P)).getD i 0 = ([] : List Int).getD i 0 := same_of i (N := 0) fun n _ => by rw [e3, p0]; show 0 * _ = (0 : Int); rw [Int.zero_mul]
        rw [List.getD_eq_getElem?_getD, hi] at g
        simpa using g
      rw [this]
      show some (P' ++ [lastZ P]) = some P
      rw [← hP']
theorem quoO_of {P D : List Int} (hD : lastZ D ≠ 0) (hP : P ≠ []) : quoO (mulL P D).length (mulL P D) D = some P :=
  quoO_mul hD _ (Nat.le_refl _) (mulL_len hP (lastZ_ne hD)) (fun _ x => ev_mulL P D x) fun z => absurd z hP
theorem mulL_comm {p q : List Int} (hp : lastZ p ≠ 0) (hq : lastZ q ≠ 0) : mulL p q = mulL q p := by
  have a := mulL_len (lastZ_ne hp) (lastZ_ne hq)
  have b := mulL_len (lastZ_ne hq) (lastZ_ne hp)
  exact eq_of_ev (by omega) fun x => by rw [ev_mulL, ev_mulL, Int.mul_comm]
/-- the value is below what the places hold -/
theorem val_lt {M N : Nat} (hN : 2 * M + 1 ≤ N) {f : List Int} (h : Bd M f) (hf : f ≠ []) : 2 * (ev f N).natAbs < N ^ f.length := by
  have e := ev_front (N := N) (by omega) h
  have p0 : 0 < N ^ f.length := Nat.pow_pos (by omega)
  have k : M * (N ^ f.length - 1) * 2 ≤ (N - 1) * (N ^ f.length - 1) := by
    have : 2 * M * (N ^ f.length - 1) ≤ (N - 1) * (N ^ f.length - 1) := Nat.mul_le_mul_right _ (by omega)
    grind
  rcases Nat.lt_or_ge (2 * (ev f N).natAbs) (N ^ f.length) with z | z
  · exact z
  · exfalso
    have lt : N ^ f.length - 1 < 2 * (ev f N).natAbs := by omega
    rcases Nat.lt_or_ge 1 N with n1 | n1
    · have := Nat.mul_lt_mul_of_pos_left lt (show 0 < N - 1 by omega)
      have g : (N - 1) * (2 * (ev f N).natAbs) = 2 * ((N - 1) * (ev f N).natAbs) := by grind
      omega
    · have m0 : M = 0 := by omega
      subst m0
      have all : ∀ (f : List Int) (x : Int), Bd 0 f → ev f x = 0 := fun f x => by
        induction f with
        | nil => intro _; rfl
        | cons a r ih =>
          intro hb
          have ha := hb a List.mem_cons_self
          show a + x * ev r x = 0
          rw [ih fun b hb' => hb b (List.mem_cons_of_mem _ hb')]
          omega
      rw [all f _ h] at z
      simp at z
      omega
/-- what a place far out tells -/
structure Placed (one other t a b : List Int) (k : Int) (M L K : Nat) : Prop where
  g1 : Good one
  g2 : Good other
  gt : Good t
  ha : lastZ a ≠ 0
  hb : lastZ b ≠ 0
  ea : one = mulL t a
  eb : other = mulL t b
  k0 : k ≠ 0
  bk : Bd (2 ^ K) (smul k t)
  cop : ∀ x, ∃ u v, u * ev a x + v * ev b x = k
  max : ∀ D, Dv D one → Dv D other → Dv D t
  l1 : one.length ≤ L
  l2 : other.length ≤ L
  lsm : L ≤ 100
  m1 : Bd M one ∨ Bd M other
  far : ∀ (N : Nat) (r w : List Int), 2 ^ 64 * M ≤ N → 2 ≤ r.length → 0 < lastZ r → lastZ w ≠ 0 → t = mulL w r → N < 2 * (ev r N).natAbs
def hN (one other : List Int) (N : Nat) : Int := ((Nat.gcd (ev one N).natAbs (ev other N).natAbs : Nat) : Int)
section
variable {one other t a b : List Int} {k : Int} {M L K N : Nat}
theorem Placed.swap (p : Placed one other t a b k M L K) : Placed other one t b a k M L K :=
  ⟨p.g2, p.g1, p.gt, p.hb, p.ha, p.eb, p.ea, p.k0, p.bk, fun x => by obtain ⟨u, v, e⟩ := p.cop x; exact ⟨v, u, by omega⟩, fun D x y => p.max D y x, p.l2, p.l1, p.lsm, p.m1.symm, p.far⟩
theorem hN_comm : hN one other N = hN other one N := by unfold hN; rw [Nat.gcd_comm]
/-- the number whose digits are looked at -/
theorem Placed.num (p : Placed one other t a b k M L K) (hM : 1 ≤ M) (hN1 : 2 ^ 64 * M ≤ N) : hN one other N ≠ 0 ∧ 2 * (hN one other N).natAbs < N ^ L := by
  have key : ∀ {f g : List Int}, Good f → f.length ≤ L → Bd M f → hN f g N ≠ 0 ∧ 2 * (hN f g N).natAbs < N ^ L := fun {f g} gf lf bf => by
    have lb := ev_lb (N := N) (M := M) (by omega) bf gf.ne
    have p0 : 0 < N ^ (f.length - 1) := Nat.pow_pos (by omega)
    have vl := val_lt (N := N) (M := M) (by omega) bf (lastZ_ne gf.ne)
    have le : Nat.gcd (ev f N).natAbs (ev g N).natAbs ≤ (ev f N).natAbs := Nat.le_of_dvd (by omega) (Nat.gcd_dvd_left _ _)
    have gp : 0 < Nat.gcd (ev f N).natAbs (ev g N).natAbs := Nat.gcd_pos_of_pos_left _ (by omega)
    have mo : N ^ f.length ≤ N ^ L := Nat.pow_le_pow_right (by omega) lf
    unfold hN
    constructor
    · omega
    · rw [Int.natAbs_natCast]; omega
  rcases p.m1 with h | h
  · exact key p.g1 p.l1 h
  · rw [hN_comm]; exact key p.g2 p.l2 h
/-- a row so found that divides both is the greatest -/
theorem Placed.right (p : Placed one other t a b k M L K) (hM : 1 ≤ M) (hN1 : 2 ^ 64 * M ≤ N) (ho : N % 2 = 1) {w p1 p2 : List Int} (hw : w = bareL (digN N L (hN one other N))) (q1 : quoO one.length one w = some p1) (q2 : quoO other.length other w = some p2) : w = t := by
  obtain ⟨h0, hl⟩ := p.num hM hN1
  have h3 : 3 ≤ N := by omega
  have dl := dig_last h3 ho hl h0
  have de := dig_ev h3 ho hl
  have db := dig_bd h3 ho L (hN one other N)
  generalize digN N L (hN one other N) = G at *
  have gw : Good w := by rw [hw]; exact bare_good dl
  have wn := lastZ_ne gw.ne
  obtain ⟨d1, _⟩ := quoO_ok wn _ (Nat.le_refl _) q1
  obtain ⟨d2, _⟩ := quoO_ok wn _ (Nat.le_refl _) q2
  have dvt := p.max w ⟨1, by decide, fun x => ⟨ev p1 x, by rw [Int.one_mul, d1, Int.mul_comm]⟩⟩ ⟨1, by decide, fun x => ⟨ev p2 x, by rw [Int.one_mul, d2, Int.mul_comm]⟩⟩
  obtain ⟨r, hr, er⟩ := dv_exact gw p.gt.ne dvt
  have rp : 0 < lastZ r := by
    have e := congrArg lastZ er
    rw [lastZ_mulL wn (lastZ_ne hr)] at e
    have h1 := p.gt.1
    have h2 := gw.1
    by_cases z : 0 < lastZ r
    · exact z
    · have := Int.mul_nonpos_of_nonneg_of_nonpos (Int.le_of_lt h2) (Int.not_lt.mp z)
      omega
  -- the number that stands before the row found
  have sG : smul (barS G) w = G := by rw [hw]; exact smul_bare G
  have hv : hN one other N = barS G * ev w N := by rw [← de, ← sG, ev_smul, sG]
  have cb : (barS G).natAbs ≤ N / 2 := by
    have e := congrArg lastZ sG
    rw [lastZ_smul] at e
    have m : (lastZ G).natAbs ≤ N / 2 := by
      have gn := lastZ_ne dl
      have := db.getD (G.length - 1)
      rwa [lastZ_getD gn] at this
    have e2 := congrArg Int.natAbs e
    rw [Int.natAbs_mul] at e2
    have := gw.1
    have : (barS G).natAbs * 1 ≤ (barS G).natAbs * (lastZ w).natAbs := Nat.mul_le_mul_left _ (by omega)
    omega
  have tdiv : ev t N ∣ hN one other N := by
    unfold hN
    refine Int.natAbs_dvd_natAbs.mp ?_
    rw [Int.natAbs_natCast]
    refine Nat.dvd_gcd ?_ ?_
    · rw [p.ea, ev_mulL, Int.natAbs_mul]; exact Nat.dvd_mul_right _ _
    · rw [p.eb, ev_mulL, Int.natAbs_mul]; exact Nat.dvd_mul_right _ _
  have wN : ev w N ≠ 0 := fun z => h0 (by rw [hv, z, Int.mul_zero])
  have c0 : barS G ≠ 0 := barS_ne dl
  have rdiv : ev r N ∣ barS G := by
    rw [er, ev_mulL, hv, Int.mul_comm (barS G)] at tdiv
    exact Int.dvd_of_mul_dvd_mul_left wN tdiv
  have rle : (ev r N).natAbs ≤ (barS G).natAbs := Nat.le_of_dvd (by omega) (Int.natAbs_dvd_natAbs.mpr rdiv)
  have r1 : ¬ 2 ≤ r.length := fun h2 => by
    have := p.far N r w hN1 h2 rp gw.ne er
    omega
  have rn := List.length_pos_iff.mpr (lastZ_ne hr)
  cases r with
  | nil => exact absurd rfl hr
  | cons c s =>
    cases s with
    | cons d s => exact absurd (show 2 ≤ (c :: d :: s).length from by simp) r1
    | nil =>
      have hc : c ≠ 0 := hr
      refine eq_of_dv dvt ⟨c, hc, fun x => ⟨1, ?_⟩⟩ gw.1 p.gt.1 gw.2 p.gt.2
      rw [er, ev_mulL]
      show c * ev w x = ev w x * (c + x * 0) * 1
      grind
/-- far enough out the greatest one is found -/
theorem Placed.done (p : Placed one other t a b k M L K) (hM : 1 ≤ M) (hN1 : 2 ^ 64 * M ≤ N) (ho : N % 2 = 1) (hK : 2 ^ (K + 1) < N) : bareL (digN N L (hN one other N)) = t ∧ quoO one.length one t = some a ∧ quoO other.length other t = some b := by
  obtain ⟨h0, hl⟩ := p.num hM hN1
  have h3 : 3 ≤ N := by omega
  refine ⟨?_, ?_, ?_⟩
  · obtain ⟨u, v, e⟩ := p.cop N
    have hg : hN one other N = ((ev t N).natAbs * Nat.gcd (ev a N).natAbs (ev b N).natAbs : Nat) := by
      unfold hN
      rw [p.ea, p.eb, ev_mulL, ev_mulL, Int.natAbs_mul, Int.natAbs_mul, Nat.gcd_mul_left]
    have gk : Nat.gcd (ev a N).natAbs (ev b N).natAbs ≤ k.natAbs := by
      refine Nat.le_of_dvd (by have := p.k0; omega) ?_
      have d1 : ((Nat.gcd (ev a N).natAbs (ev b N).natAbs : Nat) : Int) ∣ ev a N := Int.ofNat_dvd_left.mpr (Nat.gcd_dvd_left _ _)
      have d2 : ((Nat.gcd (ev a N).natAbs (ev b N).natAbs : Nat) : Int) ∣ ev b N := Int.ofNat_dvd_left.mpr (Nat.gcd_dvd_right _ _)
      have d3 : ((Nat.gcd (ev a N).natAbs (ev b N).natAbs : Nat) : Int) ∣ k := by
        rw [← e]; exact Int.dvd_add (Int.dvd_trans d1 (Int.dvd_mul_left _ _)) (Int.dvd_trans d2 (Int.dvd_mul_left _ _))
      exact Int.ofNat_dvd_left.mp d3
    have e0 : Nat.gcd (ev a N).natAbs (ev b N).natAbs ≠ 0 := fun z => h0 (by rw [hg, z]; simp)
    generalize Nat.gcd (ev a N).natAbs (ev b N).natAbs = e1 at *
    let c : Int := if 0 ≤ ev t N then (e1 : Int) else -(e1 : Int)
    have ca : c.natAbs = e1 := by
      show (if 0 ≤ ev t N then (e1 : Int) else -(e1 : Int)).natAbs = e1
      split
      · exact Int.natAbs_natCast _
      · rw [Int.natAbs_neg]; exact Int.natAbs_natCast _
    have hc : c ≠ 0 := by intro z; rw [z] at ca; exact e0 (by simpa using ca.symm)
    have hv : hN one other N = ev (smul c t) N := by
      rw [hg, ev_smul]
      show _ = (if 0 ≤ ev t N then (e1 : Int) else -(e1 : Int)) * ev t N
      rw [Int.natCast_mul]
      split
      · rename_i z
        have : ((ev t N).natAbs : Int) = ev t N := by omega
        rw [this, Int.mul_comm]
      · rename_i z
        have : ((ev t N).natAbs : Int) = -ev t N := by omega
        rw [this]; grind
    have bG : Bd (N / 2) (smul c t) := fun x hx => by
      obtain ⟨y, hy, rfl⟩ := List.mem_map.mp hx
      have := p.bk (k * y) (List.mem_map.mpr ⟨y, hy, rfl⟩)
      rw [Int.natAbs_mul] at this ⊢
      rw [ca]
      have m := Nat.mul_le_mul_right y.natAbs gk
      rw [Nat.pow_succ] at hK
      omega
    rw [hv] at hl ⊢
    rw [dig_un h3 ho bG (by rw [lastZ_smul]; exact Int.mul_ne_zero hc p.gt.ne) hl]
    exact bare_smul hc p.gt
  · have := quoO_of p.gt.ne (lastZ_ne p.ha)
    rw [← mulL_comm p.gt.ne p.ha, ← p.ea] at this
    exact this
  · have := quoO_of p.gt.ne (lastZ_ne p.hb)
    rw [← mulL_comm p.gt.ne p.hb, ← p.eb] at this
    exact this
end
theorem placed_of {one other t a b : List Int} {k : Int} {L K : Nat} (g1 : Good one) (g2 : Good other) (gt : Good t) (ha : lastZ a ≠ 0) (hb : lastZ b ≠ 0) (ea : one = mulL t a) (eb : other = mulL t b) (k0 : k ≠ 0) (bk : Bd (2 ^ K) (smul k t)) (cop : ∀ x, ∃ u v, u * ev a x + v * ev b x = k) (max : ∀ D, Dv D one → Dv D other → Dv D t) (l1 : one.length ≤ L) (l2 : other.length ≤ L) (l13 : L ≤ 13) :
    Placed one other t a b k (min (bigL one) (bigL other)) L K := by
  have m1 : Bd (min (bigL one) (bigL other)) one ∨ Bd (min (bigL one) (bigL other)) other := by
    rcases Nat.le_total (bigL one) (bigL other) with z | z
    · left; rw [Nat.min_eq_left z]; exact big_bd one
    · right; rw [Nat.min_eq_right z]; exact big_bd other
  have mpos : 1 ≤ min (bigL one) (bigL other) := by
    have := big_pos g1.ne
    have := big_pos g2.ne
    omega
  refine ⟨g1, g2, gt, ha, hb, ea, eb, k0, bk, cop, max, l1, l2, by omega, m1, fun N r w hN h2 rp hw et => ?_⟩
  have rn : lastZ r ≠ 0 := by omega
  have big : ∀ {f c : List Int}, f.length ≤ 13 → Bd (min (bigL one) (bigL other)) f → f = mulL t c → lastZ c ≠ 0 → N < 2 * (ev r N).natAbs := fun {f c} lf bf ef hc => by
    have e : f = mulL r (mulL w c) := by
      have wp := List.length_pos_iff.mpr (lastZ_ne hw)
      have cp := List.length_pos_iff.mpr (lastZ_ne hc)
      have a2 := mulL_len (lastZ_ne hw) (lastZ_ne hc)
      have a1 := mulL_len (lastZ_ne rn) (q := mulL w c) (by intro z; rw [z] at a2; simp at a2; omega)
      have a3 := mulL_len (lastZ_ne gt.ne) (lastZ_ne hc)
      have a4 := mulL_len (lastZ_ne hw) (lastZ_ne rn)
      rw [← et] at a4
      rw [← ef] at a3
      exact eq_of_ev (by omega) fun x => by rw [ef, ev_mulL, ev_mulL, ev_mulL, et, ev_mulL]; grind
    exact factor_big mpos e bf lf h2 rp (by rw [lastZ_mulL (lastZ_ne hw) (lastZ_ne hc)]; exact Int.mul_ne_zero hw hc) hN
  rcases m1 with h | h
  · exact big (by omega) h ea ha
  · exact big (by omega) h eb hb
/-! ### the promises -/
def F_largest (ds : List PyData) (r : Res) : Prop := ∃ (d : PyData) (xs : List Int), ds = [d] ∧ SeqD d (rD xs) ∧ xs ≠ [] ∧ xs.length ≤ 1000 ∧ r = .rt (.int (bigL xs : Nat))
def F_value_at (ds : List PyData) (r : Res) : Prop := ∃ (d : PyData) (xs : List Int) (t : Int) (n m : Nat), ds = [d, .int t] ∧ SeqD d (rD xs) ∧ Sz n xs ∧ Lt2 m t ∧ n + (xs.length + 2) * (m + 2) ≤ 100000000 ∧ r = .rt (.int (ev xs t))
def F_digits (ds : List PyData) (r : Res) : Prop := ∃ (h : Int) (N L : Nat), ds = [.int h, .int (N : Nat)] ∧ 3 ≤ N ∧ N % 2 = 1 ∧ N < 2 ^ 8900 ∧ 2 * h.natAbs < N ^ L ∧ L ≤ 1000 ∧ r = .rf (rD (digN N L h))
def F_lowered (ds : List PyData) (r : Res) : Prop := ∃ (row other : List Int) (f : Int) (k m : Nat), ds = [.list (rD row), .list (rD other), .int f] ∧ other.length ≤ row.length ∧ row.length ≤ 1000 ∧ Lt2 k f ∧ Sz m other ∧ k + m ≤ 134217000 ∧ r = .rf (rD (lowL row other f))
def quoR (o : Option (List Int)) : Res := match o with
  | none => .rt .none
  | some P => .rf (rD P)
def F_quotient (ds : List PyData) (r : Res) : Prop := ∃ (d : PyData) (row other : List Int) (n m : Nat), ds = [d, .list (rD other)] ∧ SeqD d (rD row) ∧ lastZ other ≠ 0 ∧ row.length ≤ 1000 ∧ Sz n row ∧ Sz m other ∧ m ≤ 8900 ∧ n + (row.length + 2) * (m + 1) ≤ 100000000 ∧ r = quoR (quoO row.length row other)
def F_common_row (ds : List PyData) (r : Res) : Prop := ∃ (d1 d2 : PyData) (one other t a b : List Int) (k : Int) (L K n : Nat), ds = [d1, d2] ∧ SeqD d1 (rD one) ∧ SeqD d2 (rD other) ∧ Placed one other t a b k (min (bigL one) (bigL other)) L K ∧ Sz n one ∧ Sz n other ∧ n ≤ 8000 ∧ K ≤ 4200 ∧ r = .rt (.list (rD t))
abbrev sp_largest (K : PySem.W.Frag) : Sp := spD K 1 F_largest
abbrev sp_value_at (K : PySem.W.Frag) : Sp := spD K 2 F_value_at
abbrev sp_digits (K : PySem.W.Frag) : Sp := spD K 2 F_digits
abbrev sp_lowered (K : PySem.W.Frag) : Sp := spD K 3 F_lowered
abbrev sp_quotient (K : PySem.W.Frag) : Sp := spD K 2 F_quotient
abbrev sp_common_row (K : PySem.W.Frag) : Sp := spD K 2 F_common_row
def t_largest (K : PySem.W.Frag) : TS := (tRet (tCB (rMax K) (tCons (tLc (iSeq K (tVar 0)) (gName 1) tYes (tCB rAbs (tCons (tVar 1) tNil)) [1]) tNil)))
abbrev N_largest : List Str := ["row", "number"]
def t_value_at (K : PySem.W.Frag) : TS := (tSeq (tAsg (tC (.int 0)) (gName 2))
  (tSeq (tFor (RT.iRevA K (tVar 0)) (gName 3) (tAsg (tOp (rI0 fun i j => .int (i + j)) (tOp (rI CMulX fun i j => .int (i * j)) (tVar 2) (tVar 1)) (tVar 3)) (gName 2)))
  (tRet (tVar 2))))
abbrev N_value_at : List Str := ["row", "number", "value", "factor"]
def t_digits (K : PySem.W.Frag) : TS := (tSeq (tAsg (tOp (rI CDivQ fun i j => .int (i.fdiv j)) (tVar 1) (tC (.int 2))) (gName 2))
  (tSeq (tAsg (tLst tNil) (gName 3))
  (tSeq (tWhile (tTest (tOp (rNeD K) (tVar 0) (tC (.int 0)))) (tSeq (tAsg (tOp (rI0 fun i j => .int (i - j)) (tOp (rI (fun _ j => j ≠ 0) fun i j => .int (i.fmod j)) (tOp (rI0 fun i j => .int (i + j)) (tVar 0) (tVar 2)) (tVar 1)) (tVar 2)) (gName 4))
  (tSeq (tDrop (tBM K "list" rAppend (tVar 3) (tCons (tVar 4) tNil)))
  (tAsg (tOp (rI CDivQ fun i j => .int (i.fdiv j)) (tOp (rI0 fun i j => .int (i - j)) (tVar 0) (tVar 4)) (tVar 1)) (gName 0)))))
  (tRet (tVar 3)))))
abbrev N_digits : List Str := ["number", "place", "half", "found", "digit"]
def t_lowered (K : PySem.W.Frag) : TS := (tSeq (tAsg (tOp (rI0 fun i j => .int (i - j)) (tLen K (tVar 0)) (tLen K (tVar 1))) (gName 3))
  (tSeq (tAsg (tLc (RZ.iZipA K (tCons (tSl (rSlS K) (tVar 0) (tPart (tVar 3)) tNoPart) (tCons (tVar 1) tNil))) (gTup K 2 (gCons (gName 5) (gCons (gName 6) gNil))) tYes (tOp (rI0 fun i j => .int (i - j)) (tVar 5) (tOp (rI CMulX fun i j => .int (i * j)) (tVar 2) (tVar 6))) [5, 6]) (gName 4))
  (tRet (tOp (rCatS K) (tSl (rSlS K) (tVar 0) tNoPart (tPart (tVar 3))) (tSl (rSlS K) (tVar 4) tNoPart (tPart (tUn (rU fun i => .int (-i)) (tC (.int 1)))))))))
abbrev N_lowered : List Str := ["row", "other", "factor", "gap", "high", "number", "less"]
def t_quotient (K : PySem.W.Frag) : TS := (tSeq (tAsg (tCB (rListS K) (tCons (tVar 0) tNil)) (gName 2))
  (tSeq (tAsg (tLst tNil) (gName 3))
  (tSeq (tWhile (tTest (tOp (rI0 fun i j => .bl (decide (j ≤ i))) (tLen K (tVar 2)) (tLen K (tVar 1)))) (tSeq (tAsg (tOp (rI CDivQ fun i j => .int (i.fdiv j)) (tOp (rIx K) (tVar 2) (tUn (rU fun i => .int (-i)) (tC (.int 1)))) (tOp (rIx K) (tVar 1) (tUn (rU fun i => .int (-i)) (tC (.int 1))))) (gName 4))
  (tSeq (tIfS (tTest (tOp (rNeD K) (tOp (rI CMulX fun i j => .int (i * j)) (tVar 4) (tOp (rIx K) (tVar 1) (tUn (rU fun i => .int (-i)) (tC (.int 1))))) (tOp (rIx K) (tVar 2) (tUn (rU fun i => .int (-i)) (tC (.int 1)))))) (tRet (tC .non)) tNext)
  (tSeq (tDrop (tBM K "list" rAppend (tVar 3) (tCons (tVar 4) tNil)))
  (tAsg (tCall (sp_lowered K) [] E0 (tCons (tVar 2) (tCons (tVar 1) (tCons (tVar 4) tNil)))) (gName 2))))))
  (tSeq (tIfS (tTruth K (tCB (rAnyI K) (tCons (tVar 2) tNil))) (tRet (tC .non)) tNext)
  (tSeq (tDrop (tBM0 K "list" rReverse (tVar 3)))
  (tRet (tVar 3)))))))
abbrev N_quotient : List Str := ["row", "other", "left", "found", "factor"]
def t_common_row (K : PySem.W.Frag) : TS := (tSeq (tAsg (tOp (rI0 fun i j => .int (i + j)) (tBits (tCB rMin2 (tCons (tCall (sp_largest K) [] E0 (tCons (tVar 0) tNil)) (tCons (tCall (sp_largest K) [] E0 (tCons (tVar 1) tNil)) tNil)))) (tC (.int 64))) (gName 2))
  (tWhile (tTruth K (tC (.bl true))) (tSeq (tAsg (tOp (rI0 fun i j => .int (i + j)) (tOp (rI CPow fun i j => .int (i * 2 ^ j.toNat)) (tC (.int 1)) (tVar 2)) (tC (.int 1))) (gName 3))
  (tSeq (tAsg (tCall (sp_bare K) [] E0 (tCons (tCall (sp_digits K) [] E0 (tCons (tCB rGcd (tCons (tCall (sp_value_at K) [] E0 (tCons (tVar 0) (tCons (tVar 3) tNil))) (tCons (tCall (sp_value_at K) [] E0 (tCons (tVar 1) (tCons (tVar 3) tNil))) tNil))) (tCons (tVar 3) tNil))) tNil)) (gName 4))
  (tSeq (tIfS (tAnd (tTest (tOp rNotNn (tCall (sp_quotient K) [] E0 (tCons (tVar 0) (tCons (tVar 4) tNil))) (tC .non))) (tTest (tOp rNotNn (tCall (sp_quotient K) [] E0 (tCons (tVar 1) (tCons (tVar 4) tNil))) (tC .non)))) (tRet (tVar 4)) tNext)
  (tAsg (tOp (rI CMulX fun i j => .int (i * j)) (tC (.int 2)) (tVar 2)) (gName 2)))))))
abbrev N_common_row : List Str := ["one", "other", "size", "place", "found"]
section
variable {K : PySem.W.Frag}
theorem seq_lastE {d : PyData} {xs : List Int} (s : SeqD d (rD xs)) (h : xs ≠ []) : atI (rD xs) (-1) = some (.int (lastZ xs)) := seq_last s h
theorem pure_largest (ds : List PyData) (r : Res) (h : F_largest ds r) (B0 B : Hp) : SD K B0 B (t_largest K) (startR N_largest ds) (fin r) := by
  obtain ⟨d, xs, rfl, hs, hx, hl, rfl⟩ := h
  unfold t_largest
  have lc : EF K (tLc (iSeq K (tVar 0)) (gName 1) tYes (tCB rAbs (tCons (tVar 1) tNil)) [1]) [some (.d d), none] (rD (xs.map fun a => if a < 0 then -a else a)) := by
    refine (ef_lc (ds := rD xs) (fun i => .int (if xs.getD i 0 < 0 then -(xs.getD i 0) else xs.getD i 0)) (id_seq (ed_var rfl) hs) (by rw [rD_len]; omega) fun i e hi => ?_).cast ?_
    · obtain ⟨a, ha, rfl⟩ := rD_get hi
      have ea : xs.getD i 0 = a := by rw [List.getD_eq_getElem?_getD, ha]; rfl
      refine ⟨_, gc_name, ?_⟩
      rw [ea]
      exact ed_abs (ed_var rfl)
    · rw [rD_len]
      unfold rD
      rw [List.map_map]
      exact map_range (g := fun a => PyData.int (if a < 0 then -a else a)) fun i a ha => by rw [List.getD_eq_getElem?_getD, ha]; rfl
  refine sd_ret (ed_max (EF.ed lc) (big_mem hx) fun y hy => ?_) rfl
  obtain ⟨a, ha, rfl⟩ := List.mem_map.mp hy
  have := big_bd xs a ha
  split <;> omega
theorem pure_value_at (ds : List PyData) (r : Res) (h : F_value_at ds r) (B0 B : Hp) : SD K B0 B (t_value_at K) (startR N_value_at ds) (fin r) := by
  obtain ⟨d, xs, t, n, m, rfl, hs, hx, ht, hz, rfl⟩ := h
  unfold t_value_at
  apply sd_seq; apply sd_set; (case h => walk_at "ev" )
  refine sd_seq (sd_for (id_revA (ed_var rfl) hs) (fun i ρ => ∃ z, ρ = [some (.d d), some (.d (.int t)), some (.d (.int (ev (xs.drop (xs.length - i)) t))), z]) ⟨none, ?_⟩ ?_ ?_)
  · rw [Nat.sub_zero, List.drop_length]; rfl
  · rintro i x ρ' hi ⟨z, rfl⟩
    have hi' : (rD xs.reverse)[i]? = some x := by unfold rD; rw [List.map_reverse]; exact hi
    obtain ⟨a, ha, rfl⟩ := rD_get hi'
    have hlt : i < xs.length := by have := (List.getElem?_eq_some_iff.mp ha).1; rwa [List.length_reverse] at this
    refine ⟨_, gd_name, ?_⟩
    have e := rev_drop ha
    have b1 := (hor_lt (t := t) (b := 1) (n := n) (m := m + 1) (ht.mono (by omega)) (by unfold Lt2; exact Nat.one_lt_two_pow (by omega)) (by omega) (xs := xs.drop (xs.length - i)) fun y hy => hx y (List.mem_of_mem_drop hy)).1
    rw [hor_ev] at b1
    have hll : (xs.drop (xs.length - i)).length = i := by rw [List.length_drop]; omega
    rw [hll] at b1
    have e1 : i * (m + 1 + 1) ≤ xs.length * (m + 2) := Nat.mul_le_mul_right _ (by omega)
    have e3 : (xs.length + 2) * (m + 2) = xs.length * (m + 2) + 2 * (m + 2) := Nat.add_mul _ _ _
    refine sd_set (d := .int (ev (xs.drop (xs.length - (i + 1))) t)) ((ed_add (ed_mul (ed_var rfl) (ed_var rfl) (b1.cm ht (by omega))) (ed_var rfl)).cast ?_) ⟨_, rfl⟩
    rw [e]
    show PyData.int (ev (xs.drop (xs.length - i)) t * t + a) = PyData.int (a + t * ev (xs.drop (xs.length - i)) t)
    congr 1
    rw [Int.mul_comm]; omega
  · rintro ρ' ⟨z, rfl⟩
    show SD K B0 B _ _ _
    rw [List.length_reverse, rD_len, Nat.sub_self, List.drop_zero]
    exact sd_ret (ed_var rfl) rfl
theorem pure_digits (ds : List PyData) (r : Res) (h : F_digits ds r) (B0 B : Hp) : SD K B0 B (t_digits K) (startR N_digits ds) (fin r) := by
  obtain ⟨h, N, L, rfl, h3, ho, hN, hh, hL, rfl⟩ := h
  unfold t_digits
  have q2 : CDivQ (N : Int) 2 := Lt2.cd (n := 2) (by decide) (by unfold Lt2; decide) (by decide)
  have lN : Lt2 8900 ((N : Nat) : Int) := by unfold Lt2; rw [Int.natAbs_natCast]; exact hN
  have e2 : (N : Int).fdiv 2 = ((N / 2 : Nat) : Int) := by rw [Int.fdiv_eq_ediv_of_nonneg _ (by decide)]; rfl
  refine sd_seq (sd_set (d := .int ((N / 2 : Nat) : Int)) ((ed_fdivP (ed_var rfl) ed_int q2).cast (by rw [e2])) ?_)
  apply sd_seq; apply sd_setF; (case h => walk_at "ev" )
  show SD K B0 B _ [some (.d (.int h)), some (.d (.int ((N : Nat) : Int))), some (.d (.int ((N / 2 : Nat) : Int))), some (.own []), none] _
  refine sd_seq (sd_while (fun m ρ => ∃ (g : Int) (acc : List Int) (z : Option SV), ρ = [some (.d (.int g)), some (.d (.int ((N : Nat) : Int))), some (.d (.int ((N / 2 : Nat) : Int))), some (.own (rD acc)), z] ∧ 2 * g.natAbs < N ^ m ∧ acc ++ digN N m g = digN N L h ∧ acc.length + m ≤ L) L ⟨h, [], none, rfl, hh, by simp, by simp⟩ ?_)
  rintro m ρ ⟨g, acc, z, rfl, hg, ha, hm⟩
  refine ⟨!decide (g = 0), td_test (ed_neI (ed_var rfl) ed_int), fun hb => ?_, fun hb => ?_⟩
  · have hb : g ≠ 0 := by simpa using hb
    cases m with
    | zero => rw [Nat.pow_zero] at hg; omega
    | succ m =>
      have ed : ED K (tOp (rI0 fun i j => .int (i - j)) (tOp (rI (fun _ j => j ≠ 0) fun i j => .int (i.fmod j)) (tOp (rI0 fun i j => .int (i + j)) (tVar 0) (tVar 2)) (tVar 1)) (tVar 2)) [some (.d (.int g)), some (.d (.int ((N : Nat) : Int))), some (.d (.int ((N / 2 : Nat) : Int))), some (.own (rD acc)), z] (.int (dgt N g)) := ed_sub (ed_mod (ed_add (ed_var rfl) (ed_var rfl)) (ed_var rfl) (by omega)) (ed_var rfl)
      refine sd_seq (sd_set ed ?_)
      refine sd_seq (sd_app (i := 3) (ds := rD acc) (d := .int (dgt N g)) rfl (ed_var rfl) (by rw [rD_len]; omega) ?_)
      refine sd_set (ed_fdivP (ed_sub (ed_var rfl) (ed_var rfl)) (ed_var rfl) (lN.cd (by omega) (by decide))) ⟨m, Nat.lt_succ_self m, (g - dgt N g).fdiv N, acc ++ [dgt N g], some (.d (.int (dgt N g))), ?_, dgt_less h3 ho hg, ?_, by rw [List.length_append]; show acc.length + 1 + m ≤ L; omega⟩
      · have : rD (acc ++ [dgt N g]) = rD acc ++ [.int (dgt N g)] := by unfold rD; rw [List.map_append]; rfl
        rw [this]; rfl
      · rw [← ha]
        conv => rhs; unfold digN
        rw [if_neg hb, List.append_assoc]; rfl
  · have hb : g = 0 := by simpa using hb
    subst hb
    have e0 : digN N m 0 = [] := by cases m <;> simp [digN]
    rw [e0, List.append_nil] at ha
    rw [← ha]
    exact sd_retO (i := 3) rfl rfl
theorem pure_lowered (ds : List PyData) (r : Res) (h : F_lowered ds r) (B0 B : Hp) : SD K B0 B (t_lowered K) (startR N_lowered ds) (fin r) := by
  obtain ⟨row, other, f, k, m, rfl, ho, hl, hf, hs, hz, rfl⟩ := h
  unfold t_lowered
  have eg : ((row.length : Int) - (other.length : Int)) = ((row.length - other.length : Nat) : Int) := by omega
  refine sd_seq (sd_set (ed_sub (ed_lenR (ed_var rfl) (SeqD.l _)) (ed_lenR (ed_var rfl) (SeqD.l _))) ?_)
  rw [eg]
  let g := row.length - other.length
  have hzl : (row.drop g).length = other.length := by rw [List.length_drop]; show row.length - (row.length - other.length) = _; omega
  have lc : EF K (tLc (RZ.iZipA K (tCons (tSl (rSlS K) (tVar 0) (tPart (tVar 3)) tNoPart) (tCons (tVar 1) tNil))) (gTup K 2 (gCons (gName 5) (gCons (gName 6) gNil))) tYes (tOp (rI0 fun i j => V.int (i - j)) (tVar 5) (tOp (rI CMulX fun i j => V.int (i * j)) (tVar 2) (tVar 6))) [5, 6])
      [some (.d (.list (rD row))), some (.d (.list (rD other))), some (.d (.int f)), some (.d (.int (g : Int))), none, none, none] (rD (List.zipWith (fun a b => a - f * b) (row.drop g) other)) := by
    refine (ef_lc (fun i => .int ((row.drop g).getD i 0 - f * other.getD i 0)) (id_zip (ds := rD (row.drop g)) (es := rD other) (ad_cons (EF.ed ((ef_sl (ed_var rfl) (od_some (ed_var rfl)) od_none).cast (cut_rD_lo row g))) (ad_cons (ed_var rfl) ad_nil)) (.inl ⟨rfl, rfl⟩)) (by rw [pairs_len, rD_len, rD_len]; omega) fun i d hi => ?_).cast ?_
    · obtain ⟨x, y, rfl, h1, h2⟩ := pairs_get hi
      obtain ⟨a, ha, rfl⟩ := rD_get h1
      obtain ⟨b, hb, rfl⟩ := rD_get h2
      have ea : (row.drop g).getD i 0 = a := by rw [List.getD_eq_getElem?_getD, ha]; rfl
      have eb : other.getD i 0 = b := by rw [List.getD_eq_getElem?_getD, hb]; rfl
      refine ⟨_, gc_pair (by decide), ?_⟩
      rw [ea, eb]
      exact ed_sub (ed_var rfl) (ed_mul (ed_var rfl) (ed_var rfl) (hf.cm (hs b (List.mem_of_getElem? hb)) (by omega)))
    · rw [pairs_len, rD_len, rD_len, hzl, Nat.min_self]
      unfold rD
      apply List.ext_getElem?
      intro i
      rw [List.getElem?_map, List.getElem?_map, List.getElem?_zipWith]
      by_cases hi : i < other.length
      · rw [List.getElem?_range hi, List.getElem?_eq_getElem (by omega : i < (row.drop g).length), List.getElem?_eq_getElem hi]
        show some (PyData.int _) = some (PyData.int _)
        rw [List.getD_eq_getElem?_getD, List.getD_eq_getElem?_getD, List.getElem?_eq_getElem (by omega : i < (row.drop g).length), List.getElem?_eq_getElem hi]; rfl
      · rw [List.getElem?_eq_none_iff.mpr (by rw [List.length_range]; omega), List.getElem?_eq_none_iff.mpr (by omega : (row.drop g).length ≤ i)]; rfl
  refine sd_seq (sd_setF lc ?_)
  refine sd_frz (i := 4) rfl ?_
  have e1 := cut_rD_hi row g
  have e2 := cut_rD_m1 (List.zipWith (fun a b => a - f * b) (row.drop g) other)
  refine sd_retF (ds := rD (lowL row other f)) ((ef_cat (EF.ed ((ef_sl (ed_var rfl) od_none (od_some (ed_var rfl))).cast e1)) (EF.ed ((ef_sl (ed_var rfl) od_none (od_some (ed_neg ed_int))).cast e2)) ?_).cast ?_) rfl
  · rw [rD_len, rD_len, List.length_take, List.length_dropLast, List.length_zipWith]; omega
  · unfold lowL rD
    rw [List.map_append]
theorem sz_low {n m : Nat} {row other : List Int} {f : Int} (h : Sz n row) (hf : Lt2 n f) (ho : Sz m other) : Sz (n + m + 1) (lowL row other f) := Sz.low (N := n + m) (h.mono (by omega)) hf ho (Nat.le_refl _)
theorem pure_quotient (ds : List PyData) (r : Res) (h : F_quotient ds r) (B0 B : Hp) : SD K B0 B (t_quotient K) (startR N_quotient ds) (fin r) := by
  obtain ⟨d, row, other, n, m, rfl, hs, hoz, hl, hn, hm, m8, hz, rfl⟩ := h
  unfold t_quotient
  have hon := lastZ_ne hoz
  have ol := List.length_pos_iff.mpr hon
  have lo := hm.last
  refine sd_seq (sd_setF (ef_list (ed_var rfl) hs) ?_)
  refine sd_frz (i := 2) rfl ?_
  apply sd_seq; apply sd_setF; (case h => walk_at "ev" )
  show SD K B0 B _ [some (.d d), some (.d (.list (rD other))), some (.d (.list (rD row))), some (.own []), none] _
  refine sd_seq (sd_while (fun c ρ => ∃ (left acc : List Int) (z : Option SV), ρ = [some (.d d), some (.d (.list (rD other))), some (.d (.list (rD left))), some (.own (rD acc)), z] ∧ left.length = c ∧ c ≤ row.length ∧ Sz (n + (row.length - c) * (m + 1)) left ∧ acc.length + c ≤ row.length ∧ (quoO c left other).map (· ++ acc.reverse) = quoO row.length row other) row.length ⟨row, [], none, rfl, rfl, Nat.le_refl _, hn.mono (by omega), by simp, ?_⟩ ?_)
  · cases quoO row.length row other <;> simp
  rintro c ρ ⟨left, acc, z, rfl, hc, hcl, hsz, hal, hq⟩
  have hmul : (row.length - c) * (m + 1) ≤ row.length * (m + 1) := Nat.mul_le_mul_right _ (by omega)
  have hz2 : (row.length + 2) * (m + 1) = row.length * (m + 1) + 2 * (m + 1) := Nat.add_mul _ _ _
  refine ⟨decide ((other.length : Int) ≤ (left.length : Int)), td_test (ed_ge (ed_lenR (ed_var rfl) (SeqD.l _)) (ed_lenR (ed_var rfl) (SeqD.l _))), fun hb => ?_, fun hb => ?_⟩
  · have hb : other.length ≤ left.length := by have := of_decide_eq_true hb; omega
    have ln : left ≠ [] := fun z => by rw [z] at hb; have : other.length ≤ 0 := hb; omega
    obtain ⟨c', hc'⟩ : ∃ c', c = c' + 1 := ⟨c - 1, by have := List.length_pos_iff.mpr ln; omega⟩
    subst hc'
    have la : ∀ ρ : Rho, ρ[2]? = some (some (.d (.list (rD left)))) → ED K (tOp (rIx K) (tVar 2) (tUn (rU fun i => .int (-i)) (tC (.int 1)))) ρ (.int (lastZ left)) := fun ρ h => ed_ix (ed_var h) (SeqD.l _) (ed_neg ed_int) (seq_last (SeqD.l _) ln)
    have lb : ∀ ρ : Rho, ρ[1]? = some (some (.d (.list (rD other)))) → ED K (tOp (rIx K) (tVar 1) (tUn (rU fun i => .int (-i)) (tC (.int 1)))) ρ (.int (lastZ other)) := fun ρ h => ed_ix (ed_var h) (SeqD.l _) (ed_neg ed_int) (seq_last (SeqD.l _) hon)
    refine sd_seq (sd_set (ed_fdivP (la _ rfl) (lb _ rfl) (lo.cd hoz (by omega))) ?_)
    have hlast := hsz.last
    have hq0 := hq
    conv at hq0 => lhs; unfold quoO
    rw [if_neg (by omega)] at hq0
    have fb : Lt2 (n + (row.length - (c' + 1)) * (m + 1) + 1) ((lastZ left).fdiv (lastZ other)) := by
      have e := Int.mul_fdiv_add_fmod (lastZ left) (lastZ other)
      have f1 := natAbs_fmod_lt (lastZ left) hoz
      have e2 : (lastZ other * (lastZ left).fdiv (lastZ other)).natAbs = (lastZ other).natAbs * ((lastZ left).fdiv (lastZ other)).natAbs := Int.natAbs_mul _ _
      unfold Lt2 at *
      rw [Nat.pow_succ]
      generalize (lastZ left).fdiv (lastZ other) = f at *
      generalize (lastZ left).fmod (lastZ other) = g at *
      generalize 2 ^ (n + (row.length - (c' + 1)) * (m + 1)) = W at *
      have a1 : (lastZ other).natAbs * f.natAbs ≤ (lastZ left).natAbs + g.natAbs := by omega
      rcases Nat.lt_or_ge f.natAbs (W * 2) with q | q
      · exact q
      · exfalso
        obtain ⟨o, ho⟩ : ∃ o, (lastZ other).natAbs = o + 1 := ⟨(lastZ other).natAbs - 1, by omega⟩
        rw [ho] at a1 f1
        have a2 : (o + 1) * f.natAbs = o * f.natAbs + f.natAbs := Nat.succ_mul _ _
        have a3 : o * (W * 2) ≤ o * f.natAbs := Nat.mul_le_mul_left _ q
        have a4 : o * 1 ≤ o * (W * 2) := Nat.mul_le_mul_left _ (by omega)
        omega
    generalize hf : (lastZ left).fdiv (lastZ other) = f at *
    show SD K B0 B _ [some (.d d), some (.d (.list (rD other))), some (.d (.list (rD left))), some (.own (rD acc)), some (.d (.int f))] _
    refine sd_seq (sd_if (td_test (ed_neI (ed_mul (ed_var rfl) (lb _ rfl) (fb.cm lo (by omega))) (la _ rfl))) (fun hb2 => ?_) (fun hb2 => ?_))
    · have h2 : ¬ f * lastZ other = lastZ left := by simpa using hb2
      rw [if_neg h2] at hq0
      rw [← hq0]
      exact sd_ret ed_non rfl
    · have h2 : f * lastZ other = lastZ left := by simpa using hb2
      rw [if_pos h2] at hq0
      refine sd_next ?_
      refine sd_seq (sd_app (i := 3) (ds := rD acc) (d := .int f) rfl (ed_var rfl) (by rw [rD_len]; omega) ?_)
      have hf2 : Lt2 (n + (row.length - (c' + 1)) * (m + 1)) f := by
        refine hlast.of_le ?_
        rw [← h2, Int.natAbs_mul]
        have : f.natAbs * 1 ≤ f.natAbs * (lastZ other).natAbs := Nat.mul_le_mul_left _ (by omega)
        omega
      have ll := low_len (row := left) (other := other) f hb hon
      have hs1 : (row.length - c') * (m + 1) = (row.length - (c' + 1)) * (m + 1) + (m + 1) := by
        have : row.length - c' = (row.length - (c' + 1)) + 1 := by omega
        rw [this, Nat.succ_mul]
      refine sd_set (EF.ed (ef_call (F := F_lowered) (ad_cons (ed_var rfl) (ad_cons (ed_var rfl) (ad_cons (ed_var rfl) ad_nil))) ⟨left, other, f, _, m, rfl, hb, by omega, hf2, hm, by omega, rfl⟩ rfl)) ⟨c', Nat.lt_succ_self _, lowL left other f, acc ++ [f], some (.d (.int f)), ?_, by omega, by omega, (sz_low hsz hf2 hm).mono (by omega), by rw [List.length_append]; show acc.length + 1 + c' ≤ _; omega, ?_⟩
      · have : rD (acc ++ [f]) = rD acc ++ [.int f] := by unfold rD; rw [List.map_append]; rfl
        rw [this]; rfl
      · rw [← hq0, List.reverse_append, Option.map_map]
        congr 1
        funext Q
        show Q ++ ([f] ++ acc.reverse) = (Q ++ [f]) ++ acc.reverse
        rw [List.append_assoc]
  · have hb : ¬ other.length ≤ left.length := by have := of_decide_eq_false hb; omega
    have hq0 : (if left.any (fun n => n != 0) then none else some ([] : List Int)).map (· ++ acc.reverse) = quoO row.length row other := by
      rw [← hq]
      congr 1
      have lt : left.length < other.length := by omega
      cases c with
      | zero => rfl
      | succ c => unfold quoO; rw [if_pos lt]
    show SD K B0 B _ _ _
    refine sd_seq (sd_if (td_truth (ed_anyI (ed_var rfl)) (Truth.bool _)) (fun hb2 => ?_) (fun hb2 => ?_))
    · rw [hb2] at hq0
      rw [← hq0]
      exact sd_ret ed_non rfl
    · rw [hb2] at hq0
      rw [← hq0]
      refine sd_next ?_
      refine sd_seq (sd_rev (i := 3) rfl ?_)
      have : (rD acc).reverse = rD ([] ++ acc.reverse) := by unfold rD; rw [← List.map_reverse]; rfl
      rw [this]
      exact sd_retO (i := 3) rfl rfl
def quoD : Option (List Int) → PyData
  | none => .none
  | some P => .list (rD P)
theorem ed_quo {ρ : Rho} {d : PyData} {row other : List Int} {n m i j : Nat} (h1 : ρ[i]? = some (some (.d d))) (h2 : ρ[j]? = some (some (.d (.list (rD other))))) (hs : SeqD d (rD row)) (hz : lastZ other ≠ 0) (hl : row.length ≤ 1000) (hn : Sz n row) (hm : Sz m other) (m8 : m ≤ 8900) (hb : n + (row.length + 2) * (m + 1) ≤ 100000000) :
    ED K (tCall (sp_quotient K) [] E0 (tCons (tVar i) (tCons (tVar j) tNil))) ρ (quoD (quoO row.length row other)) := by
  have f : F_quotient [d, .list (rD other)] (quoR (quoO row.length row other)) := ⟨d, row, other, n, m, rfl, hs, hz, hl, hn, hm, m8, hb, rfl⟩
  cases q : quoO row.length row other with
  | none =>
    rw [q] at f
    exact ed_call (ad_cons (ed_var h1) (ad_cons (ed_var h2) ad_nil)) f rfl
  | some P =>
    rw [q] at f
    exact EF.ed (ef_call (ad_cons (ed_var h1) (ad_cons (ed_var h2) ad_nil)) f rfl)
theorem none_quo (o : Option (List Int)) : noneD (quoD o) = o.isNone := by cases o <;> rfl
theorem pure_common_row (ds : List PyData) (r : Res) (h : F_common_row ds r) (B0 B : Hp) : SD K B0 B (t_common_row K) (startR N_common_row ds) (fin r) := by
  obtain ⟨d1, d2, one, other, t, a, b, k, L, Kb, n, rfl, hs1, hs2, p, hn1, hn2, hn, hK, rfl⟩ := h
  unfold t_common_row
  have n1 := lastZ_ne p.g1.ne
  have n2 := lastZ_ne p.g2.ne
  have b1 := big_pos p.g1.ne
  have b2 := big_pos p.g2.ne
  have l1 := p.l1
  have l2 := p.l2
  have l13 := p.lsm
  have mpos : 1 ≤ min (bigL one) (bigL other) := by omega
  have bl1 : bigL one ≤ 2 ^ n := big_le fun x hx => Nat.le_of_lt (hn1 x hx)
  have bl2 : bigL other ≤ 2 ^ n := big_le fun x hx => Nat.le_of_lt (hn2 x hx)
  have emin : (if ((bigL other : Nat) : Int) < ((bigL one : Nat) : Int) then ((bigL other : Nat) : Int) else ((bigL one : Nat) : Int)) = ((min (bigL one) (bigL other) : Nat) : Int) := by split <;> omega
  have hbits := bits_lt ((min (bigL one) (bigL other) : Nat) : Int)
  have hbge := bits_ge ((min (bigL one) (bigL other) : Nat) : Int) (by omega)
  rw [Int.natAbs_natCast] at hbits hbge
  have bsmall : Builtin.Int.intBits ((min (bigL one) (bigL other) : Nat) : Int) ≤ n + 1 := by
    have : 2 ^ Builtin.Int.intBits ((min (bigL one) (bigL other) : Nat) : Int) ≤ 2 ^ (n + 1) := by
      rw [Nat.pow_succ 2 n]; omega
    exact (Nat.pow_le_pow_iff_right (by decide)).mp this
  refine sd_seq (sd_set (d := .int ((Builtin.Int.intBits ((min (bigL one) (bigL other) : Nat) : Int) + 64 : Nat) : Int)) ((ed_add (ed_bits ((ed_min2 (ed_call (F := F_largest) (ad_cons (ed_var rfl) ad_nil) ⟨d1, one, rfl, hs1, n1, by omega, rfl⟩ rfl) (ed_call (F := F_largest) (ad_cons (ed_var rfl) ad_nil) ⟨d2, other, rfl, hs2, n2, by omega, rfl⟩ rfl)).cast (by rw [emin]))) ed_int).cast rfl) ?_)
  generalize hB : Builtin.Int.intBits ((min (bigL one) (bigL other) : Nat) : Int) = B at *
  generalize hM : min (bigL one) (bigL other) = M at *
  show SD K B0 _ _ [some (.d d1), some (.d d2), some (.d (.int ((B + 64 : Nat) : Int))), none, none] _
  refine sd_while (fun m ρ => ∃ (s : Nat) (z1 z2 : Option SV), ρ = [some (.d d1), some (.d d2), some (.d (.int ((s : Nat) : Int))), z1, z2] ∧ B + 64 ≤ s ∧ s ≤ 8800 ∧ m = Kb + 1 - s) (Kb + 1 - (B + 64)) ⟨B + 64, none, none, rfl, Nat.le_refl _, by omega, rfl⟩ ?_
  rintro m ρ ⟨s, z1, z2, rfl, hs, hs8, rfl⟩
  refine ⟨true, td_truth ed_bl (Truth.bool _), fun _ => ?_, fun z => nomatch z⟩
  have cp : CPow 1 ((s : Nat) : Int) := ⟨by omega, by omega, by decide⟩
  have eN : (1 * 2 ^ ((s : Nat) : Int).toNat + 1 : Int) = ((2 ^ s + 1 : Nat) : Int) := by rw [Int.toNat_natCast, Int.one_mul, Int.natCast_add, Int.natCast_pow]; rfl
  refine sd_seq (sd_set (d := .int ((2 ^ s + 1 : Nat) : Int)) ((ed_add (ed_shl ed_int (ed_var rfl) cp) ed_int).cast (by rw [eN])) ?_)
  have hN1 : 2 ^ 64 * M ≤ 2 ^ s + 1 := by
    have e : 2 ^ s = 2 ^ 64 * 2 ^ (s - 64) := by rw [← Nat.pow_add]; congr 1; omega
    have : 2 ^ B ≤ 2 ^ (s - 64) := Nat.pow_le_pow_right (by decide) (by omega)
    have := Nat.mul_le_mul_left (2 ^ 64) (Nat.le_trans (Nat.le_of_lt hbits) this)
    omega
  have ho : (2 ^ s + 1) % 2 = 1 := by
    have e : 2 ^ s = 2 * 2 ^ (s - 1) := by rw [← Nat.pow_succ']; congr 1; omega
    omega
  have hlt : 2 ^ s + 1 < 2 ^ (s + 1) := by
    have : 2 ^ 1 ≤ 2 ^ s := Nat.pow_le_pow_right (by decide) (by omega)
    have e : 2 ^ (s + 1) = 2 ^ s * 2 := Nat.pow_succ _ _
    have : 2 ^ 2 ≤ 2 ^ s := Nat.pow_le_pow_right (by decide) (by omega)
    omega
  have lN : Lt2 (s + 1) ((2 ^ s + 1 : Nat) : Int) := by unfold Lt2; rw [Int.natAbs_natCast]; exact hlt
  have h3 : 3 ≤ 2 ^ s + 1 := by
    have : 2 ^ 1 ≤ 2 ^ s := Nat.pow_le_pow_right (by decide) (by omega)
    omega
  have hfar : Kb < s → 2 ^ (Kb + 1) < 2 ^ s + 1 := fun h => by
    have : 2 ^ (Kb + 1) ≤ 2 ^ s := Nat.pow_le_pow_right (by decide) (by omega)
    omega
  have hdiv : (2 ^ s + 1) / 2 < 2 ^ s := by omega
  obtain ⟨h0, hl⟩ := p.num mpos hN1
  have right := fun {w p1 p2 : List Int} => p.right (w := w) (p1 := p1) (p2 := p2) mpos hN1 ho
  have done := fun h => p.done mpos hN1 ho (hfar h)
  generalize hNN : 2 ^ s + 1 = N at *
  have N89 : N < 2 ^ 8900 := Nat.lt_of_lt_of_le hlt (Nat.pow_le_pow_right (by decide) (by omega))
  have dl := dig_last h3 ho hl h0
  have db := dig_bd h3 ho L (hN one other N)
  have dlen := dig_len N L (hN one other N)
  have m1 : (one.length + 2) * (s + 1 + 2) ≤ 102 * 8803 := Nat.mul_le_mul (by omega) (by omega)
  have m2 : (other.length + 2) * (s + 1 + 2) ≤ 102 * 8803 := Nat.mul_le_mul (by omega) (by omega)
  show SD K B0 _ _ [some (.d d1), some (.d d2), some (.d (.int ((s : Nat) : Int))), some (.d (.int ((N : Nat) : Int))), z2] _
  have eh : ED K (tCB rGcd (tCons (tCall (sp_value_at K) [] E0 (tCons (tVar 0) (tCons (tVar 3) tNil))) (tCons (tCall (sp_value_at K) [] E0 (tCons (tVar 1) (tCons (tVar 3) tNil))) tNil))) [some (.d d1), some (.d d2), some (.d (.int ((s : Nat) : Int))), some (.d (.int ((N : Nat) : Int))), z2] (.int (hN one other N)) :=
    ed_gcd (ed_call (F := F_value_at) (ad_cons (ed_var rfl) (ad_cons (ed_var rfl) ad_nil)) ⟨d1, one, N, n, s + 1, rfl, hs1, hn1, lN, by omega, rfl⟩ rfl) (ed_call (F := F_value_at) (ad_cons (ed_var rfl) (ad_cons (ed_var rfl) ad_nil)) ⟨d2, other, N, n, s + 1, rfl, hs2, hn2, lN, by omega, rfl⟩ rfl)
  have ed := ef_call (K := K) (E := E0) (F := F_digits) (n := 2) (ad_cons eh (ad_cons (ed_var (n := 3) rfl) ad_nil)) ⟨hN one other N, N, L, rfl, h3, ho, N89, hl, by omega, rfl⟩ rfl
  have hw : ∀ w, w = bareL (digN N L (hN one other N)) → w = bareL (digN N L (hN one other N)) := fun _ h => h
  generalize hG : digN N L (hN one other N) = G at *
  have sG : Sz s G := fun x hx => by
    have := db x hx
    unfold Lt2; omega
  refine sd_seq (sd_set (EF.ed (ef_call (F := F_bare) (ad_cons (EF.ed ed) ad_nil) ⟨_, G, s, rfl, SeqD.l _, dl, by omega, sG, by omega, rfl⟩ rfl)) ?_)
  have wl := (bare_good dl).ne
  have sw : Sz s (bareL G) := sG.bare (.inr dl)
  clear eh ed
  generalize hwG : bareL G = w at *
  show SD K B0 _ _ [some (.d d1), some (.d d2), some (.d (.int ((s : Nat) : Int))), some (.d (.int ((N : Nat) : Int))), some (.d (.list (rD w)))] _
  have m3 : (one.length + 2) * (s + 1) ≤ 102 * 8801 := Nat.mul_le_mul (by omega) (by omega)
  have m4 : (other.length + 2) * (s + 1) ≤ 102 * 8801 := Nat.mul_le_mul (by omega) (by omega)
  refine sd_seq (sd_if (td_and (td_notNn (ed_quo rfl rfl hs1 wl (by omega) hn1 sw (by omega) (by omega))) fun _ => td_notNn (ed_quo rfl rfl hs2 wl (by omega) hn2 sw (by omega) (by omega))) (fun hb => ?_) (fun hb => ?_))
  · rw [none_quo, none_quo, Bool.and_eq_true] at hb
    cases q1 : quoO one.length one w with
    | none => rw [q1] at hb; exact absurd hb.1 (by decide)
    | some p1 =>
      cases q2 : quoO other.length other w with
      | none => rw [q2] at hb; exact absurd hb.2 (by decide)
      | some p2 =>
        have := right rfl q1 q2
        subst this
        exact sd_ret (ed_var rfl) rfl
  · have sK : s ≤ Kb := by
      rcases Nat.lt_or_ge Kb s with z | z
      · exfalso
        obtain ⟨x1, x2, x3⟩ := done z
        rw [none_quo, none_quo, x1, x2, x3] at hb
        simp at hb
      · exact z
    refine sd_next ?_
    have c2 : CMulX 2 ((s : Nat) : Int) := (show Lt2 2 (2 : Int) by unfold Lt2; decide).cm (show Lt2 20 ((s : Nat) : Int) by unfold Lt2; omega) (by decide)
    refine sd_set (ed_mul ed_int (ed_var rfl) c2) ⟨Kb + 1 - 2 * s, by omega, 2 * s, some (.d (.int ((N : Nat) : Int))), some (.d (.list (rD w))), ?_, by omega, by omega, rfl⟩
    have : (2 * ((s : Nat) : Int)) = ((2 * s : Nat) : Int) := by omega
    rw [this]; rfl
end
end Rt

namespace Rt
open PySem PySem.Spec PyProof.Rows L2 Evl
/-! the steps that need no thought; «walk_at "ev"» goes on till it is stuck -/
local macro_rules | `(tactic| walk_at "rt1") => `(tactic| first
  | ((with_reducible show _ = true → ED _ _ _ _); intro _) | ((with_reducible show _ = false → ED _ _ _ _); intro _) | ((with_reducible show _ = true → TD _ _ _ _); intro _) | ((with_reducible show _ = false → TD _ _ _ _); intro _)
  | with_reducible exact ed_int | with_reducible exact ed_bl | with_reducible exact ed_non | with_reducible exact ad_nil | with_reducible exact od_none | with_reducible exact td_yes
  | ((with_reducible apply ed_var); exact rfl)
  | (with_reducible apply ad_cons)
  | (with_reducible apply td_test) | (with_reducible apply td_truth) | (with_reducible apply td_not) | (with_reducible apply td_and) | (with_reducible apply td_or)
  | (with_reducible apply ed_add) | (with_reducible apply ed_sub) | (with_reducible apply ed_mul) | (with_reducible apply ed_mod) | (with_reducible apply ed_fdivP) | (with_reducible apply ed_pow) | (with_reducible apply ed_neg)
  | (with_reducible apply ed_lt) | (with_reducible apply ed_le) | (with_reducible apply ed_gt) | (with_reducible apply ed_ge)
  | (with_reducible apply ed_eqD) | (with_reducible apply ed_neD)
  | (with_reducible apply ed_ix) | (with_reducible apply ed_len) | (with_reducible apply ed_abs) | (with_reducible apply ed_gcd) | (with_reducible apply ed_isi)
  | (with_reducible apply ed_tup) | (with_reducible apply ed_tuple) | (with_reducible apply ed_andV) | (with_reducible apply ed_orV) | (with_reducible apply ed_notV)
  | (with_reducible apply od_some)
  | (with_reducible apply ef_lst) | (with_reducible apply ef_list) | (with_reducible apply ef_sl) | (with_reducible apply ef_cat)
  | (with_reducible apply EF.ed; with_reducible apply ef_lst) | (with_reducible apply EF.ed; with_reducible apply ef_list) | (with_reducible apply EF.ed; with_reducible apply ef_sl) | (with_reducible apply EF.ed; with_reducible apply ef_cat)
  | (with_reducible apply ed_call)
  | ((with_reducible show SeqD _ _); first | exact SeqD.l _ | exact SeqD.t _ | assumption)
  | ((with_reducible show Truth _ _); first | exact Truth.bool _ | exact Truth.int _ | exact Truth.l _ | exact Truth.t _)
  | ((with_reducible show SeqAt.shaped _ = true); exact rfl)
  | ((with_reducible show atI _ _ = some _); first | exact rfl | assumption)
  | ((with_reducible show kitB _ _ = some _); first | exact rfl | decide +kernel)
  | ((with_reducible show List.length _ = _); rfl)
  | ((with_reducible show List.length _ ≤ 100000); first | exact Nat.le_of_ble_eq_true rfl | (simp; done) | (simp; omega)))
local macro_rules | `(tactic| walk_at "ev") => `(tactic| repeat' walk_at "rt1")
def overB (u v u' v' : Int × Int) : Bool := decide (u.1 * v'.2 < v'.1 * u.2) && decide (u'.1 * v.2 < v.1 * u'.2)
theorem overB_iff {u v u' v' : Int × Int} : overB u v u' v' = true ↔ Over u v u' v' := by
  unfold overB Over PL
  rw [Bool.and_eq_true, decide_eq_true_iff, decide_eq_true_iff]
def alikeB (t : List Int) (u v u' v' : Int × Int) : Bool := overB u v u' v' && !decide (sgn (hor (loV u u').1 (loV u u').2 t).1 = sgn (hor (hiV v v').1 (hiV v v').2 t).1)
/-- halving both till they are apart, k times -/
structure MeetK (xs ys : List Int) (u v u' v' : Int × Int) (k : Nat) : Prop where
  on : ∀ i, i < k → Over (hk xs u v i).1 (hk xs u v i).2 (hk ys u' v' i).1 (hk ys u' v' i).2
  off : ¬ Over (hk xs u v k).1 (hk xs u v k).2 (hk ys u' v' k).1 (hk ys u' v' k).2
def sopV (xs : List Int) (u v : Int × Int) : Int := if 0 ≤ u.1 then 1 else if v.1 ≤ 0 then -1 else sgn (xs.getD 0 0) * sgn (hor u.1 u.2 xs).1
theorem PgS.up {n n2 a a2 b b2 : Nat} {D M : Int} {xs : List Int} {u v : Int × Int} (p : PgS n a b D M xs u v) (h1 : n ≤ n2) (h2 : a ≤ a2) (h3 : b ≤ b2) : PgS n2 a2 b2 D M xs u v :=
  ⟨p.pg, p.len, p.sz.mono h1, p.d0, p.m0, p.ld.mono h2, p.lm.mono h3, p.du, p.dv⟩
/-! ### the promises -/
def F_overlapping (ds : List PyData) (r : Res) : Prop := ∃ (xs ys : List Int) (u v u' v' : Int × Int) (m : Nat), ds = [pegD xs u v, pegD ys u' v'] ∧ (Lt2 m u.1 ∧ Lt2 m u.2 ∧ Lt2 m v.1 ∧ Lt2 m v.2) ∧ (Lt2 m u'.1 ∧ Lt2 m u'.2 ∧ Lt2 m v'.1 ∧ Lt2 m v'.2) ∧ m ≤ 10000000 ∧ r = .rt (.bool (overB u v u' v'))
def F_alike (ds : List PyData) (r : Res) : Prop := ∃ (xs ys t A B : List Int) (u v u' v' : Int × Int) (n a b L K : Nat) (D M D' M' k : Int), ds = [pegD xs u v, pegD ys u' v'] ∧ PgS n a b D M xs u v ∧ PgS n a b D' M' ys u' v' ∧ Placed xs ys t A B k (min (bigL xs) (bigL ys)) L K ∧ n ≤ 8000 ∧ K ≤ 4200 ∧ a ≤ 4000 ∧ b ≤ 4000 ∧ r = .rt (.bool (alikeB t u v u' v'))
def F_compare (ds : List PyData) (r : Res) : Prop := ∃ (xs ys t A B : List Int) (u v u' v' : Int × Int) (n a b L K : Nat) (D M D' M' k : Int), ds = [pegD xs u v, pegD ys u' v'] ∧ PgS n a b D M xs u v ∧ PgS n a b D' M' ys u' v' ∧ Placed xs ys t A B k (min (bigL xs) (bigL ys)) L K ∧ n ≤ 8000 ∧ K ≤ 4200 ∧ a ≤ 4000 ∧ b ≤ 4000 ∧
  ((alikeB t u v u' v' = true ∧ r = .rt (.int 0)) ∨ (alikeB t u v u' v' = false ∧ ∃ j, MeetK xs ys u v u' v' j ∧ a + 2 * j ≤ 4000 ∧ r = .rt (.int (if (hk xs u v j).1.1 * (hk ys u' v' j).1.2 < (hk ys u' v' j).1.1 * (hk xs u v j).1.2 then -1 else 1))))
def F_sign_of_peg (ds : List PyData) (r : Res) : Prop := ∃ (xs : List Int) (u v : Int × Int) (n a b : Nat) (D M : Int), ds = [pegD xs u v] ∧ PgS n a b D M xs u v ∧ n ≤ 1000000 ∧ a ≤ 4000 ∧ b ≤ 4000 ∧ r = .rt (.int (sopV xs u v))
abbrev sp_overlapping (K : PySem.W.Frag) : Sp := spD K 2 F_overlapping
abbrev sp_alike (K : PySem.W.Frag) : Sp := spD K 2 F_alike
abbrev sp_compare (K : PySem.W.Frag) : Sp := spD K 2 F_compare
abbrev sp_sign_of_peg (K : PySem.W.Frag) : Sp := spD K 1 F_sign_of_peg
def t_overlapping (K : PySem.W.Frag) : TS := (tRet (tAndV (tCall (sp_below K) [] E0 (tCons (tOp (rIx K) (tVar 0) (tC (.int 1))) (tCons (tOp (rIx K) (tVar 1) (tC (.int 2))) tNil))) (tCall (sp_below K) [] E0 (tCons (tOp (rIx K) (tVar 1) (tC (.int 1))) (tCons (tOp (rIx K) (tVar 0) (tC (.int 2))) tNil)))))
abbrev N_overlapping : List Str := ["one", "other"]
def t_alike (K : PySem.W.Frag) : TS := (tSeq (tIfS (tNot (tTruth K (tCall (sp_overlapping K) [] E0 (tCons (tVar 0) (tCons (tVar 1) tNil))))) (tRet (tC (.bl false))) tNext)
  (tSeq (tAsg (tIf (tTruth K (tCall (sp_below K) [] E0 (tCons (tOp (rIx K) (tVar 0) (tC (.int 1))) (tCons (tOp (rIx K) (tVar 1) (tC (.int 1))) tNil)))) (tOp (rIx K) (tVar 1) (tC (.int 1))) (tOp (rIx K) (tVar 0) (tC (.int 1)))) (gName 2))
  (tSeq (tAsg (tIf (tTruth K (tCall (sp_below K) [] E0 (tCons (tOp (rIx K) (tVar 0) (tC (.int 2))) (tCons (tOp (rIx K) (tVar 1) (tC (.int 2))) tNil)))) (tOp (rIx K) (tVar 0) (tC (.int 2))) (tOp (rIx K) (tVar 1) (tC (.int 2)))) (gName 3))
  (tSeq (tAsg (tCall (sp_common_row K) [] E0 (tCons (tOp (rIx K) (tVar 0) (tC (.int 0))) (tCons (tOp (rIx K) (tVar 1) (tC (.int 0))) tNil))) (gName 4))
  (tRet (tOp (rNeD K) (tCall (sp_sign_at K) [] E0 (tCons (tVar 4) (tCons (tVar 2) tNil))) (tCall (sp_sign_at K) [] E0 (tCons (tVar 4) (tCons (tVar 3) tNil)))))))))
abbrev N_alike : List Str := ["one", "other", "low", "high", "common"]
def t_compare (K : PySem.W.Frag) : TS := (tSeq (tIfS (tTruth K (tCall (sp_alike K) [] E0 (tCons (tVar 0) (tCons (tVar 1) tNil)))) (tRet (tC (.int 0))) tNext)
  (tSeq (tWhile (tTruth K (tCall (sp_overlapping K) [] E0 (tCons (tVar 0) (tCons (tVar 1) tNil)))) (tSeq (tAsg (tCall (sp_halved K) [] E0 (tCons (tVar 0) tNil)) (gName 0))
  (tAsg (tCall (sp_halved K) [] E0 (tCons (tVar 1) tNil)) (gName 1))))
  (tRet (tIf (tTruth K (tCall (sp_below K) [] E0 (tCons (tOp (rIx K) (tVar 0) (tC (.int 1))) (tCons (tOp (rIx K) (tVar 1) (tC (.int 1))) tNil)))) (tUn (rU fun i => .int (-i)) (tC (.int 1))) (tC (.int 1))))))
abbrev N_compare : List Str := ["one", "other"]
def t_sign_of_peg (K : PySem.W.Frag) : TS := (tSeq (tAsg (tVar 0) (gTup K 3 (gCons (gName 1) (gCons (gName 2) (gCons (gName 3) gNil)))))
  (tSeq (tIfS (tTest (tOp (rI0 fun i j => .bl (decide (j ≤ i))) (tOp (rIx K) (tVar 2) (tC (.int 0))) (tC (.int 0)))) (tRet (tC (.int 1))) tNext)
  (tSeq (tIfS (tTest (tOp (rI0 fun i j => .bl (decide (i ≤ j))) (tOp (rIx K) (tVar 3) (tC (.int 0))) (tC (.int 0)))) (tRet (tUn (rU fun i => .int (-i)) (tC (.int 1)))) tNext)
  (tRet (tOp (rI CMulX fun i j => .int (i * j)) (tCall (sp_sign K) [] E0 (tCons (tOp (rIx K) (tVar 1) (tC (.int 0))) tNil)) (tCall (sp_sign_at K) [] E0 (tCons (tVar 1) (tCons (tVar 2) tNil))))))))
abbrev N_sign_of_peg : List Str := ["one", "row", "low", "high"]
section
variable {K : PySem.W.Frag}
theorem pure_overlapping (ds : List PyData) (r : Res) (h : F_overlapping ds r) (B0 B : Hp) : SD K B0 B (t_overlapping K) (startR N_overlapping ds) (fin r) := by
  obtain ⟨xs, ys, u, v, u', v', m, rfl, ⟨a1, a2, a3, a4⟩, ⟨b1, b2, b3, b4⟩, hm, rfl⟩ := h
  unfold t_overlapping
  have s1 := pegD_seq xs u v
  have s2 := pegD_seq ys u' v'
  exact sd_ret (ed_andV (ed_call (ad_cons (ed_ix (ed_var rfl) s1 ed_int rfl) (ad_cons (ed_ix (ed_var rfl) s2 ed_int rfl) ad_nil)) (F := F_below) ⟨u, v', m, rfl, ⟨a1, a2, b3, b4⟩, hm, rfl⟩ rfl) fun _ =>
    ed_call (ad_cons (ed_ix (ed_var rfl) s2 ed_int rfl) (ad_cons (ed_ix (ed_var rfl) s1 ed_int rfl) ad_nil)) (F := F_below) ⟨u', v, m, rfl, ⟨b1, b2, a3, a4⟩, hm, rfl⟩ rfl) rfl
theorem pegS_lows {n a b : Nat} {D M : Int} {xs : List Int} {u v : Int × Int} (p : PgS n a b D M xs u v) : Lt2 (a + b) u.1 ∧ Lt2 (a + b) u.2 ∧ Lt2 (a + b) v.1 ∧ Lt2 (a + b) v.2 := by
  have lu := p.du.low p.d0 p.ld p.lm p.m0
  have lv := p.dv.low p.d0 p.ld p.lm p.m0
  exact ⟨lu.l1, lu.l2, lv.l1, lv.l2⟩
theorem szt' {one other t a b : List Int} {k : Int} {M L K : Nat} (p : Placed one other t a b k M L K) : Sz (K + 1) t := fun x hx => by
  have := p.bk (k * x) (List.mem_map.mpr ⟨x, hx, rfl⟩)
  rw [Int.natAbs_mul] at this
  have k0 := p.k0
  have : 1 * x.natAbs ≤ k.natAbs * x.natAbs := Nat.mul_le_mul_right _ (by omega)
  unfold Lt2
  rw [Nat.pow_succ]
  have : 0 < 2 ^ K := Nat.pow_pos (by decide)
  omega
theorem pure_alike (ds : List PyData) (r : Res) (h : F_alike ds r) (B0 B : Hp) : SD K B0 B (t_alike K) (startR N_alike ds) (fin r) := by
  obtain ⟨xs, ys, t, A, B', u, v, u', v', n, a, b, L, Kb, D, M, D', M', k, rfl, p, q, pl, hn, hK, ha, hb, rfl⟩ := h
  unfold t_alike
  have s1 := pegD_seq xs u v
  have s2 := pegD_seq ys u' v'
  have l1 := pegS_lows p
  have l2 := pegS_lows q
  refine sd_seq (sd_if (td_not (td_truth (ed_call (ad_cons (ed_var rfl) (ad_cons (ed_var rfl) ad_nil)) ⟨xs, ys, u, v, u', v', a + b, rfl, l1, l2, by omega, rfl⟩ rfl) (Truth.bool _))) (fun hb => ?_) (fun hb => ?_))
  · have hb : overB u v u' v' = false := by simpa using hb
    refine sd_ret (d := .bool false) ed_bl ?_
    unfold alikeB
    rw [hb]; rfl
  · have hb : overB u v u' v' = true := by simpa using hb
    refine sd_next ?_
    have lo : ED K (tIf (tTruth K (tCall (sp_below K) [] E0 (tCons (tOp (rIx K) (tVar 0) (tC (.int 1))) (tCons (tOp (rIx K) (tVar 1) (tC (.int 1))) tNil)))) (tOp (rIx K) (tVar 1) (tC (.int 1))) (tOp (rIx K) (tVar 0) (tC (.int 1)))) [some (.d (pegD xs u v)), some (.d (pegD ys u' v')), none, none, none] (pD (loV u u')) := by
      refine ed_if (td_truth (ed_call (ad_cons (ed_ix (ed_var rfl) s1 ed_int rfl) (ad_cons (ed_ix (ed_var rfl) s2 ed_int rfl) ad_nil)) (F := F_below) ⟨u, u', a + b, rfl, ⟨l1.1, l1.2.1, l2.1, l2.2.1⟩, by omega, rfl⟩ rfl) (Truth.bool _)) (fun h => ?_) (fun h => ?_)
      · have h := of_decide_eq_true h
        unfold loV; rw [if_pos h]
        exact ed_ix (ed_var rfl) s2 ed_int rfl
      · have h := of_decide_eq_false h
        unfold loV; rw [if_neg h]
        exact ed_ix (ed_var rfl) s1 ed_int rfl
    refine sd_seq (sd_set lo ?_)
    have hi : ED K (tIf (tTruth K (tCall (sp_below K) [] E0 (tCons (tOp (rIx K) (tVar 0) (tC (.int 2))) (tCons (tOp (rIx K) (tVar 1) (tC (.int 2))) tNil)))) (tOp (rIx K) (tVar 0) (tC (.int 2))) (tOp (rIx K) (tVar 1) (tC (.int 2)))) [some (.d (pegD xs u v)), some (.d (pegD ys u' v')), some (.d (pD (loV u u'))), none, none] (pD (hiV v v')) := by
      refine ed_if (td_truth (ed_call (ad_cons (ed_ix (ed_var rfl) s1 ed_int rfl) (ad_cons (ed_ix (ed_var rfl) s2 ed_int rfl) ad_nil)) (F := F_below) ⟨v, v', a + b, rfl, ⟨l1.2.2.1, l1.2.2.2, l2.2.2.1, l2.2.2.2⟩, by omega, rfl⟩ rfl) (Truth.bool _)) (fun h => ?_) (fun h => ?_)
      · have h := of_decide_eq_true h
        unfold hiV; rw [if_pos h]
        exact ed_ix (ed_var rfl) s1 ed_int rfl
      · have h := of_decide_eq_false h
        unfold hiV; rw [if_neg h]
        exact ed_ix (ed_var rfl) s2 ed_int rfl
    refine sd_seq (sd_set hi ?_)
    refine sd_seq (sd_set (d := .list (rD t)) (ed_call (ad_cons (ed_ix (ed_var rfl) s1 ed_int rfl) (ad_cons (ed_ix (ed_var rfl) s2 ed_int rfl) ad_nil)) (F := F_common_row) ⟨_, _, xs, ys, t, A, B', k, L, Kb, n, rfl, SeqD.t _, SeqD.t _, pl, p.sz, q.sz, hn, hK, rfl⟩ rfl) ?_)
    have ll : Lt2 (a + b) (loV u u').1 ∧ Lt2 (a + b) (loV u u').2 := by
      unfold loV; split
      · exact ⟨l2.1, l2.2.1⟩
      · exact ⟨l1.1, l1.2.1⟩
    have lh : Lt2 (a + b) (hiV v v').1 ∧ Lt2 (a + b) (hiV v v').2 := by
      unfold hiV; split
      · exact ⟨l1.2.2.1, l1.2.2.2⟩
      · exact ⟨l2.2.2.1, l2.2.2.2⟩
    have st := szt' pl
    have lt : t.length ≤ 100 := by
      have h := mulL_len (lastZ_ne pl.gt.ne) (lastZ_ne pl.ha)
      have h2 := List.length_pos_iff.mpr (lastZ_ne pl.ha)
      have h3 := pl.l1
      have h4 := pl.lsm
      rw [← pl.ea] at h
      omega
    have es : (t.length + 2) * (a + b + 1 + 1) ≤ 102 * 8002 := Nat.mul_le_mul (by omega) (by omega)
    have sg : ∀ (j : Nat) (w : Int × Int) (ρ : Rho), ρ[4]? = some (some (.d (.list (rD t)))) → ρ[j]? = some (some (.d (pD w))) → Lt2 (a + b) w.1 ∧ Lt2 (a + b) w.2 → ED K (tCall (sp_sign_at K) [] E0 (tCons (tVar 4) (tCons (tVar j) tNil))) ρ (.int (sgn (hor w.1 w.2 t).1)) :=
      fun j w ρ h1 h2 l => ed_call (ad_cons (ed_var h1) (ad_cons (ed_var h2) ad_nil)) ⟨_, t, w.1, w.2, Kb + 1, a + b + 1, rfl, SeqD.l _, st, l.1.mono (by omega), l.2.mono (by omega), by omega, by omega, rfl⟩ rfl
    refine sd_ret (ed_neI (sg 2 (loV u u') _ rfl rfl ll) (sg 3 (hiV v v') _ rfl rfl lh)) ?_
    unfold alikeB
    rw [hb]; rfl
theorem pure_compare (ds : List PyData) (r : Res) (h : F_compare ds r) (B0 B : Hp) : SD K B0 B (t_compare K) (startR N_compare ds) (fin r) := by
  obtain ⟨xs, ys, t, A, B', u, v, u', v', n, a, b, L, Kb, D, M, D', M', k, rfl, p, q, pl, hn, hK, ha, hb, h⟩ := h
  unfold t_compare
  refine sd_seq (sd_if (td_truth (ed_call (ad_cons (ed_var rfl) (ad_cons (ed_var rfl) ad_nil)) (F := F_alike) ⟨xs, ys, t, A, B', u, v, u', v', n, a, b, L, Kb, D, M, D', M', k, rfl, p, q, pl, hn, hK, ha, hb, rfl⟩ rfl) (Truth.bool _)) (fun hal => ?_) (fun hal => ?_))
  · rcases h with ⟨_, rfl⟩ | ⟨z, _⟩
    · exact sd_ret ed_int rfl
    · rw [hal] at z; cases z
  · rcases h with ⟨z, _⟩ | ⟨_, j, mt, aj, rfl⟩
    · rw [hal] at z; cases z
    refine sd_next ?_
    refine sd_seq (sd_while (fun m ρ => ∃ i, i + m = j ∧ ρ = [some (.d (pegD xs (hk xs u v i).1 (hk xs u v i).2)), some (.d (pegD ys (hk ys u' v' i).1 (hk ys u' v' i).2))]) j ⟨0, by omega, rfl⟩ ?_)
    rintro m ρ ⟨i, hi, rfl⟩
    have p1 := (hk_ok p i).1
    have q1 := (hk_ok q i).1
    have l1 := pegS_lows p1
    have l2 := pegS_lows q1
    have s1 := pegD_seq xs (hk xs u v i).1 (hk xs u v i).2
    have s2 := pegD_seq ys (hk ys u' v' i).1 (hk ys u' v' i).2
    refine ⟨overB (hk xs u v i).1 (hk xs u v i).2 (hk ys u' v' i).1 (hk ys u' v' i).2, td_truth (ed_call (ad_cons (ed_var rfl) (ad_cons (ed_var rfl) ad_nil)) (F := F_overlapping) ⟨xs, ys, _, _, _, _, a + 2 * i + b, rfl, l1, l2, by omega, rfl⟩ rfl) (Truth.bool _), fun ob => ?_, fun ob => ?_⟩
    · have ov := overB_iff.mp ob
      cases m with
      | zero =>
        have : i = j := by omega
        subst this
        exact absurd ov mt.off
      | succ m =>
        refine sd_seq (sd_set (d := pegD xs (hk xs u v (i + 1)).1 (hk xs u v (i + 1)).2) (ed_call (ad_cons (ed_var rfl) ad_nil) (F := F_halved) ⟨xs, _, _, n, a + 2 * i, b, _, _, rfl, p1, by omega, by omega, hb, rfl⟩ rfl) ?_)
        exact sd_set (d := pegD ys (hk ys u' v' (i + 1)).1 (hk ys u' v' (i + 1)).2) (ed_call (ad_cons (ed_var rfl) ad_nil) (F := F_halved) ⟨ys, _, _, n, a + 2 * i, b, _, _, rfl, q1, by omega, by omega, hb, rfl⟩ rfl) ⟨m, Nat.lt_succ_self m, i + 1, by omega, rfl⟩
    · have no : ¬ Over (hk xs u v i).1 (hk xs u v i).2 (hk ys u' v' i).1 (hk ys u' v' i).2 := fun z => by rw [overB_iff.mpr z] at ob; cases ob
      have ij : i = j := by
        rcases Nat.lt_or_ge i j with z | z
        · exact absurd (mt.on i z) no
        · omega
      subst ij
      refine sd_ret (ed_if (td_truth (ed_call (ad_cons (ed_ix (ed_var rfl) s1 ed_int rfl) (ad_cons (ed_ix (ed_var rfl) s2 ed_int rfl) ad_nil)) (F := F_below) ⟨(hk xs u v i).1, (hk ys u' v' i).1, a + 2 * i + b, rfl, ⟨l1.1, l1.2.1, l2.1, l2.2.1⟩, by omega, rfl⟩ rfl) (Truth.bool _)) (d := .int (if (hk xs u v i).1.1 * (hk ys u' v' i).1.2 < (hk ys u' v' i).1.1 * (hk xs u v i).1.2 then -1 else 1)) (fun h => ?_) (fun h => ?_)) rfl
      · rw [if_pos (of_decide_eq_true h)]
        exact ed_neg ed_int
      · rw [if_neg (of_decide_eq_false h)]
        exact ed_int
theorem sgn_l2 (x : Int) : Lt2 3 (sgn x) := by
  unfold sgn
  split <;> (try split) <;> exact Lt2.of_lt (by decide)
theorem pure_sign_of_peg (ds : List PyData) (r : Res) (h : F_sign_of_peg ds r) (B0 B : Hp) : SD K B0 B (t_sign_of_peg K) (startR N_sign_of_peg ds) (fin r) := by
  obtain ⟨xs, u, v, n, a, b, D, M, rfl, p, hn, ha, hb, rfl⟩ := h
  unfold t_sign_of_peg
  have l1 := pegS_lows p
  have hl := p.len
  have h0 := List.length_pos_iff.mpr p.pg.ne
  have su := pD_seq u
  have sv := pD_seq v
  refine sd_seq (sd_asg (ed_var rfl) (gd_triple (d := .tuple (rD xs)) (e := pD u) (f := pD v)) ?_)
  show SD K B0 B _ [some (.d (pegD xs u v)), some (.d (.tuple (rD xs))), some (.d (pD u)), some (.d (pD v))] _
  refine sd_seq (sd_if (td_test (ed_ge (ed_ix (ed_var rfl) su ed_int rfl) ed_int)) (fun hb => ?_) (fun hb => ?_))
  · have hb : 0 ≤ u.1 := of_decide_eq_true hb
    refine sd_ret ed_int ?_
    unfold sopV; rw [if_pos hb]; rfl
  · have hb : ¬ 0 ≤ u.1 := of_decide_eq_false hb
    refine sd_next ?_
    refine sd_seq (sd_if (td_test (ed_le (ed_ix (ed_var rfl) sv ed_int rfl) ed_int)) (fun hb2 => ?_) (fun hb2 => ?_))
    · have hb2 : v.1 ≤ 0 := of_decide_eq_true hb2
      refine sd_ret (ed_neg ed_int) ?_
      unfold sopV; rw [if_neg hb, if_pos hb2]; rfl
    · have hb2 : ¬ v.1 ≤ 0 := of_decide_eq_false hb2
      refine sd_next ?_
      have es : (xs.length + 2) * (a + b + 1 + 1) ≤ 102 * 8002 := Nat.mul_le_mul (by omega) (by omega)
      refine sd_ret (ed_mul (ed_call (ad_cons (ed_ix (ed_var rfl) (SeqD.t _) ed_int (rD_at (xs := xs) (k := 0) (by omega) (by simpa using h0))) ad_nil) (F := F_sign) ⟨_, rfl, rfl⟩ rfl) (ed_call (ad_cons (ed_var rfl) (ad_cons (ed_var rfl) ad_nil)) (F := F_sign_at) ⟨_, xs, u.1, u.2, n, a + b + 1, rfl, SeqD.t _, p.sz, l1.1.mono (by omega), l1.2.1.mono (by omega), by omega, by omega, rfl⟩ rfl) ((sgn_l2 _).cm (sgn_l2 _) (by decide))) ?_
      unfold sopV; rw [if_neg hb, if_neg hb2]; rfl
end
end Rt

namespace Rt
open PySem PySem.Spec PyProof.Rows L2 Evl
theorem least_off (P : Nat → Prop) : ∀ K, ¬ P K → ∃ j, j ≤ K ∧ (∀ i, i < j → P i) ∧ ¬ P j := fun K => by
  induction K using Nat.strongRecOn with
  | ind K ih =>
    intro h
    by_cases c : ∀ i, i < K → P i
    · exact ⟨K, Nat.le_refl _, c, h⟩
    · have : ∃ i, i < K ∧ ¬ P i := by
        apply Classical.byContradiction
        intro no
        exact c fun i hi => Classical.byContradiction fun z => no ⟨i, hi, z⟩
      obtain ⟨i, hi, hp⟩ := this
      obtain ⟨j, h1, h2, h3⟩ := ih i hi hp
      exact ⟨j, by omega, h2, h3⟩
theorem cut_ex {xs : List Int} {u v : Int × Int} (p : Pg xs u v) (hx : 2 ≤ xs.length) (x : Rat) : ¬ (AbvP xs u v x ∧ BlwP xs u v x) := fun ⟨h1, h2⟩ => by
  have uv := (pt_lt p.pu p.pv).mpr p.lt
  rcases h1 with h1 | h1 <;> rcases h2 with h2 | h2 <;> grind
/-- what a comparison says -/
def Says (c : Int) (xs : List Int) (u v : Int × Int) (ys : List Int) (u' v' : Int × Int) : Prop :=
  (c = 0 ∧ ∀ x, (AbvP xs u v x ↔ AbvP ys u' v' x) ∧ (BlwP xs u v x ↔ BlwP ys u' v' x)) ∨ (c = -1 ∧ ∃ x, AbvP xs u v x ∧ BlwP ys u' v' x) ∨ (c = 1 ∧ ∃ x, AbvP ys u' v' x ∧ BlwP xs u v x)
theorem sgn_R {x y : Int} {F G : Rat} (h1 : (0 < F ↔ 0 < x) ∧ (F < 0 ↔ x < 0)) (h2 : (0 < G ↔ 0 < y) ∧ (G < 0 ↔ y < 0)) : (F * G < 0 → sgn x ≠ sgn y) ∧ (0 < F * G → sgn x = sgn y) := by
  constructor
  · intro h e
    rw [sgn_eq] at e
    by_cases f : 0 < F
    · have g : 0 < G := h2.1.mpr (e.1.mp (h1.1.mp f))
      have := Rat.mul_pos f g; grind
    · by_cases f2 : F < 0
      · have g : G < 0 := h2.2.mpr (e.2.mp (h1.2.mp f2))
        have := qm_nn f2 g; grind
      · have : F = 0 := by grind
        rw [this] at h; grind
  · intro h
    rw [sgn_eq]
    by_cases f : 0 < F
    · have g : 0 < G := by
        apply Classical.byContradiction
        intro no
        by_cases z : G = 0
        · rw [z] at h; grind
        · have := qm_pn (Rat.le_of_lt f) (show G < 0 by grind); grind
      have a := h1.1.mp f
      have b := h2.1.mp g
      omega
    · have f2 : F < 0 := by
        by_cases z : F = 0
        · rw [z] at h; grind
        · grind
      have g : G < 0 := by
        apply Classical.byContradiction
        intro no
        have := qm_pn (x := G) (y := F) (by grind) f2; grind
      have a := h1.2.mp f2
      have b := h2.2.mp g
      omega
theorem cmp_ex {L s a b n : Nat} {D M D' M' : Int} {xs ys : List Int} {u v u' v' : Int × Int} (p : PgS n a b D M xs u v) (q : PgS n a b D' M' ys u' v') (gx : Good xs) (gy : Good ys) (hx : 2 ≤ xs.length) (hy : 2 ≤ ys.length) (lx : xs.length ≤ L) (ly : ys.length ≤ L) (hL : L ≤ 13) (hb1 : 1 ≤ b)
    (bx : Bd (2 ^ s) xs) (by' : Bd (2 ^ s) ys) (hn : n ≤ 8000) (hK : (s + 6) * (2 * L) ≤ 4200) (hb : b ≤ 4000) (hkk : a + 2 * kMin L s ((s + 6) * (2 * L)) a b ≤ 4000) :
    ∃ c : Int, F_compare [pegD xs u v, pegD ys u' v'] (.rt (.int c)) ∧ Says c xs u v ys u' v' := by
  obtain ⟨t, A, B, κ, U, V, gt, ha, hb', ea, eb, k0, bk, ⟨bU, bV, lU, lV, eU⟩, max⟩ := bezX (M := 2 ^ s) (L := L) (Nat.pow_pos (by decide)) gx gy bx by' lx ly
  have e : (4 * L * 2 ^ s + 1) ^ (2 * L) ≤ 2 ^ ((s + 6) * (2 * L)) := by
    rw [Nat.pow_mul 2 (s + 6) (2 * L)]
    refine Nat.pow_le_pow_left ?_ _
    have h1 : 4 * L * 2 ^ s ≤ 52 * 2 ^ s := Nat.mul_le_mul_right _ (by omega)
    have h2 : 1 ≤ 2 ^ s := Nat.pow_pos (by decide)
    rw [Nat.pow_add]
    omega
  have pl : Placed xs ys t A B κ (min (bigL xs) (bigL ys)) L ((s + 6) * (2 * L)) := placed_of gx gy gt ha hb' ea eb k0 (bk.mono e) (fun x => ⟨_, _, eU x⟩) max lx ly hL
  have ak : a ≤ 4000 := by omega
  by_cases ov : Over u v u' v'
  · obtain ⟨l1, l2, l3, l4⟩ := lo_pt p.pg.pu q.pg.pu
    obtain ⟨h1, h2, h3, h4⟩ := hi_pt p.pg.pv q.pg.pv
    have sl := hor_sgn l4 t
    have sh := hor_sgn h4 t
    have sr := sgn_R sl sh
    rcases verdict p q hx hy lx ly hL hb1 bx by' gt ha hb' ea eb k0 (bU.mono e) (bV.mono e) lU lV eU ov with ⟨c1, c2⟩ | ⟨c1, c2⟩
    · have al : alikeB t u v u' v' = true := by
        unfold alikeB
        rw [overB_iff.mpr ov, decide_eq_false (sr.1 c1)]; rfl
      exact ⟨0, ⟨xs, ys, t, A, B, u, v, u', v', n, a, b, L, _, D, M, D', M', κ, rfl, p, q, pl, hn, hK, ak, hb, .inl ⟨al, rfl⟩⟩, .inl ⟨rfl, c2⟩⟩
    · have al : alikeB t u v u' v' = false := by
        unfold alikeB
        rw [decide_eq_true (sr.2 c1)]; simp
      obtain ⟨j, j1, j2, j3⟩ := least_off (fun k => Over (hk xs u v k).1 (hk xs u v k).2 (hk ys u' v' k).1 (hk ys u' v' k).2) _ (c2 _ (Nat.le_refl _))
      have ah := ahead_of p q hx hy j3
      refine ⟨_, ⟨xs, ys, t, A, B, u, v, u', v', n, a, b, L, _, D, M, D', M', κ, rfl, p, q, pl, hn, hK, ak, hb, .inr ⟨al, j, ⟨j2, j3⟩, by omega, rfl⟩⟩, .inr ?_⟩
      by_cases z : PL (hk xs u v j).1 (hk ys u' v' j).1
      · refine .inl ⟨?_, ah.1 z⟩
        unfold PL at z; rw [if_pos z]
      · refine .inr ⟨?_, ah.2 z⟩
        unfold PL at z; rw [if_neg z]
  · have al : alikeB t u v u' v' = false := by
      unfold alikeB
      have : overB u v u' v' = false := by
        cases q : overB u v u' v' with
        | false => rfl
        | true => exact absurd (overB_iff.mp q) ov
      rw [this]; rfl
    have ah := ahead_of p q hx hy (k := 0) ov
    refine ⟨_, ⟨xs, ys, t, A, B, u, v, u', v', n, a, b, L, _, D, M, D', M', κ, rfl, p, q, pl, hn, hK, ak, hb, .inr ⟨al, 0, ⟨fun i hi => absurd hi (by omega), ov⟩, by omega, rfl⟩⟩, .inr ?_⟩
    by_cases z : PL (hk xs u v 0).1 (hk ys u' v' 0).1
    · refine .inl ⟨?_, ah.1 z⟩
      unfold PL at z; rw [if_pos z]
    · refine .inr ⟨?_, ah.2 z⟩
      unfold PL at z; rw [if_neg z]
end Rt

namespace Rt
open Re
/-- what a comparison says, by the numbers -/
theorem says_num {xs ys : List Int} {u v u' v' : Int × Int} {α β : Re} {c : Int} (p : Pg xs u v) (q : Pg ys u' v') (hx : 2 ≤ xs.length) (hy : 2 ≤ ys.length) (h : Num xs u v α) (k : Num ys u' v' β) (s : Says c xs u v ys u' v') :
    (c = 0 ∧ α = β) ∨ (c = -1 ∧ α < β) ∨ (c = 1 ∧ β < α) := by
  have cp := h.cut p hx
  have cq := k.cut q hy
  rcases s with ⟨rfl, s⟩ | ⟨rfl, x, s1, s2⟩ | ⟨rfl, x, s1, s2⟩
  · refine .inl ⟨rfl, ?_⟩
    rcases Re.tri α β with z | z | z
    · obtain ⟨m, m1, m2⟩ := dens z
      have := (cq m).1.mp ((s m).1.mp ((cp m).1.mpr m1))
      exact absurd this fun w => Re.lt_asymm w m2
    · exact z
    · obtain ⟨m, m1, m2⟩ := dens z
      have := (cp m).1.mp ((s m).1.mpr ((cq m).1.mpr m1))
      exact absurd this fun w => Re.lt_asymm w m2
  · exact .inr (.inl ⟨rfl, Re.lt_trans ((cp x).1.mp s1) ((cq x).2.mp s2)⟩)
  · exact .inr (.inr ⟨rfl, Re.lt_trans ((cq x).1.mp s1) ((cp x).2.mp s2)⟩)
/-! there is a number -/
theorem hk_add (xs : List Int) (u v : Int × Int) (m : Nat) : ∀ k, hk xs u v (m + k) = hk xs (hk xs u v m).1 (hk xs u v m).2 k
  | 0 => rfl
  | k + 1 => by
    show halfV xs (hk xs u v (m + k)).1 (hk xs u v (m + k)).2 = halfV xs _ _
    rw [hk_add xs u v m k]
theorem hk_pg {xs : List Int} {u v : Int × Int} (p : Pg xs u v) : ∀ k : Nat, Pg xs (hk xs u v k).1 (hk xs u v k).2 ∧ pt u ≤ pt (hk xs u v k).1 ∧ pt (hk xs u v k).2 ≤ pt v ∧ (pt (hk xs u v k).2 - pt (hk xs u v k).1) * 2 ^ k = pt v - pt u
  | 0 => ⟨p, Rat.le_refl, Rat.le_refl, by rw [Rat.pow_zero]; show (pt v - pt u) * 1 = _; grind⟩
  | k + 1 => by
    obtain ⟨q, h1, h2, h3⟩ := hk_pg p k
    have hi := half_in q
    have hR := half_R q
    have qh := q.half
    refine ⟨qh, Rat.le_trans h1 (pt_le q.pu qh.pu hi.1), Rat.le_trans (pt_le qh.pv q.pv hi.2) h2, ?_⟩
    rw [Rat.pow_succ]
    show (pt (halfV xs (hk xs u v k).1 (hk xs u v k).2).2 - pt (halfV xs (hk xs u v k).1 (hk xs u v k).2).1) * _ = _
    rw [hR, ← h3]; grind
theorem hk_cau {xs : List Int} {u v : Int × Int} (p : Pg xs u v) : Cau fun n => pt (hk xs u v n).1 := fun e he => by
  obtain ⟨N, hN⟩ := big_pow (pt v - pt u) e he
  obtain ⟨q, q1, q2, q3⟩ := hk_pg p N
  have two := qpow_pos (show (0 : Rat) < 2 by decide +kernel) N
  have w : pt (hk xs u v N).2 - pt (hk xs u v N).1 < e := by
    apply Classical.byContradiction
    intro no
    have := Rat.mul_le_mul_of_nonneg_right (show e ≤ pt (hk xs u v N).2 - pt (hk xs u v N).1 by grind) (Rat.le_of_lt two)
    grind
  have inn : ∀ n, N ≤ n → pt (hk xs u v N).1 ≤ pt (hk xs u v n).1 ∧ pt (hk xs u v n).1 < pt (hk xs u v N).2 := fun n hn => by
    obtain ⟨k, rfl⟩ : ∃ k, n = N + k := ⟨n - N, by omega⟩
    rw [hk_add]
    obtain ⟨r, r1, r2, _⟩ := hk_pg q k
    have := (pt_lt r.pu r.pv).mpr r.lt
    exact ⟨r1, by grind⟩
  refine ⟨N, fun m n hm hn => ?_⟩
  have a := inn m hm
  have b := inn n hn
  show qa (pt (hk xs u v m).1 - pt (hk xs u v n).1) < e
  rw [qa_lt]
  grind
theorem lim_ex {xs : List Int} {U V : Rat} {l h : Nat → Rat} (hc : Cau l) (h1 : ∀ n, U ≤ l n) (h2 : ∀ n, l n < h n) (h3 : ∀ n, h n ≤ V) (h4 : ∀ n, (h n - l n) * 2 ^ n = V - U) (o : ∀ n, evR xs (l n) * evR xs (h n) < 0) (nu : evR xs U ≠ 0) (nv : evR xs V ≠ 0) :
    ∃ α, ofQ U < α ∧ α < ofQ V ∧ evX xs α = 0 := by
  have root : evX xs (mk ⟨l, hc⟩) = 0 := by
    obtain ⟨h', e⟩ := evX_mk ⟨l, hc⟩ xs
    rw [e]
    refine Quotient.sound fun ε he => ?_
    have R1 : 1 ≤ qa U + qa V + 1 := by have := qa_nn U; have := qa_nn V; grind
    have inR : ∀ x, U ≤ x → x ≤ V → qa x ≤ qa U + qa V + 1 := fun x h1 h2 => by
      have a := qa_ge (x := U)
      have b := qa_ge (x := V)
      have a0 := qa_nn U
      have b0 := qa_nn V
      rw [qa_le]; grind
    have lp : ∀ x z, U ≤ x → x ≤ V → U ≤ z → z ≤ V → qa (evR xs x - evR xs z) ≤ (bigL xs : Rat) * ((xs.length : Rat) * xs.length) * (qa U + qa V + 1) ^ xs.length * qa (x - z) := fun x z a b c d => ev_lip R1 (inR x a b) (inR z c d) (big_bd xs)
    have A0 : 0 ≤ (bigL xs : Rat) * ((xs.length : Rat) * xs.length) * (qa U + qa V + 1) ^ xs.length := Rat.mul_nonneg (Rat.mul_nonneg (cast_nn _) (Rat.mul_nonneg (cast_nn _) (cast_nn _))) (qpow_nn (by grind) _)
    generalize (bigL xs : Rat) * ((xs.length : Rat) * xs.length) * (qa U + qa V + 1) ^ xs.length = A at lp A0
    obtain ⟨N, hN⟩ := big_pow (A * (V - U)) ε he
    refine ⟨N, fun n hn => ?_⟩
    have o := o n
    have k := lp (l n) (h n) (h1 n) (by have := h2 n; have := h3 n; grind) (by have := h1 n; have := h2 n; grind) (h3 n)
    have q3 := h4 n
    have lt := h2 n
    have e1 : qa (l n - h n) = h n - l n := by rw [qa_comm, qa_of (by grind)]
    rw [e1] at k
    show qa (evR xs (l n) - ((0 : Nat) : Rat)) < ε
    generalize evR xs (l n) = s at *
    generalize evR xs (h n) = t at *
    generalize h n - l n = w at *
    have k2 : qa s ≤ qa (s - t) := by
      by_cases z : s < 0
      · by_cases z2 : t < 0
        · have := qm_nn z z2; grind
        · unfold qa; split <;> split <;> grind
      · by_cases z3 : s = 0
        · rw [z3, qa_zero]; exact qa_nn _
        · by_cases z2 : 0 < t
          · have := Rat.mul_pos (show 0 < s by grind) z2; grind
          · unfold qa; split <;> split <;> grind
    have two := qpow_pos (show (0 : Rat) < 2 by decide +kernel) n
    have mono := qpow_mono (show (1 : Rat) ≤ 2 by decide +kernel) hn
    have z : ((0 : Nat) : Rat) = 0 := rfl
    have e2 : s - 0 = s := by grind
    rw [z, e2]
    apply Classical.byContradiction
    intro no
    have k3 := Rat.mul_le_mul_of_nonneg_right (show ε ≤ A * w by grind) (Rat.le_of_lt two)
    have k4 := Rat.mul_le_mul_of_nonneg_left (c := ε) mono (Rat.le_of_lt he)
    rw [Rat.mul_assoc, q3] at k3
    clear lp inR k2 e1 e2 two mono no
    generalize ε * 2 ^ n = a at *
    generalize ε * 2 ^ N = b at *
    generalize A * (V - U) = c at *
    exact absurd (Rat.le_trans k4 k3) (Rat.not_le.mpr hN)
  refine ⟨mk ⟨l, hc⟩, ?_, ?_, root⟩
  · rcases Re.tri (ofQ U) (mk ⟨l, hc⟩) with z | z | z
    · exact z
    · rw [← z, evX_ofQ] at root
      exact absurd (ofQ_inj.mp root) nu
    · exfalso
      obtain ⟨e, he, N, hN⟩ := z
      have a := hN N (Nat.le_refl _)
      have a : e ≤ U + -l N := a
      have := h1 N
      grind
  · rcases Re.tri (mk ⟨l, hc⟩) (ofQ V) with z | z | z
    · exact z
    · rw [z, evX_ofQ] at root
      exact absurd (ofQ_inj.mp root) nv
    · exfalso
      obtain ⟨e, he, N, hN⟩ := z
      have a := hN N (Nat.le_refl _)
      have a : e ≤ l N + -V := a
      have := h2 N
      have := h3 N
      grind
theorem num_ex {xs : List Int} {u v : Int × Int} (p : Pg xs u v) : ∃ α, Num xs u v α := by
  have o := opp_R p
  have nu : evR xs (pt u) ≠ 0 := fun z => by rw [z] at o; grind
  have nv : evR xs (pt v) ≠ 0 := fun z => by rw [z] at o; grind
  obtain ⟨α, a1, a2, a3⟩ := lim_ex (xs := xs) (U := pt u) (V := pt v) (l := fun n => pt (hk xs u v n).1) (h := fun n => pt (hk xs u v n).2) (hk_cau p) (fun n => (hk_pg p n).2.1)
    (fun n => (pt_lt (hk_pg p n).1.pu (hk_pg p n).1.pv).mpr (hk_pg p n).1.lt) (fun n => (hk_pg p n).2.2.1) (fun n => (hk_pg p n).2.2.2) (fun n => opp_R (hk_pg p n).1) nu nv
  exact ⟨α, a1, a2, a3⟩
end Rt

namespace Rt
theorem chg_len : ∀ (S : List Int) (l : Int), chg l S ≤ S.length
  | [], _ => Nat.le_refl _
  | a :: r, l => by
    have ih := chg_len r (if a = 0 then l else a)
    show (if a * l < 0 then 1 else 0) + chg (if a = 0 then l else a) r ≤ r.length + 1
    split <;> omega
theorem chg_len0 (a : Int) (r : List Int) : chg 0 (a :: r) ≤ r.length := by
  have ih := chg_len r (if a = 0 then 0 else a)
  show (if a * 0 < 0 then 1 else 0) + chg (if a = 0 then 0 else a) r ≤ r.length
  rw [if_neg (by simp)]; omega
/-- unlike signs at the ends: a row of at most three numbers turns once -/
theorem short_pg {xs : List Int} {u v : Int × Int} (h2 : xs ≠ []) (h3 : xs.length ≤ 3) (hu : 0 < u.2) (hv : 0 < v.2) (lt : PL u v) (o : (hor u.1 u.2 xs).1 * (hor v.1 v.2 xs).1 < 0) : Pg xs u v := by
  have nu : (hor u.1 u.2 xs).1 ≠ 0 := fun z => by rw [z] at o; simp at o
  have nv : (hor v.1 v.2 xs).1 ≠ 0 := fun z => by rw [z] at o; simp at o
  have par := (turns_par hu hv h2 nu nv).mp o
  have le : turnsL u v xs ≤ 2 := by
    unfold turnsL
    have sl := seen_len u v xs
    cases q : seenL u v xs with
    | nil => exact Nat.zero_le _
    | cons a r =>
      rw [q] at sl
      have := chg_len0 a r
      simp only [List.length_cons] at sl
      omega
  exact ⟨h2, hu, hv, lt, nu, nv, by omega⟩
theorem qpow_add (a : Rat) (m : Nat) : ∀ n : Nat, a ^ (m + n) = a ^ m * a ^ n
  | 0 => by rw [Nat.add_zero, Rat.pow_zero]; grind
  | n + 1 => by rw [← Nat.add_assoc, Rat.pow_succ, Rat.pow_succ, qpow_add a m n]; grind
theorem if_le (P : Prop) [Decidable P] : (if P then 1 else 0 : Nat) ≤ 1 := by split <;> omega
theorem if_one {P : Prop} [Decidable P] (h : (if P then 1 else 0 : Nat) = 1) : P := by
  apply Classical.byContradiction
  intro no
  rw [if_neg no] at h; omega
theorem hor_mul {t b : Int} (hb : b ≠ 0) {p q : List Int} (hp : p ≠ []) (hq : q ≠ []) : (hor t b (mulL p q)).1 = (hor t b p).1 * (hor t b q).1 := by
  have h1 := hor_R (t := t) hb p
  have h2 := hor_R (t := t) hb q
  have h3 := hor_R (t := t) hb (mulL p q)
  have l := mulL_len hp hq
  rw [evR_mulL] at h3
  have hb' : (b : Rat) ≠ 0 := by intro z; exact hb (by exact_mod_cast z)
  have e : (b : Rat) ^ (mulL p q).length * b = (b : Rat) ^ p.length * (b : Rat) ^ q.length := by
    rw [← Rat.pow_succ, l, qpow_add]
  have k : (((hor t b (mulL p q)).1 : Int) : Rat) * (b * b) = ((((hor t b p).1 * (hor t b q).1) : Int) : Rat) * (b * b) := by
    rw [Rat.intCast_mul]
    generalize evR p _ = x at *
    generalize evR q _ = y at *
    generalize (b : Rat) ^ p.length = m at *
    generalize (b : Rat) ^ q.length = n at *
    generalize (b : Rat) ^ (mulL p q).length = w at *
    grind
  have bb : (b : Rat) * b ≠ 0 := qmul_ne hb' hb'
  have : (((hor t b (mulL p q)).1 : Int) : Rat) = ((((hor t b p).1 * (hor t b q).1) : Int) : Rat) := by grind
  exact_mod_cast this
theorem seen_mul {u v : Int × Int} (hu : 0 < u.2) (hv : 0 < v.2) {p q : List Int} (hp : p ≠ []) (hq : q ≠ []) : seenL u v (mulL p q) = mulL (seenL u v p) (seenL u v q) := by
  have ne : ∀ {p : List Int}, p ≠ [] → seenL u v p ≠ [] := fun {p} h z => by
    have := seen_len u v p
    rw [z] at this
    exact h (List.length_eq_zero_iff.mp this.symm)
  have l1 := mulL_len hp hq
  have l2 := mulL_len (ne hp) (ne hq)
  rw [seen_len, seen_len] at l2
  have l3 := seen_len u v (mulL p q)
  have g : ∀ i, (seenL u v (mulL p q)).getD i 0 = (mulL (seenL u v p) (seenL u v q)).getD i 0 := fun i => same_of i (N := 0) fun n _ => by
    rw [ev_mulL, seen_ev, seen_ev, seen_ev]
    refine hor_mul ?_ hp hq
    have a := Int.mul_pos hu hv
    have b := Int.mul_nonneg (show (0 : Int) ≤ n by omega) (Int.le_of_lt a)
    omega
  apply List.ext_getElem (by omega)
  intro i h1 h2
  have := g i
  rwa [List.getD_eq_getElem?_getD, List.getD_eq_getElem?_getD, List.getElem?_eq_getElem h1, List.getElem?_eq_getElem h2] at this
theorem chg_four {a b c d : Int} (h : chg 0 [a, b, c, d] = 3) : a * b < 0 ∧ b * c < 0 ∧ c * d < 0 := by
  have h : (if a * 0 < 0 then 1 else 0) + ((if b * (if a = 0 then 0 else a) < 0 then 1 else 0) + ((if c * (if b = 0 then (if a = 0 then 0 else a) else b) < 0 then 1 else 0) + ((if d * (if c = 0 then (if b = 0 then (if a = 0 then 0 else a) else b) else c) < 0 then 1 else 0) + 0))) = 3 := h
  rw [if_neg (by simp)] at h
  have w1 := if_le (b * (if a = 0 then 0 else a) < 0)
  have w2 := if_le (c * (if b = 0 then (if a = 0 then 0 else a) else b) < 0)
  have w3 := if_le (d * (if c = 0 then (if b = 0 then (if a = 0 then 0 else a) else b) else c) < 0)
  have e1 : (if b * (if a = 0 then 0 else a) < 0 then 1 else 0) = 1 := by
    generalize (if b * (if a = 0 then 0 else a) < 0 then 1 else 0) = x at *
    generalize (if c * (if b = 0 then (if a = 0 then 0 else a) else b) < 0 then 1 else 0) = y at *
    generalize (if d * (if c = 0 then (if b = 0 then (if a = 0 then 0 else a) else b) else c) < 0 then 1 else 0) = z at *
    omega
  have e2 : (if c * (if b = 0 then (if a = 0 then 0 else a) else b) < 0 then 1 else 0) = 1 := by
    generalize (if b * (if a = 0 then 0 else a) < 0 then 1 else 0) = x at *
    generalize (if c * (if b = 0 then (if a = 0 then 0 else a) else b) < 0 then 1 else 0) = y at *
    generalize (if d * (if c = 0 then (if b = 0 then (if a = 0 then 0 else a) else b) else c) < 0 then 1 else 0) = z at *
    omega
  have e3 : (if d * (if c = 0 then (if b = 0 then (if a = 0 then 0 else a) else b) else c) < 0 then 1 else 0) = 1 := by
    generalize (if b * (if a = 0 then 0 else a) < 0 then 1 else 0) = x at *
    generalize (if c * (if b = 0 then (if a = 0 then 0 else a) else b) < 0 then 1 else 0) = y at *
    generalize (if d * (if c = 0 then (if b = 0 then (if a = 0 then 0 else a) else b) else c) < 0 then 1 else 0) = z at *
    omega
  have k1 := if_one e1
  have k2 := if_one e2
  have k3 := if_one e3
  have b0 : b ≠ 0 := fun z => by rw [z] at k1; simp at k1
  have c0 : c ≠ 0 := fun z => by rw [z] at k2; simp at k2
  have a0 : a ≠ 0 := fun z => by rw [if_pos z] at k1; simp at k1
  rw [if_neg a0] at k1
  rw [if_neg b0] at k2
  rw [if_neg c0] at k3
  exact ⟨by rw [Int.mul_comm]; exact k1, by rw [Int.mul_comm]; exact k2, by rw [Int.mul_comm]; exact k3⟩
theorem len_three {l : List Int} (h : l.length = 3) : ∃ a b c, l = [a, b, c] := by
  match l, h with
  | [a, b, c], _ => exact ⟨a, b, c, rfl⟩
theorem len_two {l : List Int} (h : l.length = 2) : ∃ a b, l = [a, b] := by
  match l, h with
  | [a, b], _ => exact ⟨a, b, rfl⟩
/-- a row of three that turns once, times one of two without a turn: turns once -/
theorem cub_pg {xs : List Int} {u v : Int × Int} {c : Int} (p : Pg xs u v) (h3 : xs.length = 3) (o : 0 < (hor u.1 u.2 [c, 1]).1 * (hor v.1 v.2 [c, 1]).1) : Pg (mulL xs [c, 1]) u v := by
  have hu := p.pu
  have hv := p.pv
  have ml := mulL_len p.ne (q := [c, 1]) (by simp)
  have ne : mulL xs [c, 1] ≠ [] := by intro z; rw [z] at ml; simp at ml
  have a1 := hor_mul (t := u.1) (b := u.2) (by omega) p.ne (q := [c, 1]) (by simp)
  have a2 := hor_mul (t := v.1) (b := v.2) (by omega) p.ne (q := [c, 1]) (by simp)
  have ou := p.opp
  have g0 : (hor u.1 u.2 [c, 1]).1 ≠ 0 := fun z => by rw [z] at o; simp at o
  have g1 : (hor v.1 v.2 [c, 1]).1 ≠ 0 := fun z => by rw [z] at o; simp at o
  have n1 : (hor u.1 u.2 (mulL xs [c, 1])).1 ≠ 0 := by rw [a1]; exact Int.mul_ne_zero p.nu g0
  have n2 : (hor v.1 v.2 (mulL xs [c, 1])).1 ≠ 0 := by rw [a2]; exact Int.mul_ne_zero p.nv g1
  have neg : (hor u.1 u.2 (mulL xs [c, 1])).1 * (hor v.1 v.2 (mulL xs [c, 1])).1 < 0 := by
    rw [a1, a2]
    have e : (hor u.1 u.2 xs).1 * (hor u.1 u.2 [c, 1]).1 * ((hor v.1 v.2 xs).1 * (hor v.1 v.2 [c, 1]).1) = ((hor u.1 u.2 xs).1 * (hor v.1 v.2 xs).1) * ((hor u.1 u.2 [c, 1]).1 * (hor v.1 v.2 [c, 1]).1) := by grind
    rw [e]
    exact Int.mul_neg_of_neg_of_pos ou o
  have par := (turns_par hu hv ne n1 n2).mp neg
  refine ⟨ne, hu, hv, p.lt, n1, n2, ?_⟩
  have sm := seen_mul hu hv p.ne (q := [c, 1]) (by simp)
  have f1 := seen_first (u := u) hv xs
  have f2 := seen_last (v := v) hu p.ne
  have f3 := seen_first (u := u) hv [c, 1]
  have f4 := seen_last (v := v) hu (xs := [c, 1]) (by simp)
  have sl := seen_len u v xs
  have sl2 := seen_len u v [c, 1]
  unfold turnsL at *
  rw [sm] at par ⊢
  obtain ⟨s0, s1, s2, hS⟩ := len_three (by rw [sl, h3])
  obtain ⟨t0, t1, hG⟩ := len_two (l := seenL u v [c, 1]) (by rw [sl2]; rfl)
  rw [hS] at f1 f2
  rw [hG] at f3 f4
  rw [hS, hG] at par ⊢
  rw [ev_zero] at f1 f3
  have f1 : SS s0 _ := f1
  have f2 : SS s2 _ := f2
  have f3 : SS t0 _ := f3
  have f4 : SS t1 _ := f4
  have em : mulL [s0, s1, s2] [t0, t1] = [s0 * t0, s0 * t1 + s1 * t0, s1 * t1 + s2 * t0, s2 * t1] := by
    show addL [s0 * t0, s0 * t1] (0 :: addL [s1 * t0, s1 * t1] (0 :: addL [s2 * t0, s2 * t1] [0])) = _
    simp [addL]
  rw [em] at par ⊢
  have le : chg 0 [s0 * t0, s0 * t1 + s1 * t0, s1 * t1 + s2 * t0, s2 * t1] ≤ 3 := chg_len0 (s0 * t0) [s0 * t1 + s1 * t0, s1 * t1 + s2 * t0, s2 * t1]
  have no : chg 0 [s0 * t0, s0 * t1 + s1 * t0, s1 * t1 + s2 * t0, s2 * t1] ≠ 3 := fun z => by
    obtain ⟨q1, q2, q3⟩ := chg_four z
    have pp : ∀ {a b : Int}, 0 < a * b → (0 < a ∧ 0 < b) ∨ (a < 0 ∧ b < 0) := fun {a b} h => by
      rcases Int.lt_trichotomy a 0 with x | x | x
      · rcases Int.lt_trichotomy b 0 with y | y | y
        · exact .inr ⟨x, y⟩
        · rw [y] at h; simp at h
        · have := Int.mul_neg_of_neg_of_pos x y; omega
      · rw [x] at h; simp at h
      · rcases Int.lt_trichotomy b 0 with y | y | y
        · have := Int.mul_neg_of_pos_of_neg x y; omega
        · rw [y] at h; simp at h
        · exact .inl ⟨x, y⟩
    have tt := pp o
    rw [neg_iff] at ou q1 q2 q3
    unfold SS at f1 f2 f3 f4
    have s0s := f1
    rcases tt with ⟨x, y⟩ | ⟨x, y⟩
    · have h0 : 0 < t0 := by omega
      have h1 : 0 < t1 := by omega
      rcases Int.lt_trichotomy s0 0 with w | w | w
      · have w2 : 0 < s2 := by omega
        have k1 := Int.mul_neg_of_neg_of_pos w h0
        have k2 := Int.mul_neg_of_neg_of_pos w h1
        have k3 : 0 < s1 * t0 := by omega
        have k4 : 0 < s1 := by have := pp k3; omega
        have k5 := Int.mul_pos k4 h1
        have k6 := Int.mul_pos w2 h0
        omega
      · omega
      · have w2 : s2 < 0 := by omega
        have k1 := Int.mul_pos w h0
        have k2 := Int.mul_pos w h1
        have k3 : s1 * t0 < 0 := by omega
        have k4 : s1 < 0 := by rw [neg_iff] at k3; omega
        have k5 := Int.mul_neg_of_neg_of_pos k4 h1
        have k6 := Int.mul_neg_of_neg_of_pos w2 h0
        omega
    · have h0 : t0 < 0 := by omega
      have h1 : t1 < 0 := by omega
      rcases Int.lt_trichotomy s0 0 with w | w | w
      · have w2 : 0 < s2 := by omega
        have k1 := Int.mul_pos_of_neg_of_neg w h0
        have k2 := Int.mul_pos_of_neg_of_neg w h1
        have k3 : s1 * t0 < 0 := by omega
        have k4 : 0 < s1 := by rw [neg_iff] at k3; omega
        have k5 := Int.mul_neg_of_pos_of_neg k4 h1
        have k6 := Int.mul_neg_of_pos_of_neg w2 h0
        omega
      · omega
      · have w2 : s2 < 0 := by omega
        have k1 := Int.mul_neg_of_pos_of_neg w h0
        have k2 := Int.mul_neg_of_pos_of_neg w h1
        have k3 : 0 < s1 * t0 := by omega
        have k4 : s1 < 0 := by have := pp k3; omega
        have k5 := Int.mul_pos_of_neg_of_neg k4 h1
        have k6 := Int.mul_pos_of_neg_of_neg w2 h0
        omega
  omega
end Rt

/-! square roots of whole numbers, signs by squares -/
namespace Rt
open Re
theorem sqrt_ex {d : Int} (h : 0 < d) : ∃ ρ : Re, 0 < ρ ∧ ρ * ρ = (d : Re) := by
  have p : Pg [-d, 0, 1] (0, 1) (d + 1, 1) := by
    refine short_pg (by simp) (Nat.le_refl 3) (by decide) (show (0 : Int) < 1 by decide) (by unfold PL; simp; omega) ?_
    have e1 : (hor (0, 1).1 (0, (1 : Int)).2 [-d, 0, 1]).1 = -d := by simp [hor]
    have e2 : (hor (d + 1, (1 : Int)).1 (d + 1, (1 : Int)).2 [-d, 0, 1]).1 = (d + 1) * (d + 1) - d := by simp [hor]; grind
    rw [e1, e2]
    have : 0 < (d + 1) * (d + 1) - d := by
      have := Int.mul_pos h h
      grind
    exact Int.mul_neg_of_neg_of_pos (by omega) this
  obtain ⟨α, h1, h2, h0⟩ := num_ex p
  refine ⟨α, ?_, ?_⟩
  · have e : ofQ (pt (0, 1)) = 0 := by
      have : pt (0, 1) = 0 := by decide +kernel
      rw [this]; rfl
    rw [e] at h1; exact h1
  · have k : ((-d : Int) : Re) + α * (((0 : Int) : Re) + α * (((1 : Int) : Re) + α * 0)) = 0 := h0
    rw [castX_neg, castX_zero, castX_one] at k
    grind
theorem re_sq {x : Re} (h : x ≠ 0) : 0 < x * x := by
  rcases Re.tri x 0 with z | z | z
  · have := Re.mul_pos (show 0 < -x by grind) (show 0 < -x by grind)
    grind
  · exact absurd z h
  · exact Re.mul_pos z z
/-- the sign of a real number -/
def IsSg (c : Int) (x : Re) : Prop := (c = -1 ∧ x < 0) ∨ (c = 0 ∧ x = 0) ∨ (c = 1 ∧ 0 < x)
theorem isSg_int (a : Int) : IsSg (sgn a) (a : Re) := by
  unfold IsSg
  rcases Int.lt_trichotomy a 0 with z | z | z
  · left; exact ⟨by unfold sgn; split <;> (try split) <;> omega, by rw [← castX_zero, castX_lt]; exact z⟩
  · right; left; subst z; exact ⟨rfl, rfl⟩
  · right; right; exact ⟨by unfold sgn; split <;> (try split) <;> omega, by rw [← castX_zero, castX_lt]; exact z⟩
theorem IsSg.un {a b : Int} {x : Re} (h : IsSg a x) (k : IsSg b x) : a = b := by
  rcases h with ⟨rfl, h⟩ | ⟨rfl, h⟩ | ⟨rfl, h⟩ <;> rcases k with ⟨rfl, k⟩ | ⟨rfl, k⟩ | ⟨rfl, k⟩ <;> first | rfl | (exfalso; grind)
/-- as the law reckons the sign of x and y roots of a -/
def twoV (x y a : Int) : Int :=
  if 0 ≤ x ∧ 0 ≤ y then (if 0 < x ∨ 0 < y * a then 1 else 0)
  else if x ≤ 0 ∧ y ≤ 0 then 0 - (if x < 0 ∨ y * a < 0 then 1 else 0)
  else if 0 < x then sgn (x * x - y * y * a) else sgn (y * y * a - x * x)
theorem two_ok {x y a : Int} (ha : 0 < a) {ρ : Re} (hr : 0 < ρ) (h2 : ρ * ρ = (a : Re)) : IsSg (twoV x y a) ((x : Re) + (y : Re) * ρ) := by
  have cx : ∀ {z : Int}, 0 < z → (0 : Re) < (z : Re) := fun h => by rw [← castX_zero, castX_lt]; exact h
  have cn : ∀ {z : Int}, z < 0 → (z : Re) < 0 := fun h => by rw [← castX_zero, castX_lt]; exact h
  have c0 : ((0 : Int) : Re) = 0 := rfl
  unfold twoV
  by_cases A : 0 ≤ x ∧ 0 ≤ y
  · rw [if_pos A]
    by_cases B : 0 < x ∨ 0 < y * a
    · rw [if_pos B]
      refine .inr (.inr ⟨rfl, ?_⟩)
      by_cases X : 0 < x
      · have k1 := cx X
        by_cases Y : 0 < y
        · have := Re.mul_pos (cx Y) hr; grind
        · have : y = 0 := by omega
          rw [this, c0]; grind
      · have x0 : x = 0 := by omega
        have Y : 0 < y := by
          rcases B with B | B
          · omega
          · by_cases z : y = 0
            · rw [z] at B; simp at B
            · omega
        have := Re.mul_pos (cx Y) hr
        rw [x0, c0]; grind
    · rw [if_neg B]
      have x0 : x = 0 := by omega
      have y0 : y = 0 := by
        by_cases z : 0 < y
        · exact absurd (Int.mul_pos z ha) (by omega)
        · omega
      refine .inr (.inl ⟨rfl, ?_⟩)
      rw [x0, y0, c0]; grind
  · rw [if_neg A]
    by_cases B : x ≤ 0 ∧ y ≤ 0
    · rw [if_pos B]
      have C : x < 0 ∨ y * a < 0 := by
        by_cases X : x < 0
        · exact .inl X
        · exact .inr (Int.mul_neg_of_neg_of_pos (by omega) ha)
      rw [if_pos C]
      refine .inl ⟨rfl, ?_⟩
      by_cases X : x < 0
      · have k1 := cn X
        by_cases Y : y < 0
        · have := Re.mul_pos (show 0 < -(y : Re) by have := cn Y; grind) hr; grind
        · have : y = 0 := by omega
          rw [this, c0]; grind
      · have x0 : x = 0 := by omega
        have := Re.mul_pos (show 0 < -(y : Re) by have := cn (show y < 0 by omega); grind) hr
        rw [x0, c0]; grind
    · rw [if_neg B]
      have cast : ((x * x - y * y * a : Int) : Re) = (x : Re) * x - y * y * (ρ * ρ) := by
        rw [h2, show x * x - y * y * a = x * x + -(y * y * a) by omega, castX_add, castX_neg, castX_mul, castX_mul, castX_mul]; grind
      by_cases X : 0 < x
      · rw [if_pos X]
        have Y : y < 0 := by omega
        have k := isSg_int (x * x - y * y * a)
        have px := cx X
        have py := Re.mul_pos (show 0 < -(y : Re) by have := cn Y; grind) hr
        have cj : 0 < (x : Re) - y * ρ := by grind
        have e : ((x : Re) + y * ρ) * ((x : Re) - y * ρ) = ((x * x - y * y * a : Int) : Re) := by rw [cast]; grind
        generalize (x : Re) + y * ρ = s at *
        generalize (x : Re) - y * ρ = t at *
        rw [← e] at k
        rcases k with ⟨k1, k2⟩ | ⟨k1, k2⟩ | ⟨k1, k2⟩
        · refine .inl ⟨k1, ?_⟩
          rcases Re.tri s 0 with z | z | z
          · exact z
          · rw [z] at k2; grind
          · have := Re.mul_pos z cj; grind
        · refine .inr (.inl ⟨k1, ?_⟩)
          rcases Re.tri s 0 with z | z | z
          · have := Re.mul_pos (show 0 < -s by grind) cj; grind
          · exact z
          · have := Re.mul_pos z cj; grind
        · refine .inr (.inr ⟨k1, ?_⟩)
          rcases Re.tri s 0 with z | z | z
          · have := Re.mul_pos (show 0 < -s by grind) cj; grind
          · rw [z] at k2; grind
          · exact z
      · rw [if_neg X]
        have X : x < 0 ∨ x = 0 := by omega
        have Y : 0 < y := by omega
        have k := isSg_int (y * y * a - x * x)
        have py := Re.mul_pos (cx Y) hr
        have px : (x : Re) ≤ 0 := by rw [← castX_zero, castX_le]; omega
        have cj : 0 < (y : Re) * ρ - x := by grind
        have e : ((x : Re) + y * ρ) * ((y : Re) * ρ - x) = ((y * y * a - x * x : Int) : Re) := by
          rw [show y * y * a - x * x = -(x * x - y * y * a) by omega, castX_neg, cast]; grind
        generalize (x : Re) + y * ρ = s at *
        generalize (y : Re) * ρ - x = t at *
        rw [← e] at k
        rcases k with ⟨k1, k2⟩ | ⟨k1, k2⟩ | ⟨k1, k2⟩
        · refine .inl ⟨k1, ?_⟩
          rcases Re.tri s 0 with z | z | z
          · exact z
          · rw [z] at k2; grind
          · have := Re.mul_pos z cj; grind
        · refine .inr (.inl ⟨k1, ?_⟩)
          rcases Re.tri s 0 with z | z | z
          · have := Re.mul_pos (show 0 < -s by grind) cj; grind
          · exact z
          · have := Re.mul_pos z cj; grind
        · refine .inr (.inr ⟨k1, ?_⟩)
          rcases Re.tri s 0 with z | z | z
          · have := Re.mul_pos (show 0 < -s by grind) cj; grind
          · rw [z] at k2; grind
          · exact z
end Rt

namespace Rt
open Re
/-- as the law reckons the sign of x0 + x1 root a + (x2 + x3 root a) root b -/
def fourV (x0 x1 x2 x3 a b : Int) : Int :=
  if 0 ≤ twoV x0 x1 a * (twoV x2 x3 a * (if 0 < b then 1 else 0)) then sgn (twoV x0 x1 a + twoV x2 x3 a * (if 0 < b then 1 else 0))
  else twoV x0 x1 a * twoV (x0 * x0 + a * x1 * x1 - b * (x2 * x2 + a * x3 * x3)) (x0 * x1 + x1 * x0 - b * (x2 * x3 + x3 * x2)) a
theorem IsSg.opp {c : Int} {x : Re} (h : IsSg c x) : IsSg (-c) (-x) := by
  rcases h with ⟨rfl, h⟩ | ⟨rfl, h⟩ | ⟨rfl, h⟩
  · exact .inr (.inr ⟨rfl, by grind⟩)
  · exact .inr (.inl ⟨rfl, by grind⟩)
  · exact .inl ⟨rfl, by grind⟩
theorem IsSg.of_mul {c : Int} {s t : Re} (ht : 0 < t) (h : IsSg c (s * t)) : IsSg c s := by
  rcases h with ⟨k1, k2⟩ | ⟨k1, k2⟩ | ⟨k1, k2⟩
  · refine .inl ⟨k1, ?_⟩
    rcases Re.tri s 0 with z | z | z
    · exact z
    · rw [z] at k2; grind
    · have := Re.mul_pos z ht; grind
  · refine .inr (.inl ⟨k1, ?_⟩)
    rcases Re.tri s 0 with z | z | z
    · have := Re.mul_pos (show 0 < -s by grind) ht; grind
    · exact z
    · have := Re.mul_pos z ht; grind
  · refine .inr (.inr ⟨k1, ?_⟩)
    rcases Re.tri s 0 with z | z | z
    · have := Re.mul_pos (show 0 < -s by grind) ht; grind
    · rw [z] at k2; grind
    · exact z
theorem four_ok {x0 x1 x2 x3 a b : Int} (ha : 0 < a) (hb : 0 < b) {ρ σ : Re} (hr : 0 < ρ) (r2 : ρ * ρ = (a : Re)) (hs : 0 < σ) (s2 : σ * σ = (b : Re)) :
    IsSg (fourV x0 x1 x2 x3 a b) ((x0 : Re) + x1 * ρ + ((x2 : Re) + x3 * ρ) * σ) := by
  have k1 := two_ok (x := x0) (y := x1) ha hr r2
  have k2 := two_ok (x := x2) (y := x3) ha hr r2
  have k3 := two_ok (x := x0 * x0 + a * x1 * x1 - b * (x2 * x2 + a * x3 * x3)) (y := x0 * x1 + x1 * x0 - b * (x2 * x3 + x3 * x2)) ha hr r2
  have e : ((x0 * x0 + a * x1 * x1 - b * (x2 * x2 + a * x3 * x3) : Int) : Re) + ((x0 * x1 + x1 * x0 - b * (x2 * x3 + x3 * x2) : Int) : Re) * ρ = ((x0 : Re) + x1 * ρ) * ((x0 : Re) + x1 * ρ) - ((x2 : Re) + x3 * ρ) * ((x2 : Re) + x3 * ρ) * (σ * σ) := by
    rw [s2, Int.sub_eq_add_neg, Int.sub_eq_add_neg]
    simp only [castX_add, castX_neg, castX_mul]
    rw [← r2]; grind
  rw [e] at k3
  unfold fourV
  rw [if_pos hb, Int.mul_one]
  generalize twoV x0 x1 a = l at *
  generalize twoV x2 x3 a = m at *
  generalize twoV _ _ a = q at *
  generalize (x0 : Re) + x1 * ρ = L at *
  generalize (x2 : Re) + x3 * ρ = M at *
  have pM : IsSg m (M * σ) := by
    rcases k2 with ⟨rfl, h⟩ | ⟨rfl, h⟩ | ⟨rfl, h⟩
    · exact .inl ⟨rfl, by have := Re.mul_pos (show 0 < -M by grind) hs; grind⟩
    · exact .inr (.inl ⟨rfl, by rw [h]; grind⟩)
    · exact .inr (.inr ⟨rfl, Re.mul_pos h hs⟩)
  have eq : L * L - M * M * (σ * σ) = (L + M * σ) * (L - M * σ) := by grind
  rw [eq] at k3
  generalize M * σ = N at *
  rcases k1 with ⟨rfl, h⟩ | ⟨rfl, h⟩ | ⟨rfl, h⟩ <;> rcases pM with ⟨rfl, k⟩ | ⟨rfl, k⟩ | ⟨rfl, k⟩
  · exact .inl ⟨by rw [if_pos (by decide)]; decide, by grind⟩
  · exact .inl ⟨by rw [if_pos (by decide)]; decide, by grind⟩
  · rw [if_neg (by decide)]
    have t : 0 < -(L - N) := by grind
    have k4 : IsSg (-1 * q) ((L + N) * -(L - N)) := by
      have := k3.opp
      have e1 : -((L + N) * (L - N)) = (L + N) * -(L - N) := by grind
      rw [e1] at this
      rw [show -1 * q = -q by omega]; exact this
    exact k4.of_mul t
  · exact .inl ⟨by rw [if_pos (by decide)]; decide, by grind⟩
  · exact .inr (.inl ⟨by rw [if_pos (by decide)]; decide, by grind⟩)
  · exact .inr (.inr ⟨by rw [if_pos (by decide)]; decide, by grind⟩)
  · rw [if_neg (by decide)]
    have t : 0 < L - N := by grind
    rw [Int.one_mul]
    exact k3.of_mul t
  · exact .inr (.inr ⟨by rw [if_pos (by decide)]; decide, by grind⟩)
  · exact .inr (.inr ⟨by rw [if_pos (by decide)]; decide, by grind⟩)
end Rt

namespace Rt
open Re
theorem inv_ex {r : Int} (h : 0 < r) : ∃ i : Re, 0 < i ∧ (r : Re) * i = 1 := by
  have hr := cast_pos h
  refine ⟨ofQ (1 / (r : Rat)), ?_, ?_⟩
  · have : ofQ 0 < ofQ (1 / (r : Rat)) := ofQ_lt.mpr (qdiv_pos' (by decide +kernel) hr)
    exact this
  · rw [castX, ← ofQ_mul]
    have : (r : Rat) * (1 / (r : Rat)) = 1 := by grind
    rw [this]; rfl
/-- the number p and q roots of d, by r -/
theorem quad_ex (p q : Int) {r : Int} (hr : 0 < r) (ρ : Re) : ∃ α : Re, (r : Re) * α = (p : Re) + q * ρ := by
  obtain ⟨i, _, h⟩ := inv_ex hr
  exact ⟨((p : Re) + q * ρ) * i, by grind⟩
theorem quad_root {p q r d : Int} {ρ α : Re} (h2 : ρ * ρ = (d : Re)) (h : (r : Re) * α = (p : Re) + q * ρ) : evX [p * p - q * q * d, -2 * p * r, r * r] α = 0 := by
  show ((p * p - q * q * d : Int) : Re) + α * (((-2 * p * r : Int) : Re) + α * (((r * r : Int) : Re) + α * 0)) = 0
  rw [Int.sub_eq_add_neg, show -2 * p * r = -(p * r + p * r) by grind]
  simp only [castX_add, castX_neg, castX_mul]
  rw [← h2]
  have e : (r : Re) * α - p = q * ρ := by grind
  have e2 : ((r : Re) * α - p) * ((r : Re) * α - p) = (q : Re) * q * (ρ * ρ) := by rw [e]; grind
  grind
theorem bare_root {xs : List Int} (h : lastZ xs ≠ 0) {α : Re} (k : evX xs α = 0) : evX (bareL xs) α = 0 := by
  have e := evX_smul (barS xs) (bareL xs) α
  rw [smul_bare, k] at e
  have n : ((barS xs : Int) : Re) ≠ 0 := fun z => barS_ne h (by rw [← castX_zero, castX_inj] at z; exact z)
  rcases Re.tri (evX (bareL xs) α) 0 with z | z | z
  · exfalso
    rcases Re.tri ((barS xs : Int) : Re) 0 with y | y | y
    · have := Re.mul_pos (show 0 < -((barS xs : Int) : Re) by grind) (show 0 < -evX (bareL xs) α by grind); grind
    · exact n y
    · have := Re.mul_pos y (show 0 < -evX (bareL xs) α by grind); grind
  · exact z
  · exfalso
    rcases Re.tri ((barS xs : Int) : Re) 0 with y | y | y
    · have := Re.mul_pos (show 0 < -((barS xs : Int) : Re) by grind) z; grind
    · exact n y
    · have := Re.mul_pos y z; grind
/-- a part below, above a number that is told by r times it -/
theorem part_lt {t b : Int} (hb : 0 < b) {x : Re} : ofQ ((t : Rat) / b) < x ↔ (t : Re) < (b : Re) * x := by
  have e : (b : Re) * ofQ ((t : Rat) / b) = (t : Re) := by
    rw [castX, ← ofQ_mul]
    have := cast_pos hb
    have : (b : Rat) * ((t : Rat) / b) = t := by grind
    rw [this]; rfl
  have p : (0 : Re) < (b : Re) := by rw [← castX_zero, castX_lt]; exact hb
  generalize ofQ ((t : Rat) / b) = y at *
  generalize (b : Re) = z at *
  rw [← e]
  constructor
  · intro h
    have := Re.mul_pos p (show 0 < x - y by grind)
    grind
  · intro h
    rcases Re.tri y x with w | w | w
    · exact w
    · rw [w] at h; grind
    · have := Re.mul_pos p (show 0 < y - x by grind)
      grind
theorem pt_part {t b : Int} (hb : 0 < b) : pt (partV t b) = (t : Rat) / b := by
  have c := partV_cross (a := t) (b := b) (by omega)
  have p := partV_pos (a := t) (b := b) (by omega)
  have c := congrArg (fun z : Int => (z : Rat)) c
  simp only [Rat.intCast_mul] at c
  have b0 := cast_pos hb
  have p0 := cast_pos p
  unfold pt
  exact dq c (by grind) (by grind)
/-- the number lies between the ends -/
theorem quad_in {p q r d k : Int} (hr : 0 < r) (hk : 0 < k) (hd : d < k * k) {ρ α : Re} (h0 : 0 < ρ) (h2 : ρ * ρ = (d : Re)) (h : (r : Re) * α = (p : Re) + q * ρ) :
    (0 < q → ofQ (pt (partV p r)) < α ∧ α < ofQ (pt (partV (p + q * k) r))) ∧ (q < 0 → ofQ (pt (partV (p + q * k) r)) < α ∧ α < ofQ (pt (partV p r))) := by
  have gt : ∀ {t : Int} {x : Re}, x < ofQ ((t : Rat) / r) ↔ (r : Re) * x < (t : Re) := fun {t x} => by
    have e : (r : Re) * ofQ ((t : Rat) / r) = (t : Re) := by
      rw [castX, ← ofQ_mul]
      have := cast_pos hr
      have : (r : Rat) * ((t : Rat) / r) = t := by grind
      rw [this]; rfl
    have pr : (0 : Re) < (r : Re) := by rw [← castX_zero, castX_lt]; exact hr
    generalize ofQ ((t : Rat) / r) = y at *
    generalize (r : Re) = z at *
    rw [← e]
    constructor
    · intro h
      have := Re.mul_pos pr (show 0 < y - x by grind)
      grind
    · intro h
      rcases Re.tri x y with w | w | w
      · exact w
      · rw [w] at h; grind
      · have := Re.mul_pos pr (show 0 < x - y by grind)
        grind
  have rk : ρ < (k : Re) := by
    have k0 : (0 : Re) < (k : Re) := by rw [← castX_zero, castX_lt]; exact hk
    have kk : (d : Re) < (k : Re) * k := by rw [← castX_mul, castX_lt]; exact hd
    rcases Re.tri ρ (k : Re) with w | w | w
    · exact w
    · rw [← w, h2] at kk; grind
    · have a := Re.mul_pos (show 0 < ρ - k by grind) (show 0 < ρ + (k : Re) by grind)
      grind
  rw [pt_part hr, pt_part hr]
  constructor
  · intro hq
    have q0 : (0 : Re) < (q : Re) := by rw [← castX_zero, castX_lt]; exact hq
    rw [part_lt hr, gt, h, castX_add, castX_mul]
    have a := Re.mul_pos q0 h0
    have b := Re.mul_pos q0 (show 0 < (k : Re) - ρ by grind)
    constructor <;> grind
  · intro hq
    have q0 : (q : Re) < 0 := by rw [← castX_zero, castX_lt]; exact hq
    rw [part_lt hr, gt, h, castX_add, castX_mul]
    have a := Re.mul_pos (show 0 < -(q : Re) by grind) h0
    have b := Re.mul_pos (show 0 < -(q : Re) by grind) (show 0 < (k : Re) - ρ by grind)
    constructor <;> grind
end Rt

namespace Rt
open Re
theorem short_R {xs : List Int} {u v : Int × Int} (h2 : xs ≠ []) (h3 : xs.length ≤ 3) (hu : 0 < u.2) (hv : 0 < v.2) (lt : pt u < pt v) (o : (evR xs (pt u) < 0 ∧ 0 < evR xs (pt v)) ∨ (0 < evR xs (pt u) ∧ evR xs (pt v) < 0)) : Pg xs u v := by
  refine short_pg h2 h3 hu hv ((pt_lt hu hv).mp lt) ?_
  have a := hor_sgn hu xs
  have b := hor_sgn hv xs
  rcases o with ⟨x, y⟩ | ⟨x, y⟩
  · exact Int.mul_neg_of_neg_of_pos (a.2.mp x) (b.1.mp y)
  · exact Int.mul_neg_of_pos_of_neg (a.1.mp x) (b.2.mp y)
theorem bare_R {xs : List Int} (h : 0 < lastZ xs) (x : Rat) : (0 < evR (bareL xs) x ↔ 0 < evR xs x) ∧ (evR (bareL xs) x < 0 ↔ evR xs x < 0) := by
  have e := evR_smul (barS xs) (bareL xs) x
  rw [smul_bare] at e
  have bp : 0 < barS xs := by
    have c := cont_pos (p := xs) (by omega)
    unfold barS
    rw [if_neg (by omega)]; omega
  have b0 := cast_pos bp
  generalize evR (bareL xs) x = y at *
  generalize evR xs x = z at *
  generalize (barS xs : Rat) = s at *
  subst e
  refine ⟨⟨fun h => Rat.mul_pos b0 h, fun h => ?_⟩, ⟨fun h => ?_, fun h => ?_⟩⟩
  · apply Classical.byContradiction
    intro no
    have := Rat.mul_nonneg (Rat.le_of_lt b0) (show 0 ≤ -y by grind)
    grind
  · have := Rat.mul_pos b0 (show 0 < -y by grind); grind
  · apply Classical.byContradiction
    intro no
    have := Rat.mul_nonneg (Rat.le_of_lt b0) (show 0 ≤ y by grind)
    grind
def quaR (p q r d : Int) : List Int := [p * p - q * q * d, -2 * p * r, r * r]
theorem quaR_ev {p q r d k : Int} (hr : 0 < r) : evR (quaR p q r d) (((p + q * k : Int) : Rat) / r) = ((q * q * (k * k - d) : Int) : Rat) := by
  show ((p * p - q * q * d : Int) : Rat) + ((p + q * k : Int) : Rat) / r * (((-2 * p * r : Int) : Rat) + ((p + q * k : Int) : Rat) / r * (((r * r : Int) : Rat) + ((p + q * k : Int) : Rat) / r * 0)) = _
  have r0 := cast_pos hr
  have m2 : ((-2 : Int) : Rat) = -2 := rfl
  simp only [Rat.intCast_sub, Rat.intCast_add, Rat.intCast_mul, m2]
  generalize (p : Rat) = P
  generalize (q : Rat) = Q
  generalize (d : Rat) = D
  generalize (k : Rat) = K
  generalize (r : Rat) = R at *
  have e : (P + Q * K) / R * R = P + Q * K := by grind
  generalize (P + Q * K) / R = x at *
  have e2 : x * (-2 * P * R + x * (R * R + x * 0)) = (x * R) * (-2 * P) + (x * R) * (x * R) := by grind
  rw [e2, e]; grind
theorem quad_pg {p q r d k : Int} (hr : 0 < r) (hd : 0 < d) (hk : 0 < k) (hdk : d < k * k) :
    (0 < q → Pg (bareL (quaR p q r d)) (partV p r) (partV (p + q * k) r)) ∧ (q < 0 → Pg (bareL (quaR p q r d)) (partV (p + q * k) r) (partV p r)) := by
  have ls : 0 < lastZ (quaR p q r d) := Int.mul_pos hr hr
  have ne : bareL (quaR p q r d) ≠ [] := by unfold bareL quaR; simp
  have l3 : (bareL (quaR p q r d)).length ≤ 3 := by unfold bareL; rw [List.length_map]; exact Nat.le_refl 3
  have p1 := partV_pos (a := p) (b := r) (by omega)
  have p2 := partV_pos (a := p + q * k) (b := r) (by omega)
  have e1 := quaR_ev (p := p) (q := q) (d := d) (k := 0) hr
  have e2 := quaR_ev (p := p) (q := q) (d := d) (k := k) hr
  rw [show p + q * 0 = p by omega, ← pt_part hr] at e1
  rw [← pt_part hr] at e2
  have b1 := bare_R ls (pt (partV p r))
  have b2 := bare_R ls (pt (partV (p + q * k) r))
  have qq : q ≠ 0 → 0 < q * q := fun h => by
    rcases Int.lt_trichotomy q 0 with z | z | z
    · exact Int.mul_pos_of_neg_of_neg z z
    · exact absurd z h
    · exact Int.mul_pos z z
  have n1 : q ≠ 0 → evR (quaR p q r d) (pt (partV p r)) < 0 := fun h => by
    rw [e1]
    have : q * q * (0 * 0 - d) < 0 := Int.mul_neg_of_pos_of_neg (qq h) (by omega)
    exact_mod_cast this
  have n2 : q ≠ 0 → 0 < evR (quaR p q r d) (pt (partV (p + q * k) r)) := fun h => by
    rw [e2]
    have : 0 < q * q * (k * k - d) := Int.mul_pos (qq h) (by omega)
    exact_mod_cast this
  have lt : ∀ {a b : Int}, a < b → pt (partV a r) < pt (partV b r) := fun {a b} h => by
    rw [pt_part hr, pt_part hr]
    have r0 := cast_pos hr
    rw [Rat.div_lt_iff r0]
    have : (b : Rat) / r * r = b := by grind
    rw [this]
    exact_mod_cast h
  constructor
  · intro hq
    have := Int.mul_pos hq hk
    exact short_R ne l3 p1 p2 (lt (by omega)) (.inl ⟨b1.2.mpr (n1 (by omega)), b2.1.mpr (n2 (by omega))⟩)
  · intro hq
    have := Int.mul_neg_of_neg_of_pos hq hk
    exact short_R ne l3 p2 p1 (lt (by omega)) (.inr ⟨b2.1.mpr (n2 (by omega)), b1.2.mpr (n1 (by omega))⟩)
end Rt

namespace Rt
theorem part_dvd {t b : Int} (hb : 0 < b) : (partV t b).2 ∣ b := by
  have c := partV_cross (a := t) (b := b) (by omega)
  have g := partV_gcd (a := t) (b := b) (by omega)
  have k : Nat.Coprime (partV t b).2.natAbs (partV t b).1.natAbs := by rw [Nat.coprime_comm]; exact g
  refine Int.natAbs_dvd_natAbs.mp (k.dvd_of_dvd_mul_left ?_)
  rw [← Int.natAbs_mul]
  exact Int.natAbs_dvd_natAbs.mpr ⟨t, by rw [c, Int.mul_comm]⟩
theorem part_dy {t b M : Int} (hb : 0 < b) (h1 : -(M * b) ≤ t) (h2 : t ≤ M * b) : Dy b M (partV t b) := by
  have c := partV_cross (a := t) (b := b) (by omega)
  have p := partV_pos (a := t) (b := b) (by omega)
  refine ⟨p, partV_gcd (by omega), part_dvd hb, ?_, ?_⟩
  · refine Int.le_of_mul_le_mul_right (a := b) ?_ hb
    rw [c]
    have := Int.mul_le_mul_of_nonneg_right h1 (Int.le_of_lt p)
    have e : -(M * (partV t b).2) * b = -(M * b) * (partV t b).2 := by grind
    rw [e]; exact this
  · refine Int.le_of_mul_le_mul_right (a := b) ?_ hb
    rw [c]
    have := Int.mul_le_mul_of_nonneg_right h2 (Int.le_of_lt p)
    have e : M * (partV t b).2 * b = M * b * (partV t b).2 := by grind
    rw [e]; exact this
end Rt

namespace Rt
open PySem PySem.Spec PyProof.Rows L2 Evl
open Re
/-- a peg of small sizes, and its number -/
structure LP (xs : List Int) (u v : Int × Int) (α : Re) : Prop where
  sz : ∃ D M, PgS 75 26 25 D M xs u v
  good : Good xs
  l2 : 2 ≤ xs.length
  l4 : xs.length ≤ 4
  bd : Bd (2 ^ 70) xs
  num : Num xs u v α
theorem LP.pg {xs : List Int} {u v : Int × Int} {α : Re} (p : LP xs u v α) : Pg xs u v := by obtain ⟨D, M, h⟩ := p.sz; exact h.pg
theorem LP.cmp {xs ys : List Int} {u v u' v' : Int × Int} {α β : Re} (p : LP xs u v α) (q : LP ys u' v' β) : ∃ c : Int, F_compare [pegD xs u v, pegD ys u' v'] (.rt (.int c)) ∧ IsSg c (α - β) := by
  obtain ⟨D, M, hp⟩ := p.sz
  obtain ⟨D', M', hq⟩ := q.sz
  obtain ⟨c, h1, h2⟩ := cmp_ex (L := 4) (s := 70) hp hq p.good q.good p.l2 q.l2 p.l4 q.l4 (by decide) (by decide) p.bd q.bd (by decide) (by decide) (by decide) (by decide)
  refine ⟨c, h1, ?_⟩
  rcases says_num hp.pg hq.pg p.l2 q.l2 p.num q.num h2 with ⟨rfl, h⟩ | ⟨rfl, h⟩ | ⟨rfl, h⟩
  · exact .inr (.inl ⟨rfl, by rw [h]; grind⟩)
  · exact .inl ⟨rfl, by grind⟩
  · exact .inr (.inr ⟨rfl, by grind⟩)
/-- told by a number of known sign -/
theorem LP.cmp_is {xs ys : List Int} {u v u' v' : Int × Int} {α β : Re} {s : Int} (p : LP xs u v α) (q : LP ys u' v' β) (h : IsSg s (α - β)) : F_compare [pegD xs u v, pegD ys u' v'] (.rt (.int s)) ∧ F_compare [pegD ys u' v', pegD xs u v] (.rt (.int (0 - s))) := by
  obtain ⟨c, h1, h2⟩ := p.cmp q
  obtain ⟨c', h3, h4⟩ := q.cmp p
  have e1 := h2.un h
  have h5 := h4.opp
  have e : -(β - α) = α - β := by grind
  rw [e] at h5
  have e2 := h5.un h
  subst e1
  have : c' = 0 - c := by omega
  subst this
  exact ⟨h1, h3⟩
theorem re0 : ofQ 0 = (0 : Re) := rfl
theorem pt_nn {u : Int × Int} (hu : 0 < u.2) (h : 0 ≤ u.1) : (0 : Rat) ≤ pt u := by
  have k := pt_le (u := (0, 1)) (v := u) (by decide) hu (by unfold PL; show ¬ u.1 * 1 < 0 * u.2; omega)
  have : pt (0, 1) = 0 := by decide +kernel
  rwa [this] at k
theorem pt_np {u : Int × Int} (hu : 0 < u.2) (h : u.1 ≤ 0) : pt u ≤ (0 : Rat) := by
  have k := pt_le (u := u) (v := (0, 1)) hu (by decide) (by unfold PL; show ¬ 0 * u.2 < u.1 * 1; omega)
  have : pt (0, 1) = 0 := by decide +kernel
  rwa [this] at k
theorem pt_pos' {u : Int × Int} (hu : 0 < u.2) (h : 0 < u.1) : (0 : Rat) < pt u := by
  have k := (pt_lt (u := (0, 1)) (v := u) (by decide) hu).mpr (by unfold PL; show 0 * u.2 < u.1 * 1; omega)
  have : pt (0, 1) = 0 := by decide +kernel
  rwa [this] at k
theorem pt_neg' {u : Int × Int} (hu : 0 < u.2) (h : u.1 < 0) : pt u < (0 : Rat) := by
  have k := (pt_lt (u := u) (v := (0, 1)) hu (by decide)).mpr (by unfold PL; show u.1 * 1 < 0 * u.2; omega)
  have : pt (0, 1) = 0 := by decide +kernel
  rwa [this] at k
theorem evR_zero : ∀ xs : List Int, evR xs 0 = ((xs.getD 0 0 : Int) : Rat)
  | [] => rfl
  | a :: r => by show (a : Rat) + 0 * evR r 0 = (a : Rat); grind
theorem sop_ok {xs : List Int} {u v : Int × Int} {α : Re} (p : Pg xs u v) (hx : 2 ≤ xs.length) (h : Num xs u v α) : IsSg (sopV xs u v) α := by
  unfold sopV
  by_cases c1 : 0 ≤ u.1
  · rw [if_pos c1]
    have := ofQ_le.mpr (pt_nn p.pu c1)
    rw [re0] at this
    have := h.lo
    exact .inr (.inr ⟨rfl, by grind⟩)
  · rw [if_neg c1]
    by_cases c2 : v.1 ≤ 0
    · rw [if_pos c2]
      have := ofQ_le.mpr (pt_np p.pv c2)
      rw [re0] at this
      have := h.hi
      exact .inl ⟨rfl, by grind⟩
    · rw [if_neg c2]
      obtain ⟨k1, k2⟩ := h.cut p hx 0
      rw [re0] at k1 k2
      have un := pt_neg' p.pu (by omega)
      have vp := pt_pos' p.pv (by omega)
      have e : fn xs u 0 = ((sg xs u * xs.getD 0 0 : Int) : Rat) := by unfold fn; rw [evR_zero, Rat.intCast_mul]
      have so := (sg_or p.nu).1
      have q1 : α < 0 ↔ sg xs u * xs.getD 0 0 < 0 := by
        rw [← k1]
        unfold AbvP Abv
        rw [e]
        constructor
        · rintro (z | z)
          · grind
          · exact_mod_cast z.2
        · intro z
          exact .inr ⟨un, by exact_mod_cast z⟩
      have q2 : 0 < α ↔ 0 < sg xs u * xs.getD 0 0 := by
        rw [← k2]
        unfold BlwP Blw
        rw [e]
        constructor
        · rintro (z | z)
          · grind
          · exact_mod_cast z.2
        · intro z
          exact .inr ⟨vp, by exact_mod_cast z⟩
      have es : sgn (xs.getD 0 0) * sgn (hor u.1 u.2 xs).1 = sgn (sg xs u * xs.getD 0 0) := by
        show sgn (xs.getD 0 0) * sg xs u = _
        generalize sg xs u = s at *
        generalize xs.getD 0 0 = a at *
        rcases so with rfl | rfl
        · rw [Int.mul_one, Int.one_mul]
        · unfold sgn; split <;> (try split) <;> (try split) <;> (try split) <;> omega
      rw [es]
      generalize sg xs u * xs.getD 0 0 = m at *
      rcases Int.lt_trichotomy m 0 with z | z | z
      · exact .inl ⟨by unfold sgn; split <;> (try split) <;> omega, q1.mpr z⟩
      · refine .inr (.inl ⟨by unfold sgn; split <;> (try split) <;> omega, ?_⟩)
        rcases Re.tri α 0 with w | w | w
        · have := q1.mp w; omega
        · exact w
        · have := q2.mp w; omega
      · exact .inr (.inr ⟨by unfold sgn; split <;> (try split) <;> omega, q2.mpr z⟩)
theorem LP.sop {xs : List Int} {u v : Int × Int} {α : Re} {s : Int} (p : LP xs u v α) (h : IsSg s α) : F_sign_of_peg [pegD xs u v] (.rt (.int s)) := by
  obtain ⟨D, M, hp⟩ := p.sz
  have := (sop_ok hp.pg p.l2 p.num).un h
  subst this
  exact ⟨xs, u, v, 75, 26, 25, D, M, rfl, hp, by decide, by decide, by decide, rfl⟩
theorem Sz.bd {n : Nat} {p : List Int} (h : Sz n p) : Bd (2 ^ n) p := fun a ha => Nat.le_of_lt (h a ha)
/-- times x and a far number -/
theorem LP.far {xs : List Int} {u v : Int × Int} {α : Re} {c : Int} (p : LP xs u v α) (h3 : xs.length = 3) (bd : Bd (2 ^ 41) xs) (c1 : 100000000 ≤ c.natAbs) (c2 : c.natAbs < 2 ^ 27) : LP (mulL xs [c, 1]) u v α := by
  obtain ⟨D, M, s⟩ := p.sz
  have len : (mulL xs [c, 1]).length = 4 := by have := mulL_len s.pg.ne (q := [c, 1]) (by simp); simp only [List.length_cons, List.length_nil] at this; omega
  have bd2 : Bd (2 ^ 70) (mulL xs [c, 1]) := by
    match xs, h3 with
    | [a, b, d], _ =>
      have e : mulL [a, b, d] [c, 1] = [a * c, b * c + a, d * c + b, d] := by simp [mulL, smul, addL]; omega
      rw [e]
      have ba := bd a (by simp)
      have bb := bd b (by simp)
      have bd' := bd d (by simp)
      have m1 : ∀ {z : Int}, z.natAbs ≤ 2 ^ 41 → (z * c).natAbs ≤ 2 ^ 68 := fun {z} h => by
        rw [Int.natAbs_mul]
        exact Nat.le_trans (Nat.mul_le_mul h (Nat.le_of_lt c2)) (by decide)
      have := m1 ba
      have := m1 bb
      have := m1 bd'
      intro x hx
      simp only [List.mem_cons, List.not_mem_nil, or_false] at hx
      rcases hx with rfl | rfl | rfl | rfl <;> omega
  have sgn1 : ∀ {w : Int × Int}, Dy D M w → (0 < c → 0 < (hor w.1 w.2 [c, 1]).1) ∧ (c < 0 → (hor w.1 w.2 [c, 1]).1 < 0) := fun {w} d => by
    have e : (hor w.1 w.2 [c, 1]).1 = c * w.2 + w.1 := by
      show (0 * w.1 + 1 * 1) * w.1 + c * (1 * w.2) = _
      grind
    have lm := s.lm
    unfold Lt2 at lm
    have p0 := d.pos
    have lo := d.lo
    have hi := d.hi
    rw [e]
    constructor
    · intro h
      have := Int.mul_le_mul_of_nonneg_right (show M + 1 ≤ c by omega) (Int.le_of_lt p0)
      rw [Int.add_mul] at this
      omega
    · intro h
      have := Int.mul_le_mul_of_nonneg_right (show c ≤ -(M + 1) by omega) (Int.le_of_lt p0)
      rw [Int.neg_mul, Int.add_mul] at this
      omega
  have o : 0 < (hor u.1 u.2 [c, 1]).1 * (hor v.1 v.2 [c, 1]).1 := by
    rcases Int.lt_trichotomy c 0 with z | z | z
    · exact Int.mul_pos_of_neg_of_neg ((sgn1 s.du).2 z) ((sgn1 s.dv).2 z)
    · omega
    · exact Int.mul_pos ((sgn1 s.du).1 z) ((sgn1 s.dv).1 z)
  have gc : Good [c, 1] := ⟨by show (0 : Int) < 1; decide, by show Nat.gcd c.natAbs (Nat.gcd 1 0) = 1; rw [Nat.gcd_zero_right, Nat.gcd_one_right]⟩
  refine ⟨⟨D, M, cub_pg s.pg h3 o, by omega, ?_, s.d0, s.m0, s.ld, s.lm, s.du, s.dv⟩, p.good.mul gc, by omega, by omega, bd2, p.num.lo, p.num.hi, by rw [evX_mulL, p.num.root]; grind⟩
  exact (bd2.sz).mono (by decide)
/-- the quadratic numbers of the law -/
def QB (p q r d : Int) : Prop := p.natAbs ≤ 1000000 ∧ q ≠ 0 ∧ q.natAbs ≤ 6 ∧ 1 ≤ r ∧ r ≤ 7 ∧ 1 ≤ d ∧ d ≤ 30
theorem quaR_sz {p q r d : Int} (h : QB p q r d) : Sz 41 (quaR p q r d) := by
  obtain ⟨h1, h2, h3, h4, h5, h6, h7⟩ := h
  have lp : Lt2 20 p := by unfold Lt2; omega
  have lq : Lt2 3 q := by unfold Lt2; omega
  have lr : Lt2 3 r := by unfold Lt2; omega
  have ld : Lt2 5 d := by unfold Lt2; omega
  have l2 : Lt2 2 (-2 : Int) := by unfold Lt2; decide
  have a1 := (lp.mul lp).sub (((lq.mul lq).mul ld).mono (show 3 + 3 + 5 ≤ 20 + 20 by decide))
  have a2 := ((l2.mul lp).mul lr).mono (show 2 + 20 + 3 ≤ 41 by decide)
  have a3 := (lr.mul lr).mono (show 3 + 3 ≤ 41 by decide)
  intro x hx
  unfold quaR at hx
  simp only [List.mem_cons, List.not_mem_nil, or_false] at hx
  rcases hx with rfl | rfl | rfl
  · exact a1
  · exact a2
  · exact a3
theorem lt_part {t b : Int} (hb : 0 < b) {x : Re} : x < ofQ ((t : Rat) / b) ↔ (b : Re) * x < (t : Re) := by
  have e : (b : Re) * ofQ ((t : Rat) / b) = (t : Re) := by
    rw [castX, ← ofQ_mul]
    have := cast_pos hb
    have : (b : Rat) * ((t : Rat) / b) = t := by grind
    rw [this]; rfl
  have pr : (0 : Re) < (b : Re) := by rw [← castX_zero, castX_lt]; exact hb
  generalize ofQ ((t : Rat) / b) = y at *
  generalize (b : Re) = z at *
  rw [← e]
  constructor
  · intro h
    have := Re.mul_pos pr (show 0 < y - x by grind)
    grind
  · intro h
    rcases Re.tri x y with w | w | w
    · exact w
    · rw [w] at h; grind
    · have := Re.mul_pos pr (show 0 < x - y by grind)
      grind
theorem LP.quad {p q r d k : Int} (h : QB p q r d) (hk : 0 < k) (hk6 : k ≤ 6) (hdk : d < k * k) {ρ α : Re} (h0 : 0 < ρ) (h2 : ρ * ρ = (d : Re)) (ha : (r : Re) * α = (p : Re) + q * ρ) :
    (0 < q → LP (bareL (quaR p q r d)) (partV p r) (partV (p + q * k) r) α) ∧ (q < 0 → LP (bareL (quaR p q r d)) (partV (p + q * k) r) (partV p r) α) := by
  have sz := quaR_sz h
  obtain ⟨b1, b2, b3, b4, b5, b6, b7⟩ := h
  have hr : 0 < r := by omega
  have ls : lastZ (quaR p q r d) ≠ 0 := by have : 0 < lastZ (quaR p q r d) := Int.mul_pos hr hr; omega
  have pg := quad_pg (p := p) (q := q) (d := d) (k := k) hr (by omega) hk hdk
  have inn := quad_in (p := p) (q := q) (d := d) (k := k) hr hk hdk h0 h2 ha
  have root := bare_root ls (quad_root (p := p) (q := q) (r := r) h2 ha)
  have szb : Sz 41 (bareL (quaR p q r d)) := sz.bare (.inr ls)
  have len : (bareL (quaR p q r d)).length = 3 := by unfold bareL; rw [List.length_map]; rfl
  have qk : (q * k).natAbs ≤ 36 := by
    rw [Int.natAbs_mul]
    exact Nat.le_trans (Nat.mul_le_mul b3 (show k.natAbs ≤ 6 by omega)) (by decide)
  have d1 : Dy r 1000036 (partV p r) := part_dy hr (by omega) (by omega)
  have d2 : Dy r 1000036 (partV (p + q * k) r) := part_dy hr (by omega) (by omega)
  have lr : Lt2 26 r := by unfold Lt2; omega
  have lM : Lt2 25 (1000036 : Int) := by unfold Lt2; decide
  have bdb := szb.bd.mono (show 2 ^ 41 ≤ 2 ^ 70 by decide)
  exact ⟨fun hq => ⟨⟨r, 1000036, pg.1 hq, by omega, szb.mono (by decide), hr, by decide, lr, lM, d1, d2⟩, bare_good ls, by omega, by omega, bdb, (inn.1 hq).1, (inn.1 hq).2, root⟩,
    fun hq => ⟨⟨r, 1000036, pg.2 hq, by omega, szb.mono (by decide), hr, by decide, lr, lM, d2, d1⟩, bare_good ls, by omega, by omega, bdb, (inn.2 hq).1, (inn.2 hq).2, root⟩⟩
/-- the peg of a part -/
theorem LP.part {t b : Int} {m : Nat} {α : Re} (l : Low m (t, b)) (hm : m ≤ 70) (T : Int) (h1 : t.natAbs ≤ T * b) (h0 : 0 ≤ T) (hT : T < 30000000) (lb : Lt2 26 b) (ha : (b : Re) * α = (t : Re)) : LP [-t, b] (partV (t * 1 + -1 * b) (b * 1)) (partV (t * 1 + 1 * b) (b * 1)) α := by
  have hb : 0 < b := l.pos
  have ok := one_peg l
  have l1 : Lt2 m t := l.l1
  have l2 : Lt2 m b := l.l2
  have tb : (T + 1) * b = T * b + b := by grind
  have d1 : Dy (b * 1) (T + 1) (partV (t * 1 + -1 * b) (b * 1)) := part_dy (by omega) (by simp only [Int.mul_one]; omega) (by simp only [Int.mul_one]; omega)
  have d2 : Dy (b * 1) (T + 1) (partV (t * 1 + 1 * b) (b * 1)) := part_dy (by omega) (by simp only [Int.mul_one]; omega) (by simp only [Int.mul_one]; omega)
  have bd : Bd (2 ^ 70) [-t, b] := fun x hx => by
    have e : (2 : Nat) ^ m ≤ 2 ^ 70 := Nat.pow_le_pow_right (by decide) hm
    unfold Lt2 at l1 l2
    simp only [List.mem_cons, List.not_mem_nil, or_false] at hx
    rcases hx with rfl | rfl <;> omega
  have lM : Lt2 25 (T + 1) := by unfold Lt2; omega
  have b0 : (0 : Re) < (b : Re) := by rw [← castX_zero, castX_lt]; exact hb
  refine ⟨⟨b * 1, T + 1, ⟨by simp, ok.lu.pos, ok.lv.pos, ok.lt, ok.nu, ok.nv, ok.one⟩, by show 2 ≤ 100; decide, bd.sz.mono (by decide), by omega, by omega, by rw [Int.mul_one]; exact lb, lM, d1, d2⟩, ok.good, Nat.le_refl 2, by show 2 ≤ 4; decide, bd, ?_, ?_, ?_⟩
  · rw [pt_part (by omega), part_lt (by omega), Int.mul_one, Int.mul_one, show t + -1 * b = t + -b by omega, castX_add, castX_neg, ha]
    grind
  · rw [pt_part (by omega), lt_part (by omega), Int.mul_one, Int.mul_one, show t + 1 * b = t + b by omega, castX_add, ha]
    grind
  · show ((-t : Int) : Re) + α * (((b : Int) : Re) + α * 0) = 0
    rw [castX_neg]; grind
theorem root_lt {x y : Re} (hx : 0 < x) (hy : 0 < y) (h : x * x < y * y) : x < y := by
  rcases Re.tri x y with z | z | z
  · exact z
  · rw [z] at h; grind
  · have := Re.mul_pos (show 0 < x - y by grind) (show 0 < x + y by grind)
    grind
/-- the near ones -/
theorem LP.near {n k : Int} (h1 : 1 ≤ n) (h2 : n ≤ 10000000) (hk : 1 ≤ k) (hk2 : k ≤ 2) : ∃ α : Re, 0 < α ∧ α * α = ((n * n + k : Int) : Re) ∧ LP [-k - n * n, 0, 1] (n, 1) (n + k, 1) α := by
  have nn : 0 < n * n := Int.mul_pos (by omega) (by omega)
  obtain ⟨α, a0, a2⟩ := sqrt_ex (d := n * n + k) (by omega)
  have c1 : ((1 : Int) : Rat) = 1 := rfl
  have p1 : pt (n, 1) = (n : Rat) := by unfold pt; show (n : Rat) / ((1 : Int) : Rat) = n; rw [c1]; grind
  have p2 : pt (n + k, 1) = ((n + k : Int) : Rat) := by unfold pt; show ((n + k : Int) : Rat) / ((1 : Int) : Rat) = _; rw [c1]; grind
  have ev' : ∀ x : Int, evR [-k - n * n, 0, 1] (x : Rat) = ((x * x - k - n * n : Int) : Rat) := fun x => by
    show ((-k - n * n : Int) : Rat) + (x : Rat) * (((0 : Int) : Rat) + (x : Rat) * (((1 : Int) : Rat) + (x : Rat) * 0)) = _
    have c0 : ((0 : Int) : Rat) = 0 := rfl
    rw [c0, c1]
    simp only [Rat.intCast_sub, Rat.intCast_mul, Rat.intCast_neg]
    grind
  have kn : 0 < k * n := Int.mul_pos (by omega) (by omega)
  have kk : 0 < k * k := Int.mul_pos (by omega) (by omega)
  have lt : pt (n, 1) < pt (n + k, 1) := by rw [p1, p2]; exact_mod_cast (show n < n + k by omega)
  have e2 : (n + k) * (n + k) = n * n + 2 * (k * n) + k * k := by grind
  have kk2 : k ≤ k * n := by
    have := Int.mul_le_mul_of_nonneg_left h1 (show 0 ≤ k by omega)
    omega
  have pg : Pg [-k - n * n, 0, 1] (n, 1) (n + k, 1) := short_R (by simp) (Nat.le_refl 3) (show (0 : Int) < 1 by decide) (show (0 : Int) < 1 by decide) lt (.inl ⟨by rw [p1, ev']; exact_mod_cast (show n * n - k - n * n < 0 by omega), by rw [p2, ev']; exact_mod_cast (show 0 < (n + k) * (n + k) - k - n * n by omega)⟩)
  have n2 : n * n ≤ 100000000000000 := by
    have a := Int.mul_le_mul_of_nonneg_left h2 (show 0 ≤ n by omega)
    omega
  have bd : Bd (2 ^ 60) [-k - n * n, 0, 1] := fun x hx => by
    simp only [List.mem_cons, List.not_mem_nil, or_false] at hx
    rcases hx with rfl | rfl | rfl <;> omega
  have good : Good [-k - n * n, 0, 1] := ⟨by show (0 : Int) < 1; decide, by show Nat.gcd _ (Nat.gcd 0 (Nat.gcd 1 0)) = 1; rw [Nat.gcd_zero_right, Nat.gcd_one_right, Nat.gcd_one_right]⟩
  refine ⟨α, a0, a2, ⟨1, n + k, pg, by show 3 ≤ 100; decide, bd.sz.mono (by decide), by decide, by omega, by unfold Lt2; decide, by unfold Lt2; omega, ⟨by show (0 : Int) < 1; decide, Int.gcd_one_right _, Int.dvd_refl 1, by show -((n + k) * 1) ≤ n; omega, by show n ≤ (n + k) * 1; omega⟩, ⟨by show (0 : Int) < 1; decide, Int.gcd_one_right _, Int.dvd_refl 1, by show -((n + k) * 1) ≤ n + k; omega, by show n + k ≤ (n + k) * 1; omega⟩⟩, good, by show 2 ≤ 3; decide, by show 3 ≤ 4; decide, bd.mono (by decide), ?_, ?_, ?_⟩
  · rw [p1, ← castX]
    refine root_lt (by rw [← castX_zero, castX_lt]; omega) a0 ?_
    rw [a2, ← castX_mul, castX_lt]; omega
  · rw [p2, ← castX]
    refine root_lt a0 (by rw [← castX_zero, castX_lt]; omega) ?_
    rw [a2, ← castX_mul, castX_lt]; omega
  · show ((-k - n * n : Int) : Re) + α * (((0 : Int) : Re) + α * (((1 : Int) : Re) + α * 0)) = 0
    rw [castX_zero, castX_one, show -k - n * n = -(n * n + k) by omega, castX_neg, ← a2]
    grind
/-! what the law tells of two of them -/
theorem gap_ok {p q r a p' q' r' b : Int} (hr : 0 < r) (hr' : 0 < r') (ha : 0 < a) (hb : 0 < b) {ρ σ α β : Re} (h1 : 0 < ρ) (h2 : ρ * ρ = (a : Re)) (h3 : 0 < σ) (h4 : σ * σ = (b : Re)) (e1 : (r : Re) * α = (p : Re) + q * ρ) (e2 : (r' : Re) * β = (p' : Re) + q' * σ) :
    IsSg (fourV (p * r' - p' * r) (q * r') (0 - q' * r) 0 a b) (α - β) := by
  have f := four_ok (x0 := p * r' - p' * r) (x1 := q * r') (x2 := 0 - q' * r) (x3 := 0) ha hb h1 h2 h3 h4
  have r0 : (0 : Re) < (r : Re) := by rw [← castX_zero, castX_lt]; exact hr
  have r0' : (0 : Re) < (r' : Re) := by rw [← castX_zero, castX_lt]; exact hr'
  refine IsSg.of_mul (Re.mul_pos r0 r0') ?_
  have e : ((p * r' - p' * r : Int) : Re) + ((q * r' : Int) : Re) * ρ + (((0 - q' * r : Int) : Re) + ((0 : Int) : Re) * ρ) * σ = (α - β) * ((r : Re) * r') := by
    rw [Int.sub_eq_add_neg, Int.sub_eq_add_neg, Int.zero_add, castX_zero]
    simp only [castX_add, castX_neg, castX_mul]
    have k1 : (α - β) * ((r : Re) * r') = (r : Re) * α * r' - (r' : Re) * β * r := by grind
    rw [k1, e1, e2]; grind
  rw [e] at f
  exact f
theorem one_ok {p q r a : Int} (hr : 0 < r) (ha : 0 < a) {ρ α : Re} (h1 : 0 < ρ) (h2 : ρ * ρ = (a : Re)) (e1 : (r : Re) * α = (p : Re) + q * ρ) : IsSg (twoV p q a) α := by
  have f := two_ok (x := p) (y := q) ha h1 h2
  have r0 : (0 : Re) < (r : Re) := by rw [← castX_zero, castX_lt]; exact hr
  refine IsSg.of_mul r0 ?_
  rw [← e1] at f
  have : α * (r : Re) = (r : Re) * α := by grind
  rw [this]; exact f
theorem part_ok {p q r a t b : Int} (hr : 0 < r) (hb : 0 < b) (ha : 0 < a) {ρ α β : Re} (h1 : 0 < ρ) (h2 : ρ * ρ = (a : Re)) (e1 : (r : Re) * α = (p : Re) + q * ρ) (e2 : (b : Re) * β = (t : Re)) : IsSg (twoV (p * b - t * r) (q * b) a) (α - β) := by
  have f := two_ok (x := p * b - t * r) (y := q * b) ha h1 h2
  have r0 : (0 : Re) < (r : Re) := by rw [← castX_zero, castX_lt]; exact hr
  have b0 : (0 : Re) < (b : Re) := by rw [← castX_zero, castX_lt]; exact hb
  refine IsSg.of_mul (Re.mul_pos r0 b0) ?_
  have e : ((p * b - t * r : Int) : Re) + ((q * b : Int) : Re) * ρ = (α - β) * ((r : Re) * b) := by
    rw [Int.sub_eq_add_neg]
    simp only [castX_add, castX_neg, castX_mul]
    have k1 : (α - β) * ((r : Re) * b) = (r : Re) * α * b - (b : Re) * β * r := by grind
    rw [k1, e1, e2]; grind
  rw [e] at f
  exact f
theorem part_num {t b : Int} (hb : 0 < b) : ∃ β : Re, (b : Re) * β = (t : Re) := by
  obtain ⟨i, _, h⟩ := inv_ex hb
  exact ⟨(t : Re) * i, by grind⟩
end Rt

namespace Rt
open PySem PySem.Spec PyProof.Rows L2 Evl
/-- the form of a row of three is never nought but at nought -/
def Firm (c b a : Int) : Prop := ∀ p q : Int, (p ≠ 0 ∨ q ≠ 0) → a * p * p + b * p * q + c * q * q ≠ 0
/-- the kinds of factors -/
inductive Kd : List Int → Prop
  | l (e d : Int) : 0 < d → Int.gcd e d = 1 → e.natAbs ≤ 2 ^ 30 → d.natAbs ≤ 2 ^ 30 → Kd [e, d]
  | q (c b a : Int) : 0 < a → Firm c b a → cont [c, b, a] = 1 → c.natAbs ≤ 2 ^ 30 → b.natAbs ≤ 2 ^ 30 → a.natAbs ≤ 2 ^ 30 → Kd [c, b, a]
  | c (k : Int) : k.natAbs ≤ 2 ^ 30 → (∀ d e : Int, d ≠ 0 → k * d * d * d ≠ e * e * e) → Kd [k, 0, 0, 1]
theorem bd2 {m : Nat} {a b : Int} (h1 : a.natAbs ≤ m) (h2 : b.natAbs ≤ m) : Bd m [a, b] := fun x hx => by
  rcases List.mem_cons.mp hx with rfl | hx
  · exact h1
  · rw [List.mem_singleton.mp hx]; exact h2
theorem bd3 {m : Nat} {a b c : Int} (h1 : a.natAbs ≤ m) (h2 : b.natAbs ≤ m) (h3 : c.natAbs ≤ m) : Bd m [a, b, c] := fun x hx => by
  rcases List.mem_cons.mp hx with rfl | hx
  · exact h1
  · exact bd2 h2 h3 x hx
theorem bd4 {m : Nat} {a b c d : Int} (h1 : a.natAbs ≤ m) (h2 : b.natAbs ≤ m) (h3 : c.natAbs ≤ m) (h4 : d.natAbs ≤ m) : Bd m [a, b, c, d] := fun x hx => by
  rcases List.mem_cons.mp hx with rfl | hx
  · exact h1
  · exact bd3 h2 h3 h4 x hx
theorem Kd.small {f : List Int} (h : Kd f) : Small f := by
  cases h with
  | l e d h1 h2 h3 h4 => exact ⟨Nat.le_of_ble_eq_true rfl, bd2 h3 h4⟩
  | q c b a h1 h2 h3 h4 h5 h6 => exact ⟨Nat.le_of_ble_eq_true rfl, bd3 h4 h5 h6⟩
  | c k h1 h2 => exact ⟨Nat.le_of_ble_eq_true rfl, bd4 h1 (by decide) (by decide) (by decide)⟩
theorem Kd.len {f : List Int} (h : Kd f) : 2 ≤ f.length := by cases h <;> simp
theorem Kd.good {f : List Int} (h : Kd f) : Good f := by
  cases h with
  | l e d h1 h2 h3 h4 => exact ⟨h1, by show Nat.gcd e.natAbs (Nat.gcd d.natAbs 0) = 1; rw [Nat.gcd_zero_right]; exact h2⟩
  | q c b a h1 h2 h3 h4 h5 h6 => exact ⟨h1, h3⟩
  | c k h1 h2 => exact ⟨show (0:Int) < 1 by decide, by show Nat.gcd k.natAbs (Nat.gcd 0 (Nat.gcd 0 (Nat.gcd 1 0))) = 1; simp⟩
theorem Kd.self {f : List Int} (h : Kd f) : Cop (ev f) (der f) := by
  cases h with
  | l e d h1 h2 h3 h4 => exact ⟨d, by omega, fun x => ⟨0, 1, by simp [ev, der]⟩⟩
  | q c b a h1 h2 h3 h4 h5 h6 =>
    refine ⟨4 * a * c - b * b, fun z => ?_, fun x => ⟨4 * a, -(2 * a * x + b), by simp only [ev, der]; grind⟩⟩
    exact h2 (-b) (2 * a) (.inr (by omega)) (by grind)
  | c k h1 h2 =>
    refine ⟨3 * k, fun z => ?_, fun x => ⟨3, -x, by simp only [ev, der]; grind⟩⟩
    exact h2 1 0 (by decide) (by have : k = 0 := by omega
                                 rw [this]; decide)
theorem same_dv {f g : List Int} (hf : Good f) (hg : Good g) {a b : Int} (ha : a ≠ 0) (hb : b ≠ 0) (h : ∀ x, a * ev f x = b * ev g x) : f = g :=
  eq_of_dv ⟨b, hb, fun x => ⟨a, by have := h x; grind⟩⟩ ⟨a, ha, fun x => ⟨b, by have := h x; grind⟩⟩ hf.1 hg.1 hf.2 hg.2
theorem Kd.cop {f g : List Int} (hf : Kd f) (hg : Kd g) (hne : f ≠ g) : Cop (ev f) (ev g) := by
  have gf := hf.good
  have gg := hg.good
  have LQ : ∀ (e d c b a : Int), 0 < d → Firm c b a → Cop (ev [e, d]) (ev [c, b, a]) := fun e d c b a hd h =>
    ⟨c * d * d - b * d * e + a * e * e, fun z => h e (-d) (.inr (by omega)) (by grind), fun x => ⟨-(a * d * x + b * d - a * e), d * d, by simp only [ev]; grind⟩⟩
  have LC : ∀ (e d k : Int), 0 < d → (∀ d e : Int, d ≠ 0 → k * d * d * d ≠ e * e * e) → Cop (ev [e, d]) (ev [k, 0, 0, 1]) := fun e d k hd h =>
    ⟨k * d * d * d - e * e * e, fun z => h d e (by omega) (by omega), fun x => ⟨-(d * d * x * x - d * e * x + e * e), d * d * d, by simp only [ev]; grind⟩⟩
  have QC : ∀ (c b a k : Int), 0 < a → Firm c b a → (∀ d e : Int, d ≠ 0 → k * d * d * d ≠ e * e * e) → Cop (ev [c, b, a]) (ev [k, 0, 0, 1]) := fun c b a k ha h hk => by
    by_cases hs : b * b - a * c = 0
    · refine ⟨k * a * a + b * c, fun z => hk a (-b) (by omega) (by grind), fun x => ⟨-(a * x - b), a * a, ?_⟩⟩
      simp only [ev]; grind
    · refine ⟨c * (b * b - a * c) * (b * b - a * c) - b * (b * b - a * c) * (k * a * a + b * c) + a * (k * a * a + b * c) * (k * a * a + b * c), fun z => h (k * a * a + b * c) (-(b * b - a * c)) (.inr (by omega)) (by grind), fun x => ?_⟩
      refine ⟨(b * b - a * c) * (b * b - a * c) + (a * (b * b - a * c) * x + b * (b * b - a * c) - a * (k * a * a + b * c)) * (a * x - b), -(a * a * (a * (b * b - a * c) * x + b * (b * b - a * c) - a * (k * a * a + b * c))), ?_⟩
      simp only [ev]
      grind
  cases hf with
  | l e d h1 h2 h3 h4 =>
    cases hg with
    | l e' d' k1 k2 k3 k4 =>
      refine ⟨d' * e - d * e', fun z => hne (same_dv gf gg (a := d') (b := d) (by omega) (by omega) fun x => ?_), fun x => ⟨d', -d, ?_⟩⟩
      · simp only [ev]; grind
      · simp only [ev]; grind
    | q c b a k1 k2 k3 k4 k5 k6 => exact LQ e d c b a h1 k2
    | c k k1 k2 => exact LC e d k h1 k2
  | q c b a h1 h2 h3 h4 h5 h6 =>
    cases hg with
    | l e d k1 k2 k3 k4 => exact (LQ e d c b a k1 h2).symm
    | q c' b' a' k1 k2 k3 k4 k5 k6 =>
      by_cases hp : a * b' - a' * b = 0
      · refine ⟨a * c' - a' * c, fun z => hne (same_dv gf gg (a := a') (b := a) (by omega) (by omega) fun x => ?_), fun x => ⟨-a', a, ?_⟩⟩
        · simp only [ev]; grind
        · simp only [ev]; grind
      · generalize hP : a * b' - a' * b = p at *
        generalize hQ : a * c' - a' * c = q at *
        refine ⟨c * p * p - b * p * q + a * q * q, fun z => h2 q (-p) (.inr (by omega)) (by grind), fun x => ⟨p * p + (a * p * x + b * p - a * q) * a', -((a * p * x + b * p - a * q) * a), ?_⟩⟩
        simp only [ev]
        subst hP hQ
        grind
    | c k k1 k2 => exact QC c b a k h1 h2 k2
  | c k h1 h2 =>
    cases hg with
    | l e d k1 k2 k3 k4 => exact (LC e d k k1 h2).symm
    | q c b a k1 k2 k3 k4 k5 k6 => exact (QC c b a k k1 k2 h2).symm
    | c k' k1 k2 =>
      refine ⟨k - k', fun z => hne (by have : k = k' := by omega
                                       rw [this]), fun x => ⟨1, -1, ?_⟩⟩
      simp only [ev]; omega
/-! ### which rows these are -/
theorem firm_sq {m : Int} (h0 : 0 < m) (hm : ∀ t : Int, t * t ≠ m) : Firm (-m) 0 1 := fun p q hpq z => by
  have z : p * p = m * (q * q) := by grind
  by_cases hq : q = 0
  · subst hq
    have : p * p = 0 := by rw [z]; simp
    rcases Int.mul_eq_zero.mp this with h | h <;> (rcases hpq with h' | h' <;> first | exact h' h | exact h' rfl)
  · have d : q ^ 2 ∣ p ^ 2 := ⟨m, by rw [Int.pow_succ, Int.pow_succ, Int.pow_zero, Int.pow_succ, Int.pow_succ, Int.pow_zero]; grind⟩
    obtain ⟨t, ht⟩ := (Int.pow_dvd_pow_iff (by decide)).mp d
    refine hm t (Int.eq_of_mul_eq_mul_left (a := q * q) (Int.mul_ne_zero hq hq) ?_)
    rw [ht] at z
    grind
theorem sq_ne {m : Int} (n : Nat) (h1 : (n : Int) * n < m) (h2 : m < ((n : Int) + 1) * ((n : Int) + 1)) : ∀ t : Int, t * t ≠ m := fun t z => by
  have e : t * t = (t.natAbs : Int) * t.natAbs := by rw [← Int.natAbs_mul_self' t]
  rw [e] at z
  generalize t.natAbs = u at *
  rcases Nat.lt_or_ge n u with c | c
  · have : (n + 1) * (n + 1) ≤ u * u := Nat.mul_le_mul c c
    have : (((n + 1) * (n + 1) : Nat) : Int) ≤ ((u * u : Nat) : Int) := by omega
    push_cast at this
    omega
  · have : u * u ≤ n * n := Nat.mul_le_mul c c
    have : ((u * u : Nat) : Int) ≤ ((n * n : Nat) : Int) := by omega
    push_cast at this
    omega
theorem firm_def {c b a : Int} (ha : 0 < a) (h : b * b < 4 * a * c) : Firm c b a := fun p q hpq z => by
  have e : (2 * a * p + b * q) * (2 * a * p + b * q) + (4 * a * c - b * b) * (q * q) = 0 := by grind
  have s1 : 0 ≤ (2 * a * p + b * q) * (2 * a * p + b * q) := by rw [← Int.natAbs_mul_self']; exact Int.mul_nonneg (Int.natCast_nonneg _) (Int.natCast_nonneg _)
  have s2 : 0 ≤ q * q := by rw [← Int.natAbs_mul_self']; exact Int.mul_nonneg (Int.natCast_nonneg _) (Int.natCast_nonneg _)
  by_cases hq : q = 0
  · subst hq
    have e2 : a * p * p = 0 := by grind
    rcases Int.mul_eq_zero.mp e2 with h1 | h1
    · rcases Int.mul_eq_zero.mp h1 with h1 | h1
      · omega
      · rcases hpq with h' | h' <;> first | exact h' h1 | exact h' rfl
    · rcases hpq with h' | h' <;> first | exact h' h1 | exact h' rfl
  · have s3 : 0 < q * q := by
      rcases Int.lt_or_eq_of_le s2 with h1 | h1
      · exact h1
      · rcases Int.mul_eq_zero.mp h1.symm with h1 | h1 <;> exact absurd h1 hq
    have := Int.mul_pos (show 0 < 4 * a * c - b * b by omega) s3
    omega
theorem cube_ne {k : Int} (hk : ∀ t : Int, t * t * t ≠ k) : ∀ d e : Int, d ≠ 0 → k * d * d * d ≠ e * e * e := fun d e hd z => by
  have dv : d ^ 3 ∣ e ^ 3 := ⟨k, by rw [Int.pow_succ, Int.pow_succ, Int.pow_succ, Int.pow_zero, Int.pow_succ, Int.pow_succ, Int.pow_succ, Int.pow_zero]; grind⟩
  obtain ⟨t, ht⟩ := (Int.pow_dvd_pow_iff (by decide)).mp dv
  refine hk t (Int.eq_of_mul_eq_mul_left (a := d * d * d) (Int.mul_ne_zero (Int.mul_ne_zero hd hd) hd) ?_)
  rw [ht] at z
  grind
theorem cub_ne {k : Int} (hk : k.natAbs ≠ 0) (h1 : k.natAbs ≠ 1) (h8 : k.natAbs < 8) : ∀ t : Int, t * t * t ≠ k := fun t z => by
  have e := congrArg Int.natAbs z
  rw [Int.natAbs_mul, Int.natAbs_mul] at e
  generalize t.natAbs = u at *
  rcases Nat.lt_or_ge 1 u with c | c
  · have := Nat.mul_le_mul (Nat.mul_le_mul c c) c
    omega
  · rcases Nat.le_one_iff_eq_zero_or_eq_one.mp c with rfl | rfl
    · simp at e; omega
    · simp at e; omega
end Rt

namespace Rt
open PySem PySem.Spec PyProof.Rows L2 Evl
/-! the steps that need no thought; «walk_at "ev"» goes on till it is stuck -/
local macro_rules | `(tactic| walk_at "rt1") => `(tactic| first
  | ((with_reducible show _ = true → ED _ _ _ _); intro _) | ((with_reducible show _ = false → ED _ _ _ _); intro _) | ((with_reducible show _ = true → TD _ _ _ _); intro _) | ((with_reducible show _ = false → TD _ _ _ _); intro _)
  | with_reducible exact ed_int | with_reducible exact ed_bl | with_reducible exact ed_non | with_reducible exact ad_nil | with_reducible exact od_none | with_reducible exact td_yes
  | ((with_reducible apply ed_var); exact rfl)
  | (with_reducible apply ad_cons)
  | (with_reducible apply td_test) | (with_reducible apply td_truth) | (with_reducible apply td_not) | (with_reducible apply td_and) | (with_reducible apply td_or)
  | (with_reducible apply ed_add) | (with_reducible apply ed_sub) | (with_reducible apply ed_mul) | (with_reducible apply ed_mod) | (with_reducible apply ed_fdivP) | (with_reducible apply ed_pow) | (with_reducible apply ed_neg)
  | (with_reducible apply ed_lt) | (with_reducible apply ed_le) | (with_reducible apply ed_gt) | (with_reducible apply ed_ge)
  | (with_reducible apply ed_eqD) | (with_reducible apply ed_neD)
  | (with_reducible apply ed_ix) | (with_reducible apply ed_len) | (with_reducible apply ed_abs) | (with_reducible apply ed_gcd) | (with_reducible apply ed_isi)
  | (with_reducible apply ed_tup) | (with_reducible apply ed_tuple) | (with_reducible apply ed_andV) | (with_reducible apply ed_orV) | (with_reducible apply ed_notV)
  | (with_reducible apply od_some)
  | (with_reducible apply ef_lst) | (with_reducible apply ef_list) | (with_reducible apply ef_sl) | (with_reducible apply ef_cat)
  | (with_reducible apply EF.ed; with_reducible apply ef_lst) | (with_reducible apply EF.ed; with_reducible apply ef_list) | (with_reducible apply EF.ed; with_reducible apply ef_sl) | (with_reducible apply EF.ed; with_reducible apply ef_cat)
  | (with_reducible apply ed_call)
  | ((with_reducible show SeqD _ _); first | exact SeqD.l _ | exact SeqD.t _ | assumption)
  | ((with_reducible show Truth _ _); first | exact Truth.bool _ | exact Truth.int _ | exact Truth.l _ | exact Truth.t _)
  | ((with_reducible show SeqAt.shaped _ = true); exact rfl)
  | ((with_reducible show atI _ _ = some _); first | exact rfl | assumption)
  | ((with_reducible show kitB _ _ = some _); first | exact rfl | decide +kernel)
  | ((with_reducible show List.length _ = _); rfl)
  | ((with_reducible show List.length _ ≤ 100000); first | exact Nat.le_of_ble_eq_true rfl | (simp; done) | (simp; omega)))
local macro_rules | `(tactic| walk_at "ev") => `(tactic| repeat' walk_at "rt1")
def pre0 (cs : List Int) : List Int := cs.map fun c => c.fmod 13 - 6
def rowBy (cs : List Int) : List Int := if (pre0 cs).length < 2 then [-2, 0, 1] else bareL (if lastZ (pre0 cs) = 0 then (pre0 cs).set ((pre0 cs).length - 1) 1 else pre0 cs)
theorem bd_bare {m : Nat} {p : List Int} (h : Bd m p) (hp : lastZ p ≠ 0) : Bd m (bareL p) := by
  intro a ha
  unfold bareL at ha
  obtain ⟨b, hb, rfl⟩ := List.mem_map.mp ha
  exact Nat.le_trans (natAbs_fdiv_le (barS_dvd hb) (barS_ne hp)) (h b hb)
theorem pre0_bd (cs : List Int) : Bd 6 (pre0 cs) := fun a ha => by
  unfold pre0 at ha
  obtain ⟨c, _, rfl⟩ := List.mem_map.mp ha
  have h1 := Int.fmod_nonneg_of_pos c (b := 13) (by decide)
  have h2 := Int.fmod_lt_of_pos c (b := 13) (by decide)
  omega
theorem set_last {xs : List Int} (h : xs ≠ []) (a : Int) : lastZ (xs.set (xs.length - 1) a) = a := by
  have p := List.length_pos_iff.mpr h
  have ls : (xs.set (xs.length - 1) a).length = xs.length := List.length_set
  have ne : xs.set (xs.length - 1) a ≠ [] := by intro z; rw [z] at ls; simp only [List.length_nil] at ls; omega
  rw [← lastZ_getD ne, ls, getD_set (by omega), if_pos rfl]
theorem rowBy_ok (cs : List Int) (hl : cs.length ≤ 90) : Good (rowBy cs) ∧ 2 ≤ (rowBy cs).length ∧ (rowBy cs).length ≤ 90 ∧ Bd 6 (rowBy cs) := by
  unfold rowBy
  have l0 : (pre0 cs).length = cs.length := List.length_map _
  split
  · exact ⟨⟨by decide, by decide⟩, by decide, by decide, bd3 (by decide) (by decide) (by decide)⟩
  · rename_i h
    have ne : pre0 cs ≠ [] := by intro z; rw [z] at h; simp at h
    have bl : ∀ p : List Int, (bareL p).length = p.length := fun p => List.length_map _
    split
    · have e := set_last ne 1
      have ls : ((pre0 cs).set ((pre0 cs).length - 1) 1).length = (pre0 cs).length := List.length_set
      refine ⟨bare_good (by rw [e]; decide), by rw [bl]; omega, by rw [bl]; omega, bd_bare (fun a ha => ?_) (by rw [e]; decide)⟩
      rcases List.mem_or_eq_of_mem_set ha with h | h
      · exact pre0_bd cs a h
      · rw [h]; decide
    · rename_i h2
      exact ⟨bare_good h2, by rw [bl]; omega, by rw [bl]; omega, bd_bare (pre0_bd cs) h2⟩
def F__law_row_by (ds : List PyData) (r : Res) : Prop := ∃ cs : List Int, ds = [.list (rD cs)] ∧ cs.length ≤ 90 ∧ r = .rf (rD (rowBy cs))
/-- the stretches from a whole number to the next one in which the row turns just once -/
def alone (xs : List Int) (k : Nat) : Bool := decide ((hor ((k : Int) - 9) 1 xs).1 * (hor ((k : Int) - 8) 1 xs).1 < 0) && decide (turnsL ((k : Int) - 9, 1) ((k : Int) - 8, 1) xs = 1)
def cands (xs : List Int) (n : Nat) : List Nat := (List.range n).filter (alone xs)
def pegK (xs : List Int) (k : Nat) : PyData := pegD xs ((k : Int) - 9, 1) ((k : Int) - 8, 1)
def drawN (cs : List Int) (draw : Int) : Nat := (cands (rowBy cs) 18).getD (draw.fmod ((cands (rowBy cs) 18).length : Int)).toNat 0
def pegBy (cs : List Int) (draw : Int) : List Int × (Int × Int) × (Int × Int) :=
  if cands (rowBy cs) 18 = [] then ([-2, 0, 1], (1, 1), (2, 1)) else (rowBy cs, ((drawN cs draw : Int) - 9, 1), ((drawN cs draw : Int) - 8, 1))
def F__law_peg_by (ds : List PyData) (r : Res) : Prop := ∃ (cs : List Int) (draw : Int), ds = [.list (rD cs), .int draw] ∧ cs.length ≤ 90 ∧ r = .rt (pegD (pegBy cs draw).1 (pegBy cs draw).2.1 (pegBy cs draw).2.2)
def F__law_doubled (ds : List PyData) (r : Res) : Prop := ∃ n : Nat, ds = [.int (n : Int)] ∧ n ≤ 1000 ∧ r = .rt (.int (2 ^ n))
def F__law_below (ds : List PyData) (r : Res) : Prop := ∃ u v : Int × Int, ds = [pD u, pD v] ∧ Lt2 8000 u.1 ∧ Lt2 8000 u.2 ∧ Lt2 8000 v.1 ∧ Lt2 8000 v.2 ∧ r = .rt (.bool (decide (u.1 * v.2 < v.1 * u.2)))
abbrev sp__law_row_by (K : PySem.W.Frag) : Sp := spD K 1 F__law_row_by
abbrev sp__law_peg_by (K : PySem.W.Frag) : Sp := spD K 2 F__law_peg_by
abbrev sp__law_doubled (K : PySem.W.Frag) : Sp := spD K 1 F__law_doubled
abbrev sp__law_below (K : PySem.W.Frag) : Sp := spD K 2 F__law_below
theorem low_int {k : Int} (h : -9 ≤ k ∧ k ≤ 10) : Low 5 (k, 1) := ⟨show (0 : Int) < 1 by decide, Int.gcd_one_right _, by show Lt2 5 k; unfold Lt2; omega, by show Lt2 5 1; unfold Lt2; decide⟩
theorem cands_mem {xs : List Int} {n k : Nat} (h : k ∈ cands xs n) : k < n ∧ alone xs k = true := by
  unfold cands at h
  obtain ⟨h1, h2⟩ := List.mem_filter.mp h
  exact ⟨List.mem_range.mp h1, h2⟩
theorem pegBy_ok (cs : List Int) (draw : Int) (hl : cs.length ≤ 90) : PegOk 3 5 (pegBy cs draw).1 (pegBy cs draw).2.1 (pegBy cs draw).2.2 := by
  unfold pegBy
  split
  · exact ⟨by decide, by decide, ⟨by decide, by decide⟩, bd3 (by decide) (by decide) (by decide), low_int (k := 1) (by decide), low_int (k := 2) (by decide), by decide, by decide, by decide, by decide⟩
  · rename_i h
    obtain ⟨g1, g2, g3, g4⟩ := rowBy_ok cs hl
    have p : 0 < (cands (rowBy cs) 18).length := List.length_pos_iff.mpr h
    have f1 := Int.fmod_nonneg_of_pos draw (b := ((cands (rowBy cs) 18).length : Int)) (by omega)
    have f2 := Int.fmod_lt_of_pos draw (b := ((cands (rowBy cs) 18).length : Int)) (by omega)
    have hk : drawN cs draw ∈ cands (rowBy cs) 18 := by
      unfold drawN
      rw [List.getD_eq_getElem?_getD, List.getElem?_eq_getElem (by omega)]
      exact List.getElem_mem _
    obtain ⟨k1, k2⟩ := cands_mem hk
    generalize drawN cs draw = k at *
    unfold alone at k2
    rw [Bool.and_eq_true] at k2
    have a1 : (hor ((k : Int) - 9) 1 (rowBy cs)).1 * (hor ((k : Int) - 8) 1 (rowBy cs)).1 < 0 := of_decide_eq_true k2.1
    have a2 : turnsL ((k : Int) - 9, 1) ((k : Int) - 8, 1) (rowBy cs) = 1 := of_decide_eq_true k2.2
    exact ⟨g2, by show (rowBy cs).length ≤ 100; omega, g1, g4.mono (by decide), low_int (by omega), low_int (by omega), by show ((k : Int) - 9) * 1 < ((k : Int) - 8) * 1; omega, fun z => by rw [show (hor ((k : Int) - 9) 1 (rowBy cs)).1 = 0 from z] at a1; simp at a1, fun z => by rw [show (hor ((k : Int) - 8) 1 (rowBy cs)).1 = 0 from z] at a1; simp at a1, a2⟩
theorem pegs_lay (xs : List Int) : ∀ ks : List Nat, PyData.canLayAll0 (ks.map (pegK xs)) = true ∧ PyData.depthAll (ks.map (pegK xs)) ≤ 3
  | [] => ⟨rfl, Nat.zero_le _⟩
  | k :: ks => by
    obtain ⟨h1, h2⟩ := pegs_lay xs ks
    constructor
    · show ((PyData.canLayAll0 (rD xs) && true) && PyData.canLayAll0 (ks.map (pegK xs))) = true
      rw [canLayAll_rD, h1]; rfl
    · show max (max (PyData.depthAll (rD xs) + 1) 1 + 1) (PyData.depthAll (ks.map (pegK xs))) ≤ 3
      rw [depthAll_rD]; omega
theorem pegs_shaped (xs : List Int) (ks : List Nat) : SeqAt.shaped (.list (ks.map (pegK xs))) = true := by
  obtain ⟨h1, h2⟩ := pegs_lay xs ks
  show (PyData.canLayAll0 (ks.map (pegK xs)) && decide (PyData.depthAll (ks.map (pegK xs)) + 1 ≤ 64)) = true
  rw [h1, decide_eq_true (by omega)]; rfl
theorem pegs_nil (xs : List Int) (ks : List Nat) : PyData.eqv (.list (ks.map (pegK xs))) (.list []) = decide (ks = []) := by cases ks <;> rfl
def t__law_row_by (K : PySem.W.Frag) : TS := (tSeq (tAsg (tLc (iSeq K (tVar 0)) (gName 2) tYes (tOp (rI0 fun i j => .int (i - j)) (tOp (rI (fun _ j => j ≠ 0) fun i j => .int (i.fmod j)) (tVar 2) (tC (.int 13))) (tC (.int 6))) [2]) (gName 1))
  (tSeq (tIfS (tTest (tOp (rI0 fun i j => .bl (decide (i < j))) (tLen K (tVar 1)) (tC (.int 2)))) (tRet (tLst (tCons (tUn (rU fun i => .int (-i)) (tC (.int 2))) (tCons (tC (.int 0)) (tCons (tC (.int 1)) tNil))))) tNext)
  (tSeq (tIfS (tTest (tOp (rEqD K) (tOp (rIx K) (tVar 1) (tUn (rU fun i => .int (-i)) (tC (.int 1)))) (tC (.int 0)))) (tAsg (tC (.int 1)) (gSub (tVar 1) (tUn (rU fun i => .int (-i)) (tC (.int 1))) rSetL)) tNext)
  (tRet (tCall (sp__law_smallest K) [] E0 (tCons (tVar 1) tNil))))))
abbrev N__law_row_by : List Str := ["_law_cells", "_law_row", "_law_cell"]
def t__law_peg_by (K : PySem.W.Frag) : TS := (tSeq (tAsg (tCall (sp__law_row_by K) [] E0 (tCons (tVar 0) tNil)) (gName 2))
  (tSeq (tAsg (tLc (iRng2 (tCons (tUn (rU fun i => .int (-i)) (tC (.int 9))) (tCons (tC (.int 10)) tNil))) (gName 5) tYes (tCall (sp__law_value K) [] E0 (tCons (tVar 2) (tCons (tTup (tCons (tVar 5) (tCons (tC (.int 1)) tNil))) tNil))) [5]) (gName 3))
  (tSeq (tAsg (tLst tNil) (gName 4))
  (tSeq (tFor (iRng1 (tCons (tC (.int 18)) tNil)) (gName 5) (tIfS (tAnd (tTest (tOp (rI0 fun i j => .bl (decide (i < j))) (tOp (rI CMulX fun i j => .int (i * j)) (tOp (rIx K) (tVar 3) (tVar 5)) (tOp (rIx K) (tVar 3) (tOp (rI0 fun i j => .int (i + j)) (tVar 5) (tC (.int 1))))) (tC (.int 0)))) (tTest (tOp (rEqD K) (tCall (sp__law_turns K) [] E0 (tCons (tVar 2) (tCons (tTup (tCons (tOp (rI0 fun i j => .int (i - j)) (tVar 5) (tC (.int 9))) (tCons (tC (.int 1)) tNil))) (tCons (tTup (tCons (tOp (rI0 fun i j => .int (i - j)) (tVar 5) (tC (.int 8))) (tCons (tC (.int 1)) tNil))) tNil)))) (tC (.int 1))))) (tDrop (tBM K "list" rAppend (tVar 4) (tCons (tTup (tCons (tCB (rTupS K) (tCons (tVar 2) tNil)) (tCons (tTup (tCons (tOp (rI0 fun i j => .int (i - j)) (tVar 5) (tC (.int 9))) (tCons (tC (.int 1)) tNil))) (tCons (tTup (tCons (tOp (rI0 fun i j => .int (i - j)) (tVar 5) (tC (.int 8))) (tCons (tC (.int 1)) tNil))) tNil)))) tNil))) tNext))
  (tSeq (tIfS (tTest (tOp (rEqD K) (tVar 4) (tLst tNil))) (tRet (tTup (tCons (tTup (tCons (tUn (rU fun i => .int (-i)) (tC (.int 2))) (tCons (tC (.int 0)) (tCons (tC (.int 1)) tNil)))) (tCons (tTup (tCons (tC (.int 1)) (tCons (tC (.int 1)) tNil))) (tCons (tTup (tCons (tC (.int 2)) (tCons (tC (.int 1)) tNil))) tNil))))) tNext)
  (tRet (tOp (rIx K) (tVar 4) (tOp (rI (fun _ j => j ≠ 0) fun i j => .int (i.fmod j)) (tVar 1) (tLen K (tVar 4))))))))))
abbrev N__law_peg_by : List Str := ["_law_cells", "_law_draw", "_law_row", "_law_values", "_law_found", "_law_k"]
def t__law_doubled (K : PySem.W.Frag) : TS := (tSeq (tAsg (tC (.int 1)) (gName 1))
  (tSeq (tFor (iRng1 (tCons (tVar 0) tNil)) (gName 2) (tAsg (tOp (rI CMulX fun i j => .int (i * j)) (tVar 1) (tC (.int 2))) (gName 1)))
  (tRet (tVar 1))))
abbrev N__law_doubled : List Str := ["_law_many", "_law_size", "_law_k"]
def t__law_below (K : PySem.W.Frag) : TS := (tRet (tOp (rI0 fun i j => .bl (decide (i < j))) (tOp (rI CMulX fun i j => .int (i * j)) (tOp (rIx K) (tVar 0) (tC (.int 0))) (tOp (rIx K) (tVar 1) (tC (.int 1)))) (tOp (rI CMulX fun i j => .int (i * j)) (tOp (rIx K) (tVar 1) (tC (.int 0))) (tOp (rIx K) (tVar 0) (tC (.int 1))))))
abbrev N__law_below : List Str := ["_law_one", "_law_other"]
section
variable {K : PySem.W.Frag}
theorem pure__law_doubled (ds : List PyData) (r : Res) (h : F__law_doubled ds r) (B0 B : Hp) : SD K B0 B (t__law_doubled K) (startR N__law_doubled ds) (fin r) := by
  obtain ⟨n, rfl, hn, rfl⟩ := h
  unfold t__law_doubled
  apply sd_seq; apply sd_set; (case h => walk_at "ev" )
  refine sd_seq (sd_for (id_rng1 (n := (n : Int)) (ad_cons (ed_var rfl) ad_nil) (by omega) (by omega)) (fun i ρ => ∃ z, ρ = [some (.d (.int (n : Int))), some (.d (.int (2 ^ i))), z]) ⟨none, rfl⟩ ?_ ?_)
  · rintro i d ρ' hi ⟨z, rfl⟩
    obtain ⟨hi, rfl⟩ := ints_get' hi
    have hi : i < n := by omega
    refine ⟨_, gd_name, ?_⟩
    have l : Lt2 1001 ((2 : Int) ^ i) := by
      unfold Lt2
      rw [Int.natAbs_pow]
      exact Nat.pow_lt_pow_right (by decide) (show i < 1001 by omega)
    refine sd_set (ed_mul (ed_var rfl) ed_int (l.cm (Lt2.of_lt (n := 3) (by decide)) (by decide))) ⟨some (.d (.int (0 + (i : Nat)))), ?_⟩
    rw [Int.pow_succ]; rfl
  · rintro ρ' ⟨z, rfl⟩
    show SD K B0 B _ _ _
    rw [ints_len', Int.toNat_natCast]
    exact sd_ret (ed_var rfl) rfl
theorem pure__law_below (ds : List PyData) (r : Res) (h : F__law_below ds r) (B0 B : Hp) : SD K B0 B (t__law_below K) (startR N__law_below ds) (fin r) := by
  obtain ⟨u, v, rfl, h1, h2, h3, h4, rfl⟩ := h
  unfold t__law_below
  exact sd_ret (ed_lt (ed_mul (ed_ix (ed_var rfl) (pD_seq u) ed_int rfl) (ed_ix (ed_var rfl) (pD_seq v) ed_int rfl) (h1.cm h4 (by decide))) (ed_mul (ed_ix (ed_var rfl) (pD_seq v) ed_int rfl) (ed_ix (ed_var rfl) (pD_seq u) ed_int rfl) (h3.cm h2 (by decide)))) rfl
theorem pure__law_row_by (ds : List PyData) (r : Res) (h : F__law_row_by ds r) (B0 B : Hp) : SD K B0 B (t__law_row_by K) (startR N__law_row_by ds) (fin r) := by
  obtain ⟨cs, rfl, hl, rfl⟩ := h
  unfold t__law_row_by rowBy
  have lc : EF K (tLc (iSeq K (tVar 0)) (gName 2) tYes (tOp (rI0 fun i j => .int (i - j)) (tOp (rI (fun _ j => j ≠ 0) fun i j => .int (i.fmod j)) (tVar 2) (tC (.int 13))) (tC (.int 6))) [2]) [some (.d (.list (rD cs))), none, none] (rD (pre0 cs)) := by
    refine (ef_lc (ds := rD cs) (fun i => .int ((cs.getD i 0).fmod 13 - 6)) (id_seq (ed_var rfl) (SeqD.l _)) (by rw [rD_len]; omega) fun i e hi => ?_).cast ?_
    · obtain ⟨a, ha, rfl⟩ := rD_get hi
      have ea : cs.getD i 0 = a := by rw [List.getD_eq_getElem?_getD, ha]; rfl
      refine ⟨_, gc_name, ?_⟩
      rw [ea]
      exact ed_sub (ed_mod (ed_var rfl) ed_int (by decide)) ed_int
    · rw [rD_len]
      unfold rD pre0
      rw [List.map_map]
      exact map_range fun i a ha => by rw [List.getD_eq_getElem?_getD, ha]; rfl
  have l0 : (pre0 cs).length = cs.length := List.length_map _
  have bd := pre0_bd cs
  refine sd_seq (sd_setF lc ?_)
  show SD K B0 B _ [some (.d (.list (rD cs))), some (.own (rD (pre0 cs))), none] _
  generalize pre0 cs = xs at *
  refine sd_seq (sd_if (td_test (ed_lt (ed_lenRO (k := 1) rfl) ed_int)) (fun hb => ?_) (fun hb => ?_))
  · have hb : xs.length < 2 := by have := of_decide_eq_true hb; omega
    rw [if_pos hb]
    exact sd_retF (ef_lst (ad_cons (ed_neg ed_int) (ad_cons ed_int (ad_cons ed_int ad_nil))) (by decide)) rfl
  · have hb : ¬ xs.length < 2 := by have := of_decide_eq_false hb; omega
    rw [if_neg hb]
    refine sd_next ?_
    have ne : xs ≠ [] := by intro z; rw [z] at hb; simp at hb
    have sm : ∀ ys : List Int, ys.length = xs.length → Bd 6 ys → lastZ ys ≠ 0 → SD K B0 B (tRet (tCall (sp__law_smallest K) [] E0 (tCons (tVar 1) tNil))) [some (.d (.list (rD cs))), some (.own (rD ys)), none] (fin (.rf (rD (bareL ys)))) := fun ys hy hb hz => by
      refine sd_frz (i := 1) rfl ?_
      exact sd_retF (ef_call (ad_cons (ed_var rfl) ad_nil) ⟨_, ys, 4, rfl, SeqD.l _, hz, by omega, (hb.mono (show 6 ≤ 2 ^ 3 by decide)).sz, by decide, rfl⟩ rfl) rfl
    refine sd_seq (sd_if (td_test (ed_eqI (ed_ixO (k := 1) rfl (ed_neg ed_int) (rD_last' ne)) ed_int)) (fun h => ?_) (fun h => ?_))
    · have h : lastZ xs = 0 := of_decide_eq_true h
      rw [if_pos h]
      refine sd_setI (i := 1) (ds := rD xs) (m := xs.length - 1) rfl ed_int (ed_neg ed_int) ?_ ?_
      · unfold ixN
        rw [if_neg (by decide), rD_len, if_pos (by omega)]
        congr 1; omega
      · have e : (rD xs).set (xs.length - 1) (.int 1) = rD (xs.set (xs.length - 1) 1) := by unfold rD; rw [List.map_set]
        show SD K B0 B _ [some (.d (.list (rD cs))), some (.own ((rD xs).set (xs.length - 1) (.int 1))), none] _
        rw [e]
        refine sm _ List.length_set (fun a ha => ?_) (by rw [set_last ne]; decide)
        rcases List.mem_or_eq_of_mem_set ha with h | h
        · exact bd a h
        · rw [h]; decide
    · have h : lastZ xs ≠ 0 := of_decide_eq_false h
      rw [if_neg h]
      exact sd_next (sm xs rfl bd h)
theorem pure__law_peg_by (ds : List PyData) (r : Res) (h : F__law_peg_by ds r) (B0 B : Hp) : SD K B0 B (t__law_peg_by K) (startR N__law_peg_by ds) (fin r) := by
  obtain ⟨cs, draw, rfl, hl, rfl⟩ := h
  unfold t__law_peg_by
  obtain ⟨g1, g2, g3, g4⟩ := rowBy_ok cs hl
  refine sd_seq (sd_setF (ef_call (ad_cons (ed_var rfl) ad_nil) ⟨cs, rfl, hl, rfl⟩ rfl) ?_)
  refine sd_frz (i := 2) rfl ?_
  have hp : ∀ d, pegD (pegBy cs draw).1 (pegBy cs draw).2.1 (pegBy cs draw).2.2 = d ↔ (if cands (rowBy cs) 18 = [] then pegD [-2, 0, 1] (1, 1) (2, 1) else pegK (rowBy cs) (drawN cs draw)) = d := fun d => by
    unfold pegBy
    split <;> exact Iff.rfl
  have hd : drawN cs draw = (cands (rowBy cs) 18).getD (draw.fmod ((cands (rowBy cs) 18).length : Int)).toNat 0 := rfl
  have hp := (hp _).mpr rfl
  rw [hp, hd]
  clear hp hd
  show SD K B0 B _ [some (.d (.list (rD cs))), some (.d (.int draw)), some (.d (.list (rD (rowBy cs)))), none, none, none] _
  generalize rowBy cs = xs at *
  have sz : Sz 4 xs := (g4.mono (show 6 ≤ 2 ^ 3 by decide)).sz
  have bd : Bd (2 ^ 3) xs := g4.mono (by decide)
  have big : 4 + (xs.length + 2) * (5 + 1) ≤ 100000000 := by omega
  have lk : ∀ k : Int, -9 ≤ k ∧ k ≤ 10 → Lt2 5 k := fun k h => by unfold Lt2; omega
  have l1 : Lt2 5 (1 : Int) := by unfold Lt2; decide
  have hv : ∀ k : Int, -9 ≤ k ∧ k ≤ 10 → Lt2 600 (hor k 1 xs).1 := fun k h => ((hor_lt (n := 4) (lk k h) l1 (by decide) sz).1).mono (by omega)
  have lc : EF K (tLc (iRng2 (tCons (tUn (rU fun i => .int (-i)) (tC (.int 9))) (tCons (tC (.int 10)) tNil))) (gName 5) tYes (tCall (sp__law_value K) [] E0 (tCons (tVar 2) (tCons (tTup (tCons (tVar 5) (tCons (tC (.int 1)) tNil))) tNil))) [5]) [some (.d (.list (rD cs))), some (.d (.int draw)), some (.d (.list (rD xs))), none, none, none] (rD ((List.range 19).map fun k : Nat => (hor ((k : Int) - 9) 1 xs).1)) := by
    refine (ef_lc (fun k => .int (hor ((k : Int) - 9) 1 xs).1) (id_rng2 (m := -9) (n := 10) (ad_cons (ed_neg ed_int) (ad_cons ed_int ad_nil)) (by decide)) (by rw [ints_len']; decide) fun i d hi => ?_).cast ?_
    · obtain ⟨hj, rfl⟩ := ints_get' hi
      have hi : i < 19 := hj
      refine ⟨_, gc_name, ?_⟩
      have e : (i : Int) - 9 = -9 + (i : Nat) := by omega
      rw [e]
      exact ed_call (ad_cons (ed_var rfl) (ad_cons (ed_tup (ad_cons (ed_var rfl) (ad_cons ed_int ad_nil)) (Nat.le_of_ble_eq_true rfl)) ad_nil)) ⟨_, xs, -9 + (i : Nat), 1, 4, 5, rfl, SeqD.l _, by omega, sz, lk _ (by omega), l1, by decide, big, rfl⟩ rfl
    · rw [ints_len']
      unfold rD
      rw [List.map_map]; rfl
  refine sd_seq (sd_set (EF.ed lc) ?_)
  refine sd_seq (sd_setF (ef_lst ad_nil (by decide)) ?_)
  have at19 : ∀ k : Nat, k < 19 → ∀ j : Int, j = k → atI (rD ((List.range 19).map fun k : Nat => (hor ((k : Int) - 9) 1 xs).1)) j = some (.int (hor ((k : Int) - 9) 1 xs).1) := fun k hk j hj => by
    subst hj
    have := rD_at (xs := (List.range 19).map fun k : Nat => (hor ((k : Int) - 9) 1 xs).1) (k := (k : Int)) (by omega) (by rw [List.length_map, List.length_range]; omega)
    rw [this, Int.toNat_natCast, List.getD_eq_getElem?_getD, List.getElem?_map, List.getElem?_range hk]; rfl
  generalize (List.range 19).map (fun k : Nat => (hor ((k : Int) - 9) 1 xs).1) = vs at *
  refine sd_seq (sd_for (id_rng1 (n := 18) (ad_cons ed_int ad_nil) (by decide) (by decide)) (fun i ρ => ∃ z, ρ = [some (.d (.list (rD cs))), some (.d (.int draw)), some (.d (.list (rD xs))), some (.d (.list (rD vs))), some (.own ((cands xs i).map (pegK xs))), z]) ⟨none, rfl⟩ ?_ ?_)
  · rintro i d ρ' hi ⟨z, rfl⟩
    obtain ⟨hj, rfl⟩ := ints_get' hi
    have hi : i < 18 := hj
    refine ⟨_, gd_name, ?_⟩
    have e9 : (0 : Int) + (i : Nat) - 9 = (i : Int) - 9 := by omega
    have e8 : (0 : Int) + (i : Nat) - 8 = (i : Int) - 8 := by omega
    have q8 : ((i + 1 : Nat) : Int) - 9 = (i : Int) - 8 := by omega
    have v1 := at19 i (by omega) (0 + (i : Nat)) (by omega)
    have v2 := at19 (i + 1) (by omega) (0 + (i : Nat) + 1) (by omega)
    rw [q8] at v2
    have h1 := hv ((i : Int) - 9) (by omega)
    have h2 := hv ((i : Int) - 8) (by omega)
    have tp : ∀ (c : Int) (ρ : Rho), ρ[5]? = some (some (.d (.int (0 + (i : Nat))))) → ED K (tTup (tCons (tOp (rI0 fun i j => .int (i - j)) (tVar 5) (tC (.int c))) (tCons (tC (.int 1)) tNil))) ρ (pD (0 + (i : Nat) - c, 1)) := fun c ρ h => ed_tup (ad_cons (ed_sub (ed_var h) ed_int) (ad_cons ed_int ad_nil)) (Nat.le_of_ble_eq_true rfl)
    have ft : F__law_turns [.list (rD xs), pD (0 + (i : Nat) - 9, 1), pD (0 + (i : Nat) - 8, 1)] (.rt (.int (turnsL ((i : Int) - 9, 1) ((i : Int) - 8, 1) xs))) := ⟨_, xs, (0 + (i : Nat) - 9, 1), (0 + (i : Nat) - 8, 1), 3, 5, rfl, SeqD.l _, by omega, bd, lk _ (by omega), l1, lk _ (by omega), l1, by decide, by decide, by rw [e9, e8]⟩
    have cl : (cands xs i).length ≤ 18 := by
      have := List.length_filter_le (alone xs) (List.range i)
      unfold cands
      rw [List.length_range] at this; omega
    have cs1 : cands xs (i + 1) = if alone xs i = true then cands xs i ++ [i] else cands xs i := by
      unfold cands
      rw [List.range_succ, List.filter_append, List.filter_cons]
      split <;> simp
    refine sd_if ((td_and (td_test (ed_lt (ed_mul (ed_ix (ed_var rfl) (SeqD.l _) (ed_var rfl) v1) (ed_ix (ed_var rfl) (SeqD.l _) (ed_add (ed_var rfl) ed_int) v2) (h1.cm h2 (by decide))) ed_int)) fun _ => td_test (ed_eqI (ed_call (ad_cons (ed_var rfl) (ad_cons (tp 9 _ rfl) (ad_cons (tp 8 _ rfl) ad_nil))) ft rfl) ed_int)).cast (show _ = alone xs i from by unfold alone; congr 1; exact decide_eq_decide.mpr (by omega))) (fun hb => ?_) (fun hb => ?_)
    · refine sd_app (ds := (cands xs i).map (pegK xs)) (d := pegK xs i) rfl ((ed_tup (ad_cons (ed_tuple (ed_var rfl) (SeqD.l _)) (ad_cons (tp 9 _ rfl) (ad_cons (tp 8 _ rfl) ad_nil))) (Nat.le_of_ble_eq_true rfl)).cast ?_) (by rw [List.length_map]; omega) ⟨some (.d (.int (0 + (i : Nat)))), ?_⟩
      · rw [e9, e8]; rfl
      · rw [cs1, if_pos hb, List.map_append]; rfl
    · refine sd_next ⟨some (.d (.int (0 + (i : Nat)))), ?_⟩
      rw [cs1, if_neg (by rw [hb]; decide)]; rfl
  · rintro ρ' ⟨z, rfl⟩
    show SD K B0 B _ _ _
    have e18 : (intsD 0 (Int.toNat 18)).length = 18 := ints_len' _ _
    rw [e18]
    refine sd_frz (i := 4) rfl ?_
    refine sd_seq (sd_if (td_test (ed_eqD (ed_var rfl) (EF.ed (ef_lst ad_nil (by decide))) (pegs_shaped xs _) rfl)) (fun hb => ?_) (fun hb => ?_))
    · rw [pegs_nil] at hb
      have hb : cands xs 18 = [] := of_decide_eq_true hb
      rw [if_pos hb]
      exact sd_ret (ed_tup (ad_cons (ed_tup (ad_cons (ed_neg ed_int) (ad_cons ed_int (ad_cons ed_int ad_nil))) (by decide)) (ad_cons (ed_tup (ad_cons ed_int (ad_cons ed_int ad_nil)) (by decide)) (ad_cons (ed_tup (ad_cons ed_int (ad_cons ed_int ad_nil)) (by decide)) ad_nil))) (by decide)) rfl
    · rw [pegs_nil] at hb
      have hb : cands xs 18 ≠ [] := of_decide_eq_false hb
      rw [if_neg hb]
      refine sd_next ?_
      have p : 0 < (cands xs 18).length := List.length_pos_iff.mpr hb
      have f1 := Int.fmod_nonneg_of_pos draw (b := ((cands xs 18).length : Int)) (by omega)
      have f2 := Int.fmod_lt_of_pos draw (b := ((cands xs 18).length : Int)) (by omega)
      have ea : atI ((cands xs 18).map (pegK xs)) (draw.fmod ((cands xs 18).length : Int)) = some (pegK xs ((cands xs 18).getD (draw.fmod ((cands xs 18).length : Int)).toNat 0)) := by
        refine atI_mk (k := (draw.fmod ((cands xs 18).length : Int)).toNat) ?_ ?_
        · unfold ixN
          rw [if_pos f1, List.length_map, if_pos (by omega)]
        · rw [List.getElem?_map, List.getD_eq_getElem?_getD, List.getElem?_eq_getElem (by omega)]; rfl
      exact sd_ret (ed_ix (ed_var rfl) (SeqD.l _) (ed_mod (ed_var rfl) ((ed_len (ed_var rfl) (SeqD.l _)).cast (by rw [List.length_map])) (by omega)) ea) rfl
end
end Rt

namespace Rt
open PySem PySem.Spec PyProof.Rows L2 Evl
/-! the steps that need no thought; «walk_at "ev"» goes on till it is stuck -/
local macro_rules | `(tactic| walk_at "rt1") => `(tactic| first
  | ((with_reducible show _ = true → ED _ _ _ _); intro _) | ((with_reducible show _ = false → ED _ _ _ _); intro _) | ((with_reducible show _ = true → TD _ _ _ _); intro _) | ((with_reducible show _ = false → TD _ _ _ _); intro _)
  | with_reducible exact ed_int | with_reducible exact ed_bl | with_reducible exact ed_non | with_reducible exact ad_nil | with_reducible exact od_none | with_reducible exact td_yes
  | ((with_reducible apply ed_var); exact rfl)
  | (with_reducible apply ad_cons)
  | (with_reducible apply td_test) | (with_reducible apply td_truth) | (with_reducible apply td_not) | (with_reducible apply td_and) | (with_reducible apply td_or)
  | (with_reducible apply ed_add) | (with_reducible apply ed_sub) | (with_reducible apply ed_mul) | (with_reducible apply ed_mod) | (with_reducible apply ed_fdivP) | (with_reducible apply ed_pow) | (with_reducible apply ed_neg)
  | (with_reducible apply ed_lt) | (with_reducible apply ed_le) | (with_reducible apply ed_gt) | (with_reducible apply ed_ge)
  | (with_reducible apply ed_eqD) | (with_reducible apply ed_neD)
  | (with_reducible apply ed_ix) | (with_reducible apply ed_len) | (with_reducible apply ed_abs) | (with_reducible apply ed_gcd) | (with_reducible apply ed_isi)
  | (with_reducible apply ed_tup) | (with_reducible apply ed_tuple) | (with_reducible apply ed_andV) | (with_reducible apply ed_orV) | (with_reducible apply ed_notV)
  | (with_reducible apply od_some)
  | (with_reducible apply ef_lst) | (with_reducible apply ef_list) | (with_reducible apply ef_sl) | (with_reducible apply ef_cat)
  | (with_reducible apply EF.ed; with_reducible apply ef_lst) | (with_reducible apply EF.ed; with_reducible apply ef_list) | (with_reducible apply EF.ed; with_reducible apply ef_sl) | (with_reducible apply EF.ed; with_reducible apply ef_cat)
  | (with_reducible apply ed_call)
  | ((with_reducible show SeqD _ _); first | exact SeqD.l _ | exact SeqD.t _ | assumption)
  | ((with_reducible show Truth _ _); first | exact Truth.bool _ | exact Truth.int _ | exact Truth.l _ | exact Truth.t _)
  | ((with_reducible show SeqAt.shaped _ = true); exact rfl)
  | ((with_reducible show atI _ _ = some _); first | exact rfl | assumption)
  | ((with_reducible show kitB _ _ = some _); first | exact rfl | decide +kernel)
  | ((with_reducible show List.length _ = _); rfl)
  | ((with_reducible show List.length _ ≤ 100000); first | exact Nat.le_of_ble_eq_true rfl | (simp; done) | (simp; omega)))
local macro_rules | `(tactic| walk_at "ev") => `(tactic| repeat' walk_at "rt1")
/-! the law's quadratic numbers -/
structure Q4 where
  p : Int
  q : Int
  r : Int
  d : Int
def qD (z : Q4) : PyData := .tuple [.int z.p, .int z.q, .int z.r, .int z.d]
def Q4.Ok (z : Q4) : Prop := QB z.p z.q z.r z.d
def abV (d : Int) : Int := if d < 4 then 2 else if d < 9 then 3 else if d < 16 then 4 else if d < 25 then 5 else 6
theorem abV_ok {d : Int} (h1 : 1 ≤ d) (h2 : d ≤ 30) : 0 < abV d ∧ abV d ≤ 6 ∧ d < abV d * abV d ∧ (abV d - 1) * (abV d - 1) ≤ d := by
  unfold abV
  split
  · omega
  · split
    · omega
    · split
      · omega
      · split <;> omega
def endsV (p q r d : Int) : (Int × Int) × (Int × Int) := if 0 < q then (partV p r, partV (p + q * abV d) r) else (partV (p + q * abV d) r, partV p r)
def Q4.lo (z : Q4) : Int × Int := (endsV z.p z.q z.r z.d).1
def Q4.hi (z : Q4) : Int × Int := (endsV z.p z.q z.r z.d).2
def Q4.row (z : Q4) : List Int := bareL (quaR z.p z.q z.r z.d)
def cellV (ns : List Int) (k : Nat) : Int := ns.getD k 0
def quadV (ns : List Int) (k : Nat) : Q4 where
  p := if (cellV ns (k + 3)).fmod 8 = 1 then (cellV ns k).fmod 2000001 - 1000000 else (cellV ns k).fmod 19 - 9
  q := if ((cellV ns (k + 1)).fdiv 6).fmod 2 = 1 then 0 - (1 + (cellV ns (k + 1)).fmod 6) else 1 + (cellV ns (k + 1)).fmod 6
  r := 1 + (cellV ns (k + 2)).fmod 7
  d := 1 + ((cellV ns (k + 3)).fdiv 8).fmod 30
theorem quadV_ok (ns : List Int) (k : Nat) : (quadV ns k).Ok := by
  have m : ∀ (a : Int) {b : Int}, 0 < b → 0 ≤ a.fmod b ∧ a.fmod b < b := fun a b h => ⟨Int.fmod_nonneg_of_pos a h, Int.fmod_lt_of_pos a h⟩
  have h1 := m (cellV ns k) (show (0 : Int) < 2000001 by decide)
  have h2 := m (cellV ns k) (show (0 : Int) < 19 by decide)
  have h3 := m (cellV ns (k + 1)) (show (0 : Int) < 6 by decide)
  have h4 := m (cellV ns (k + 2)) (show (0 : Int) < 7 by decide)
  have h5 := m ((cellV ns (k + 3)).fdiv 8) (show (0 : Int) < 30 by decide)
  unfold Q4.Ok QB quadV
  dsimp only
  generalize (cellV ns k).fmod 2000001 = a1 at *
  generalize (cellV ns k).fmod 19 = a2 at *
  generalize (cellV ns (k + 1)).fmod 6 = a3 at *
  generalize (cellV ns (k + 2)).fmod 7 = a4 at *
  generalize ((cellV ns (k + 3)).fdiv 8).fmod 30 = a5 at *
  refine ⟨?_, ?_, ?_, by omega, by omega, by omega, by omega⟩
  · split <;> omega
  · split <;> omega
  · split <;> omega
def way1 (w : Int) (o t : Q4) : Q4 := if w = 1 then ⟨0 - o.p, 0 - o.q, o.r, o.d⟩ else t
def way2 (w : Int) (o t : Q4) : Q4 := if w = 2 then ⟨o.p, 0 - o.q, o.r, o.d⟩ else t
def way3 (w : Int) (o t : Q4) : Q4 := if w = 3 ∨ w = 4 then ⟨t.p, t.q, t.r, o.d⟩ else t
def way5 (w : Int) (o t : Q4) : Q4 := if w = 5 then ⟨o.p, o.q, o.r, o.d⟩ else t
def otherV (ns : List Int) : Q4 :=
  way5 ((cellV ns 8).fmod 8) (quadV ns 0) (way3 ((cellV ns 8).fmod 8) (quadV ns 0) (way2 ((cellV ns 8).fmod 8) (quadV ns 0) (way1 ((cellV ns 8).fmod 8) (quadV ns 0) (quadV ns 4))))
theorem otherV_ok (ns : List Int) : (otherV ns).Ok := by
  have h1 := quadV_ok ns 0
  have h2 := quadV_ok ns 4
  unfold otherV
  generalize (cellV ns 8).fmod 8 = w
  generalize quadV ns 0 = o at *
  generalize quadV ns 4 = t at *
  unfold Q4.Ok QB at h1 h2
  have a1 : (way1 w o t).Ok := by unfold way1 Q4.Ok QB; split <;> first | omega | (dsimp only; omega)
  generalize way1 w o t = t at *
  unfold Q4.Ok QB at a1
  have a2 : (way2 w o t).Ok := by unfold way2 Q4.Ok QB; split <;> first | omega | (dsimp only; omega)
  generalize way2 w o t = t at *
  unfold Q4.Ok QB at a2
  have a3 : (way3 w o t).Ok := by unfold way3 Q4.Ok QB; split <;> first | omega | (dsimp only; omega)
  generalize way3 w o t = t at *
  unfold Q4.Ok QB at a3
  unfold way5 Q4.Ok QB; split <;> first | omega | (dsimp only; omega)
/-! ### the promises -/
def F__law_sign (ds : List PyData) (r : Res) : Prop := ∃ a : Int, ds = [.int a] ∧ r = .rt (.int (sgn a))
def F__law_two (ds : List PyData) (r : Res) : Prop := ∃ x y a : Int, ds = [.int x, .int y, .int a] ∧ Lt2 1000 x ∧ Lt2 1000 y ∧ Lt2 1000 a ∧ r = .rt (.int (twoV x y a))
def F__law_mul (ds : List PyData) (r : Res) : Prop := ∃ x0 x1 y0 y1 a : Int, ds = [.list [.int x0, .int x1], .list [.int y0, .int y1], .int a] ∧ Lt2 1000 x0 ∧ Lt2 1000 x1 ∧ Lt2 1000 y0 ∧ Lt2 1000 y1 ∧ Lt2 1000 a ∧ r = .rf [.int (x0 * y0 + a * x1 * y1), .int (x0 * y1 + x1 * y0)]
def F__law_four (ds : List PyData) (r : Res) : Prop := ∃ x0 x1 x2 x3 a b : Int, ds = [.list [.int x0, .int x1, .int x2, .int x3], .int a, .int b] ∧ Lt2 100 x0 ∧ Lt2 100 x1 ∧ Lt2 100 x2 ∧ Lt2 100 x3 ∧ Lt2 100 a ∧ Lt2 100 b ∧ r = .rt (.int (fourV x0 x1 x2 x3 a b))
def F__law_ends (ds : List PyData) (r : Res) : Prop := ∃ p q k d : Int, ds = [.int p, .int q, .int k, .int d] ∧ QB p q k d ∧ r = .rt (.tuple [pD (endsV p q k d).1, pD (endsV p q k d).2])
def F__law_quad_peg (ds : List PyData) (r : Res) : Prop := ∃ z : Q4, ds = [.int z.p, .int z.q, .int z.r, .int z.d] ∧ z.Ok ∧ r = .rt (pegD z.row z.lo z.hi)
def F__law_quad (ds : List PyData) (r : Res) : Prop := ∃ (ns : List Int) (k : Nat), ds = [.list (rD ns), .int k] ∧ r = .rt (qD (quadV ns k))
def F__law_two_quads (ds : List PyData) (r : Res) : Prop := ∃ ns : List Int, ds = [.list (rD ns)] ∧ r = .rt (.tuple [qD (quadV ns 0), qD (otherV ns)])
abbrev sp__law_sign (K : PySem.W.Frag) : Sp := spD K 1 F__law_sign
abbrev sp__law_two (K : PySem.W.Frag) : Sp := spD K 3 F__law_two
abbrev sp__law_mul (K : PySem.W.Frag) : Sp := spD K 3 F__law_mul
abbrev sp__law_four (K : PySem.W.Frag) : Sp := spD K 3 F__law_four
abbrev sp__law_ends (K : PySem.W.Frag) : Sp := spD K 4 F__law_ends
abbrev sp__law_quad_peg (K : PySem.W.Frag) : Sp := spD K 4 F__law_quad_peg
abbrev sp__law_quad (K : PySem.W.Frag) : Sp := spD K 2 F__law_quad
abbrev sp__law_two_quads (K : PySem.W.Frag) : Sp := spD K 1 F__law_two_quads
def t__law_sign (K : PySem.W.Frag) : TS := (tSeq (tIfS (tTest (tOp (rI0 fun i j => .bl (decide (i < j))) (tVar 0) (tC (.int 0)))) (tRet (tUn (rU fun i => .int (-i)) (tC (.int 1)))) tNext)
  (tRet (tCB rInt1 (tCons (tOp (rI0 fun i j => .bl (decide (j < i))) (tVar 0) (tC (.int 0))) tNil))))
abbrev N__law_sign : List Str := ["_law_number"]
def t__law_two (K : PySem.W.Frag) : TS := (tSeq (tIfS (tAnd (tTest (tOp (rI0 fun i j => .bl (decide (j ≤ i))) (tVar 0) (tC (.int 0)))) (tTest (tOp (rI0 fun i j => .bl (decide (j ≤ i))) (tVar 1) (tC (.int 0))))) (tRet (tCB rInt1 (tCons (tOrV (tOp (rI0 fun i j => .bl (decide (j < i))) (tVar 0) (tC (.int 0))) (tOp (rI0 fun i j => .bl (decide (j < i))) (tOp (rI CMulX fun i j => .int (i * j)) (tVar 1) (tVar 2)) (tC (.int 0)))) tNil))) tNext)
  (tSeq (tIfS (tAnd (tTest (tOp (rI0 fun i j => .bl (decide (i ≤ j))) (tVar 0) (tC (.int 0)))) (tTest (tOp (rI0 fun i j => .bl (decide (i ≤ j))) (tVar 1) (tC (.int 0))))) (tRet (tOp (rI0 fun i j => .int (i - j)) (tC (.int 0)) (tCB rInt1 (tCons (tOrV (tOp (rI0 fun i j => .bl (decide (i < j))) (tVar 0) (tC (.int 0))) (tOp (rI0 fun i j => .bl (decide (i < j))) (tOp (rI CMulX fun i j => .int (i * j)) (tVar 1) (tVar 2)) (tC (.int 0)))) tNil)))) tNext)
  (tSeq (tIfS (tTest (tOp (rI0 fun i j => .bl (decide (j < i))) (tVar 0) (tC (.int 0)))) (tRet (tCall (sp__law_sign K) [] E0 (tCons (tOp (rI0 fun i j => .int (i - j)) (tOp (rI CMulX fun i j => .int (i * j)) (tVar 0) (tVar 0)) (tOp (rI CMulX fun i j => .int (i * j)) (tOp (rI CMulX fun i j => .int (i * j)) (tVar 1) (tVar 1)) (tVar 2))) tNil))) tNext)
  (tRet (tCall (sp__law_sign K) [] E0 (tCons (tOp (rI0 fun i j => .int (i - j)) (tOp (rI CMulX fun i j => .int (i * j)) (tOp (rI CMulX fun i j => .int (i * j)) (tVar 1) (tVar 1)) (tVar 2)) (tOp (rI CMulX fun i j => .int (i * j)) (tVar 0) (tVar 0))) tNil))))))
abbrev N__law_two : List Str := ["_law_x", "_law_y", "_law_a"]
def t__law_four (K : PySem.W.Frag) : TS := (tSeq (tAsg (tCall (sp__law_two K) [] E0 (tCons (tOp (rIx K) (tVar 0) (tC (.int 0))) (tCons (tOp (rIx K) (tVar 0) (tC (.int 1))) (tCons (tVar 1) tNil)))) (gName 3))
  (tSeq (tAsg (tOp (rI CMulX fun i j => .int (i * j)) (tCall (sp__law_two K) [] E0 (tCons (tOp (rIx K) (tVar 0) (tC (.int 2))) (tCons (tOp (rIx K) (tVar 0) (tC (.int 3))) (tCons (tVar 1) tNil)))) (tCB rInt1 (tCons (tOp (rI0 fun i j => .bl (decide (j < i))) (tVar 2) (tC (.int 0))) tNil))) (gName 4))
  (tSeq (tIfS (tTest (tOp (rI0 fun i j => .bl (decide (j ≤ i))) (tOp (rI CMulX fun i j => .int (i * j)) (tVar 3) (tVar 4)) (tC (.int 0)))) (tRet (tCall (sp__law_sign K) [] E0 (tCons (tOp (rI0 fun i j => .int (i + j)) (tVar 3) (tVar 4)) tNil))) tNext)
  (tSeq (tAsg (tCall (sp__law_mul K) [] E0 (tCons (tSl (rSlS K) (tVar 0) tNoPart (tPart (tC (.int 2)))) (tCons (tSl (rSlS K) (tVar 0) tNoPart (tPart (tC (.int 2)))) (tCons (tVar 1) tNil)))) (gName 5))
  (tSeq (tAsg (tCall (sp__law_mul K) [] E0 (tCons (tSl (rSlS K) (tVar 0) (tPart (tC (.int 2))) tNoPart) (tCons (tSl (rSlS K) (tVar 0) (tPart (tC (.int 2))) tNoPart) (tCons (tVar 1) tNil)))) (gName 6))
  (tRet (tOp (rI CMulX fun i j => .int (i * j)) (tVar 3) (tCall (sp__law_two K) [] E0 (tCons (tOp (rI0 fun i j => .int (i - j)) (tOp (rIx K) (tVar 5) (tC (.int 0))) (tOp (rI CMulX fun i j => .int (i * j)) (tVar 2) (tOp (rIx K) (tVar 6) (tC (.int 0))))) (tCons (tOp (rI0 fun i j => .int (i - j)) (tOp (rIx K) (tVar 5) (tC (.int 1))) (tOp (rI CMulX fun i j => .int (i * j)) (tVar 2) (tOp (rIx K) (tVar 6) (tC (.int 1))))) (tCons (tVar 1) tNil)))))))))))
abbrev N__law_four : List Str := ["_law_one", "_law_a", "_law_b", "_law_left", "_law_right", "_law_x", "_law_y"]
def t__law_mul (K : PySem.W.Frag) : TS := (tRet (tLst (tCons (tOp (rI0 fun i j => .int (i + j)) (tOp (rI CMulX fun i j => .int (i * j)) (tOp (rIx K) (tVar 0) (tC (.int 0))) (tOp (rIx K) (tVar 1) (tC (.int 0)))) (tOp (rI CMulX fun i j => .int (i * j)) (tOp (rI CMulX fun i j => .int (i * j)) (tVar 2) (tOp (rIx K) (tVar 0) (tC (.int 1)))) (tOp (rIx K) (tVar 1) (tC (.int 1))))) (tCons (tOp (rI0 fun i j => .int (i + j)) (tOp (rI CMulX fun i j => .int (i * j)) (tOp (rIx K) (tVar 0) (tC (.int 0))) (tOp (rIx K) (tVar 1) (tC (.int 1)))) (tOp (rI CMulX fun i j => .int (i * j)) (tOp (rIx K) (tVar 0) (tC (.int 1))) (tOp (rIx K) (tVar 1) (tC (.int 0))))) tNil))))
abbrev N__law_mul : List Str := ["_law_x", "_law_y", "_law_a"]
def t__law_ends (K : PySem.W.Frag) : TS := (tSeq (tAsg (tC (.int 1)) (gName 4))
  (tSeq (tWhile (tTest (tOp (rI0 fun i j => .bl (decide (i ≤ j))) (tOp (rI CMulX fun i j => .int (i * j)) (tVar 4) (tVar 4)) (tVar 3))) (tAsg (tOp (rI0 fun i j => .int (i + j)) (tVar 4) (tC (.int 1))) (gName 4)))
  (tSeq (tIfS (tTest (tOp (rI0 fun i j => .bl (decide (j < i))) (tVar 1) (tC (.int 0)))) (tRet (tTup (tCons (tCall (sp__law_part K) [] E0 (tCons (tVar 0) (tCons (tVar 2) tNil))) (tCons (tCall (sp__law_part K) [] E0 (tCons (tOp (rI0 fun i j => .int (i + j)) (tVar 0) (tOp (rI CMulX fun i j => .int (i * j)) (tVar 1) (tVar 4))) (tCons (tVar 2) tNil))) tNil)))) tNext)
  (tRet (tTup (tCons (tCall (sp__law_part K) [] E0 (tCons (tOp (rI0 fun i j => .int (i + j)) (tVar 0) (tOp (rI CMulX fun i j => .int (i * j)) (tVar 1) (tVar 4))) (tCons (tVar 2) tNil))) (tCons (tCall (sp__law_part K) [] E0 (tCons (tVar 0) (tCons (tVar 2) tNil))) tNil)))))))
abbrev N__law_ends : List Str := ["_law_p", "_law_q", "_law_r", "_law_d", "_law_above"]
def t__law_quad_peg (K : PySem.W.Frag) : TS := (tSeq (tAsg (tCall (sp__law_ends K) [] E0 (tCons (tVar 0) (tCons (tVar 1) (tCons (tVar 2) (tCons (tVar 3) tNil))))) (gName 4))
  (tRet (tTup (tCons (tCB (rTupS K) (tCons (tCall (sp__law_smallest K) [] E0 (tCons (tLst (tCons (tOp (rI0 fun i j => .int (i - j)) (tOp (rI CMulX fun i j => .int (i * j)) (tVar 0) (tVar 0)) (tOp (rI CMulX fun i j => .int (i * j)) (tOp (rI CMulX fun i j => .int (i * j)) (tVar 1) (tVar 1)) (tVar 3))) (tCons (tOp (rI CMulX fun i j => .int (i * j)) (tOp (rI CMulX fun i j => .int (i * j)) (tUn (rU fun i => .int (-i)) (tC (.int 2))) (tVar 0)) (tVar 2)) (tCons (tOp (rI CMulX fun i j => .int (i * j)) (tVar 2) (tVar 2)) tNil)))) tNil)) tNil)) (tCons (tOp (rIx K) (tVar 4) (tC (.int 0))) (tCons (tOp (rIx K) (tVar 4) (tC (.int 1))) tNil))))))
abbrev N__law_quad_peg : List Str := ["_law_p", "_law_q", "_law_r", "_law_d", "_law_ends_here"]
def t__law_quad (K : PySem.W.Frag) : TS := (tSeq (tAsg (tOp (rI0 fun i j => .int (i - j)) (tOp (rI (fun _ j => j ≠ 0) fun i j => .int (i.fmod j)) (tCall (sp__law_cell_at K) [] E0 (tCons (tVar 0) (tCons (tVar 1) tNil))) (tC (.int 19))) (tC (.int 9))) (gName 2))
  (tSeq (tIfS (tTest (tOp (rEqD K) (tOp (rI (fun _ j => j ≠ 0) fun i j => .int (i.fmod j)) (tCall (sp__law_cell_at K) [] E0 (tCons (tVar 0) (tCons (tOp (rI0 fun i j => .int (i + j)) (tVar 1) (tC (.int 3))) tNil))) (tC (.int 8))) (tC (.int 1)))) (tAsg (tOp (rI0 fun i j => .int (i - j)) (tOp (rI (fun _ j => j ≠ 0) fun i j => .int (i.fmod j)) (tCall (sp__law_cell_at K) [] E0 (tCons (tVar 0) (tCons (tVar 1) tNil))) (tC (.int 2000001))) (tOp (rI CPow fun i j => .int (i ^ j.toNat)) (tC (.int 10)) (tC (.int 6)))) (gName 2)) tNext)
  (tSeq (tAsg (tOp (rI0 fun i j => .int (i + j)) (tC (.int 1)) (tOp (rI (fun _ j => j ≠ 0) fun i j => .int (i.fmod j)) (tCall (sp__law_cell_at K) [] E0 (tCons (tVar 0) (tCons (tOp (rI0 fun i j => .int (i + j)) (tVar 1) (tC (.int 1))) tNil))) (tC (.int 6)))) (gName 3))
  (tSeq (tIfS (tTest (tOp (rEqD K) (tOp (rI (fun _ j => j ≠ 0) fun i j => .int (i.fmod j)) (tOp (rI CDivQ fun i j => .int (i.fdiv j)) (tCall (sp__law_cell_at K) [] E0 (tCons (tVar 0) (tCons (tOp (rI0 fun i j => .int (i + j)) (tVar 1) (tC (.int 1))) tNil))) (tC (.int 6))) (tC (.int 2))) (tC (.int 1)))) (tAsg (tOp (rI0 fun i j => .int (i - j)) (tC (.int 0)) (tVar 3)) (gName 3)) tNext)
  (tSeq (tAsg (tOp (rI0 fun i j => .int (i + j)) (tC (.int 1)) (tOp (rI (fun _ j => j ≠ 0) fun i j => .int (i.fmod j)) (tCall (sp__law_cell_at K) [] E0 (tCons (tVar 0) (tCons (tOp (rI0 fun i j => .int (i + j)) (tVar 1) (tC (.int 2))) tNil))) (tC (.int 7)))) (gName 4))
  (tRet (tTup (tCons (tVar 2) (tCons (tVar 3) (tCons (tVar 4) (tCons (tOp (rI0 fun i j => .int (i + j)) (tC (.int 1)) (tOp (rI (fun _ j => j ≠ 0) fun i j => .int (i.fmod j)) (tOp (rI CDivQ fun i j => .int (i.fdiv j)) (tCall (sp__law_cell_at K) [] E0 (tCons (tVar 0) (tCons (tOp (rI0 fun i j => .int (i + j)) (tVar 1) (tC (.int 3))) tNil))) (tC (.int 8))) (tC (.int 30)))) tNil)))))))))))
abbrev N__law_quad : List Str := ["_law_script", "_law_k", "_law_p", "_law_q", "_law_r"]
def t__law_two_quads (K : PySem.W.Frag) : TS := (tSeq (tAsg (tCall (sp__law_quad K) [] E0 (tCons (tVar 0) (tCons (tC (.int 0)) tNil))) (gName 1))
  (tSeq (tAsg (tCall (sp__law_quad K) [] E0 (tCons (tVar 0) (tCons (tC (.int 4)) tNil))) (gName 2))
  (tSeq (tAsg (tOp (rI (fun _ j => j ≠ 0) fun i j => .int (i.fmod j)) (tCall (sp__law_cell_at K) [] E0 (tCons (tVar 0) (tCons (tC (.int 8)) tNil))) (tC (.int 8))) (gName 3))
  (tSeq (tIfS (tTest (tOp (rEqD K) (tVar 3) (tC (.int 1)))) (tAsg (tTup (tCons (tOp (rI0 fun i j => .int (i - j)) (tC (.int 0)) (tOp (rIx K) (tVar 1) (tC (.int 0)))) (tCons (tOp (rI0 fun i j => .int (i - j)) (tC (.int 0)) (tOp (rIx K) (tVar 1) (tC (.int 1)))) (tCons (tOp (rIx K) (tVar 1) (tC (.int 2))) (tCons (tOp (rIx K) (tVar 1) (tC (.int 3))) tNil))))) (gName 2)) tNext)
  (tSeq (tIfS (tTest (tOp (rEqD K) (tVar 3) (tC (.int 2)))) (tAsg (tTup (tCons (tOp (rIx K) (tVar 1) (tC (.int 0))) (tCons (tOp (rI0 fun i j => .int (i - j)) (tC (.int 0)) (tOp (rIx K) (tVar 1) (tC (.int 1)))) (tCons (tOp (rIx K) (tVar 1) (tC (.int 2))) (tCons (tOp (rIx K) (tVar 1) (tC (.int 3))) tNil))))) (gName 2)) tNext)
  (tSeq (tIfS (tOr (tTest (tOp (rEqD K) (tVar 3) (tC (.int 3)))) (tTest (tOp (rEqD K) (tVar 3) (tC (.int 4))))) (tAsg (tTup (tCons (tOp (rIx K) (tVar 2) (tC (.int 0))) (tCons (tOp (rIx K) (tVar 2) (tC (.int 1))) (tCons (tOp (rIx K) (tVar 2) (tC (.int 2))) (tCons (tOp (rIx K) (tVar 1) (tC (.int 3))) tNil))))) (gName 2)) tNext)
  (tSeq (tIfS (tTest (tOp (rEqD K) (tVar 3) (tC (.int 5)))) (tAsg (tTup (tCons (tOp (rIx K) (tVar 1) (tC (.int 0))) (tCons (tOp (rIx K) (tVar 1) (tC (.int 1))) (tCons (tOp (rIx K) (tVar 1) (tC (.int 2))) (tCons (tOp (rIx K) (tVar 1) (tC (.int 3))) tNil))))) (gName 2)) tNext)
  (tRet (tTup (tCons (tVar 1) (tCons (tVar 2) tNil)))))))))))
abbrev N__law_two_quads : List Str := ["_law_script", "_law_one", "_law_two_here", "_law_way"]
section
variable {K : PySem.W.Frag}
theorem pure__law_sign (ds : List PyData) (r : Res) (h : F__law_sign ds r) (B0 B : Hp) : SD K B0 B (t__law_sign K) (startR N__law_sign ds) (fin r) := by
  obtain ⟨a, rfl, rfl⟩ := h
  unfold t__law_sign sgn
  refine sd_seq (sd_if (td_test (ed_lt (ed_var rfl) ed_int)) (fun hb => ?_) (fun hb => ?_))
  · have hb : a < 0 := of_decide_eq_true hb
    rw [if_pos hb]
    exact sd_ret (ed_neg ed_int) rfl
  · have hb : ¬ a < 0 := of_decide_eq_false hb
    rw [if_neg hb]
    refine sd_next (sd_ret (ed_int1B (ed_gt (ed_var rfl) ed_int)) ?_)
    show fin (.rt (.int (if 0 < a then 1 else 0))) (.rt (.int (if decide (0 < a) = true then 1 else 0)))
    by_cases h : 0 < a
    · rw [if_pos h, if_pos (decide_eq_true h)]; rfl
    · rw [if_neg h, if_neg (by rw [decide_eq_false h]; decide)]; rfl
theorem ite_b {b : Bool} {P : Prop} [Decidable P] (h : b = true ↔ P) : (if b = true then (1 : Int) else 0) = if P then 1 else 0 := by
  by_cases p : P
  · rw [if_pos p, if_pos (h.mpr p)]
  · rw [if_neg p, if_neg (fun z => p (h.mp z))]
theorem pure__law_two (ds : List PyData) (r : Res) (h : F__law_two ds r) (B0 B : Hp) : SD K B0 B (t__law_two K) (startR N__law_two ds) (fin r) := by
  obtain ⟨x, y, a, rfl, lx, ly, la, rfl⟩ := h
  unfold t__law_two twoV
  have ma := ly.cm la (by decide)
  refine sd_seq (sd_if (td_and (td_test (ed_ge (ed_var rfl) ed_int)) fun _ => td_test (ed_ge (ed_var rfl) ed_int)) (fun hb => ?_) (fun hb => ?_))
  · have hb : 0 ≤ x ∧ 0 ≤ y := by rwa [Bool.and_eq_true, decide_eq_true_iff, decide_eq_true_iff] at hb
    rw [if_pos hb]
    refine sd_ret ((ed_int1B (ed_orV (ed_gt (ed_var rfl) ed_int) fun _ => ed_gt (ed_mul (ed_var rfl) (ed_var rfl) ma) ed_int)).cast ?_) rfl
    congr 1
    exact ite_b (by rw [Bool.or_eq_true, decide_eq_true_iff, decide_eq_true_iff])
  · have hb : ¬ (0 ≤ x ∧ 0 ≤ y) := fun z => by rw [decide_eq_true z.1, decide_eq_true z.2] at hb; cases hb
    rw [if_neg hb]
    refine sd_next (sd_seq (sd_if (td_and (td_test (ed_le (ed_var rfl) ed_int)) fun _ => td_test (ed_le (ed_var rfl) ed_int)) (fun hb => ?_) (fun hb => ?_)))
    · have hb : x ≤ 0 ∧ y ≤ 0 := by rwa [Bool.and_eq_true, decide_eq_true_iff, decide_eq_true_iff] at hb
      rw [if_pos hb]
      refine sd_ret ((ed_sub ed_int (ed_int1B (ed_orV (ed_lt (ed_var rfl) ed_int) fun _ => ed_lt (ed_mul (ed_var rfl) (ed_var rfl) ma) ed_int))).cast ?_) rfl
      congr 2
      exact ite_b (by rw [Bool.or_eq_true, decide_eq_true_iff, decide_eq_true_iff])
    · have hb : ¬ (x ≤ 0 ∧ y ≤ 0) := fun z => by rw [decide_eq_true z.1, decide_eq_true z.2] at hb; cases hb
      rw [if_neg hb]
      have m1 := lx.cm lx (by decide)
      have m2 := ly.cm ly (by decide)
      have m3 := (ly.mul ly).cm la (by decide)
      refine sd_next (sd_seq (sd_if (td_test (ed_gt (ed_var rfl) ed_int)) (fun hb => ?_) (fun hb => ?_)))
      · have hb : 0 < x := of_decide_eq_true hb
        rw [if_pos hb]
        exact sd_ret (ed_call (ad_cons (ed_sub (ed_mul (ed_var rfl) (ed_var rfl) m1) (ed_mul (ed_mul (ed_var rfl) (ed_var rfl) m2) (ed_var rfl) m3)) ad_nil) ⟨_, rfl, rfl⟩ rfl) rfl
      · have hb : ¬ 0 < x := of_decide_eq_false hb
        rw [if_neg hb]
        exact sd_next (sd_ret (ed_call (ad_cons (ed_sub (ed_mul (ed_mul (ed_var rfl) (ed_var rfl) m2) (ed_var rfl) m3) (ed_mul (ed_var rfl) (ed_var rfl) m1)) ad_nil) ⟨_, rfl, rfl⟩ rfl) rfl)
theorem pure__law_mul (ds : List PyData) (r : Res) (h : F__law_mul ds r) (B0 B : Hp) : SD K B0 B (t__law_mul K) (startR N__law_mul ds) (fin r) := by
  obtain ⟨x0, x1, y0, y1, a, rfl, l1, l2, l3, l4, l5, rfl⟩ := h
  unfold t__law_mul
  have c := fun {m n : Int} (h : Lt2 1000 m) (k : Lt2 1000 n) => h.cm k (show 1000 + 1000 + 2 ≤ 134217728 by decide)
  have X0 : ∀ ρ : Rho, ρ[0]? = some (some (.d (.list [.int x0, .int x1]))) → ED K (tOp (rIx K) (tVar 0) (tC (.int 0))) ρ (.int x0) := fun ρ h => ed_ix (ed_var h) (SeqD.l _) ed_int rfl
  have X1 : ∀ ρ : Rho, ρ[0]? = some (some (.d (.list [.int x0, .int x1]))) → ED K (tOp (rIx K) (tVar 0) (tC (.int 1))) ρ (.int x1) := fun ρ h => ed_ix (ed_var h) (SeqD.l _) ed_int rfl
  have Y0 : ∀ ρ : Rho, ρ[1]? = some (some (.d (.list [.int y0, .int y1]))) → ED K (tOp (rIx K) (tVar 1) (tC (.int 0))) ρ (.int y0) := fun ρ h => ed_ix (ed_var h) (SeqD.l _) ed_int rfl
  have Y1 : ∀ ρ : Rho, ρ[1]? = some (some (.d (.list [.int y0, .int y1]))) → ED K (tOp (rIx K) (tVar 1) (tC (.int 1))) ρ (.int y1) := fun ρ h => ed_ix (ed_var h) (SeqD.l _) ed_int rfl
  exact sd_retF (ef_lst (ad_cons (ed_add (ed_mul (X0 _ rfl) (Y0 _ rfl) (c l1 l3)) (ed_mul (ed_mul (ed_var rfl) (X1 _ rfl) (c l5 l2)) (Y1 _ rfl) ((l5.mul l2).cm l4 (by decide)))) (ad_cons (ed_add (ed_mul (X0 _ rfl) (Y1 _ rfl) (c l1 l4)) (ed_mul (X1 _ rfl) (Y0 _ rfl) (c l2 l3))) ad_nil)) (Nat.le_of_ble_eq_true rfl)) rfl
theorem two_lt (x y a : Int) : Lt2 1 (twoV x y a) := by
  unfold twoV
  split
  · split <;> (unfold Lt2; decide)
  · split
    · split <;> (unfold Lt2; decide)
    · split <;> exact sgn_lt _
theorem pure__law_four (ds : List PyData) (r : Res) (h : F__law_four ds r) (B0 B : Hp) : SD K B0 B (t__law_four K) (startR N__law_four ds) (fin r) := by
  obtain ⟨x0, x1, x2, x3, a, b, rfl, l0, l1, l2, l3, la, lb, rfl⟩ := h
  unfold t__law_four fourV
  have up : ∀ {n : Nat} {m : Int}, Lt2 n m → n ≤ 1000 → Lt2 1000 m := fun h k => h.mono k
  have k0 := up l0 (by decide)
  have k1 := up l1 (by decide)
  have k2 := up l2 (by decide)
  have k3 := up l3 (by decide)
  have ka := up la (by decide)
  have kb := up lb (by decide)
  have t1 := two_lt x0 x1 a
  have t2 := two_lt x2 x3 a
  have tb : Lt2 1 (if 0 < b then (1 : Int) else 0) := by split <;> (unfold Lt2; decide)
  refine sd_seq (sd_set (ed_call (ad_cons (ed_ix (ed_var rfl) (SeqD.l _) ed_int rfl) (ad_cons (ed_ix (ed_var rfl) (SeqD.l _) ed_int rfl) (ad_cons (ed_var rfl) ad_nil))) ⟨x0, x1, a, rfl, k0, k1, ka, rfl⟩ rfl) ?_)
  have eb : (if decide (0 < b) = true then (1 : Int) else 0) = if 0 < b then 1 else 0 := ite_b decide_eq_true_iff
  refine sd_seq (sd_set (ed_mul (ed_call (ad_cons (ed_ix (ed_var rfl) (SeqD.l _) ed_int rfl) (ad_cons (ed_ix (ed_var rfl) (SeqD.l _) ed_int rfl) (ad_cons (ed_var rfl) ad_nil))) ⟨x2, x3, a, rfl, k2, k3, ka, rfl⟩ rfl) ((ed_int1B (ed_gt (ed_var rfl) ed_int)).cast (by rw [eb])) (t2.cm tb (by decide))) ?_)
  generalize (if 0 < b then (1 : Int) else 0) = one at *
  show SD K B0 B _ [some (.d (.list [.int x0, .int x1, .int x2, .int x3])), some (.d (.int a)), some (.d (.int b)), some (.d (.int (twoV x0 x1 a))), some (.d (.int (twoV x2 x3 a * one))), none, none] _
  generalize twoV x0 x1 a = L at *
  generalize twoV x2 x3 a = M at *
  refine sd_seq (sd_if (td_test (ed_ge (ed_mul (ed_var rfl) (ed_var rfl) (t1.cm (t2.mul tb) (by decide))) ed_int)) (fun hb => ?_) (fun hb => ?_))
  · have hb : 0 ≤ L * (M * one) := of_decide_eq_true hb
    rw [if_pos hb]
    exact sd_ret (ed_call (ad_cons (ed_add (ed_var rfl) (ed_var rfl)) ad_nil) ⟨_, rfl, rfl⟩ rfl) rfl
  · have hb : ¬ 0 ≤ L * (M * one) := of_decide_eq_false hb
    rw [if_neg hb]
    have s1 : ∀ ρ : Rho, ρ[0]? = some (some (.d (.list [.int x0, .int x1, .int x2, .int x3]))) → ED K (tSl (rSlS K) (tVar 0) tNoPart (tPart (tC (.int 2)))) ρ (.list [.int x0, .int x1]) := fun ρ h => EF.ed ((ef_sl (ed_var h) od_none (od_some ed_int)).cast rfl)
    have s2 : ∀ ρ : Rho, ρ[0]? = some (some (.d (.list [.int x0, .int x1, .int x2, .int x3]))) → ED K (tSl (rSlS K) (tVar 0) (tPart (tC (.int 2))) tNoPart) ρ (.list [.int x2, .int x3]) := fun ρ h => EF.ed ((ef_sl (ed_var h) (od_some ed_int) od_none).cast rfl)
    refine sd_next (sd_seq (sd_set (EF.ed (ef_call (ad_cons (s1 _ rfl) (ad_cons (s1 _ rfl) (ad_cons (ed_var rfl) ad_nil))) ⟨x0, x1, x0, x1, a, rfl, k0, k1, k0, k1, ka, rfl⟩ rfl)) ?_))
    refine sd_seq (sd_set (EF.ed (ef_call (ad_cons (s2 _ rfl) (ad_cons (s2 _ rfl) (ad_cons (ed_var rfl) ad_nil))) ⟨x2, x3, x2, x3, a, rfl, k2, k3, k2, k3, ka, rfl⟩ rfl)) ?_)
    have A1 := ((l0.mul l0).mono (show 100 + 100 ≤ 300 by decide)).add ((la.mul l1).mul l1)
    have A2 := ((l0.mul l1).mono (show 100 + 100 ≤ 300 by decide)).add ((l1.mul l0).mono (show 100 + 100 ≤ 300 by decide))
    have B1 := ((l2.mul l2).mono (show 100 + 100 ≤ 300 by decide)).add ((la.mul l3).mul l3)
    have B2 := ((l2.mul l3).mono (show 100 + 100 ≤ 300 by decide)).add ((l3.mul l2).mono (show 100 + 100 ≤ 300 by decide))
    have C1 := up ((A1.mono (show 300 + 1 ≤ 401 by decide)).sub (lb.mul B1)) (by decide)
    have C2 := up ((A2.mono (show 300 + 1 ≤ 401 by decide)).sub (lb.mul B2)) (by decide)
    exact sd_ret (ed_mul (ed_var rfl) (ed_call (ad_cons (ed_sub (ed_ix (ed_var rfl) (SeqD.l _) ed_int rfl) (ed_mul (ed_var rfl) (ed_ix (ed_var rfl) (SeqD.l _) ed_int rfl) (lb.cm B1 (by decide)))) (ad_cons (ed_sub (ed_ix (ed_var rfl) (SeqD.l _) ed_int rfl) (ed_mul (ed_var rfl) (ed_ix (ed_var rfl) (SeqD.l _) ed_int rfl) (lb.cm B2 (by decide)))) (ad_cons (ed_var rfl) ad_nil))) ⟨_, _, a, rfl, C1, C2, ka, rfl⟩ rfl) (t1.cm (two_lt _ _ _) (by decide))) rfl
theorem pure__law_ends (ds : List PyData) (r : Res) (h : F__law_ends ds r) (B0 B : Hp) : SD K B0 B (t__law_ends K) (startR N__law_ends ds) (fin r) := by
  obtain ⟨p, q, k, d, rfl, ⟨h1, h2, h3, h4, h5, h6, h7⟩, rfl⟩ := h
  unfold t__law_ends
  obtain ⟨v1, v2, v3, v4⟩ := abV_ok h6 h7
  refine sd_seq (sd_set ed_int ?_)
  refine sd_seq (SD.imp (P := fun o => o = .nx [some (.d (.int p)), some (.d (.int q)), some (.d (.int k)), some (.d (.int d)), some (.d (.int (abV d)))]) ?_ ?_)
  · refine sd_while (fun m ρ => ∃ a : Int, ρ = [some (.d (.int p)), some (.d (.int q)), some (.d (.int k)), some (.d (.int d)), some (.d (.int a))] ∧ 1 ≤ a ∧ a ≤ abV d ∧ m = (7 - a).toNat) 6 ⟨1, rfl, by decide, by omega, rfl⟩ ?_
    rintro m ρ ⟨a, rfl, a1, a2, rfl⟩
    have la : Lt2 5 a := by unfold Lt2; omega
    refine ⟨_, td_test (ed_le (ed_mul (ed_var rfl) (ed_var rfl) (la.cm la (by decide))) (ed_var rfl)), fun hb => ?_, fun hb => ?_⟩
    · have hb : a * a ≤ d := of_decide_eq_true hb
      refine sd_set (ed_add (ed_var rfl) ed_int) ⟨_, ?_, a + 1, rfl, by omega, ?_, rfl⟩
      · omega
      · apply Classical.byContradiction
        intro no
        have e : a = abV d := by omega
        rw [e] at hb; omega
    · have hb : ¬ a * a ≤ d := of_decide_eq_false hb
      have e : a = abV d := by
        apply Classical.byContradiction
        intro no
        have k1 := Int.mul_le_mul_of_nonneg_left (show a ≤ abV d - 1 by omega) (show 0 ≤ a by omega)
        have k2 := Int.mul_le_mul_of_nonneg_right (show a ≤ abV d - 1 by omega) (show 0 ≤ abV d - 1 by omega)
        omega
      rw [e]
  rintro o rfl
  show SD K B0 B _ [some (.d (.int p)), some (.d (.int q)), some (.d (.int k)), some (.d (.int d)), some (.d (.int (abV d)))] _
  have lq : Lt2 5 q := by unfold Lt2; omega
  have lv : Lt2 5 (abV d) := by unfold Lt2; omega
  have lk : Lt2 8000 k := Lt2.mono (n := 5) (by unfold Lt2; omega) (by decide)
  have e1 : ED K (tCall (sp__law_part K) [] E0 (tCons (tVar 0) (tCons (tVar 2) tNil))) [some (.d (.int p)), some (.d (.int q)), some (.d (.int k)), some (.d (.int d)), some (.d (.int (abV d)))] (pD (partV p k)) := ed_call (ad_cons (ed_var rfl) (ad_cons (ed_var rfl) ad_nil)) ⟨p, k, rfl, by omega, lk, rfl⟩ rfl
  have e2 : ED K (tCall (sp__law_part K) [] E0 (tCons (tOp (rI0 fun i j => .int (i + j)) (tVar 0) (tOp (rI CMulX fun i j => .int (i * j)) (tVar 1) (tVar 4))) (tCons (tVar 2) tNil))) [some (.d (.int p)), some (.d (.int q)), some (.d (.int k)), some (.d (.int d)), some (.d (.int (abV d)))] (pD (partV (p + q * abV d) k)) := ed_call (ad_cons (ed_add (ed_var rfl) (ed_mul (ed_var rfl) (ed_var rfl) (lq.cm lv (by decide)))) (ad_cons (ed_var rfl) ad_nil)) ⟨_, k, rfl, by omega, lk, rfl⟩ rfl
  unfold endsV
  refine sd_seq (sd_if (td_test (ed_gt (ed_var rfl) ed_int)) (fun hb => ?_) (fun hb => ?_))
  · have hb : 0 < q := of_decide_eq_true hb
    rw [if_pos hb]
    exact sd_ret (ed_tup (ad_cons e1 (ad_cons e2 ad_nil)) (Nat.le_of_ble_eq_true rfl)) rfl
  · have hb : ¬ 0 < q := of_decide_eq_false hb
    rw [if_neg hb]
    exact sd_next (sd_ret (ed_tup (ad_cons e2 (ad_cons e1 ad_nil)) (Nat.le_of_ble_eq_true rfl)) rfl)
theorem pure__law_quad_peg (ds : List PyData) (r : Res) (h : F__law_quad_peg ds r) (B0 B : Hp) : SD K B0 B (t__law_quad_peg K) (startR N__law_quad_peg ds) (fin r) := by
  obtain ⟨⟨p, q, k, d⟩, rfl, ok, rfl⟩ := h
  have ok : QB p q k d := ok
  have sz := quaR_sz ok
  unfold t__law_quad_peg
  refine sd_seq (sd_set (ed_call (ad_cons (ed_var rfl) (ad_cons (ed_var rfl) (ad_cons (ed_var rfl) (ad_cons (ed_var rfl) ad_nil)))) ⟨p, q, k, d, rfl, ok, rfl⟩ rfl) ?_)
  obtain ⟨h1, h2, h3, h4, h5, h6, h7⟩ := ok
  have lp : Lt2 20 p := by unfold Lt2; omega
  have lq : Lt2 20 q := by unfold Lt2; omega
  have lk : Lt2 20 k := by unfold Lt2; omega
  have ld : Lt2 20 d := by unfold Lt2; omega
  have l2 : Lt2 20 (-2 : Int) := by unfold Lt2; decide
  have ls : lastZ (quaR p q k d) ≠ 0 := by have : 0 < lastZ (quaR p q k d) := Int.mul_pos (by omega) (by omega); omega
  have rw' : ED K (tLst (tCons (tOp (rI0 fun i j => .int (i - j)) (tOp (rI CMulX fun i j => .int (i * j)) (tVar 0) (tVar 0)) (tOp (rI CMulX fun i j => .int (i * j)) (tOp (rI CMulX fun i j => .int (i * j)) (tVar 1) (tVar 1)) (tVar 3))) (tCons (tOp (rI CMulX fun i j => .int (i * j)) (tOp (rI CMulX fun i j => .int (i * j)) (tUn (rU fun i => .int (-i)) (tC (.int 2))) (tVar 0)) (tVar 2)) (tCons (tOp (rI CMulX fun i j => .int (i * j)) (tVar 2) (tVar 2)) tNil)))) [some (.d (.int p)), some (.d (.int q)), some (.d (.int k)), some (.d (.int d)), some (.d (.tuple [pD (endsV p q k d).1, pD (endsV p q k d).2]))] (.list (rD (quaR p q k d))) :=
    EF.ed (ef_lst (ad_cons (ed_sub (ed_mul (ed_var rfl) (ed_var rfl) (lp.cm lp (by decide))) (ed_mul (ed_mul (ed_var rfl) (ed_var rfl) (lq.cm lq (by decide))) (ed_var rfl) ((lq.mul lq).cm ld (by decide)))) (ad_cons (ed_mul (ed_mul (ed_neg ed_int) (ed_var rfl) (l2.cm lp (by decide))) (ed_var rfl) ((l2.mul lp).cm lk (by decide))) (ad_cons (ed_mul (ed_var rfl) (ed_var rfl) (lk.cm lk (by decide))) ad_nil))) (Nat.le_of_ble_eq_true rfl))
  exact sd_ret (ed_tup (ad_cons (ed_tuple (EF.ed (ef_call (ad_cons rw' ad_nil) ⟨_, quaR p q k d, 41, rfl, SeqD.l _, ls, by show 3 ≤ 1000; decide, sz, by decide, rfl⟩ rfl)) (SeqD.l _)) (ad_cons (ed_ix (ed_var rfl) (SeqD.t _) ed_int rfl) (ad_cons (ed_ix (ed_var rfl) (SeqD.t _) ed_int rfl) ad_nil))) (Nat.le_of_ble_eq_true rfl)) rfl
theorem cdv {a b : Int} (h : b ≠ 0) (h2 : b.natAbs < 100000000) : CDivQ a b := Lt2.cd (n := 30) h (by unfold Lt2; omega) (by decide)
theorem pure__law_quad (ds : List PyData) (r : Res) (h : F__law_quad ds r) (B0 B : Hp) : SD K B0 B (t__law_quad K) (startR N__law_quad ds) (fin r) := by
  obtain ⟨ns, k, rfl, rfl⟩ := h
  unfold t__law_quad
  have c0 : ∀ ρ : Rho, ρ[0]? = some (some (.d (.list (rD ns)))) → ρ[1]? = some (some (.d (.int (k : Int)))) → ED K (tCall (sp__law_cell_at K) [] E0 (tCons (tVar 0) (tCons (tVar 1) tNil))) ρ (.int (cellV ns k)) := fun ρ h1 h2 => ed_call (ad_cons (ed_var h1) (ad_cons (ed_var h2) ad_nil)) ⟨ns, k, rfl, by omega, rfl⟩ rfl
  have cj : ∀ (j : Nat) (ρ : Rho), ρ[0]? = some (some (.d (.list (rD ns)))) → ρ[1]? = some (some (.d (.int (k : Int)))) → ED K (tCall (sp__law_cell_at K) [] E0 (tCons (tVar 0) (tCons (tOp (rI0 fun i j => .int (i + j)) (tVar 1) (tC (.int (j : Nat)))) tNil))) ρ (.int (cellV ns (k + j))) := fun j ρ h1 h2 => ed_call (ad_cons (ed_var h1) (ad_cons (ed_add (ed_var h2) ed_int) ad_nil)) ⟨ns, (k : Int) + (j : Nat), rfl, by omega, by unfold cellV; rw [show ((k : Int) + (j : Nat)).toNat = k + j by omega]⟩ rfl
  have c1 := cj 1
  have c2 := cj 2
  have c3 := cj 3
  clear cj
  refine sd_seq (sd_set (ed_sub (ed_mod (c0 _ rfl rfl) ed_int (by decide)) ed_int) ?_)
  have cp : CPow 10 6 := ⟨by decide, by decide, by decide⟩
  refine sd_seq (SD.imp (P := fun o => o = .nx [some (.d (.list (rD ns))), some (.d (.int (k : Int))), some (.d (.int (quadV ns k).p)), none, none]) ?_ ?_)
  · refine sd_if (td_test (ed_eqI (ed_mod (c3 _ rfl rfl) ed_int (by decide)) ed_int)) (fun hb => ?_) (fun hb => ?_)
    · have hb : (cellV ns (k + 3)).fmod 8 = 1 := of_decide_eq_true hb
      refine sd_set (ed_sub (ed_mod (c0 _ rfl rfl) ed_int (by decide)) (ed_pow ed_int ed_int cp)) ?_
      have e : (quadV ns k).p = (cellV ns k).fmod 2000001 - 10 ^ (6 : Int).toNat := by unfold quadV; dsimp only; rw [if_pos hb]; rfl
      rw [e]; rfl
    · have hb : ¬ (cellV ns (k + 3)).fmod 8 = 1 := of_decide_eq_false hb
      refine sd_next ?_
      have e : (quadV ns k).p = (cellV ns k).fmod 19 - 9 := by unfold quadV; dsimp only; rw [if_neg hb]
      rw [e]; rfl
  rintro o rfl
  show SD K B0 B _ [some (.d (.list (rD ns))), some (.d (.int (k : Int))), some (.d (.int (quadV ns k).p)), none, none] _
  refine sd_seq (sd_set (ed_add ed_int (ed_mod (c1 _ rfl rfl) ed_int (by decide))) ?_)
  refine sd_seq (SD.imp (P := fun o => o = .nx [some (.d (.list (rD ns))), some (.d (.int (k : Int))), some (.d (.int (quadV ns k).p)), some (.d (.int (quadV ns k).q)), none]) ?_ ?_)
  · refine sd_if (td_test (ed_eqI (ed_mod (ed_fdivP (c1 _ rfl rfl) ed_int (cdv (by decide) (by decide))) ed_int (by decide)) ed_int)) (fun hb => ?_) (fun hb => ?_)
    · have hb : ((cellV ns (k + 1)).fdiv 6).fmod 2 = 1 := of_decide_eq_true hb
      refine sd_set (ed_sub ed_int (ed_var rfl)) ?_
      have e : (quadV ns k).q = 0 - (1 + (cellV ns (k + 1)).fmod 6) := by unfold quadV; dsimp only; rw [if_pos hb]
      rw [e]; rfl
    · have hb : ¬ ((cellV ns (k + 1)).fdiv 6).fmod 2 = 1 := of_decide_eq_false hb
      refine sd_next ?_
      have e : (quadV ns k).q = 1 + (cellV ns (k + 1)).fmod 6 := by unfold quadV; dsimp only; rw [if_neg hb]
      rw [e]; rfl
  rintro o rfl
  show SD K B0 B _ [some (.d (.list (rD ns))), some (.d (.int (k : Int))), some (.d (.int (quadV ns k).p)), some (.d (.int (quadV ns k).q)), none] _
  refine sd_seq (sd_set (ed_add ed_int (ed_mod (c2 _ rfl rfl) ed_int (by decide))) ?_)
  exact sd_ret (ed_tup (ad_cons (ed_var rfl) (ad_cons (ed_var rfl) (ad_cons (ed_var rfl) (ad_cons (ed_add ed_int (ed_mod (ed_fdivP (c3 _ rfl rfl) ed_int (cdv (by decide) (by decide))) ed_int (by decide))) ad_nil)))) (Nat.le_of_ble_eq_true rfl)) rfl
theorem pure__law_two_quads (ds : List PyData) (r : Res) (h : F__law_two_quads ds r) (B0 B : Hp) : SD K B0 B (t__law_two_quads K) (startR N__law_two_quads ds) (fin r) := by
  obtain ⟨ns, rfl, rfl⟩ := h
  unfold t__law_two_quads otherV
  have c8 : ∀ ρ : Rho, ρ[0]? = some (some (.d (.list (rD ns)))) → ED K (tCall (sp__law_cell_at K) [] E0 (tCons (tVar 0) (tCons (tC (.int 8)) tNil))) ρ (.int (cellV ns 8)) := fun ρ h => ed_call (ad_cons (ed_var h) (ad_cons ed_int ad_nil)) ⟨ns, 8, rfl, by decide, rfl⟩ rfl
  refine sd_seq (sd_set (ed_call (ad_cons (ed_var rfl) (ad_cons ed_int ad_nil)) ⟨ns, 0, rfl, rfl⟩ rfl) ?_)
  refine sd_seq (sd_set (ed_call (ad_cons (ed_var rfl) (ad_cons ed_int ad_nil)) ⟨ns, 4, rfl, rfl⟩ rfl) ?_)
  refine sd_seq (sd_set (ed_mod (c8 _ rfl) ed_int (by decide)) ?_)
  generalize (cellV ns 8).fmod 8 = w at *
  generalize quadV ns 0 = o at *
  generalize quadV ns 4 = t at *
  have ix : ∀ (i : Nat) (z : Q4) (ρ : Rho), ρ[i]? = some (some (.d (qD z))) → ED K (tOp (rIx K) (tVar i) (tC (.int 0))) ρ (.int z.p) ∧ ED K (tOp (rIx K) (tVar i) (tC (.int 1))) ρ (.int z.q) ∧ ED K (tOp (rIx K) (tVar i) (tC (.int 2))) ρ (.int z.r) ∧ ED K (tOp (rIx K) (tVar i) (tC (.int 3))) ρ (.int z.d) := fun i z ρ h => ⟨ed_ix (ed_var h) (SeqD.t _) ed_int rfl, ed_ix (ed_var h) (SeqD.t _) ed_int rfl, ed_ix (ed_var h) (SeqD.t _) ed_int rfl, ed_ix (ed_var h) (SeqD.t _) ed_int rfl⟩
  have I1 := fun t => ix 1 o [some (.d (.list (rD ns))), some (.d (qD o)), some (.d (qD t)), some (.d (.int w))] rfl
  have I2 := fun t => ix 2 t [some (.d (.list (rD ns))), some (.d (qD o)), some (.d (qD t)), some (.d (.int w))] rfl
  refine sd_seq (SD.imp (P := fun x => x = .nx [some (.d (.list (rD ns))), some (.d (qD o)), some (.d (qD (way1 w o t))), some (.d (.int w))]) ?_ ?_)
  · refine sd_if (td_test (ed_eqI (ed_var rfl) ed_int)) (fun hb => ?_) (fun hb => ?_)
    · have hb : w = 1 := of_decide_eq_true hb
      unfold way1; rw [if_pos hb]
      exact sd_set (ed_tup (ad_cons (ed_sub ed_int (I1 t).1) (ad_cons (ed_sub ed_int (I1 t).2.1) (ad_cons (I1 t).2.2.1 (ad_cons (I1 t).2.2.2 ad_nil)))) (Nat.le_of_ble_eq_true rfl)) rfl
    · have hb : ¬ w = 1 := of_decide_eq_false hb
      unfold way1; rw [if_neg hb]
      exact sd_next rfl
  rintro x rfl
  generalize way1 w o t = t
  show SD K B0 B _ [some (.d (.list (rD ns))), some (.d (qD o)), some (.d (qD t)), some (.d (.int w))] _
  refine sd_seq (SD.imp (P := fun x => x = .nx [some (.d (.list (rD ns))), some (.d (qD o)), some (.d (qD (way2 w o t))), some (.d (.int w))]) ?_ ?_)
  · refine sd_if (td_test (ed_eqI (ed_var rfl) ed_int)) (fun hb => ?_) (fun hb => ?_)
    · have hb : w = 2 := of_decide_eq_true hb
      unfold way2; rw [if_pos hb]
      exact sd_set (ed_tup (ad_cons (I1 t).1 (ad_cons (ed_sub ed_int (I1 t).2.1) (ad_cons (I1 t).2.2.1 (ad_cons (I1 t).2.2.2 ad_nil)))) (Nat.le_of_ble_eq_true rfl)) rfl
    · have hb : ¬ w = 2 := of_decide_eq_false hb
      unfold way2; rw [if_neg hb]
      exact sd_next rfl
  rintro x rfl
  generalize way2 w o t = t
  show SD K B0 B _ [some (.d (.list (rD ns))), some (.d (qD o)), some (.d (qD t)), some (.d (.int w))] _
  refine sd_seq (SD.imp (P := fun x => x = .nx [some (.d (.list (rD ns))), some (.d (qD o)), some (.d (qD (way3 w o t))), some (.d (.int w))]) ?_ ?_)
  · refine sd_if (td_or (td_test (ed_eqI (ed_var rfl) ed_int)) fun _ => td_test (ed_eqI (ed_var rfl) ed_int)) (fun hb => ?_) (fun hb => ?_)
    · have hb : w = 3 ∨ w = 4 := by rwa [Bool.or_eq_true, decide_eq_true_iff, decide_eq_true_iff] at hb
      unfold way3; rw [if_pos hb]
      exact sd_set (ed_tup (ad_cons (I2 t).1 (ad_cons (I2 t).2.1 (ad_cons (I2 t).2.2.1 (ad_cons (I1 t).2.2.2 ad_nil)))) (Nat.le_of_ble_eq_true rfl)) rfl
    · have hb : ¬ (w = 3 ∨ w = 4) := fun z => by
        rcases z with rfl | rfl <;> cases hb
      unfold way3; rw [if_neg hb]
      exact sd_next rfl
  rintro x rfl
  generalize way3 w o t = t
  show SD K B0 B _ [some (.d (.list (rD ns))), some (.d (qD o)), some (.d (qD t)), some (.d (.int w))] _
  refine sd_seq (SD.imp (P := fun x => x = .nx [some (.d (.list (rD ns))), some (.d (qD o)), some (.d (qD (way5 w o t))), some (.d (.int w))]) ?_ ?_)
  · refine sd_if (td_test (ed_eqI (ed_var rfl) ed_int)) (fun hb => ?_) (fun hb => ?_)
    · have hb : w = 5 := of_decide_eq_true hb
      unfold way5; rw [if_pos hb]
      exact sd_set (ed_tup (ad_cons (I1 t).1 (ad_cons (I1 t).2.1 (ad_cons (I1 t).2.2.1 (ad_cons (I1 t).2.2.2 ad_nil)))) (Nat.le_of_ble_eq_true rfl)) rfl
    · have hb : ¬ w = 5 := of_decide_eq_false hb
      unfold way5; rw [if_neg hb]
      exact sd_next rfl
  rintro x rfl
  generalize way5 w o t = t
  show SD K B0 B _ [some (.d (.list (rD ns))), some (.d (qD o)), some (.d (qD t)), some (.d (.int w))] _
  exact sd_ret (ed_tup (ad_cons (ed_var rfl) (ad_cons (ed_var rfl) ad_nil)) (Nat.le_of_ble_eq_true rfl)) rfl
end
end Rt

namespace K09
open PySem PySem.Spec PyProof.Rows L2 Evl Rt
/-! the steps that need no thought; «walk_at "ev"» goes on till it is stuck -/
local macro_rules | `(tactic| walk_at "rt1") => `(tactic| first
  | ((with_reducible show _ = true → ED _ _ _ _); intro _) | ((with_reducible show _ = false → ED _ _ _ _); intro _) | ((with_reducible show _ = true → TD _ _ _ _); intro _) | ((with_reducible show _ = false → TD _ _ _ _); intro _)
  | with_reducible exact ed_int | with_reducible exact ed_bl | with_reducible exact ed_non | with_reducible exact ad_nil | with_reducible exact od_none | with_reducible exact td_yes
  | ((with_reducible apply ed_var); exact rfl)
  | (with_reducible apply ad_cons)
  | (with_reducible apply td_test) | (with_reducible apply td_truth) | (with_reducible apply td_not) | (with_reducible apply td_and) | (with_reducible apply td_or)
  | (with_reducible apply ed_add) | (with_reducible apply ed_sub) | (with_reducible apply ed_mul) | (with_reducible apply ed_mod) | (with_reducible apply ed_fdivP) | (with_reducible apply ed_pow) | (with_reducible apply ed_neg)
  | (with_reducible apply ed_lt) | (with_reducible apply ed_le) | (with_reducible apply ed_gt) | (with_reducible apply ed_ge)
  | (with_reducible apply ed_eqD) | (with_reducible apply ed_neD)
  | (with_reducible apply ed_ix) | (with_reducible apply ed_len) | (with_reducible apply ed_abs) | (with_reducible apply ed_gcd) | (with_reducible apply ed_isi)
  | (with_reducible apply ed_tup) | (with_reducible apply ed_tuple) | (with_reducible apply ed_andV) | (with_reducible apply ed_orV) | (with_reducible apply ed_notV)
  | (with_reducible apply od_some)
  | (with_reducible apply ef_lst) | (with_reducible apply ef_list) | (with_reducible apply ef_sl) | (with_reducible apply ef_cat)
  | (with_reducible apply EF.ed; with_reducible apply ef_lst) | (with_reducible apply EF.ed; with_reducible apply ef_list) | (with_reducible apply EF.ed; with_reducible apply ef_sl) | (with_reducible apply EF.ed; with_reducible apply ef_cat)
  | (with_reducible apply ed_call)
  | ((with_reducible show SeqD _ _); first | exact SeqD.l _ | exact SeqD.t _ | assumption)
  | ((with_reducible show Truth _ _); first | exact Truth.bool _ | exact Truth.int _ | exact Truth.l _ | exact Truth.t _)
  | ((with_reducible show SeqAt.shaped _ = true); exact rfl)
  | ((with_reducible show atI _ _ = some _); first | exact rfl | assumption)
  | ((with_reducible show kitB _ _ = some _); first | exact rfl | decide +kernel)
  | ((with_reducible show List.length _ = _); rfl)
  | ((with_reducible show List.length _ ≤ 100000); first | exact Nat.le_of_ble_eq_true rfl | (simp; done) | (simp; omega)))
local macro_rules | `(tactic| walk_at "ev") => `(tactic| repeat' walk_at "rt1")
def farV (x : Int) : Int := (100000000 + x.fmod 1000) * (1 - 2 * x.fmod 2)
theorem farV_ok (x : Int) : 100000000 ≤ (farV x).natAbs ∧ (farV x).natAbs < 2 ^ 27 := by
  unfold farV
  have h1 := Int.fmod_nonneg_of_pos x (b := 1000) (by decide)
  have h2 := Int.fmod_lt_of_pos x (b := 1000) (by decide)
  have h3 := Int.fmod_nonneg_of_pos x (b := 2) (by decide)
  have h4 := Int.fmod_lt_of_pos x (b := 2) (by decide)
  generalize x.fmod 1000 = a at *
  generalize x.fmod 2 = b at *
  have : b = 0 ∨ b = 1 := by omega
  rcases this with rfl | rfl <;> omega
/-- the law's peg of a quadratic number, and the number -/
theorem q4_ex (z : Q4) (h : z.Ok) {ρ : Re} (h0 : 0 < ρ) (h2 : ρ * ρ = (z.d : Re)) : ∃ α : Re, (z.r : Re) * α = (z.p : Re) + z.q * ρ ∧ LP z.row z.lo z.hi α ∧ z.row.length = 3 ∧ Bd (2 ^ 41) z.row := by
  have h' : QB z.p z.q z.r z.d := h
  have ok := h'
  obtain ⟨b1, b2, b3, b4, b5, b6, b7⟩ := h'
  obtain ⟨v1, v2, v3, v4⟩ := abV_ok b6 b7
  obtain ⟨α, ha⟩ := quad_ex z.p z.q (show 0 < z.r by omega) ρ
  have k := LP.quad ok v1 v2 v3 h0 h2 ha
  have ls : lastZ (quaR z.p z.q z.r z.d) ≠ 0 := by have : 0 < lastZ (quaR z.p z.q z.r z.d) := Int.mul_pos (by omega) (by omega); omega
  refine ⟨α, ha, ?_, by unfold Q4.row bareL; rw [List.length_map]; rfl, ((quaR_sz ok).bare (.inr ls)).bd⟩
  unfold Q4.row Q4.lo Q4.hi endsV
  by_cases c : 0 < z.q
  · rw [if_pos c]; exact k.1 c
  · rw [if_neg c]; exact k.2 (by omega)
/-! ### the promises -/
def F__law_other_row (ds : List PyData) (r : Res) : Prop := ∃ (xs : List Int) (u v : Int × Int) (x : Int), ds = [pegD xs u v, .int x] ∧ xs ≠ [] ∧ xs.length ≤ 1000 ∧ Sz 900 xs ∧ r = .rt (pegD (mulL xs [farV x, 1]) u v)
def F__law_is (ds : List PyData) (r : Res) : Prop := ∃ a b : Int, ds = [.int a, .int b] ∧ r = .rt (.bool (decide (a = b)))
def F__law_near (ds : List PyData) (r : Res) : Prop := ∃ c : Int, ds = [.int c] ∧ r = .rt (.bool true)
def F_law (ds : List PyData) (r : Res) : Prop := ∃ ns : List Int, ns.length ≤ 63 ∧ ds = [.list (ns.map .int)] ∧ r = .rt (.bool true)
abbrev sp__law_other_row (K : PySem.W.Frag) : Sp := spD K 2 F__law_other_row
abbrev sp__law_is (K : PySem.W.Frag) : Sp := spD K 2 F__law_is
abbrev sp__law_near (K : PySem.W.Frag) : Sp := spD K 1 F__law_near
abbrev sp_law (K : PySem.W.Frag) : Sp := spD K 1 F_law
def t__law_other_row (K : PySem.W.Frag) : TS := (tSeq (tAsg (tOp (rI0 fun i j => .int (i + j)) (tOp (rI CPow fun i j => .int (i ^ j.toNat)) (tC (.int 10)) (tC (.int 8))) (tOp (rI (fun _ j => j ≠ 0) fun i j => .int (i.fmod j)) (tVar 1) (tC (.int 1000)))) (gName 2))
  (tRet (tTup (tCons (tCB (rTupS K) (tCons (tCall (sp__law_by K) [] E0 (tCons (tCB (rListS K) (tCons (tOp (rIx K) (tVar 0) (tC (.int 0))) tNil)) (tCons (tLst (tCons (tOp (rI CMulX fun i j => .int (i * j)) (tVar 2) (tOp (rI0 fun i j => .int (i - j)) (tC (.int 1)) (tOp (rI CMulX fun i j => .int (i * j)) (tC (.int 2)) (tOp (rI (fun _ j => j ≠ 0) fun i j => .int (i.fmod j)) (tVar 1) (tC (.int 2)))))) (tCons (tC (.int 1)) tNil))) tNil))) tNil)) (tCons (tOp (rIx K) (tVar 0) (tC (.int 1))) (tCons (tOp (rIx K) (tVar 0) (tC (.int 2))) tNil))))))
def t__law_is (K : PySem.W.Frag) : TS := (tRet (tAndV (tCall (sp__law_whole K) [] E0 (tCons (tVar 0) tNil)) (tOp (rEqD K) (tVar 0) (tVar 1))))
def t__law_near (K : PySem.W.Frag) : TS := (tSeq (tAsg (tOp (rI0 fun i j => .int (i + j)) (tC (.int 1)) (tOp (rI (fun _ j => j ≠ 0) fun i j => .int (i.fmod j)) (tOp (rI CDivQ fun i j => .int (i.fdiv j)) (tVar 0) (tC (.int 3))) (tOp (rI CPow fun i j => .int (i ^ j.toNat)) (tC (.int 10)) (tC (.int 7))))) (gName 1))
  (tSeq (tAsg (tTup (tCons (tTup (tCons (tOp (rI0 fun i j => .int (i - j)) (tUn (rU fun i => .int (-i)) (tC (.int 1))) (tOp (rI CMulX fun i j => .int (i * j)) (tVar 1) (tVar 1))) (tCons (tC (.int 0)) (tCons (tC (.int 1)) tNil)))) (tCons (tTup (tCons (tVar 1) (tCons (tC (.int 1)) tNil))) (tCons (tTup (tCons (tOp (rI0 fun i j => .int (i + j)) (tVar 1) (tC (.int 1))) (tCons (tC (.int 1)) tNil))) tNil)))) (gName 2))
  (tSeq (tIfS (tTest (tOp (rEqD K) (tOp (rI (fun _ j => j ≠ 0) fun i j => .int (i.fmod j)) (tVar 0) (tC (.int 3))) (tC (.int 0)))) (tRet (tAndV (tCall (sp__law_is K) [] E0 (tCons (tCall (sp_compare K) [] E0 (tCons (tVar 2) (tCons (tCall (sp_of_part K) [] E0 (tCons (tTup (tCons (tVar 1) (tCons (tC (.int 1)) tNil))) tNil)) tNil))) (tCons (tC (.int 1)) tNil))) (tCall (sp__law_is K) [] E0 (tCons (tCall (sp_compare K) [] E0 (tCons (tCall (sp_of_part K) [] E0 (tCons (tTup (tCons (tVar 1) (tCons (tC (.int 1)) tNil))) tNil)) (tCons (tVar 2) tNil))) (tCons (tUn (rU fun i => .int (-i)) (tC (.int 1))) tNil))))) tNext)
  (tSeq (tAsg (tCall (sp__law_part K) [] E0 (tCons (tOp (rI0 fun i j => .int (i + j)) (tOp (rI CMulX fun i j => .int (i * j)) (tOp (rI CMulX fun i j => .int (i * j)) (tC (.int 2)) (tVar 1)) (tVar 1)) (tC (.int 1))) (tCons (tOp (rI CMulX fun i j => .int (i * j)) (tC (.int 2)) (tVar 1)) tNil))) (gName 3))
  (tSeq (tIfS (tTest (tOp (rEqD K) (tOp (rI (fun _ j => j ≠ 0) fun i j => .int (i.fmod j)) (tVar 0) (tC (.int 3))) (tC (.int 1)))) (tRet (tAndV (tCall (sp__law_is K) [] E0 (tCons (tCall (sp_compare K) [] E0 (tCons (tVar 2) (tCons (tCall (sp_of_part K) [] E0 (tCons (tVar 3) tNil)) tNil))) (tCons (tUn (rU fun i => .int (-i)) (tC (.int 1))) tNil))) (tCall (sp__law_is K) [] E0 (tCons (tCall (sp_compare K) [] E0 (tCons (tCall (sp_of_part K) [] E0 (tCons (tVar 3) tNil)) (tCons (tVar 2) tNil))) (tCons (tC (.int 1)) tNil))))) tNext)
  (tSeq (tAsg (tTup (tCons (tTup (tCons (tOp (rI0 fun i j => .int (i - j)) (tUn (rU fun i => .int (-i)) (tC (.int 2))) (tOp (rI CMulX fun i j => .int (i * j)) (tVar 1) (tVar 1))) (tCons (tC (.int 0)) (tCons (tC (.int 1)) tNil)))) (tCons (tTup (tCons (tVar 1) (tCons (tC (.int 1)) tNil))) (tCons (tTup (tCons (tOp (rI0 fun i j => .int (i + j)) (tVar 1) (tC (.int 2))) (tCons (tC (.int 1)) tNil))) tNil)))) (gName 4))
  (tRet (tAndV (tCall (sp__law_is K) [] E0 (tCons (tCall (sp_compare K) [] E0 (tCons (tVar 2) (tCons (tVar 4) tNil))) (tCons (tUn (rU fun i => .int (-i)) (tC (.int 1))) tNil))) (tCall (sp__law_is K) [] E0 (tCons (tCall (sp_compare K) [] E0 (tCons (tVar 4) (tCons (tVar 2) tNil))) (tCons (tC (.int 1)) tNil)))))))))))
def t_law (K : PySem.W.Frag) : TS := (tSeq (tIfS (tTest (tOp (rEqD K) (tOp (rI (fun _ j => j ≠ 0) fun i j => .int (i.fmod j)) (tCall (sp__law_cell_at K) [] E0 (tCons (tVar 0) (tCons (tC (.int 12)) tNil))) (tC (.int 6))) (tC (.int 1)))) (tRet (tCall (sp__law_near K) [] E0 (tCons (tOp (rI CDivQ fun i j => .int (i.fdiv j)) (tCall (sp__law_cell_at K) [] E0 (tCons (tVar 0) (tCons (tC (.int 12)) tNil))) (tC (.int 6))) tNil))) tNext)
  (tSeq (tAsg (tCall (sp__law_two_quads K) [] E0 (tCons (tVar 0) tNil)) (gName 1))
  (tSeq (tAsg (tOp (rIx K) (tVar 1) (tC (.int 0))) (gName 2))
  (tSeq (tAsg (tOp (rIx K) (tVar 1) (tC (.int 1))) (gName 3))
  (tSeq (tAsg (tOp (rIx K) (tVar 2) (tC (.int 3))) (gName 4))
  (tSeq (tAsg (tOp (rIx K) (tVar 3) (tC (.int 3))) (gName 5))
  (tSeq (tAsg (tCall (sp__law_quad_peg K) [] E0 (tCons (tOp (rIx K) (tVar 2) (tC (.int 0))) (tCons (tOp (rIx K) (tVar 2) (tC (.int 1))) (tCons (tOp (rIx K) (tVar 2) (tC (.int 2))) (tCons (tVar 4) tNil))))) (gName 6))
  (tSeq (tAsg (tCall (sp__law_quad_peg K) [] E0 (tCons (tOp (rIx K) (tVar 3) (tC (.int 0))) (tCons (tOp (rIx K) (tVar 3) (tC (.int 1))) (tCons (tOp (rIx K) (tVar 3) (tC (.int 2))) (tCons (tVar 5) tNil))))) (gName 7))
  (tSeq (tIfS (tTest (tOp (rEqD K) (tOp (rI (fun _ j => j ≠ 0) fun i j => .int (i.fmod j)) (tCall (sp__law_cell_at K) [] E0 (tCons (tVar 0) (tCons (tC (.int 9)) tNil))) (tC (.int 2))) (tC (.int 1)))) (tAsg (tCall (sp__law_other_row K) [] E0 (tCons (tVar 7) (tCons (tOp (rI CDivQ fun i j => .int (i.fdiv j)) (tCall (sp__law_cell_at K) [] E0 (tCons (tVar 0) (tCons (tC (.int 9)) tNil))) (tC (.int 4))) tNil))) (gName 7)) tNext)
  (tSeq (tIfS (tTest (tOp (rEqD K) (tOp (rI (fun _ j => j ≠ 0) fun i j => .int (i.fmod j)) (tCall (sp__law_cell_at K) [] E0 (tCons (tVar 0) (tCons (tC (.int 9)) tNil))) (tC (.int 4))) (tC (.int 3)))) (tAsg (tCall (sp__law_other_row K) [] E0 (tCons (tVar 6) (tCons (tOp (rI CDivQ fun i j => .int (i.fdiv j)) (tCall (sp__law_cell_at K) [] E0 (tCons (tVar 0) (tCons (tC (.int 9)) tNil))) (tC (.int 4))) tNil))) (gName 6)) tNext)
  (tSeq (tAsg (tLst (tCons (tOp (rI0 fun i j => .int (i - j)) (tOp (rI CMulX fun i j => .int (i * j)) (tOp (rIx K) (tVar 2) (tC (.int 0))) (tOp (rIx K) (tVar 3) (tC (.int 2)))) (tOp (rI CMulX fun i j => .int (i * j)) (tOp (rIx K) (tVar 3) (tC (.int 0))) (tOp (rIx K) (tVar 2) (tC (.int 2))))) (tCons (tOp (rI CMulX fun i j => .int (i * j)) (tOp (rIx K) (tVar 2) (tC (.int 1))) (tOp (rIx K) (tVar 3) (tC (.int 2)))) (tCons (tOp (rI0 fun i j => .int (i - j)) (tC (.int 0)) (tOp (rI CMulX fun i j => .int (i * j)) (tOp (rIx K) (tVar 3) (tC (.int 1))) (tOp (rIx K) (tVar 2) (tC (.int 2))))) (tCons (tC (.int 0)) tNil))))) (gName 8))
  (tSeq (tAsg (tCall (sp__law_four K) [] E0 (tCons (tVar 8) (tCons (tVar 4) (tCons (tVar 5) tNil)))) (gName 9))
  (tSeq (tIfS (tOr (tNot (tTruth K (tCall (sp__law_is K) [] E0 (tCons (tCall (sp_compare K) [] E0 (tCons (tVar 6) (tCons (tVar 7) tNil))) (tCons (tVar 9) tNil))))) (tNot (tTruth K (tCall (sp__law_is K) [] E0 (tCons (tCall (sp_compare K) [] E0 (tCons (tVar 7) (tCons (tVar 6) tNil))) (tCons (tOp (rI0 fun i j => .int (i - j)) (tC (.int 0)) (tVar 9)) tNil)))))) (tRet (tC (.bl false))) tNext)
  (tSeq (tIfS (tNot (tTruth K (tCall (sp__law_is K) [] E0 (tCons (tCall (sp_sign_of_peg K) [] E0 (tCons (tVar 6) tNil)) (tCons (tCall (sp__law_two K) [] E0 (tCons (tOp (rIx K) (tVar 2) (tC (.int 0))) (tCons (tOp (rIx K) (tVar 2) (tC (.int 1))) (tCons (tVar 4) tNil)))) tNil))))) (tRet (tC (.bl false))) tNext)
  (tSeq (tIfS (tNot (tTruth K (tCall (sp__law_is K) [] E0 (tCons (tCall (sp_sign_of_peg K) [] E0 (tCons (tVar 7) tNil)) (tCons (tCall (sp__law_two K) [] E0 (tCons (tOp (rIx K) (tVar 3) (tC (.int 0))) (tCons (tOp (rIx K) (tVar 3) (tC (.int 1))) (tCons (tVar 5) tNil)))) tNil))))) (tRet (tC (.bl false))) tNext)
  (tSeq (tAsg (tCall (sp__law_part K) [] E0 (tCons (tOp (rI0 fun i j => .int (i - j)) (tOp (rI (fun _ j => j ≠ 0) fun i j => .int (i.fmod j)) (tCall (sp__law_cell_at K) [] E0 (tCons (tVar 0) (tCons (tC (.int 10)) tNil))) (tC (.int 61))) (tC (.int 30))) (tCons (tOp (rI0 fun i j => .int (i + j)) (tC (.int 1)) (tOp (rI (fun _ j => j ≠ 0) fun i j => .int (i.fmod j)) (tCall (sp__law_cell_at K) [] E0 (tCons (tVar 0) (tCons (tC (.int 11)) tNil))) (tC (.int 9)))) tNil))) (gName 10))
  (tSeq (tAsg (tCall (sp__law_two K) [] E0 (tCons (tOp (rI0 fun i j => .int (i - j)) (tOp (rI CMulX fun i j => .int (i * j)) (tOp (rIx K) (tVar 2) (tC (.int 0))) (tOp (rIx K) (tVar 10) (tC (.int 1)))) (tOp (rI CMulX fun i j => .int (i * j)) (tOp (rIx K) (tVar 10) (tC (.int 0))) (tOp (rIx K) (tVar 2) (tC (.int 2))))) (tCons (tOp (rI CMulX fun i j => .int (i * j)) (tOp (rIx K) (tVar 2) (tC (.int 1))) (tOp (rIx K) (tVar 10) (tC (.int 1)))) (tCons (tVar 4) tNil)))) (gName 9))
  (tRet (tAndV (tCall (sp__law_is K) [] E0 (tCons (tCall (sp_compare K) [] E0 (tCons (tVar 6) (tCons (tCall (sp_of_part K) [] E0 (tCons (tVar 10) tNil)) tNil))) (tCons (tVar 9) tNil))) (tCall (sp__law_is K) [] E0 (tCons (tCall (sp_compare K) [] E0 (tCons (tCall (sp_of_part K) [] E0 (tCons (tVar 10) tNil)) (tCons (tVar 6) tNil))) (tCons (tOp (rI0 fun i j => .int (i - j)) (tC (.int 0)) (tVar 9)) tNil))))))))))))))))))))))
abbrev N__law_other_row : List Str := ["_law_one", "_law_draw", "_law_far"]
abbrev N__law_is : List Str := ["_law_found", "_law_due"]
abbrev N__law_near : List Str := ["_law_cell", "_law_many", "_law_root", "_law_at", "_law_other"]
abbrev N_law : List Str := ["_law_script", "_law_pair", "_law_one", "_law_two_here", "_law_a", "_law_b", "_law_left", "_law_right", "_law_gap", "_law_due", "_law_at"]
structure Txt (K : PySem.W.Frag) (mg : Str → Option Value) (C_NoPart : Addr) : Prop where
  b_gcd : mg "gcd" = some (.builtin "math.gcd")
  b_reversed : mg "reversed" = none
  b_min : mg "min" = none
  g_SPARE : ∃ t, mg "SPARE" = some (.int 64 t)
  b_abs : mg "abs" = none
  b_max : mg "max" = none
  b_list : mg "list" = none
  b_len : mg "len" = none
  b_any : mg "any" = none
  b_zip : mg "zip" = none
  b_int : mg "int" = none
  b_isinstance : mg "isinstance" = none
  b_bool : mg "bool" = none
  b_range : mg "range" = none
  b_tuple : mg "tuple" = none
  m_NoPart : mg "NoPart" = some (.ref C_NoPart)
  x_NoPart : PySem.W.excIn K C_NoPart [.type "ValueError", .type "Exception", .type "BaseException", .type "object"] "ValueError.__new__" = true
  k_NoPart : PySem.W.keepIn K (.ref C_NoPart) = true
  s_NoPart : PySem.W.subIn K (.ref C_NoPart) (.type "BaseException") = some true
  t_NoPart : PySem.W.typeIn K (.ref C_NoPart) = some (.type "type")
section
variable {K : PySem.W.Frag} {mg : Str → Option Value} {C_PegError C_NoPart C_NoRow C_NoStretch C_NotAlone C_NoQuotient : Addr}
theorem pure__law_other_row (ds : List PyData) (r : Res) (h : F__law_other_row ds r) (B0 B : Hp) : SD K B0 B (t__law_other_row K) (startR N__law_other_row ds) (fin r) := by
  obtain ⟨xs, u, v, x, rfl, ne, len, sz, rfl⟩ := h
  unfold t__law_other_row
  have cp : CPow 10 8 := ⟨by decide, by decide, by decide⟩
  refine sd_seq (sd_set ((ed_add (ed_pow ed_int ed_int cp) (ed_mod (ed_var rfl) ed_int (by decide))).cast (e := .int (100000000 + x.fmod 1000)) rfl) ?_)
  have fo := farV_ok x
  have l1 : Lt2 27 (100000000 + x.fmod 1000) := by
    have h1 := Int.fmod_nonneg_of_pos x (b := 1000) (by decide)
    have h2 := Int.fmod_lt_of_pos x (b := 1000) (by decide)
    unfold Lt2; omega
  have l2 : Lt2 5 (x.fmod 2) := by
    have h1 := Int.fmod_nonneg_of_pos x (b := 2) (by decide)
    have h2 := Int.fmod_lt_of_pos x (b := 2) (by decide)
    unfold Lt2; omega
  have l3 : Lt2 5 (1 - 2 * x.fmod 2) := by
    have h1 := Int.fmod_nonneg_of_pos x (b := 2) (by decide)
    have h2 := Int.fmod_lt_of_pos x (b := 2) (by decide)
    unfold Lt2; omega
  have l4 : Lt2 5 (2 : Int) := by unfold Lt2; decide
  show SD K B0 B _ [some (.d (pegD xs u v)), some (.d (.int x)), some (.d (.int (100000000 + x.fmod 1000)))] _
  have two : ED K (tLst (tCons (tOp (rI CMulX fun i j => .int (i * j)) (tVar 2) (tOp (rI0 fun i j => .int (i - j)) (tC (.int 1)) (tOp (rI CMulX fun i j => .int (i * j)) (tC (.int 2)) (tOp (rI (fun _ j => j ≠ 0) fun i j => .int (i.fmod j)) (tVar 1) (tC (.int 2)))))) (tCons (tC (.int 1)) tNil))) [some (.d (pegD xs u v)), some (.d (.int x)), some (.d (.int (100000000 + x.fmod 1000)))] (.list (rD [farV x, 1])) :=
    EF.ed (ef_lst (ad_cons (ed_mul (ed_var rfl) (ed_sub ed_int (ed_mul ed_int (ed_mod (ed_var rfl) ed_int (by decide)) (l4.cm l2 (by decide)))) (l1.cm l3 (by decide))) (ad_cons ed_int ad_nil)) (Nat.le_of_ble_eq_true rfl))
  have szf : Sz 900 [farV x, 1] := fun a ha => by
    simp only [List.mem_cons, List.not_mem_nil, or_false] at ha
    rcases ha with rfl | rfl
    · exact Lt2.mono (n := 27) fo.2 (by decide)
    · exact Lt2.mono (n := 3) (by unfold Lt2; decide) (by decide)
  have fby : F__law_by [.list (rD xs), .list (rD [farV x, 1])] (.rf (rD (mulL xs [farV x, 1]))) := ⟨xs, _, 900, 900, rfl, ne, by simp, len, by show 2 ≤ 1000; decide, sz, szf, by decide, rfl⟩
  exact sd_ret (ed_tup (ad_cons (ed_tuple (EF.ed (ef_call (ad_cons (EF.ed (ef_list (ed_ix (ed_var rfl) (SeqD.t _) ed_int rfl) (SeqD.t _))) (ad_cons two ad_nil)) fby rfl)) (SeqD.l _)) (ad_cons (ed_ix (ed_var rfl) (SeqD.t _) ed_int rfl) (ad_cons (ed_ix (ed_var rfl) (SeqD.t _) ed_int rfl) ad_nil))) (Nat.le_of_ble_eq_true rfl)) rfl
theorem pure__law_is (ds : List PyData) (r : Res) (h : F__law_is ds r) (B0 B : Hp) : SD K B0 B (t__law_is K) (startR N__law_is ds) (fin r) := by
  obtain ⟨a, b, rfl, rfl⟩ := h
  unfold t__law_is
  exact sd_ret ((ed_andV (a := true) (ed_call (ad_cons (ed_var rfl) ad_nil) ⟨a, rfl, rfl⟩ rfl) fun _ => ed_eqI (ed_var rfl) (ed_var rfl)).cast (by rw [Bool.true_and])) rfl
theorem is_of {ta tb : TE} {ρ : Rho} {a : Int} (h1 : ED K ta ρ (.int a)) (h2 : ED K tb ρ (.int a)) : ED K (tCall (sp__law_is K) [] E0 (tCons ta (tCons tb tNil))) ρ (.bool true) :=
  ed_call (ad_cons h1 (ad_cons h2 ad_nil)) ⟨a, a, rfl, by rw [decide_eq_true rfl]⟩ rfl
theorem cmp_of {ta tb : TE} {ρ : Rho} {d e : PyData} {c : Int} (h1 : ED K ta ρ d) (h2 : ED K tb ρ e) (h : F_compare [d, e] (.rt (.int c))) : ED K (tCall (sp_compare K) [] E0 (tCons ta (tCons tb tNil))) ρ (.int c) := ed_call (ad_cons h1 (ad_cons h2 ad_nil)) h rfl
theorem part_of {ta : TE} {ρ : Rho} {u : Int × Int} {m : Nat} (h1 : ED K ta ρ (pD u)) (l : Low m u) (hm : m ≤ 4000) : ED K (tCall (sp_of_part K) [] E0 (tCons ta tNil)) ρ (onePeg u.1 u.2) := ed_call (ad_cons h1 ad_nil) ⟨u, m, rfl, l, hm, rfl⟩ rfl
theorem both_of {ta tb : TE} {ρ : Rho} (h1 : ED K ta ρ (.bool true)) (h2 : ED K tb ρ (.bool true)) : ED K (tAndV ta tb) ρ (.bool true) := (ed_andV h1 fun _ => h2).cast rfl
theorem sg_pos {x : Re} (h : 0 < x) : IsSg 1 x := .inr (.inr ⟨rfl, h⟩)
theorem sg_neg {x : Re} (h : x < 0) : IsSg (-1) x := .inl ⟨rfl, h⟩
theorem pure__law_near (ds : List PyData) (r : Res) (h : F__law_near ds r) (B0 B : Hp) : SD K B0 B (t__law_near K) (startR N__law_near ds) (fin r) := by
  obtain ⟨c, rfl, rfl⟩ := h
  unfold t__law_near
  have cp : CPow 10 7 := ⟨by decide, by decide, by decide⟩
  have e7 : (10 : Int) ^ (7 : Int).toNat = 10000000 := rfl
  refine sd_seq (sd_set (ed_add ed_int (ed_mod (ed_fdivP (ed_var rfl) ed_int (cdv (by decide) (by decide))) ((ed_pow ed_int ed_int cp).cast (e := .int 10000000) rfl) (by decide))) ?_)
  have n1 := Int.fmod_nonneg_of_pos (c.fdiv 3) (b := 10000000) (by decide)
  have n2 := Int.fmod_lt_of_pos (c.fdiv 3) (b := 10000000) (by decide)
  show SD K B0 B _ [some (.d (.int c)), some (.d (.int (1 + (c.fdiv 3).fmod 10000000))), none, none, none] _
  obtain ⟨n, hn⟩ : ∃ n, n = 1 + (c.fdiv 3).fmod 10000000 := ⟨_, rfl⟩
  rw [← hn]
  have n1 : 1 ≤ n := by omega
  have n2 : n ≤ 10000000 := by omega
  clear hn
  have ln : Lt2 24 n := by unfold Lt2; omega
  have mn := ln.cm ln (by decide)
  have near : ∀ (k : Int) (ρ : Rho), ρ[1]? = some (some (.d (.int n))) → ED K (tTup (tCons (tTup (tCons (tOp (rI0 fun i j => .int (i - j)) (tUn (rU fun i => .int (-i)) (tC (.int k))) (tOp (rI CMulX fun i j => .int (i * j)) (tVar 1) (tVar 1))) (tCons (tC (.int 0)) (tCons (tC (.int 1)) tNil)))) (tCons (tTup (tCons (tVar 1) (tCons (tC (.int 1)) tNil))) (tCons (tTup (tCons (tOp (rI0 fun i j => .int (i + j)) (tVar 1) (tC (.int k))) (tCons (tC (.int 1)) tNil))) tNil)))) ρ (pegD [-k - n * n, 0, 1] (n, 1) (n + k, 1)) := fun k ρ h =>
    ed_tup (ad_cons (ed_tup (ad_cons (ed_sub (ed_neg ed_int) (ed_mul (ed_var h) (ed_var h) mn)) (ad_cons ed_int (ad_cons ed_int ad_nil))) (Nat.le_of_ble_eq_true rfl)) (ad_cons (ed_tup (ad_cons (ed_var h) (ad_cons ed_int ad_nil)) (Nat.le_of_ble_eq_true rfl)) (ad_cons (ed_tup (ad_cons (ed_add (ed_var h) ed_int) (ad_cons ed_int ad_nil)) (Nat.le_of_ble_eq_true rfl)) ad_nil))) (Nat.le_of_ble_eq_true rfl)
  refine sd_seq (sd_set (near 1 _ rfl) ?_)
  obtain ⟨α, a0, a2, ap⟩ := LP.near (k := 1) n1 n2 (by decide) (by decide)
  show SD K B0 B _ [some (.d (.int c)), some (.d (.int n)), some (.d (pegD [-1 - n * n, 0, 1] (n, 1) (n + 1, 1))), none, none] _
  have n0 : (0 : Re) < (n : Re) := by rw [← castX_zero, castX_lt]; omega
  refine sd_seq (sd_if (td_test (ed_eqI (ed_mod (ed_var rfl) ed_int (by decide)) ed_int)) (fun hb => ?_) (fun hb => ?_))
  · have ln1 : Low 24 (n, 1) := ⟨by show (0 : Int) < 1; decide, Int.gcd_one_right _, ln, by show Lt2 24 1; unfold Lt2; decide⟩
    have pp := LP.part (T := n) (α := (n : Re)) ln1 (by decide) (by omega) (by omega) (by omega) (by unfold Lt2; decide) (by rw [castX_one]; grind)
    have s : IsSg 1 (α - (n : Re)) := sg_pos (by
      have : (n : Re) < α := root_lt n0 a0 (by rw [a2, ← castX_mul, castX_lt]; omega)
      grind)
    obtain ⟨f1, f2⟩ := ap.cmp_is pp s
    have tn : ∀ ρ : Rho, ρ[1]? = some (some (.d (.int n))) → ED K (tCall (sp_of_part K) [] E0 (tCons (tTup (tCons (tVar 1) (tCons (tC (.int 1)) tNil))) tNil)) ρ (onePeg n 1) := fun ρ h => part_of (u := (n, 1)) (ed_tup (ad_cons (ed_var h) (ad_cons ed_int ad_nil)) (Nat.le_of_ble_eq_true rfl)) ln1 (by decide)
    exact sd_ret (both_of (is_of (cmp_of (ed_var rfl) (tn _ rfl) f1) ed_int) (is_of (cmp_of (tn _ rfl) (ed_var rfl) f2) (ed_neg ed_int))) rfl
  · refine sd_next ?_
    have l2 : Lt2 24 (2 : Int) := by unfold Lt2; decide
    have lb : Lt2 25 (2 * n) := by unfold Lt2; omega
    have nn : 0 < n * n := Int.mul_pos (by omega) (by omega)
    have n22 : n * n ≤ 100000000000000 := by
      have a := Int.mul_le_mul_of_nonneg_left n2 (show 0 ≤ n by omega)
      omega
    have e2 : 2 * n * n = 2 * (n * n) := by rw [Int.mul_assoc]
    refine sd_seq (sd_set (ed_call (ad_cons (ed_add (ed_mul (ed_mul ed_int (ed_var rfl) (l2.cm ln (by decide))) (ed_var rfl) ((l2.mul ln).cm ln (by decide))) ed_int) (ad_cons (ed_mul ed_int (ed_var rfl) (l2.cm ln (by decide))) ad_nil)) ⟨2 * n * n + 1, 2 * n, rfl, by omega, lb.mono (by decide), rfl⟩ rfl) ?_)
    have low := low_part (m := 60) (a := 2 * n * n + 1) (b := 2 * n) (by omega) (by rw [e2]; unfold Lt2; omega) (lb.mono (by decide))
    have cr := partV_cross (a := 2 * n * n + 1) (b := 2 * n) (by omega)
    have le := partV_le (a := 2 * n * n + 1) (b := 2 * n) (by omega)
    obtain ⟨u, hu⟩ : ∃ u, u = partV (2 * n * n + 1) (2 * n) := ⟨_, rfl⟩
    rw [← hu] at low cr le
    show SD K B0 B _ [some (.d (.int c)), some (.d (.int n)), some (.d (pegD [-1 - n * n, 0, 1] (n, 1) (n + 1, 1))), some (.d (pD (partV (2 * n * n + 1) (2 * n)))), none] _
    rw [← hu]
    clear hu
    refine sd_seq (sd_if (td_test (ed_eqI (ed_mod (ed_var rfl) ed_int (by decide)) ed_int)) (fun hb => ?_) (fun hb => ?_))
    · obtain ⟨t, b⟩ := u
      have b0 : 0 < b := low.pos
      have cr : t * (2 * n) = (2 * n * n + 1) * b := cr
      obtain ⟨β, hβ⟩ := part_num (t := t) b0
      have bb : b ≤ 2 * n := by have : b.natAbs ≤ (2 * n).natAbs := le.2; omega
      have tle : t ≤ (n + 1) * b := by
        refine Int.le_of_mul_le_mul_right (a := 2 * n) ?_ (by omega)
        rw [cr]
        have : (n + 1) * b * (2 * n) = 2 * n * n * b + 2 * n * b := by grind
        have k : (2 * n * n + 1) * b = 2 * n * n * b + b := by grind
        rw [this, k]
        have := Int.mul_le_mul_of_nonneg_right (show 1 ≤ 2 * n by omega) (show 0 ≤ b by omega)
        omega
      have tpos : 0 < t := by
        apply Classical.byContradiction
        intro no
        have := Int.mul_nonpos_of_nonpos_of_nonneg (show t ≤ 0 by omega) (show 0 ≤ 2 * n by omega)
        have k := Int.mul_pos (show 0 < 2 * n * n + 1 by omega) b0
        omega
      have pp := LP.part (T := n + 1) low (by decide) (by omega) (by omega) (by omega) (by unfold Lt2 at *; omega) hβ
      have k2 : (2 * (n : Re)) * β = 2 * (n : Re) * n + 1 := by
        have c1 := congrArg (fun z : Int => (z : Re)) cr
        simp only [castX_mul, castX_add, castX_one] at c1
        have c2 : ((2 : Int) : Re) = 2 := by
          have : ((2 : Int) : Re) = ((1 + 1 : Int) : Re) := rfl
          rw [this, castX_add, castX_one]; grind
        rw [c2] at c1
        have b1 : (0 : Re) < (b : Re) := by rw [← castX_zero, castX_lt]; exact b0
        rw [← hβ] at c1
        generalize (b : Re) = B at *
        generalize (n : Re) = N at *
        have c3 : (2 * N * β - (2 * N * N + 1)) * B = 0 := by grind
        rcases Re.tri (2 * N * β - (2 * N * N + 1)) 0 with z | z | z
        · have := Re.mul_pos (show 0 < -(2 * N * β - (2 * N * N + 1)) by grind) b1; grind
        · grind
        · have := Re.mul_pos z b1; grind
      have a3 : α * α = (n : Re) * n + 1 := by rw [a2, castX_add, castX_mul, castX_one]
      have s : IsSg (-1) (α - β) := sg_neg (by
        generalize (n : Re) = N at *
        have w : 2 * N * α < 2 * N * β := by
          refine root_lt (by have := Re.mul_pos n0 a0; grind) (by rw [k2]; have := Re.mul_pos n0 n0; grind) ?_
          rw [k2]
          have e : 2 * N * α * (2 * N * α) = 4 * (N * N) * (α * α) := by grind
          rw [e, a3]
          grind
        rcases Re.tri α β with z | z | z
        · grind
        · rw [z] at w; grind
        · have := Re.mul_pos n0 (show 0 < α - β by grind)
          grind)
      obtain ⟨f1, f2⟩ := ap.cmp_is pp s
      have tn : ∀ ρ : Rho, ρ[3]? = some (some (.d (pD (t, b)))) → ED K (tCall (sp_of_part K) [] E0 (tCons (tVar 3) tNil)) ρ (onePeg t b) := fun ρ h => part_of (u := (t, b)) (ed_var h) low (by decide)
      exact sd_ret (both_of (is_of (cmp_of (ed_var rfl) (tn _ rfl) f1) (ed_neg ed_int)) (is_of (cmp_of (tn _ rfl) (ed_var rfl) f2) ed_int)) rfl
    · refine sd_next (sd_seq (sd_set (near 2 _ rfl) ?_))
      obtain ⟨γ, g0, g2, gp⟩ := LP.near (k := 2) n1 n2 (by decide) (by decide)
      have s : IsSg (-1) (α - γ) := sg_neg (by
        have : α < γ := root_lt a0 g0 (by rw [a2, g2, castX_lt]; omega)
        grind)
      obtain ⟨f1, f2⟩ := ap.cmp_is gp s
      exact sd_ret (both_of (is_of (cmp_of (ed_var rfl) (ed_var rfl) f1) (ed_neg ed_int)) (is_of (cmp_of (ed_var rfl) (ed_var rfl) f2) ed_int)) rfl
theorem td_is {ta tb : TE} {ρ : Rho} {a : Int} (h1 : ED K ta ρ (.int a)) (h2 : ED K tb ρ (.int a)) : TD K (tNot (tTruth K (tCall (sp__law_is K) [] E0 (tCons ta (tCons tb tNil))))) ρ false := td_not (td_truth (is_of h1 h2) (Truth.bool _))
theorem pure_law (ds : List PyData) (r : Res) (h : F_law ds r) (B0 B : Hp) : SD K B0 B (t_law K) (startR N_law ds) (fin r) := by
  obtain ⟨ns, hl, rfl, rfl⟩ := h
  unfold t_law
  show SD K B0 B _ [some (.d (.list (rD ns))), none, none, none, none, none, none, none, none, none, none] _
  have cell : ∀ (k : Nat) (ρ : Rho), ρ[0]? = some (some (.d (.list (rD ns)))) → ED K (tCall (sp__law_cell_at K) [] E0 (tCons (tVar 0) (tCons (tC (.int (k : Nat))) tNil))) ρ (.int (ns.getD k 0)) := fun k ρ h => ed_call (ad_cons (ed_var h) (ad_cons ed_int ad_nil)) ⟨ns, k, rfl, by omega, rfl⟩ rfl
  refine sd_seq (sd_if (td_test (ed_eqI (ed_mod (cell 12 _ rfl) ed_int (by decide)) ed_int)) (fun hb => ?_) (fun hb => ?_))
  · exact sd_ret (ed_call (ad_cons (ed_fdivP (cell 12 _ rfl) ed_int (cdv (by decide) (by decide))) ad_nil) ⟨_, rfl, rfl⟩ rfl) rfl
  refine sd_next (sd_seq (sd_set (ed_call (ad_cons (ed_var rfl) ad_nil) ⟨ns, rfl, rfl⟩ rfl) ?_))
  have ok1 := quadV_ok ns 0
  have ok2 := otherV_ok ns
  generalize quadV ns 0 = o at *
  generalize otherV ns = t at *
  have ix : ∀ (i : Nat) (z : Q4) (ρ : Rho), ρ[i]? = some (some (.d (qD z))) → ED K (tOp (rIx K) (tVar i) (tC (.int 0))) ρ (.int z.p) ∧ ED K (tOp (rIx K) (tVar i) (tC (.int 1))) ρ (.int z.q) ∧ ED K (tOp (rIx K) (tVar i) (tC (.int 2))) ρ (.int z.r) ∧ ED K (tOp (rIx K) (tVar i) (tC (.int 3))) ρ (.int z.d) := fun i z ρ h => ⟨ed_ix (ed_var h) (SeqD.t _) ed_int rfl, ed_ix (ed_var h) (SeqD.t _) ed_int rfl, ed_ix (ed_var h) (SeqD.t _) ed_int rfl, ed_ix (ed_var h) (SeqD.t _) ed_int rfl⟩
  refine sd_seq (sd_set (ed_ix (ed_var rfl) (SeqD.t _) ed_int rfl) ?_)
  refine sd_seq (sd_set (ed_ix (ed_var rfl) (SeqD.t _) ed_int rfl) ?_)
  refine sd_seq (sd_set (ix 2 o _ rfl).2.2.2 ?_)
  refine sd_seq (sd_set (ix 3 t _ rfl).2.2.2 ?_)
  refine sd_seq (sd_set (ed_call (ad_cons (ix 2 o _ rfl).1 (ad_cons (ix 2 o _ rfl).2.1 (ad_cons (ix 2 o _ rfl).2.2.1 (ad_cons (ed_var rfl) ad_nil)))) ⟨o, rfl, ok1, rfl⟩ rfl) ?_)
  refine sd_seq (sd_set (ed_call (ad_cons (ix 3 t _ rfl).1 (ad_cons (ix 3 t _ rfl).2.1 (ad_cons (ix 3 t _ rfl).2.2.1 (ad_cons (ed_var rfl) ad_nil)))) ⟨t, rfl, ok2, rfl⟩ rfl) ?_)
  have ok1' := ok1
  have ok2' := ok2
  obtain ⟨o1, o2, o3, o4, o5, o6, o7⟩ : QB o.p o.q o.r o.d := ok1
  obtain ⟨t1, t2, t3, t4, t5, t6, t7⟩ : QB t.p t.q t.r t.d := ok2
  obtain ⟨ρ, r0, r2⟩ := sqrt_ex (d := o.d) (by omega)
  obtain ⟨σ, s0, s2⟩ := sqrt_ex (d := t.d) (by omega)
  obtain ⟨α, ea, la, lena, bda⟩ := q4_ex o ok1' r0 r2
  obtain ⟨β, eb, lb, lenb, bdb⟩ := q4_ex t ok2' s0 s2
  show SD K B0 B _ [some (.d (.list (rD ns))), some (.d (.tuple [qD o, qD t])), some (.d (qD o)), some (.d (qD t)), some (.d (.int o.d)), some (.d (.int t.d)), some (.d (pegD o.row o.lo o.hi)), some (.d (pegD t.row t.lo t.hi)), none, none, none] _
  have szr : ∀ {xs : List Int}, Bd (2 ^ 41) xs → Sz 900 xs := fun h => h.sz.mono (by decide)
  have ne3 : ∀ {xs : List Int}, xs.length = 3 → xs ≠ [] := fun h z => by rw [z] at h; cases h
  refine sd_seq (SD.imp (P := fun x => ∃ ys, x = .nx [some (.d (.list (rD ns))), some (.d (.tuple [qD o, qD t])), some (.d (qD o)), some (.d (qD t)), some (.d (.int o.d)), some (.d (.int t.d)), some (.d (pegD o.row o.lo o.hi)), some (.d (pegD ys t.lo t.hi)), none, none, none] ∧ LP ys t.lo t.hi β) ?_ ?_)
  · refine sd_if (td_test (ed_eqI (ed_mod (cell 9 _ rfl) ed_int (by decide)) ed_int)) (fun hb => ?_) (fun hb => ?_)
    · refine sd_set (ed_call (ad_cons (ed_var rfl) (ad_cons (ed_fdivP (cell 9 _ rfl) ed_int (cdv (by decide) (by decide))) ad_nil)) ⟨t.row, t.lo, t.hi, _, rfl, ne3 lenb, by omega, szr bdb, rfl⟩ rfl) ⟨_, rfl, ?_⟩
      obtain ⟨f1, f2⟩ := farV_ok ((ns.getD 9 0).fdiv 4)
      exact lb.far lenb bdb f1 f2
    · exact sd_next ⟨_, rfl, lb⟩
  rintro x ⟨ys, rfl, ly⟩
  show SD K B0 B _ [some (.d (.list (rD ns))), some (.d (.tuple [qD o, qD t])), some (.d (qD o)), some (.d (qD t)), some (.d (.int o.d)), some (.d (.int t.d)), some (.d (pegD o.row o.lo o.hi)), some (.d (pegD ys t.lo t.hi)), none, none, none] _
  refine sd_seq (SD.imp (P := fun x => ∃ xs, x = .nx [some (.d (.list (rD ns))), some (.d (.tuple [qD o, qD t])), some (.d (qD o)), some (.d (qD t)), some (.d (.int o.d)), some (.d (.int t.d)), some (.d (pegD xs o.lo o.hi)), some (.d (pegD ys t.lo t.hi)), none, none, none] ∧ LP xs o.lo o.hi α) ?_ ?_)
  · refine sd_if (td_test (ed_eqI (ed_mod (cell 9 _ rfl) ed_int (by decide)) ed_int)) (fun hb => ?_) (fun hb => ?_)
    · refine sd_set (ed_call (ad_cons (ed_var rfl) (ad_cons (ed_fdivP (cell 9 _ rfl) ed_int (cdv (by decide) (by decide))) ad_nil)) ⟨o.row, o.lo, o.hi, _, rfl, ne3 lena, by omega, szr bda, rfl⟩ rfl) ⟨_, rfl, ?_⟩
      obtain ⟨f1, f2⟩ := farV_ok ((ns.getD 9 0).fdiv 4)
      exact la.far lena bda f1 f2
    · exact sd_next ⟨_, rfl, la⟩
  rintro x ⟨xs, rfl, lx⟩
  show SD K B0 B _ [some (.d (.list (rD ns))), some (.d (.tuple [qD o, qD t])), some (.d (qD o)), some (.d (qD t)), some (.d (.int o.d)), some (.d (.int t.d)), some (.d (pegD xs o.lo o.hi)), some (.d (pegD ys t.lo t.hi)), none, none, none] _
  clear la lb lena lenb bda bdb
  have lop : Lt2 20 o.p := by unfold Lt2; omega
  have loq : Lt2 20 o.q := by unfold Lt2; omega
  have lor : Lt2 20 o.r := by unfold Lt2; omega
  have lod : Lt2 20 o.d := by unfold Lt2; omega
  have ltp : Lt2 20 t.p := by unfold Lt2; omega
  have ltq : Lt2 20 t.q := by unfold Lt2; omega
  have ltr : Lt2 20 t.r := by unfold Lt2; omega
  have ltd : Lt2 20 t.d := by unfold Lt2; omega
  have cm := fun {m n : Int} (h : Lt2 20 m) (k : Lt2 20 n) => h.cm k (show 20 + 20 + 2 ≤ 134217728 by decide)
  have gap := gap_ok (show 0 < o.r by omega) (show 0 < t.r by omega) (show 0 < o.d by omega) (show 0 < t.d by omega) r0 r2 s0 s2 ea eb
  have sa := one_ok (show 0 < o.r by omega) (show 0 < o.d by omega) r0 r2 ea
  have sb := one_ok (show 0 < t.r by omega) (show 0 < t.d by omega) s0 s2 eb
  obtain ⟨f1, f2⟩ := lx.cmp_is ly gap
  have f3 := lx.sop sa
  have f4 := ly.sop sb
  have z0 : Lt2 20 (0 : Int) := Lt2.zero
  have g0 := ((lop.mul ltr).sub (ltp.mul lor)).mono (show 20 + 20 + 1 ≤ 100 by decide)
  have g1 := (loq.mul ltr).mono (show 20 + 20 ≤ 100 by decide)
  have g2 := ((z0.mono (show 20 ≤ 20 + 20 by decide)).sub (ltq.mul lor)).mono (show 20 + 20 + 1 ≤ 100 by decide)
  refine sd_seq (sd_set (EF.ed (ef_lst (ad_cons (ed_sub (ed_mul (ix 2 o _ rfl).1 (ix 3 t _ rfl).2.2.1 (cm lop ltr)) (ed_mul (ix 3 t _ rfl).1 (ix 2 o _ rfl).2.2.1 (cm ltp lor))) (ad_cons (ed_mul (ix 2 o _ rfl).2.1 (ix 3 t _ rfl).2.2.1 (cm loq ltr)) (ad_cons (ed_sub ed_int (ed_mul (ix 3 t _ rfl).2.1 (ix 2 o _ rfl).2.2.1 (cm ltq lor))) (ad_cons ed_int ad_nil)))) (Nat.le_of_ble_eq_true rfl))) ?_)
  refine sd_seq (sd_set (ed_call (ad_cons (ed_var rfl) (ad_cons (ed_var rfl) (ad_cons (ed_var rfl) ad_nil))) ⟨_, _, _, _, o.d, t.d, rfl, g0, g1, g2, Lt2.zero, lod.mono (by decide), ltd.mono (by decide), rfl⟩ rfl) ?_)
  generalize fourV (o.p * t.r - t.p * o.r) (o.q * t.r) (0 - t.q * o.r) 0 o.d t.d = due at *
  refine sd_seq (sd_if (b := false) ((td_or (td_is (cmp_of (ed_var rfl) (ed_var rfl) f1) (ed_var rfl)) fun _ => td_is (cmp_of (ed_var rfl) (ed_var rfl) f2) (ed_sub ed_int (ed_var rfl))).cast rfl) (fun hb => nomatch hb) (fun _ => ?_))
  refine sd_next ?_
  have up : ∀ {m : Int}, Lt2 20 m → Lt2 1000 m := fun h => h.mono (by decide)
  refine sd_seq (sd_if (b := false) (td_is (ed_call (ad_cons (ed_var rfl) ad_nil) f3 rfl) (ed_call (ad_cons (ix 2 o _ rfl).1 (ad_cons (ix 2 o _ rfl).2.1 (ad_cons (ed_var rfl) ad_nil))) ⟨o.p, o.q, o.d, rfl, up lop, up loq, up lod, rfl⟩ rfl)) (fun hb => nomatch hb) (fun _ => ?_))
  refine sd_next ?_
  refine sd_seq (sd_if (b := false) (td_is (ed_call (ad_cons (ed_var rfl) ad_nil) f4 rfl) (ed_call (ad_cons (ix 3 t _ rfl).1 (ad_cons (ix 3 t _ rfl).2.1 (ad_cons (ed_var rfl) ad_nil))) ⟨t.p, t.q, t.d, rfl, up ltp, up ltq, up ltd, rfl⟩ rfl)) (fun hb => nomatch hb) (fun _ => ?_))
  refine sd_next ?_
  have a0 := Int.fmod_nonneg_of_pos (ns.getD 10 0) (b := 61) (by decide)
  have a1 := Int.fmod_lt_of_pos (ns.getD 10 0) (b := 61) (by decide)
  have b0 := Int.fmod_nonneg_of_pos (ns.getD 11 0) (b := 9) (by decide)
  have b1 := Int.fmod_lt_of_pos (ns.getD 11 0) (b := 9) (by decide)
  have lt1 : Lt2 20 ((ns.getD 10 0).fmod 61 - 30) := by unfold Lt2; omega
  have lb1 : Lt2 20 (1 + (ns.getD 11 0).fmod 9) := by unfold Lt2; omega
  refine sd_seq (sd_set (ed_call (ad_cons (ed_sub (ed_mod (cell 10 _ rfl) ed_int (by decide)) ed_int) (ad_cons (ed_add ed_int (ed_mod (cell 11 _ rfl) ed_int (by decide))) ad_nil)) ⟨_, _, rfl, by omega, lb1.mono (by decide), rfl⟩ rfl) ?_)
  have low := low_part (m := 20) (show 0 < 1 + (ns.getD 11 0).fmod 9 by omega) lt1 lb1
  have le := partV_le (a := (ns.getD 10 0).fmod 61 - 30) (b := 1 + (ns.getD 11 0).fmod 9) (by omega)
  have tb : ((ns.getD 10 0).fmod 61 - 30).natAbs ≤ 30 := by omega
  have bb : (1 + (ns.getD 11 0).fmod 9).natAbs ≤ 9 := by omega
  generalize (ns.getD 10 0).fmod 61 - 30 = T at *
  generalize 1 + (ns.getD 11 0).fmod 9 = N at *
  generalize partV T N = u at *
  obtain ⟨a, b⟩ := u
  have bp : 0 < b := low.pos
  have le1 : a.natAbs ≤ T.natAbs := le.1
  have le2 : b.natAbs ≤ N.natAbs := le.2
  obtain ⟨γ, hγ⟩ := part_num (t := a) bp
  have pp := LP.part (T := 30) low (by decide) (by omega) (by decide) (by decide) (low.l2.mono (by decide)) hγ
  have sp := part_ok (show 0 < o.r by omega) bp (show 0 < o.d by omega) r0 r2 ea hγ
  obtain ⟨f5, f6⟩ := lx.cmp_is pp sp
  have la : Lt2 20 a := low.l1
  have lb : Lt2 20 b := low.l2
  have sq := pD_seq (a, b)
  have ia : ∀ ρ : Rho, ρ[10]? = some (some (.d (pD (a, b)))) → ED K (tOp (rIx K) (tVar 10) (tC (.int 0))) ρ (.int a) := fun ρ h => ed_ix (ed_var h) sq ed_int rfl
  have ib : ∀ ρ : Rho, ρ[10]? = some (some (.d (pD (a, b)))) → ED K (tOp (rIx K) (tVar 10) (tC (.int 1))) ρ (.int b) := fun ρ h => ed_ix (ed_var h) sq ed_int rfl
  have h0 := ((lop.mul lb).sub (la.mul lor)).mono (show 20 + 20 + 1 ≤ 1000 by decide)
  have h1 := (loq.mul lb).mono (show 20 + 20 ≤ 1000 by decide)
  refine sd_seq (sd_set (ed_call (ad_cons (ed_sub (ed_mul (ix 2 o _ rfl).1 (ib _ rfl) (cm lop lb)) (ed_mul (ia _ rfl) (ix 2 o _ rfl).2.2.1 (cm la lor))) (ad_cons (ed_mul (ix 2 o _ rfl).2.1 (ib _ rfl) (cm loq lb)) (ad_cons (ed_var rfl) ad_nil))) ⟨_, _, o.d, rfl, h0, h1, up lod, rfl⟩ rfl) ?_)
  generalize twoV (o.p * b - a * o.r) (o.q * b) o.d = due2 at *
  have tn : ∀ ρ : Rho, ρ[10]? = some (some (.d (pD (a, b)))) → ED K (tCall (sp_of_part K) [] E0 (tCons (tVar 10) tNil)) ρ (onePeg a b) := fun ρ h => part_of (u := (a, b)) (ed_var h) low (by decide)
  exact sd_ret (both_of (is_of (cmp_of (ed_var rfl) (tn _ rfl) f5) (ed_var rfl)) (is_of (cmp_of (tn _ rfl) (ed_var rfl) f6) (ed_sub ed_int (ed_var rfl)))) rfl
end
end K09

namespace K09
open PySem PySem.Spec PyProof.Rows L2 Evl Rt
def top (i : Nat) : Stmt := PySem.Challenge.pw_rootpeg_k09_compared.main.body.getD i (.Pass ⟨0, 0, 0, 0⟩)
abbrev s_part : Stmt := top 5
abbrev M_part : List Str := ["top", "bottom", "common"]
theorem sc_part : FnScope M_part ["top", "bottom"] (defScope s_part) := ⟨rfl, rfl, rfl, by decide +kernel, rfl, by decide +kernel, by decide +kernel⟩
abbrev s_below : Stmt := top 6
abbrev M_below : List Str := ["one", "other"]
theorem sc_below : FnScope M_below ["one", "other"] (defScope s_below) := ⟨rfl, rfl, rfl, by decide +kernel, rfl, by decide +kernel, by decide +kernel⟩
abbrev s_part_sum : Stmt := top 7
abbrev M_part_sum : List Str := ["one", "other"]
theorem sc_part_sum : FnScope M_part_sum ["one", "other"] (defScope s_part_sum) := ⟨rfl, rfl, rfl, by decide +kernel, rfl, by decide +kernel, by decide +kernel⟩
abbrev s_middle : Stmt := top 8
abbrev M_middle : List Str := ["low", "high"]
theorem sc_middle : FnScope M_middle ["low", "high"] (defScope s_middle) := ⟨rfl, rfl, rfl, by decide +kernel, rfl, by decide +kernel, by decide +kernel⟩
abbrev s_sign : Stmt := top 11
abbrev M_sign : List Str := ["number"]
theorem sc_sign : FnScope M_sign ["number"] (defScope s_sign) := ⟨rfl, rfl, rfl, by decide +kernel, rfl, by decide +kernel, by decide +kernel⟩
abbrev s_sign_at : Stmt := top 12
abbrev M_sign_at : List Str := ["row", "at", "top", "bottom", "value", "scale", "number"]
theorem sc_sign_at : FnScope M_sign_at ["row", "at"] (defScope s_sign_at) := ⟨rfl, rfl, rfl, by decide +kernel, rfl, by decide +kernel, by decide +kernel⟩
abbrev s_bare : Stmt := top 13
abbrev M_bare : List Str := ["row", "common", "number"]
theorem sc_bare : FnScope M_bare ["row"] (defScope s_bare) := ⟨rfl, rfl, rfl, by decide +kernel, rfl, by decide +kernel, by decide +kernel⟩
abbrev s_common_row : Stmt := top 14
abbrev M_common_row : List Str := ["one", "other", "size", "place", "found"]
theorem sc_common_row : FnScope M_common_row ["one", "other"] (defScope s_common_row) := ⟨rfl, rfl, rfl, by decide +kernel, rfl, by decide +kernel, by decide +kernel⟩
abbrev s_largest : Stmt := top 15
abbrev M_largest : List Str := ["row", "number"]
theorem sc_largest : FnScope M_largest ["row"] (defScope s_largest) := ⟨rfl, rfl, rfl, by decide +kernel, rfl, by decide +kernel, by decide +kernel⟩
abbrev s_value_at : Stmt := top 16
abbrev M_value_at : List Str := ["row", "number", "value", "factor"]
theorem sc_value_at : FnScope M_value_at ["row", "number"] (defScope s_value_at) := ⟨rfl, rfl, rfl, by decide +kernel, rfl, by decide +kernel, by decide +kernel⟩
abbrev s_digits : Stmt := top 17
abbrev M_digits : List Str := ["number", "place", "half", "found", "digit"]
theorem sc_digits : FnScope M_digits ["number", "place"] (defScope s_digits) := ⟨rfl, rfl, rfl, by decide +kernel, rfl, by decide +kernel, by decide +kernel⟩
abbrev s_quotient : Stmt := top 18
abbrev M_quotient : List Str := ["row", "other", "left", "found", "factor"]
theorem sc_quotient : FnScope M_quotient ["row", "other"] (defScope s_quotient) := ⟨rfl, rfl, rfl, by decide +kernel, rfl, by decide +kernel, by decide +kernel⟩
abbrev s_lowered : Stmt := top 19
abbrev M_lowered : List Str := ["row", "other", "factor", "gap", "high", "number", "less"]
theorem sc_lowered : FnScope M_lowered ["row", "other", "factor"] (defScope s_lowered) := ⟨rfl, rfl, rfl, by decide +kernel, rfl, by decide +kernel, by decide +kernel⟩
abbrev s_of_part : Stmt := top 21
abbrev M_of_part : List Str := ["at"]
theorem sc_of_part : FnScope M_of_part ["at"] (defScope s_of_part) := ⟨rfl, rfl, rfl, by decide +kernel, rfl, by decide +kernel, by decide +kernel⟩
abbrev s_halved : Stmt := top 22
abbrev M_halved : List Str := ["one", "row", "low", "high", "at", "found"]
theorem sc_halved : FnScope M_halved ["one"] (defScope s_halved) := ⟨rfl, rfl, rfl, by decide +kernel, rfl, by decide +kernel, by decide +kernel⟩
abbrev s_compare : Stmt := top 23
abbrev M_compare : List Str := ["one", "other"]
theorem sc_compare : FnScope M_compare ["one", "other"] (defScope s_compare) := ⟨rfl, rfl, rfl, by decide +kernel, rfl, by decide +kernel, by decide +kernel⟩
abbrev s_alike : Stmt := top 24
abbrev M_alike : List Str := ["one", "other", "low", "high", "common"]
theorem sc_alike : FnScope M_alike ["one", "other"] (defScope s_alike) := ⟨rfl, rfl, rfl, by decide +kernel, rfl, by decide +kernel, by decide +kernel⟩
abbrev s_overlapping : Stmt := top 25
abbrev M_overlapping : List Str := ["one", "other"]
theorem sc_overlapping : FnScope M_overlapping ["one", "other"] (defScope s_overlapping) := ⟨rfl, rfl, rfl, by decide +kernel, rfl, by decide +kernel, by decide +kernel⟩
abbrev s_sign_of_peg : Stmt := top 26
abbrev M_sign_of_peg : List Str := ["one", "row", "low", "high"]
theorem sc_sign_of_peg : FnScope M_sign_of_peg ["one"] (defScope s_sign_of_peg) := ⟨rfl, rfl, rfl, by decide +kernel, rfl, by decide +kernel, by decide +kernel⟩
abbrev s__law_whole : Stmt := top 28
abbrev M__law_whole : List Str := ["_law_found"]
theorem sc__law_whole : FnScope M__law_whole ["_law_found"] (defScope s__law_whole) := ⟨rfl, rfl, rfl, by decide +kernel, rfl, by decide +kernel, by decide +kernel⟩
abbrev s__law_cell_at : Stmt := top 29
abbrev M__law_cell_at : List Str := ["_law_script", "_law_k"]
theorem sc__law_cell_at : FnScope M__law_cell_at ["_law_script", "_law_k"] (defScope s__law_cell_at) := ⟨rfl, rfl, rfl, by decide +kernel, rfl, by decide +kernel, by decide +kernel⟩
abbrev s__law_divisor : Stmt := top 30
abbrev M__law_divisor : List Str := ["_law_one", "_law_other", "_law_over"]
theorem sc__law_divisor : FnScope M__law_divisor ["_law_one", "_law_other"] (defScope s__law_divisor) := ⟨rfl, rfl, rfl, by decide +kernel, rfl, by decide +kernel, by decide +kernel⟩
abbrev s__law_part : Stmt := top 31
abbrev M__law_part : List Str := ["_law_top", "_law_bottom", "_law_by_here"]
theorem sc__law_part : FnScope M__law_part ["_law_top", "_law_bottom"] (defScope s__law_part) := ⟨rfl, rfl, rfl, by decide +kernel, rfl, by decide +kernel, by decide +kernel⟩
abbrev s__law_smallest : Stmt := top 32
abbrev M__law_smallest : List Str := ["_law_row", "_law_by_here", "_law_one"]
theorem sc__law_smallest : FnScope M__law_smallest ["_law_row"] (defScope s__law_smallest) := ⟨rfl, rfl, rfl, by decide +kernel, rfl, by decide +kernel, by decide +kernel⟩
abbrev s__law_by : Stmt := top 33
abbrev M__law_by : List Str := ["_law_row", "_law_other", "_law_found", "_law_k", "_law_j"]
theorem sc__law_by : FnScope M__law_by ["_law_row", "_law_other"] (defScope s__law_by) := ⟨rfl, rfl, rfl, by decide +kernel, rfl, by decide +kernel, by decide +kernel⟩
abbrev s__law_sign : Stmt := top 34
abbrev M__law_sign : List Str := ["_law_number"]
theorem sc__law_sign : FnScope M__law_sign ["_law_number"] (defScope s__law_sign) := ⟨rfl, rfl, rfl, by decide +kernel, rfl, by decide +kernel, by decide +kernel⟩
abbrev s__law_two : Stmt := top 35
abbrev M__law_two : List Str := ["_law_x", "_law_y", "_law_a"]
theorem sc__law_two : FnScope M__law_two ["_law_x", "_law_y", "_law_a"] (defScope s__law_two) := ⟨rfl, rfl, rfl, by decide +kernel, rfl, by decide +kernel, by decide +kernel⟩
abbrev s__law_four : Stmt := top 36
abbrev M__law_four : List Str := ["_law_one", "_law_a", "_law_b", "_law_left", "_law_right", "_law_x", "_law_y"]
theorem sc__law_four : FnScope M__law_four ["_law_one", "_law_a", "_law_b"] (defScope s__law_four) := ⟨rfl, rfl, rfl, by decide +kernel, rfl, by decide +kernel, by decide +kernel⟩
abbrev s__law_mul : Stmt := top 37
abbrev M__law_mul : List Str := ["_law_x", "_law_y", "_law_a"]
theorem sc__law_mul : FnScope M__law_mul ["_law_x", "_law_y", "_law_a"] (defScope s__law_mul) := ⟨rfl, rfl, rfl, by decide +kernel, rfl, by decide +kernel, by decide +kernel⟩
abbrev s__law_ends : Stmt := top 38
abbrev M__law_ends : List Str := ["_law_p", "_law_q", "_law_r", "_law_d", "_law_above"]
theorem sc__law_ends : FnScope M__law_ends ["_law_p", "_law_q", "_law_r", "_law_d"] (defScope s__law_ends) := ⟨rfl, rfl, rfl, by decide +kernel, rfl, by decide +kernel, by decide +kernel⟩
abbrev s__law_quad_peg : Stmt := top 39
abbrev M__law_quad_peg : List Str := ["_law_p", "_law_q", "_law_r", "_law_d", "_law_ends_here"]
theorem sc__law_quad_peg : FnScope M__law_quad_peg ["_law_p", "_law_q", "_law_r", "_law_d"] (defScope s__law_quad_peg) := ⟨rfl, rfl, rfl, by decide +kernel, rfl, by decide +kernel, by decide +kernel⟩
abbrev s__law_quad : Stmt := top 40
abbrev M__law_quad : List Str := ["_law_script", "_law_k", "_law_p", "_law_q", "_law_r"]
theorem sc__law_quad : FnScope M__law_quad ["_law_script", "_law_k"] (defScope s__law_quad) := ⟨rfl, rfl, rfl, by decide +kernel, rfl, by decide +kernel, by decide +kernel⟩
abbrev s__law_two_quads : Stmt := top 41
abbrev M__law_two_quads : List Str := ["_law_script", "_law_one", "_law_two_here", "_law_way"]
theorem sc__law_two_quads : FnScope M__law_two_quads ["_law_script"] (defScope s__law_two_quads) := ⟨rfl, rfl, rfl, by decide +kernel, rfl, by decide +kernel, by decide +kernel⟩
abbrev s__law_other_row : Stmt := top 42
abbrev M__law_other_row : List Str := ["_law_one", "_law_draw", "_law_far"]
theorem sc__law_other_row : FnScope M__law_other_row ["_law_one", "_law_draw"] (defScope s__law_other_row) := ⟨rfl, rfl, rfl, by decide +kernel, rfl, by decide +kernel, by decide +kernel⟩
abbrev s__law_is : Stmt := top 43
abbrev M__law_is : List Str := ["_law_found", "_law_due"]
theorem sc__law_is : FnScope M__law_is ["_law_found", "_law_due"] (defScope s__law_is) := ⟨rfl, rfl, rfl, by decide +kernel, rfl, by decide +kernel, by decide +kernel⟩
abbrev s__law_near : Stmt := top 44
abbrev M__law_near : List Str := ["_law_cell", "_law_many", "_law_root", "_law_at", "_law_other"]
theorem sc__law_near : FnScope M__law_near ["_law_cell"] (defScope s__law_near) := ⟨rfl, rfl, rfl, by decide +kernel, rfl, by decide +kernel, by decide +kernel⟩
abbrev s_law : Stmt := top 45
abbrev M_law : List Str := ["_law_script", "_law_pair", "_law_one", "_law_two_here", "_law_a", "_law_b", "_law_left", "_law_right", "_law_gap", "_law_due", "_law_at"]
theorem sc_law : FnScope M_law ["_law_script"] (defScope s_law) := ⟨rfl, rfl, rfl, by decide +kernel, rfl, by decide +kernel, by decide +kernel⟩
section
variable {P : Program} {w : World} {K : PySem.W.Frag} {mg : Str → Option Value} {base : Heap} {C_NoPart : Addr}
theorem ok_part {f : Addr} {fd : FuncData} (F : Fun K "part" "part" s_part f fd) (T : Txt K mg C_NoPart) : FnOk P w K mg base (L2.CX P w) 1 f fd ["top", "bottom"] (sp_part K C_NoPart) :=
  fun_okX (t := fun E => t_part K C_NoPart E) F sc_part rfl (fun cdv A outer s H E hr => by exact (pss_cons (ps_if (pt_cmpR (op_eqD hr.units) (pv 1) pe_int (nomark _)) (pss_one (ps_raise rfl (takes_of rfl rfl rfl rfl) (pmk_own PySem.F.excBase_ValueError T.x_NoPart T.m_NoPart T.k_NoPart (raises_own T.s_NoPart T.t_NoPart) (by exact rfl)))) pss_nil)
      (pss_cons (ps_set (i := 2) sc_part.nd rfl (by first | exact Or.inl rfl | exact Or.inr rfl) (pe_callBfun cr_gcd (by rfl) T.b_gcd (pa_cons (pv 0) (pa_cons (pv 1) pa_nil))))
      (pss_cons (ps_if (pt_cmpR op_lt (pv 1) pe_int (nomark _)) (pss_one (ps_set (i := 2) sc_part.nd rfl (by first | exact Or.inl rfl | exact Or.inr rfl) (pe_un un_neg (pv 2)))) pss_nil)
      (pss_one (ps_ret (pe_tup (pa_cons (pe_op op_fdivP (pv 0) (pv 2)) (pa_cons (pe_op op_fdivP (pv 1) (pv 2)) pa_nil)))))))))
    (fun ds r h B0 B E hE => pure_part ds r h B0 B E hE)
theorem ok_below {f : Addr} {fd : FuncData} (F : Fun K "below" "below" s_below f fd) (T : Txt K mg C_NoPart) : FnOk P w K mg base CX0 1 f fd ["one", "other"] (sp_below K) :=
  fun_ok (t := t_below K) F sc_below rfl (fun cdv A outer s H E hr => by exact (pss_one (ps_ret (pe_cmpR op_lt (pe_op op_mulX (pe_ix ix_seq (pv 0) pe_int (fun _ _ => rfl)) (pe_ix ix_seq (pv 1) pe_int (fun _ _ => rfl))) (pe_op op_mulX (pe_ix ix_seq (pv 1) pe_int (fun _ _ => rfl)) (pe_ix ix_seq (pv 0) pe_int (fun _ _ => rfl))) (nomark _)))))
    (fun ds r h B0 B => pure_below ds r h B0 B)
theorem ok_part_sum {f : Addr} {fd : FuncData} (F : Fun K "part_sum" "part_sum" s_part_sum f fd) (T : Txt K mg C_NoPart) (G_part : Cal P w K mg base (L2.CX P w) 1 "part" ["top", "bottom"] (sp_part K C_NoPart)) : FnOk P w K mg base CX0 2 f fd ["one", "other"] (sp_part_sum K) :=
  fun_ok (t := t_part_sum K C_NoPart) F sc_part_sum rfl (fun cdv A outer s H E hr => by exact (pss_one (ps_ret (pe_calX G_part (hr.mono (by decide)) (by rfl) (pa_cons (pe_op op_add (pe_op op_mulX (pe_ix ix_seq (pv 0) pe_int (fun _ _ => rfl)) (pe_ix ix_seq (pv 1) pe_int (fun _ _ => rfl))) (pe_op op_mulX (pe_ix ix_seq (pv 1) pe_int (fun _ _ => rfl)) (pe_ix ix_seq (pv 0) pe_int (fun _ _ => rfl)))) (pa_cons (pe_op op_mulX (pe_ix ix_seq (pv 0) pe_int (fun _ _ => rfl)) (pe_ix ix_seq (pv 1) pe_int (fun _ _ => rfl))) pa_nil))))))
    (fun ds r h B0 B => pure_part_sum ds r h B0 B)
theorem ok_middle {f : Addr} {fd : FuncData} (F : Fun K "middle" "middle" s_middle f fd) (T : Txt K mg C_NoPart) (G_part : Cal P w K mg base (L2.CX P w) 1 "part" ["top", "bottom"] (sp_part K C_NoPart)) : FnOk P w K mg base CX0 2 f fd ["low", "high"] (sp_middle K) :=
  fun_ok (t := t_middle K C_NoPart) F sc_middle rfl (fun cdv A outer s H E hr => by exact (pss_one (ps_ret (pe_calX G_part (hr.mono (by decide)) (by rfl) (pa_cons (pe_op op_add (pe_op op_mulX (pe_ix ix_seq (pv 0) pe_int (fun _ _ => rfl)) (pe_ix ix_seq (pv 1) pe_int (fun _ _ => rfl))) (pe_op op_mulX (pe_ix ix_seq (pv 1) pe_int (fun _ _ => rfl)) (pe_ix ix_seq (pv 0) pe_int (fun _ _ => rfl)))) (pa_cons (pe_op op_mulX (pe_op op_mulX pe_int (pe_ix ix_seq (pv 0) pe_int (fun _ _ => rfl))) (pe_ix ix_seq (pv 1) pe_int (fun _ _ => rfl))) pa_nil))))))
    (fun ds r h B0 B => pure_middle ds r h B0 B)
theorem ok_sign {f : Addr} {fd : FuncData} (F : Fun K "sign" "sign" s_sign f fd) (T : Txt K mg C_NoPart) : FnOk P w K mg base CX0 1 f fd ["number"] (sp_sign K) :=
  fun_ok (t := t_sign K) F sc_sign rfl (fun cdv A outer s H E hr => by exact (pss_cons (ps_if (pt_cmpR op_lt (pv 0) pe_int (nomark _)) (pss_one (ps_ret (pe_un un_neg pe_int))) pss_nil)
      (pss_cons (ps_if (pt_cmpR op_gt (pv 0) pe_int (nomark _)) (pss_one (ps_ret pe_int)) pss_nil)
      (pss_one (ps_ret pe_int)))))
    (fun ds r h B0 B => pure_sign ds r h B0 B)
theorem ok_sign_at {f : Addr} {fd : FuncData} (F : Fun K "sign_at" "sign_at" s_sign_at f fd) (T : Txt K mg C_NoPart) (G_sign : Cal P w K mg base CX0 1 "sign" ["number"] (sp_sign K)) : FnOk P w K mg base CX0 2 f fd ["row", "at"] (sp_sign_at K) :=
  fun_ok (t := t_sign_at K) F sc_sign_at rfl (fun cdv A outer s H E hr => by exact (pss_cons (ps_asg (pv 1) (pg_tup rfl (pgs_cons (pg_name (i := 2) sc_sign_at.nd rfl (by first | exact Or.inl rfl | exact Or.inr rfl)) (pgs_cons (pg_name (i := 3) sc_sign_at.nd rfl (by first | exact Or.inl rfl | exact Or.inr rfl)) pgs_nil))))
      (pss_cons (ps_set (i := 4) sc_sign_at.nd rfl (by first | exact Or.inl rfl | exact Or.inr rfl) pe_int)
      (pss_cons (ps_set (i := 5) sc_sign_at.nd rfl (by first | exact Or.inl rfl | exact Or.inr rfl) pe_int)
      (pss_cons (ps_for PassesOwn.never rfl (RT.pi_revA (by rfl) T.b_reversed (pv 0)) (pg_name (i := 6) sc_sign_at.nd rfl (by first | exact Or.inl rfl | exact Or.inr rfl)) (pss_cons (ps_set (i := 4) sc_sign_at.nd rfl (by first | exact Or.inl rfl | exact Or.inr rfl) (pe_op op_add (pe_op op_mulX (pv 4) (pv 2)) (pe_op op_mulX (pv 6) (pv 5))))
      (pss_one (ps_set (i := 5) sc_sign_at.nd rfl (by first | exact Or.inl rfl | exact Or.inr rfl) (pe_op op_mulX (pv 5) (pv 3))))))
      (pss_one (ps_ret (pe_cal0 G_sign (hr.mono (by decide)) (by rfl) (pa_cons (pv 4) pa_nil)))))))))
    (fun ds r h B0 B => pure_sign_at ds r h B0 B)
theorem ok_bare {f : Addr} {fd : FuncData} (F : Fun K "bare" "bare" s_bare f fd) (T : Txt K mg C_NoPart) : FnOk P w K mg base CX0 1 f fd ["row"] (sp_bare K) :=
  fun_ok (t := t_bare K) F sc_bare rfl (fun cdv A outer s H E hr => by exact (pss_cons (ps_set (i := 1) sc_bare.nd rfl (by first | exact Or.inl rfl | exact Or.inr rfl) pe_int)
      (pss_cons (ps_for PassesOwn.never rfl (pi_seq (pv 0)) (pg_name (i := 2) sc_bare.nd rfl (by first | exact Or.inl rfl | exact Or.inr rfl)) (pss_one (ps_set (i := 1) sc_bare.nd rfl (by first | exact Or.inl rfl | exact Or.inr rfl) (pe_callBfun cr_gcd (by rfl) T.b_gcd (pa_cons (pv 1) (pa_cons (pv 2) pa_nil))))))
      (pss_cons (ps_if (pt_cmpR op_lt (pe_ix ix_seq (pv 0) (pe_un un_neg pe_int) (fun _ _ => rfl)) pe_int (nomark _)) (pss_one (ps_set (i := 1) sc_bare.nd rfl (by first | exact Or.inl rfl | exact Or.inr rfl) (pe_un un_neg (pv 1)))) pss_nil)
      (pss_one (ps_ret (pe_lc (own := [("number", 2)]) (g := (gName 2)) (tt := tYes) rfl sc_bare.nd (pi_seq (pv 0)) (blkOk_by (N := M_bare) (sc := defScope s_bare) (by decide +kernel)) (fun _ _ _ _ _ => (pg_name (i := 2) sc_bare.nd rfl (by first | exact Or.inl rfl | exact Or.inr rfl))) (fun _ _ _ _ _ => pts_nil) (fun _ _ _ _ _ => (pe_op op_fdivP (pv 2) (pv 1))))))))))
    (fun ds r h B0 B => pure_bare ds r h B0 B)
theorem ok_common_row {f : Addr} {fd : FuncData} (F : Fun K "common_row" "common_row" s_common_row f fd) (T : Txt K mg C_NoPart) (G_largest : Cal P w K mg base CX0 1 "largest" ["row"] (sp_largest K)) (G_value_at : Cal P w K mg base CX0 1 "value_at" ["row", "number"] (sp_value_at K)) (G_digits : Cal P w K mg base CX0 1 "digits" ["number", "place"] (sp_digits K)) (G_bare : Cal P w K mg base CX0 1 "bare" ["row"] (sp_bare K)) (G_quotient : Cal P w K mg base CX0 2 "quotient" ["row", "other"] (sp_quotient K)) : FnOk P w K mg base CX0 3 f fd ["one", "other"] (sp_common_row K) :=
  fun_ok (t := t_common_row K) F sc_common_row rfl (fun cdv A outer s H E hr => by exact (pss_cons (ps_set (i := 2) sc_common_row.nd rfl (by first | exact Or.inl rfl | exact Or.inr rfl) (pe_op op_add (pe_bits (pe_callB (cr_min2 (by rfl)) (by rfl) T.b_min (by rfl) (pa_cons (pe_cal0 G_largest (hr.mono (by decide)) (by rfl) (pa_cons (pv 0) pa_nil)) (pa_cons (pe_cal0 G_largest (hr.mono (by decide)) (by rfl) (pa_cons (pv 1) pa_nil)) pa_nil)))) (pe_const (by rfl) T.g_SPARE)))
      (pss_one (ps_while PassesOwn.never (pt_truth pe_bl (by intro _; rfl)) (pss_cons (ps_set (i := 3) sc_common_row.nd rfl (by first | exact Or.inl rfl | exact Or.inr rfl) (pe_op op_add (pe_op op_shl pe_int (pv 2)) pe_int))
      (pss_cons (ps_set (i := 4) sc_common_row.nd rfl (by first | exact Or.inl rfl | exact Or.inr rfl) (pe_cal0 G_bare (hr.mono (by decide)) (by rfl) (pa_cons (pe_cal0 G_digits (hr.mono (by decide)) (by rfl) (pa_cons (pe_callBfun cr_gcd (by rfl) T.b_gcd (pa_cons (pe_cal0 G_value_at (hr.mono (by decide)) (by rfl) (pa_cons (pv 0) (pa_cons (pv 3) pa_nil))) (pa_cons (pe_cal0 G_value_at (hr.mono (by decide)) (by rfl) (pa_cons (pv 1) (pa_cons (pv 3) pa_nil))) pa_nil))) (pa_cons (pv 3) pa_nil))) pa_nil)))
      (pss_cons (ps_if (PW.pt (pw_and (pt_cmpR op_notNn (pe_cal0 G_quotient (hr.mono (by decide)) (by rfl) (pa_cons (pv 0) (pa_cons (pv 4) pa_nil))) pe_non (nomark _)) (pw_and1 (pt_cmpR op_notNn (pe_cal0 G_quotient (hr.mono (by decide)) (by rfl) (pa_cons (pv 1) (pa_cons (pv 4) pa_nil))) pe_non (nomark _))))) (pss_one (ps_ret (pv 4))) pss_nil)
      (pss_one (ps_set (i := 2) sc_common_row.nd rfl (by first | exact Or.inl rfl | exact Or.inr rfl) (pe_op op_mulX pe_int (pv 2)))))))))))
    (fun ds r h B0 B => pure_common_row ds r h B0 B)
theorem ok_largest {f : Addr} {fd : FuncData} (F : Fun K "largest" "largest" s_largest f fd) (T : Txt K mg C_NoPart) : FnOk P w K mg base CX0 1 f fd ["row"] (sp_largest K) :=
  fun_ok (t := t_largest K) F sc_largest rfl (fun cdv A outer s H E hr => by exact (pss_one (ps_ret (pe_callB (cr_max (by rfl)) (by rfl) T.b_max (by rfl) (pa_cons (pe_lc (own := [("number", 1)]) (g := (gName 1)) (tt := tYes) rfl sc_largest.nd (pi_seq (pv 0)) (blkOk_by (N := M_largest) (sc := defScope s_largest) (by decide +kernel)) (fun _ _ _ _ _ => (pg_name (i := 1) sc_largest.nd rfl (by first | exact Or.inl rfl | exact Or.inr rfl))) (fun _ _ _ _ _ => pts_nil) (fun _ _ _ _ _ => (pe_callB call_abs (by rfl) T.b_abs (by rfl) (pa_cons (pv 1) pa_nil)))) pa_nil)))))
    (fun ds r h B0 B => pure_largest ds r h B0 B)
theorem ok_value_at {f : Addr} {fd : FuncData} (F : Fun K "value_at" "value_at" s_value_at f fd) (T : Txt K mg C_NoPart) : FnOk P w K mg base CX0 1 f fd ["row", "number"] (sp_value_at K) :=
  fun_ok (t := t_value_at K) F sc_value_at rfl (fun cdv A outer s H E hr => by exact (pss_cons (ps_set (i := 2) sc_value_at.nd rfl (by first | exact Or.inl rfl | exact Or.inr rfl) pe_int)
      (pss_cons (ps_for PassesOwn.never rfl (RT.pi_revA (by rfl) T.b_reversed (pv 0)) (pg_name (i := 3) sc_value_at.nd rfl (by first | exact Or.inl rfl | exact Or.inr rfl)) (pss_one (ps_set (i := 2) sc_value_at.nd rfl (by first | exact Or.inl rfl | exact Or.inr rfl) (pe_op op_add (pe_op op_mulX (pv 2) (pv 1)) (pv 3)))))
      (pss_one (ps_ret (pv 2))))))
    (fun ds r h B0 B => pure_value_at ds r h B0 B)
theorem ok_digits {f : Addr} {fd : FuncData} (F : Fun K "digits" "digits" s_digits f fd) (T : Txt K mg C_NoPart) : FnOk P w K mg base CX0 1 f fd ["number", "place"] (sp_digits K) :=
  fun_ok (t := t_digits K) F sc_digits rfl (fun cdv A outer s H E hr => by exact (pss_cons (ps_set (i := 2) sc_digits.nd rfl (by first | exact Or.inl rfl | exact Or.inr rfl) (pe_op op_fdivP (pv 1) pe_int))
      (pss_cons (ps_set (i := 3) sc_digits.nd rfl (by first | exact Or.inl rfl | exact Or.inr rfl) (pe_lst pa_nil))
      (pss_cons (ps_while PassesOwn.never (pt_cmpR (op_neD hr.units) (pv 0) pe_int (nomark _)) (pss_cons (ps_set (i := 4) sc_digits.nd rfl (by first | exact Or.inl rfl | exact Or.inr rfl) (pe_op op_sub (pe_op op_modN (pe_op op_add (pv 0) (pv 2)) (pv 1)) (pv 2)))
      (pss_cons (ps_expr (pe_bm PySem.F.plainAttrs_list PySem.F.slot_list_append PySem.F.type_list_append mt_append (pv 3) (pa_cons (pv 4) pa_nil)))
      (pss_one (ps_set (i := 0) sc_digits.nd rfl (by first | exact Or.inl rfl | exact Or.inr rfl) (pe_op op_fdivP (pe_op op_sub (pv 0) (pv 4)) (pv 1)))))))
      (pss_one (ps_ret (pv 3)))))))
    (fun ds r h B0 B => pure_digits ds r h B0 B)
theorem ok_quotient {f : Addr} {fd : FuncData} (F : Fun K "quotient" "quotient" s_quotient f fd) (T : Txt K mg C_NoPart) (G_lowered : Cal P w K mg base CX0 1 "lowered" ["row", "other", "factor"] (sp_lowered K)) : FnOk P w K mg base CX0 2 f fd ["row", "other"] (sp_quotient K) :=
  fun_ok (t := t_quotient K) F sc_quotient rfl (fun cdv A outer s H E hr => by exact (pss_cons (ps_set (i := 2) sc_quotient.nd rfl (by first | exact Or.inl rfl | exact Or.inr rfl) (pe_callTy call_list_of (by rfl) T.b_list (by rfl) (pa_cons (pv 0) pa_nil)))
      (pss_cons (ps_set (i := 3) sc_quotient.nd rfl (by first | exact Or.inl rfl | exact Or.inr rfl) (pe_lst pa_nil))
      (pss_cons (ps_while PassesOwn.never (pt_cmpR op_ge (pe_callB call_len_seq (by rfl) T.b_len PySem.boot_len (pa_cons (pv 2) pa_nil)) (pe_callB call_len_seq (by rfl) T.b_len PySem.boot_len (pa_cons (pv 1) pa_nil)) (nomark _)) (pss_cons (ps_set (i := 4) sc_quotient.nd rfl (by first | exact Or.inl rfl | exact Or.inr rfl) (pe_op op_fdivP (pe_ix ix_seq (pv 2) (pe_un un_neg pe_int) (fun _ _ => rfl)) (pe_ix ix_seq (pv 1) (pe_un un_neg pe_int) (fun _ _ => rfl))))
      (pss_cons (ps_if (pt_cmpR (op_neD hr.units) (pe_op op_mulX (pv 4) (pe_ix ix_seq (pv 1) (pe_un un_neg pe_int) (fun _ _ => rfl))) (pe_ix ix_seq (pv 2) (pe_un un_neg pe_int) (fun _ _ => rfl)) (nomark _)) (pss_one (ps_ret pe_non)) pss_nil)
      (pss_cons (ps_expr (pe_bm PySem.F.plainAttrs_list PySem.F.slot_list_append PySem.F.type_list_append mt_append (pv 3) (pa_cons (pv 4) pa_nil)))
      (pss_one (ps_set (i := 2) sc_quotient.nd rfl (by first | exact Or.inl rfl | exact Or.inr rfl) (pe_cal0 G_lowered (hr.mono (by decide)) (by rfl) (pa_cons (pv 2) (pa_cons (pv 1) (pa_cons (pv 4) pa_nil))))))))))
      (pss_cons (ps_if (pt_truth (pe_callB (cr_anyI (by rfl)) (by rfl) T.b_any (by rfl) (pa_cons (pv 2) pa_nil)) (by intro _; rfl)) (pss_one (ps_ret pe_non)) pss_nil)
      (pss_cons (ps_expr (pe_bm0 PySem.F.plainAttrs_list PySem.F.slot_list_reverse PySem.F.type_list_reverse mt_reverse (pv 3)))
      (pss_one (ps_ret (pv 3)))))))))
    (fun ds r h B0 B => pure_quotient ds r h B0 B)
theorem ok_lowered {f : Addr} {fd : FuncData} (F : Fun K "lowered" "lowered" s_lowered f fd) (T : Txt K mg C_NoPart) : FnOk P w K mg base CX0 1 f fd ["row", "other", "factor"] (sp_lowered K) :=
  fun_ok (t := t_lowered K) F sc_lowered rfl (fun cdv A outer s H E hr => by exact (pss_cons (ps_set (i := 3) sc_lowered.nd rfl (by first | exact Or.inl rfl | exact Or.inr rfl) (pe_op op_sub (pe_callB call_len_seq (by rfl) T.b_len PySem.boot_len (pa_cons (pv 0) pa_nil)) (pe_callB call_len_seq (by rfl) T.b_len PySem.boot_len (pa_cons (pv 1) pa_nil))))
      (pss_cons (by first | exact (ps_setLc (i := 4) (own := [("number", 5), ("less", 6)]) (g := (gTup K 2 (gCons (gName 5) (gCons (gName 6) gNil)))) (tt := tYes) rfl sc_lowered.nd rfl rfl (sw_true rfl rfl rfl (by decide +kernel)) (RZ.pi_zipA (by rfl) T.b_zip (pa_cons (pe_slice sl_seq (pv 0) (po_some (pv 3)) po_none) (pa_cons (pv 1) pa_nil))) (blkOk_by (N := M_lowered) (sc := defScope s_lowered) (by decide +kernel)) (fun _ _ _ _ _ => (pg_tup rfl (pgs_cons (pg_name (i := 5) sc_lowered.nd rfl (by first | exact Or.inl rfl | exact Or.inr rfl)) (pgs_cons (pg_name (i := 6) sc_lowered.nd rfl (by first | exact Or.inl rfl | exact Or.inr rfl)) pgs_nil)))) (fun _ _ _ _ _ => pts_nil) (fun _ _ _ _ _ => (pe_op op_sub (pv 5) (pe_op op_mulX (pv 2) (pv 6))))) | exact (ps_set (i := 4) sc_lowered.nd rfl (by first | exact Or.inl rfl | exact Or.inr rfl) (pe_lc (own := [("number", 5), ("less", 6)]) (g := (gTup K 2 (gCons (gName 5) (gCons (gName 6) gNil)))) (tt := tYes) rfl sc_lowered.nd (RZ.pi_zipA (by rfl) T.b_zip (pa_cons (pe_slice sl_seq (pv 0) (po_some (pv 3)) po_none) (pa_cons (pv 1) pa_nil))) (blkOk_by (N := M_lowered) (sc := defScope s_lowered) (by decide +kernel)) (fun _ _ _ _ _ => (pg_tup rfl (pgs_cons (pg_name (i := 5) sc_lowered.nd rfl (by first | exact Or.inl rfl | exact Or.inr rfl)) (pgs_cons (pg_name (i := 6) sc_lowered.nd rfl (by first | exact Or.inl rfl | exact Or.inr rfl)) pgs_nil)))) (fun _ _ _ _ _ => pts_nil) (fun _ _ _ _ _ => (pe_op op_sub (pv 5) (pe_op op_mulX (pv 2) (pv 6)))))))
      (pss_one (ps_ret (pe_op op_catS (pe_slice sl_seq (pv 0) po_none (po_some (pv 3))) (pe_slice sl_seq (pv 4) po_none (po_some (pe_un un_neg pe_int)))))))))
    (fun ds r h B0 B => pure_lowered ds r h B0 B)
theorem ok_of_part {f : Addr} {fd : FuncData} (F : Fun K "of_part" "of_part" s_of_part f fd) (T : Txt K mg C_NoPart) (G_part_sum : Cal P w K mg base CX0 2 "part_sum" ["one", "other"] (sp_part_sum K)) : FnOk P w K mg base CX0 3 f fd ["at"] (sp_of_part K) :=
  fun_ok (t := t_of_part K) F sc_of_part rfl (fun cdv A outer s H E hr => by exact (pss_one (ps_ret (pe_tup (pa_cons (pe_tup (pa_cons (pe_un un_neg (pe_ix ix_seq (pv 0) pe_int (fun _ _ => rfl))) (pa_cons (pe_ix ix_seq (pv 0) pe_int (fun _ _ => rfl)) pa_nil))) (pa_cons (pe_cal0 G_part_sum (hr.mono (by decide)) (by rfl) (pa_cons (pv 0) (pa_cons (pe_tup (pa_cons (pe_un un_neg pe_int) (pa_cons pe_int pa_nil))) pa_nil))) (pa_cons (pe_cal0 G_part_sum (hr.mono (by decide)) (by rfl) (pa_cons (pv 0) (pa_cons (pe_tup (pa_cons pe_int (pa_cons pe_int pa_nil))) pa_nil))) pa_nil)))))))
    (fun ds r h B0 B => pure_of_part ds r h B0 B)
theorem ok_halved {f : Addr} {fd : FuncData} (F : Fun K "halved" "halved" s_halved f fd) (T : Txt K mg C_NoPart) (G_middle : Cal P w K mg base CX0 2 "middle" ["low", "high"] (sp_middle K)) (G_sign_at : Cal P w K mg base CX0 2 "sign_at" ["row", "at"] (sp_sign_at K)) : FnOk P w K mg base CX0 3 f fd ["one"] (sp_halved K) :=
  fun_ok (t := t_halved K) F sc_halved rfl (fun cdv A outer s H E hr => by exact (pss_cons (ps_asg (pv 0) (pg_tup rfl (pgs_cons (pg_name (i := 1) sc_halved.nd rfl (by first | exact Or.inl rfl | exact Or.inr rfl)) (pgs_cons (pg_name (i := 2) sc_halved.nd rfl (by first | exact Or.inl rfl | exact Or.inr rfl)) (pgs_cons (pg_name (i := 3) sc_halved.nd rfl (by first | exact Or.inl rfl | exact Or.inr rfl)) pgs_nil)))))
      (pss_cons (ps_set (i := 4) sc_halved.nd rfl (by first | exact Or.inl rfl | exact Or.inr rfl) (pe_cal0 G_middle (hr.mono (by decide)) (by rfl) (pa_cons (pv 2) (pa_cons (pv 3) pa_nil))))
      (pss_cons (ps_set (i := 5) sc_halved.nd rfl (by first | exact Or.inl rfl | exact Or.inr rfl) (pe_cal0 G_sign_at (hr.mono (by decide)) (by rfl) (pa_cons (pv 1) (pa_cons (pv 4) pa_nil))))
      (pss_cons (ps_if (pt_cmpR (op_eqD hr.units) (pv 5) pe_int (nomark _)) (pss_one (ps_ret (pe_tup (pa_cons (pv 1) (pa_cons (pe_cal0 G_middle (hr.mono (by decide)) (by rfl) (pa_cons (pv 2) (pa_cons (pv 4) pa_nil))) (pa_cons (pe_cal0 G_middle (hr.mono (by decide)) (by rfl) (pa_cons (pv 4) (pa_cons (pv 3) pa_nil))) pa_nil)))))) pss_nil)
      (pss_cons (ps_if (pt_cmpR (op_eqD hr.units) (pv 5) (pe_cal0 G_sign_at (hr.mono (by decide)) (by rfl) (pa_cons (pv 1) (pa_cons (pv 2) pa_nil))) (nomark _)) (pss_one (ps_ret (pe_tup (pa_cons (pv 1) (pa_cons (pv 4) (pa_cons (pv 3) pa_nil)))))) pss_nil)
      (pss_one (ps_ret (pe_tup (pa_cons (pv 1) (pa_cons (pv 2) (pa_cons (pv 4) pa_nil))))))))))))
    (fun ds r h B0 B => pure_halved ds r h B0 B)
theorem ok_compare {f : Addr} {fd : FuncData} (F : Fun K "compare" "compare" s_compare f fd) (T : Txt K mg C_NoPart) (G_alike : Cal P w K mg base CX0 4 "alike" ["one", "other"] (sp_alike K)) (G_overlapping : Cal P w K mg base CX0 2 "overlapping" ["one", "other"] (sp_overlapping K)) (G_halved : Cal P w K mg base CX0 3 "halved" ["one"] (sp_halved K)) (G_below : Cal P w K mg base CX0 1 "below" ["one", "other"] (sp_below K)) : FnOk P w K mg base CX0 5 f fd ["one", "other"] (sp_compare K) :=
  fun_ok (t := t_compare K) F sc_compare rfl (fun cdv A outer s H E hr => by exact (pss_cons (ps_if (pt_truth (pe_cal0 G_alike (hr.mono (by decide)) (by rfl) (pa_cons (pv 0) (pa_cons (pv 1) pa_nil))) (by intro _; rfl)) (pss_one (ps_ret pe_int)) pss_nil)
      (pss_cons (ps_while PassesOwn.never (pt_truth (pe_cal0 G_overlapping (hr.mono (by decide)) (by rfl) (pa_cons (pv 0) (pa_cons (pv 1) pa_nil))) (by intro _; rfl)) (pss_cons (ps_set (i := 0) sc_compare.nd rfl (by first | exact Or.inl rfl | exact Or.inr rfl) (pe_cal0 G_halved (hr.mono (by decide)) (by rfl) (pa_cons (pv 0) pa_nil)))
      (pss_one (ps_set (i := 1) sc_compare.nd rfl (by first | exact Or.inl rfl | exact Or.inr rfl) (pe_cal0 G_halved (hr.mono (by decide)) (by rfl) (pa_cons (pv 1) pa_nil))))))
      (pss_one (ps_ret (pe_ifExp (pt_truth (pe_cal0 G_below (hr.mono (by decide)) (by rfl) (pa_cons (pe_ix ix_seq (pv 0) pe_int (fun _ _ => rfl)) (pa_cons (pe_ix ix_seq (pv 1) pe_int (fun _ _ => rfl)) pa_nil))) (by intro _; rfl)) (pe_un un_neg pe_int) pe_int))))))
    (fun ds r h B0 B => pure_compare ds r h B0 B)
theorem ok_alike {f : Addr} {fd : FuncData} (F : Fun K "alike" "alike" s_alike f fd) (T : Txt K mg C_NoPart) (G_overlapping : Cal P w K mg base CX0 2 "overlapping" ["one", "other"] (sp_overlapping K)) (G_below : Cal P w K mg base CX0 1 "below" ["one", "other"] (sp_below K)) (G_common_row : Cal P w K mg base CX0 3 "common_row" ["one", "other"] (sp_common_row K)) (G_sign_at : Cal P w K mg base CX0 2 "sign_at" ["row", "at"] (sp_sign_at K)) : FnOk P w K mg base CX0 4 f fd ["one", "other"] (sp_alike K) :=
  fun_ok (t := t_alike K) F sc_alike rfl (fun cdv A outer s H E hr => by exact (pss_cons (ps_if (pt_not (pt_truth (pe_cal0 G_overlapping (hr.mono (by decide)) (by rfl) (pa_cons (pv 0) (pa_cons (pv 1) pa_nil))) (by intro _; rfl))) (pss_one (ps_ret pe_bl)) pss_nil)
      (pss_cons (ps_set (i := 2) sc_alike.nd rfl (by first | exact Or.inl rfl | exact Or.inr rfl) (pe_ifExp (pt_truth (pe_cal0 G_below (hr.mono (by decide)) (by rfl) (pa_cons (pe_ix ix_seq (pv 0) pe_int (fun _ _ => rfl)) (pa_cons (pe_ix ix_seq (pv 1) pe_int (fun _ _ => rfl)) pa_nil))) (by intro _; rfl)) (pe_ix ix_seq (pv 1) pe_int (fun _ _ => rfl)) (pe_ix ix_seq (pv 0) pe_int (fun _ _ => rfl))))
      (pss_cons (ps_set (i := 3) sc_alike.nd rfl (by first | exact Or.inl rfl | exact Or.inr rfl) (pe_ifExp (pt_truth (pe_cal0 G_below (hr.mono (by decide)) (by rfl) (pa_cons (pe_ix ix_seq (pv 0) pe_int (fun _ _ => rfl)) (pa_cons (pe_ix ix_seq (pv 1) pe_int (fun _ _ => rfl)) pa_nil))) (by intro _; rfl)) (pe_ix ix_seq (pv 0) pe_int (fun _ _ => rfl)) (pe_ix ix_seq (pv 1) pe_int (fun _ _ => rfl))))
      (pss_cons (ps_set (i := 4) sc_alike.nd rfl (by first | exact Or.inl rfl | exact Or.inr rfl) (pe_cal0 G_common_row (hr.mono (by decide)) (by rfl) (pa_cons (pe_ix ix_seq (pv 0) pe_int (fun _ _ => rfl)) (pa_cons (pe_ix ix_seq (pv 1) pe_int (fun _ _ => rfl)) pa_nil))))
      (pss_one (ps_ret (pe_cmpR (op_neD hr.units) (pe_cal0 G_sign_at (hr.mono (by decide)) (by rfl) (pa_cons (pv 4) (pa_cons (pv 2) pa_nil))) (pe_cal0 G_sign_at (hr.mono (by decide)) (by rfl) (pa_cons (pv 4) (pa_cons (pv 3) pa_nil))) (nomark _)))))))))
    (fun ds r h B0 B => pure_alike ds r h B0 B)
theorem ok_overlapping {f : Addr} {fd : FuncData} (F : Fun K "overlapping" "overlapping" s_overlapping f fd) (T : Txt K mg C_NoPart) (G_below : Cal P w K mg base CX0 1 "below" ["one", "other"] (sp_below K)) : FnOk P w K mg base CX0 2 f fd ["one", "other"] (sp_overlapping K) :=
  fun_ok (t := t_overlapping K) F sc_overlapping rfl (fun cdv A outer s H E hr => by exact (pss_one (ps_ret (pe_and (pe_cal0 G_below (hr.mono (by decide)) (by rfl) (pa_cons (pe_ix ix_seq (pv 0) pe_int (fun _ _ => rfl)) (pa_cons (pe_ix ix_seq (pv 1) pe_int (fun _ _ => rfl)) pa_nil))) (pe_one (pe_cal0 G_below (hr.mono (by decide)) (by rfl) (pa_cons (pe_ix ix_seq (pv 1) pe_int (fun _ _ => rfl)) (pa_cons (pe_ix ix_seq (pv 0) pe_int (fun _ _ => rfl)) pa_nil))))))))
    (fun ds r h B0 B => pure_overlapping ds r h B0 B)
theorem ok_sign_of_peg {f : Addr} {fd : FuncData} (F : Fun K "sign_of_peg" "sign_of_peg" s_sign_of_peg f fd) (T : Txt K mg C_NoPart) (G_sign : Cal P w K mg base CX0 1 "sign" ["number"] (sp_sign K)) (G_sign_at : Cal P w K mg base CX0 2 "sign_at" ["row", "at"] (sp_sign_at K)) : FnOk P w K mg base CX0 3 f fd ["one"] (sp_sign_of_peg K) :=
  fun_ok (t := t_sign_of_peg K) F sc_sign_of_peg rfl (fun cdv A outer s H E hr => by exact (pss_cons (ps_asg (pv 0) (pg_tup rfl (pgs_cons (pg_name (i := 1) sc_sign_of_peg.nd rfl (by first | exact Or.inl rfl | exact Or.inr rfl)) (pgs_cons (pg_name (i := 2) sc_sign_of_peg.nd rfl (by first | exact Or.inl rfl | exact Or.inr rfl)) (pgs_cons (pg_name (i := 3) sc_sign_of_peg.nd rfl (by first | exact Or.inl rfl | exact Or.inr rfl)) pgs_nil)))))
      (pss_cons (ps_if (pt_cmpR op_ge (pe_ix ix_seq (pv 2) pe_int (fun _ _ => rfl)) pe_int (nomark _)) (pss_one (ps_ret pe_int)) pss_nil)
      (pss_cons (ps_if (pt_cmpR op_le (pe_ix ix_seq (pv 3) pe_int (fun _ _ => rfl)) pe_int (nomark _)) (pss_one (ps_ret (pe_un un_neg pe_int))) pss_nil)
      (pss_one (ps_ret (pe_op op_mulX (pe_cal0 G_sign (hr.mono (by decide)) (by rfl) (pa_cons (pe_ix ix_seq (pv 1) pe_int (fun _ _ => rfl)) pa_nil)) (pe_cal0 G_sign_at (hr.mono (by decide)) (by rfl) (pa_cons (pv 1) (pa_cons (pv 2) pa_nil))))))))))
    (fun ds r h B0 B => pure_sign_of_peg ds r h B0 B)
theorem ok__law_whole {f : Addr} {fd : FuncData} (F : Fun K "_law_whole" "_law_whole" s__law_whole f fd) (T : Txt K mg C_NoPart) : FnOk P w K mg base CX0 1 f fd ["_law_found"] (sp__law_whole K) :=
  fun_ok (t := t__law_whole K) F sc__law_whole rfl (fun cdv A outer s H E hr => by exact (pss_one (ps_ret (pe_and (pe_callB call_isi (by rfl) T.b_isinstance (by rfl) (pa_cons (pv 0) (pa_cons (pe_bltn (v := .ty "int") (by rfl) T.b_int (by rfl) rfl) pa_nil))) (pe_one (pe_not (pe_callB call_isi (by rfl) T.b_isinstance (by rfl) (pa_cons (pv 0) (pa_cons (pe_bltn (v := .ty "bool") (by rfl) T.b_bool (by rfl) rfl) pa_nil)))))))))
    (fun ds r h B0 B => pure__law_whole ds r h B0 B)
theorem ok__law_cell_at {f : Addr} {fd : FuncData} (F : Fun K "_law_cell_at" "_law_cell_at" s__law_cell_at f fd) (T : Txt K mg C_NoPart) : FnOk P w K mg base CX0 1 f fd ["_law_script", "_law_k"] (sp__law_cell_at K) :=
  fun_ok (t := t__law_cell_at K) F sc__law_cell_at rfl (fun cdv A outer s H E hr => by exact (pss_cons (ps_if (pt_cmpR op_lt (pv 1) (pe_callB call_len_seq (by rfl) T.b_len PySem.boot_len (pa_cons (pv 0) pa_nil)) (nomark _)) (pss_one (ps_ret (pe_ix ix_seq (pv 0) (pv 1) (fun _ _ => rfl)))) pss_nil)
      (pss_one (ps_ret pe_int))))
    (fun ds r h B0 B => pure__law_cell_at ds r h B0 B)
theorem ok__law_divisor {f : Addr} {fd : FuncData} (F : Fun K "_law_divisor" "_law_divisor" s__law_divisor f fd) (T : Txt K mg C_NoPart) : FnOk P w K mg base CX0 1 f fd ["_law_one", "_law_other"] (sp__law_divisor K) :=
  fun_ok (t := t__law_divisor K) F sc__law_divisor rfl (fun cdv A outer s H E hr => by exact (pss_cons (ps_while PassesOwn.never (pt_cmpR (op_neD hr.units) (pv 1) pe_int (nomark _)) (pss_cons (ps_set (i := 2) sc__law_divisor.nd rfl (by first | exact Or.inl rfl | exact Or.inr rfl) (pe_op op_modN (pv 0) (pv 1)))
      (pss_cons (ps_set (i := 0) sc__law_divisor.nd rfl (by first | exact Or.inl rfl | exact Or.inr rfl) (pv 1))
      (pss_one (ps_set (i := 1) sc__law_divisor.nd rfl (by first | exact Or.inl rfl | exact Or.inr rfl) (pv 2))))))
      (pss_one (ps_ret (pe_callB call_abs (by rfl) T.b_abs (by rfl) (pa_cons (pv 0) pa_nil))))))
    (fun ds r h B0 B => pure__law_divisor ds r h B0 B)
theorem ok__law_part {f : Addr} {fd : FuncData} (F : Fun K "_law_part" "_law_part" s__law_part f fd) (T : Txt K mg C_NoPart) (G__law_divisor : Cal P w K mg base CX0 1 "_law_divisor" ["_law_one", "_law_other"] (sp__law_divisor K)) : FnOk P w K mg base CX0 2 f fd ["_law_top", "_law_bottom"] (sp__law_part K) :=
  fun_ok (t := t__law_part K) F sc__law_part rfl (fun cdv A outer s H E hr => by exact (pss_cons (ps_set (i := 2) sc__law_part.nd rfl (by first | exact Or.inl rfl | exact Or.inr rfl) (pe_cal0 G__law_divisor (hr.mono (by decide)) (by rfl) (pa_cons (pv 0) (pa_cons (pv 1) pa_nil))))
      (pss_cons (ps_if (pt_cmpR op_lt (pv 1) pe_int (nomark _)) (pss_one (ps_set (i := 2) sc__law_part.nd rfl (by first | exact Or.inl rfl | exact Or.inr rfl) (pe_op op_sub pe_int (pv 2)))) pss_nil)
      (pss_one (ps_ret (pe_tup (pa_cons (pe_op op_fdivP (pv 0) (pv 2)) (pa_cons (pe_op op_fdivP (pv 1) (pv 2)) pa_nil))))))))
    (fun ds r h B0 B => pure__law_part ds r h B0 B)
theorem ok__law_smallest {f : Addr} {fd : FuncData} (F : Fun K "_law_smallest" "_law_smallest" s__law_smallest f fd) (T : Txt K mg C_NoPart) (G__law_divisor : Cal P w K mg base CX0 1 "_law_divisor" ["_law_one", "_law_other"] (sp__law_divisor K)) : FnOk P w K mg base CX0 2 f fd ["_law_row"] (sp__law_smallest K) :=
  fun_ok (t := t__law_smallest K) F sc__law_smallest rfl (fun cdv A outer s H E hr => by exact (pss_cons (ps_set (i := 1) sc__law_smallest.nd rfl (by first | exact Or.inl rfl | exact Or.inr rfl) pe_int)
      (pss_cons (ps_for PassesOwn.never rfl (pi_seq (pv 0)) (pg_name (i := 2) sc__law_smallest.nd rfl (by first | exact Or.inl rfl | exact Or.inr rfl)) (pss_one (ps_set (i := 1) sc__law_smallest.nd rfl (by first | exact Or.inl rfl | exact Or.inr rfl) (pe_cal0 G__law_divisor (hr.mono (by decide)) (by rfl) (pa_cons (pv 1) (pa_cons (pv 2) pa_nil))))))
      (pss_cons (ps_if (pt_cmpR op_lt (pe_ix ix_seq (pv 0) (pe_un un_neg pe_int) (fun _ _ => rfl)) pe_int (nomark _)) (pss_one (ps_set (i := 1) sc__law_smallest.nd rfl (by first | exact Or.inl rfl | exact Or.inr rfl) (pe_op op_sub pe_int (pv 1)))) pss_nil)
      (pss_one (ps_ret (pe_lc (own := [("_law_one", 2)]) (g := (gName 2)) (tt := tYes) rfl sc__law_smallest.nd (pi_seq (pv 0)) (blkOk_by (N := M__law_smallest) (sc := defScope s__law_smallest) (by decide +kernel)) (fun _ _ _ _ _ => (pg_name (i := 2) sc__law_smallest.nd rfl (by first | exact Or.inl rfl | exact Or.inr rfl))) (fun _ _ _ _ _ => pts_nil) (fun _ _ _ _ _ => (pe_op op_fdivP (pv 2) (pv 1))))))))))
    (fun ds r h B0 B => pure__law_smallest ds r h B0 B)
theorem ok__law_by {f : Addr} {fd : FuncData} (F : Fun K "_law_by" "_law_by" s__law_by f fd) (T : Txt K mg C_NoPart) : FnOk P w K mg base CX0 1 f fd ["_law_row", "_law_other"] (sp__law_by K) :=
  fun_ok (t := t__law_by K) F sc__law_by rfl (fun cdv A outer s H E hr => by exact (pss_cons (by first | exact (ps_setLc (i := 2) (own := [("_law_k", 3)]) (g := (gName 3)) (tt := tYes) rfl sc__law_by.nd rfl rfl (sw_true rfl rfl rfl (by decide +kernel)) (pi_range1 (by rfl) T.b_range (pa_cons (pe_op op_sub (pe_op op_add (pe_callB call_len_seq (by rfl) T.b_len PySem.boot_len (pa_cons (pv 0) pa_nil)) (pe_callB call_len_seq (by rfl) T.b_len PySem.boot_len (pa_cons (pv 1) pa_nil))) pe_int) pa_nil)) (blkOk_by (N := M__law_by) (sc := defScope s__law_by) (by decide +kernel)) (fun _ _ _ _ _ => (pg_name (i := 3) sc__law_by.nd rfl (by first | exact Or.inl rfl | exact Or.inr rfl))) (fun _ _ _ _ _ => pts_nil) (fun _ _ _ _ _ => pe_int)) | exact (ps_set (i := 2) sc__law_by.nd rfl (by first | exact Or.inl rfl | exact Or.inr rfl) (pe_lc (own := [("_law_k", 3)]) (g := (gName 3)) (tt := tYes) rfl sc__law_by.nd (pi_range1 (by rfl) T.b_range (pa_cons (pe_op op_sub (pe_op op_add (pe_callB call_len_seq (by rfl) T.b_len PySem.boot_len (pa_cons (pv 0) pa_nil)) (pe_callB call_len_seq (by rfl) T.b_len PySem.boot_len (pa_cons (pv 1) pa_nil))) pe_int) pa_nil)) (blkOk_by (N := M__law_by) (sc := defScope s__law_by) (by decide +kernel)) (fun _ _ _ _ _ => (pg_name (i := 3) sc__law_by.nd rfl (by first | exact Or.inl rfl | exact Or.inr rfl))) (fun _ _ _ _ _ => pts_nil) (fun _ _ _ _ _ => pe_int))))
      (pss_cons (ps_for PassesOwn.never rfl (pi_range1 (by rfl) T.b_range (pa_cons (pe_callB call_len_seq (by rfl) T.b_len PySem.boot_len (pa_cons (pv 0) pa_nil)) pa_nil)) (pg_name (i := 3) sc__law_by.nd rfl (by first | exact Or.inl rfl | exact Or.inr rfl)) (pss_one (ps_for PassesOwn.never rfl (pi_range1 (by rfl) T.b_range (pa_cons (pe_callB call_len_seq (by rfl) T.b_len PySem.boot_len (pa_cons (pv 1) pa_nil)) pa_nil)) (pg_name (i := 4) sc__law_by.nd rfl (by first | exact Or.inl rfl | exact Or.inr rfl)) (pss_one (ps_asg (pe_op op_add (pe_ix ix_seq (pv 2) (pe_op op_add (pv 3) (pv 4)) (fun _ _ => rfl)) (pe_op op_mulX (pe_ix ix_seq (pv 0) (pv 3) (fun _ _ => rfl)) (pe_ix ix_seq (pv 1) (pv 4) (fun _ _ => rfl)))) (pg_sub (pv 2) (pe_op op_add (pv 3) (pv 4)) set_list))))))
      (pss_one (ps_ret (pv 2))))))
    (fun ds r h B0 B => pure__law_by ds r h B0 B)
theorem ok__law_sign {f : Addr} {fd : FuncData} (F : Fun K "_law_sign" "_law_sign" s__law_sign f fd) (T : Txt K mg C_NoPart) : FnOk P w K mg base CX0 1 f fd ["_law_number"] (sp__law_sign K) :=
  fun_ok (t := t__law_sign K) F sc__law_sign rfl (fun cdv A outer s H E hr => by exact (pss_cons (ps_if (pt_cmpR op_lt (pv 0) pe_int (nomark _)) (pss_one (ps_ret (pe_un un_neg pe_int))) pss_nil)
      (pss_one (ps_ret (pe_callTy call_int1 (by rfl) T.b_int (by rfl) (pa_cons (pe_cmpR op_gt (pv 0) pe_int (nomark _)) pa_nil))))))
    (fun ds r h B0 B => pure__law_sign ds r h B0 B)
theorem ok__law_two {f : Addr} {fd : FuncData} (F : Fun K "_law_two" "_law_two" s__law_two f fd) (T : Txt K mg C_NoPart) (G__law_sign : Cal P w K mg base CX0 1 "_law_sign" ["_law_number"] (sp__law_sign K)) : FnOk P w K mg base CX0 2 f fd ["_law_x", "_law_y", "_law_a"] (sp__law_two K) :=
  fun_ok (t := t__law_two K) F sc__law_two rfl (fun cdv A outer s H E hr => by exact (pss_cons (ps_if (PW.pt (pw_and (pt_cmpR op_ge (pv 0) pe_int (nomark _)) (pw_and1 (pt_cmpR op_ge (pv 1) pe_int (nomark _))))) (pss_one (ps_ret (pe_callTy call_int1 (by rfl) T.b_int (by rfl) (pa_cons (pe_or (pe_cmpR op_gt (pv 0) pe_int (nomark _)) (pe_one (pe_cmpR op_gt (pe_op op_mulX (pv 1) (pv 2)) pe_int (nomark _)))) pa_nil)))) pss_nil)
      (pss_cons (ps_if (PW.pt (pw_and (pt_cmpR op_le (pv 0) pe_int (nomark _)) (pw_and1 (pt_cmpR op_le (pv 1) pe_int (nomark _))))) (pss_one (ps_ret (pe_op op_sub pe_int (pe_callTy call_int1 (by rfl) T.b_int (by rfl) (pa_cons (pe_or (pe_cmpR op_lt (pv 0) pe_int (nomark _)) (pe_one (pe_cmpR op_lt (pe_op op_mulX (pv 1) (pv 2)) pe_int (nomark _)))) pa_nil))))) pss_nil)
      (pss_cons (ps_if (pt_cmpR op_gt (pv 0) pe_int (nomark _)) (pss_one (ps_ret (pe_cal0 G__law_sign (hr.mono (by decide)) (by rfl) (pa_cons (pe_op op_sub (pe_op op_mulX (pv 0) (pv 0)) (pe_op op_mulX (pe_op op_mulX (pv 1) (pv 1)) (pv 2))) pa_nil)))) pss_nil)
      (pss_one (ps_ret (pe_cal0 G__law_sign (hr.mono (by decide)) (by rfl) (pa_cons (pe_op op_sub (pe_op op_mulX (pe_op op_mulX (pv 1) (pv 1)) (pv 2)) (pe_op op_mulX (pv 0) (pv 0))) pa_nil))))))))
    (fun ds r h B0 B => pure__law_two ds r h B0 B)
theorem ok__law_four {f : Addr} {fd : FuncData} (F : Fun K "_law_four" "_law_four" s__law_four f fd) (T : Txt K mg C_NoPart) (G__law_two : Cal P w K mg base CX0 2 "_law_two" ["_law_x", "_law_y", "_law_a"] (sp__law_two K)) (G__law_sign : Cal P w K mg base CX0 1 "_law_sign" ["_law_number"] (sp__law_sign K)) (G__law_mul : Cal P w K mg base CX0 1 "_law_mul" ["_law_x", "_law_y", "_law_a"] (sp__law_mul K)) : FnOk P w K mg base CX0 3 f fd ["_law_one", "_law_a", "_law_b"] (sp__law_four K) :=
  fun_ok (t := t__law_four K) F sc__law_four rfl (fun cdv A outer s H E hr => by exact (pss_cons (ps_set (i := 3) sc__law_four.nd rfl (by first | exact Or.inl rfl | exact Or.inr rfl) (pe_cal0 G__law_two (hr.mono (by decide)) (by rfl) (pa_cons (pe_ix ix_seq (pv 0) pe_int (fun _ _ => rfl)) (pa_cons (pe_ix ix_seq (pv 0) pe_int (fun _ _ => rfl)) (pa_cons (pv 1) pa_nil)))))
      (pss_cons (ps_set (i := 4) sc__law_four.nd rfl (by first | exact Or.inl rfl | exact Or.inr rfl) (pe_op op_mulX (pe_cal0 G__law_two (hr.mono (by decide)) (by rfl) (pa_cons (pe_ix ix_seq (pv 0) pe_int (fun _ _ => rfl)) (pa_cons (pe_ix ix_seq (pv 0) pe_int (fun _ _ => rfl)) (pa_cons (pv 1) pa_nil)))) (pe_callTy call_int1 (by rfl) T.b_int (by rfl) (pa_cons (pe_cmpR op_gt (pv 2) pe_int (nomark _)) pa_nil))))
      (pss_cons (ps_if (pt_cmpR op_ge (pe_op op_mulX (pv 3) (pv 4)) pe_int (nomark _)) (pss_one (ps_ret (pe_cal0 G__law_sign (hr.mono (by decide)) (by rfl) (pa_cons (pe_op op_add (pv 3) (pv 4)) pa_nil)))) pss_nil)
      (pss_cons (ps_set (i := 5) sc__law_four.nd rfl (by first | exact Or.inl rfl | exact Or.inr rfl) (pe_cal0 G__law_mul (hr.mono (by decide)) (by rfl) (pa_cons (pe_slice sl_seq (pv 0) po_none (po_some pe_int)) (pa_cons (pe_slice sl_seq (pv 0) po_none (po_some pe_int)) (pa_cons (pv 1) pa_nil)))))
      (pss_cons (ps_set (i := 6) sc__law_four.nd rfl (by first | exact Or.inl rfl | exact Or.inr rfl) (pe_cal0 G__law_mul (hr.mono (by decide)) (by rfl) (pa_cons (pe_slice sl_seq (pv 0) (po_some pe_int) po_none) (pa_cons (pe_slice sl_seq (pv 0) (po_some pe_int) po_none) (pa_cons (pv 1) pa_nil)))))
      (pss_one (ps_ret (pe_op op_mulX (pv 3) (pe_cal0 G__law_two (hr.mono (by decide)) (by rfl) (pa_cons (pe_op op_sub (pe_ix ix_seq (pv 5) pe_int (fun _ _ => rfl)) (pe_op op_mulX (pv 2) (pe_ix ix_seq (pv 6) pe_int (fun _ _ => rfl)))) (pa_cons (pe_op op_sub (pe_ix ix_seq (pv 5) pe_int (fun _ _ => rfl)) (pe_op op_mulX (pv 2) (pe_ix ix_seq (pv 6) pe_int (fun _ _ => rfl)))) (pa_cons (pv 1) pa_nil)))))))))))))
    (fun ds r h B0 B => pure__law_four ds r h B0 B)
theorem ok__law_mul {f : Addr} {fd : FuncData} (F : Fun K "_law_mul" "_law_mul" s__law_mul f fd) (T : Txt K mg C_NoPart) : FnOk P w K mg base CX0 1 f fd ["_law_x", "_law_y", "_law_a"] (sp__law_mul K) :=
  fun_ok (t := t__law_mul K) F sc__law_mul rfl (fun cdv A outer s H E hr => by exact (pss_one (ps_ret (pe_lst (pa_cons (pe_op op_add (pe_op op_mulX (pe_ix ix_seq (pv 0) pe_int (fun _ _ => rfl)) (pe_ix ix_seq (pv 1) pe_int (fun _ _ => rfl))) (pe_op op_mulX (pe_op op_mulX (pv 2) (pe_ix ix_seq (pv 0) pe_int (fun _ _ => rfl))) (pe_ix ix_seq (pv 1) pe_int (fun _ _ => rfl)))) (pa_cons (pe_op op_add (pe_op op_mulX (pe_ix ix_seq (pv 0) pe_int (fun _ _ => rfl)) (pe_ix ix_seq (pv 1) pe_int (fun _ _ => rfl))) (pe_op op_mulX (pe_ix ix_seq (pv 0) pe_int (fun _ _ => rfl)) (pe_ix ix_seq (pv 1) pe_int (fun _ _ => rfl)))) pa_nil))))))
    (fun ds r h B0 B => pure__law_mul ds r h B0 B)
theorem ok__law_ends {f : Addr} {fd : FuncData} (F : Fun K "_law_ends" "_law_ends" s__law_ends f fd) (T : Txt K mg C_NoPart) (G__law_part : Cal P w K mg base CX0 2 "_law_part" ["_law_top", "_law_bottom"] (sp__law_part K)) : FnOk P w K mg base CX0 3 f fd ["_law_p", "_law_q", "_law_r", "_law_d"] (sp__law_ends K) :=
  fun_ok (t := t__law_ends K) F sc__law_ends rfl (fun cdv A outer s H E hr => by exact (pss_cons (ps_set (i := 4) sc__law_ends.nd rfl (by first | exact Or.inl rfl | exact Or.inr rfl) pe_int)
      (pss_cons (ps_while PassesOwn.never (pt_cmpR op_le (pe_op op_mulX (pv 4) (pv 4)) (pv 3) (nomark _)) (pss_one (ps_set (i := 4) sc__law_ends.nd rfl (by first | exact Or.inl rfl | exact Or.inr rfl) (pe_op op_add (pv 4) pe_int))))
      (pss_cons (ps_if (pt_cmpR op_gt (pv 1) pe_int (nomark _)) (pss_one (ps_ret (pe_tup (pa_cons (pe_cal0 G__law_part (hr.mono (by decide)) (by rfl) (pa_cons (pv 0) (pa_cons (pv 2) pa_nil))) (pa_cons (pe_cal0 G__law_part (hr.mono (by decide)) (by rfl) (pa_cons (pe_op op_add (pv 0) (pe_op op_mulX (pv 1) (pv 4))) (pa_cons (pv 2) pa_nil))) pa_nil))))) pss_nil)
      (pss_one (ps_ret (pe_tup (pa_cons (pe_cal0 G__law_part (hr.mono (by decide)) (by rfl) (pa_cons (pe_op op_add (pv 0) (pe_op op_mulX (pv 1) (pv 4))) (pa_cons (pv 2) pa_nil))) (pa_cons (pe_cal0 G__law_part (hr.mono (by decide)) (by rfl) (pa_cons (pv 0) (pa_cons (pv 2) pa_nil))) pa_nil)))))))))
    (fun ds r h B0 B => pure__law_ends ds r h B0 B)
theorem ok__law_quad_peg {f : Addr} {fd : FuncData} (F : Fun K "_law_quad_peg" "_law_quad_peg" s__law_quad_peg f fd) (T : Txt K mg C_NoPart) (G__law_ends : Cal P w K mg base CX0 3 "_law_ends" ["_law_p", "_law_q", "_law_r", "_law_d"] (sp__law_ends K)) (G__law_smallest : Cal P w K mg base CX0 2 "_law_smallest" ["_law_row"] (sp__law_smallest K)) : FnOk P w K mg base CX0 4 f fd ["_law_p", "_law_q", "_law_r", "_law_d"] (sp__law_quad_peg K) :=
  fun_ok (t := t__law_quad_peg K) F sc__law_quad_peg rfl (fun cdv A outer s H E hr => by exact (pss_cons (ps_set (i := 4) sc__law_quad_peg.nd rfl (by first | exact Or.inl rfl | exact Or.inr rfl) (pe_cal0 G__law_ends (hr.mono (by decide)) (by rfl) (pa_cons (pv 0) (pa_cons (pv 1) (pa_cons (pv 2) (pa_cons (pv 3) pa_nil))))))
      (pss_one (ps_ret (pe_tup (pa_cons (pe_callTy call_tuple_of (by rfl) T.b_tuple (by rfl) (pa_cons (pe_cal0 G__law_smallest (hr.mono (by decide)) (by rfl) (pa_cons (pe_lst (pa_cons (pe_op op_sub (pe_op op_mulX (pv 0) (pv 0)) (pe_op op_mulX (pe_op op_mulX (pv 1) (pv 1)) (pv 3))) (pa_cons (pe_op op_mulX (pe_op op_mulX (pe_un un_neg pe_int) (pv 0)) (pv 2)) (pa_cons (pe_op op_mulX (pv 2) (pv 2)) pa_nil)))) pa_nil)) pa_nil)) (pa_cons (pe_ix ix_seq (pv 4) pe_int (fun _ _ => rfl)) (pa_cons (pe_ix ix_seq (pv 4) pe_int (fun _ _ => rfl)) pa_nil))))))))
    (fun ds r h B0 B => pure__law_quad_peg ds r h B0 B)
theorem ok__law_quad {f : Addr} {fd : FuncData} (F : Fun K "_law_quad" "_law_quad" s__law_quad f fd) (T : Txt K mg C_NoPart) (G__law_cell_at : Cal P w K mg base CX0 1 "_law_cell_at" ["_law_script", "_law_k"] (sp__law_cell_at K)) : FnOk P w K mg base CX0 2 f fd ["_law_script", "_law_k"] (sp__law_quad K) :=
  fun_ok (t := t__law_quad K) F sc__law_quad rfl (fun cdv A outer s H E hr => by exact (pss_cons (ps_set (i := 2) sc__law_quad.nd rfl (by first | exact Or.inl rfl | exact Or.inr rfl) (pe_op op_sub (pe_op op_modN (pe_cal0 G__law_cell_at (hr.mono (by decide)) (by rfl) (pa_cons (pv 0) (pa_cons (pv 1) pa_nil))) pe_int) pe_int))
      (pss_cons (ps_if (pt_cmpR (op_eqD hr.units) (pe_op op_modN (pe_cal0 G__law_cell_at (hr.mono (by decide)) (by rfl) (pa_cons (pv 0) (pa_cons (pe_op op_add (pv 1) pe_int) pa_nil))) pe_int) pe_int (nomark _)) (pss_one (ps_set (i := 2) sc__law_quad.nd rfl (by first | exact Or.inl rfl | exact Or.inr rfl) (pe_op op_sub (pe_op op_modN (pe_cal0 G__law_cell_at (hr.mono (by decide)) (by rfl) (pa_cons (pv 0) (pa_cons (pv 1) pa_nil))) pe_int) (pe_op op_pow pe_int pe_int)))) pss_nil)
      (pss_cons (ps_set (i := 3) sc__law_quad.nd rfl (by first | exact Or.inl rfl | exact Or.inr rfl) (pe_op op_add pe_int (pe_op op_modN (pe_cal0 G__law_cell_at (hr.mono (by decide)) (by rfl) (pa_cons (pv 0) (pa_cons (pe_op op_add (pv 1) pe_int) pa_nil))) pe_int)))
      (pss_cons (ps_if (pt_cmpR (op_eqD hr.units) (pe_op op_modN (pe_op op_fdivP (pe_cal0 G__law_cell_at (hr.mono (by decide)) (by rfl) (pa_cons (pv 0) (pa_cons (pe_op op_add (pv 1) pe_int) pa_nil))) pe_int) pe_int) pe_int (nomark _)) (pss_one (ps_set (i := 3) sc__law_quad.nd rfl (by first | exact Or.inl rfl | exact Or.inr rfl) (pe_op op_sub pe_int (pv 3)))) pss_nil)
      (pss_cons (ps_set (i := 4) sc__law_quad.nd rfl (by first | exact Or.inl rfl | exact Or.inr rfl) (pe_op op_add pe_int (pe_op op_modN (pe_cal0 G__law_cell_at (hr.mono (by decide)) (by rfl) (pa_cons (pv 0) (pa_cons (pe_op op_add (pv 1) pe_int) pa_nil))) pe_int)))
      (pss_one (ps_ret (pe_tup (pa_cons (pv 2) (pa_cons (pv 3) (pa_cons (pv 4) (pa_cons (pe_op op_add pe_int (pe_op op_modN (pe_op op_fdivP (pe_cal0 G__law_cell_at (hr.mono (by decide)) (by rfl) (pa_cons (pv 0) (pa_cons (pe_op op_add (pv 1) pe_int) pa_nil))) pe_int) pe_int)) pa_nil)))))))))))))
    (fun ds r h B0 B => pure__law_quad ds r h B0 B)
theorem ok__law_two_quads {f : Addr} {fd : FuncData} (F : Fun K "_law_two_quads" "_law_two_quads" s__law_two_quads f fd) (T : Txt K mg C_NoPart) (G__law_quad : Cal P w K mg base CX0 2 "_law_quad" ["_law_script", "_law_k"] (sp__law_quad K)) (G__law_cell_at : Cal P w K mg base CX0 1 "_law_cell_at" ["_law_script", "_law_k"] (sp__law_cell_at K)) : FnOk P w K mg base CX0 3 f fd ["_law_script"] (sp__law_two_quads K) :=
  fun_ok (t := t__law_two_quads K) F sc__law_two_quads rfl (fun cdv A outer s H E hr => by exact (pss_cons (ps_set (i := 1) sc__law_two_quads.nd rfl (by first | exact Or.inl rfl | exact Or.inr rfl) (pe_cal0 G__law_quad (hr.mono (by decide)) (by rfl) (pa_cons (pv 0) (pa_cons pe_int pa_nil))))
      (pss_cons (ps_set (i := 2) sc__law_two_quads.nd rfl (by first | exact Or.inl rfl | exact Or.inr rfl) (pe_cal0 G__law_quad (hr.mono (by decide)) (by rfl) (pa_cons (pv 0) (pa_cons pe_int pa_nil))))
      (pss_cons (ps_set (i := 3) sc__law_two_quads.nd rfl (by first | exact Or.inl rfl | exact Or.inr rfl) (pe_op op_modN (pe_cal0 G__law_cell_at (hr.mono (by decide)) (by rfl) (pa_cons (pv 0) (pa_cons pe_int pa_nil))) pe_int))
      (pss_cons (ps_if (pt_cmpR (op_eqD hr.units) (pv 3) pe_int (nomark _)) (pss_one (ps_set (i := 2) sc__law_two_quads.nd rfl (by first | exact Or.inl rfl | exact Or.inr rfl) (pe_tup (pa_cons (pe_op op_sub pe_int (pe_ix ix_seq (pv 1) pe_int (fun _ _ => rfl))) (pa_cons (pe_op op_sub pe_int (pe_ix ix_seq (pv 1) pe_int (fun _ _ => rfl))) (pa_cons (pe_ix ix_seq (pv 1) pe_int (fun _ _ => rfl)) (pa_cons (pe_ix ix_seq (pv 1) pe_int (fun _ _ => rfl)) pa_nil))))))) pss_nil)
      (pss_cons (ps_if (pt_cmpR (op_eqD hr.units) (pv 3) pe_int (nomark _)) (pss_one (ps_set (i := 2) sc__law_two_quads.nd rfl (by first | exact Or.inl rfl | exact Or.inr rfl) (pe_tup (pa_cons (pe_ix ix_seq (pv 1) pe_int (fun _ _ => rfl)) (pa_cons (pe_op op_sub pe_int (pe_ix ix_seq (pv 1) pe_int (fun _ _ => rfl))) (pa_cons (pe_ix ix_seq (pv 1) pe_int (fun _ _ => rfl)) (pa_cons (pe_ix ix_seq (pv 1) pe_int (fun _ _ => rfl)) pa_nil))))))) pss_nil)
      (pss_cons (ps_if (PW.pt (pw_or (pt_cmpR (op_eqD hr.units) (pv 3) pe_int (nomark _)) (pw_or1 (pt_cmpR (op_eqD hr.units) (pv 3) pe_int (nomark _))))) (pss_one (ps_set (i := 2) sc__law_two_quads.nd rfl (by first | exact Or.inl rfl | exact Or.inr rfl) (pe_tup (pa_cons (pe_ix ix_seq (pv 2) pe_int (fun _ _ => rfl)) (pa_cons (pe_ix ix_seq (pv 2) pe_int (fun _ _ => rfl)) (pa_cons (pe_ix ix_seq (pv 2) pe_int (fun _ _ => rfl)) (pa_cons (pe_ix ix_seq (pv 1) pe_int (fun _ _ => rfl)) pa_nil))))))) pss_nil)
      (pss_cons (ps_if (pt_cmpR (op_eqD hr.units) (pv 3) pe_int (nomark _)) (pss_one (ps_set (i := 2) sc__law_two_quads.nd rfl (by first | exact Or.inl rfl | exact Or.inr rfl) (pe_tup (pa_cons (pe_ix ix_seq (pv 1) pe_int (fun _ _ => rfl)) (pa_cons (pe_ix ix_seq (pv 1) pe_int (fun _ _ => rfl)) (pa_cons (pe_ix ix_seq (pv 1) pe_int (fun _ _ => rfl)) (pa_cons (pe_ix ix_seq (pv 1) pe_int (fun _ _ => rfl)) pa_nil))))))) pss_nil)
      (pss_one (ps_ret (pe_tup (pa_cons (pv 1) (pa_cons (pv 2) pa_nil)))))))))))))
    (fun ds r h B0 B => pure__law_two_quads ds r h B0 B)
theorem ok__law_other_row {f : Addr} {fd : FuncData} (F : Fun K "_law_other_row" "_law_other_row" s__law_other_row f fd) (T : Txt K mg C_NoPart) (G__law_by : Cal P w K mg base CX0 1 "_law_by" ["_law_row", "_law_other"] (sp__law_by K)) : FnOk P w K mg base CX0 2 f fd ["_law_one", "_law_draw"] (sp__law_other_row K) :=
  fun_ok (t := t__law_other_row K) F sc__law_other_row rfl (fun cdv A outer s H E hr => by exact (pss_cons (ps_set (i := 2) sc__law_other_row.nd rfl (by first | exact Or.inl rfl | exact Or.inr rfl) (pe_op op_add (pe_op op_pow pe_int pe_int) (pe_op op_modN (pv 1) pe_int)))
      (pss_one (ps_ret (pe_tup (pa_cons (pe_callTy call_tuple_of (by rfl) T.b_tuple (by rfl) (pa_cons (pe_cal0 G__law_by (hr.mono (by decide)) (by rfl) (pa_cons (pe_callTy call_list_of (by rfl) T.b_list (by rfl) (pa_cons (pe_ix ix_seq (pv 0) pe_int (fun _ _ => rfl)) pa_nil)) (pa_cons (pe_lst (pa_cons (pe_op op_mulX (pv 2) (pe_op op_sub pe_int (pe_op op_mulX pe_int (pe_op op_modN (pv 1) pe_int)))) (pa_cons pe_int pa_nil))) pa_nil))) pa_nil)) (pa_cons (pe_ix ix_seq (pv 0) pe_int (fun _ _ => rfl)) (pa_cons (pe_ix ix_seq (pv 0) pe_int (fun _ _ => rfl)) pa_nil))))))))
    (fun ds r h B0 B => pure__law_other_row ds r h B0 B)
theorem ok__law_is {f : Addr} {fd : FuncData} (F : Fun K "_law_is" "_law_is" s__law_is f fd) (T : Txt K mg C_NoPart) (G__law_whole : Cal P w K mg base CX0 1 "_law_whole" ["_law_found"] (sp__law_whole K)) : FnOk P w K mg base CX0 2 f fd ["_law_found", "_law_due"] (sp__law_is K) :=
  fun_ok (t := t__law_is K) F sc__law_is rfl (fun cdv A outer s H E hr => by exact (pss_one (ps_ret (pe_and (pe_cal0 G__law_whole (hr.mono (by decide)) (by rfl) (pa_cons (pv 0) pa_nil)) (pe_one (pe_cmpR (op_eqD hr.units) (pv 0) (pv 1) (nomark _)))))))
    (fun ds r h B0 B => pure__law_is ds r h B0 B)
theorem ok__law_near {f : Addr} {fd : FuncData} (F : Fun K "_law_near" "_law_near" s__law_near f fd) (T : Txt K mg C_NoPart) (G_of_part : Cal P w K mg base CX0 3 "of_part" ["at"] (sp_of_part K)) (G_compare : Cal P w K mg base CX0 5 "compare" ["one", "other"] (sp_compare K)) (G__law_is : Cal P w K mg base CX0 2 "_law_is" ["_law_found", "_law_due"] (sp__law_is K)) (G__law_part : Cal P w K mg base CX0 2 "_law_part" ["_law_top", "_law_bottom"] (sp__law_part K)) : FnOk P w K mg base CX0 6 f fd ["_law_cell"] (sp__law_near K) :=
  fun_ok (t := t__law_near K) F sc__law_near rfl (fun cdv A outer s H E hr => by exact (pss_cons (ps_set (i := 1) sc__law_near.nd rfl (by first | exact Or.inl rfl | exact Or.inr rfl) (pe_op op_add pe_int (pe_op op_modN (pe_op op_fdivP (pv 0) pe_int) (pe_op op_pow pe_int pe_int))))
      (pss_cons (ps_set (i := 2) sc__law_near.nd rfl (by first | exact Or.inl rfl | exact Or.inr rfl) (pe_tup (pa_cons (pe_tup (pa_cons (pe_op op_sub (pe_un un_neg pe_int) (pe_op op_mulX (pv 1) (pv 1))) (pa_cons pe_int (pa_cons pe_int pa_nil)))) (pa_cons (pe_tup (pa_cons (pv 1) (pa_cons pe_int pa_nil))) (pa_cons (pe_tup (pa_cons (pe_op op_add (pv 1) pe_int) (pa_cons pe_int pa_nil))) pa_nil)))))
      (pss_cons (ps_if (pt_cmpR (op_eqD hr.units) (pe_op op_modN (pv 0) pe_int) pe_int (nomark _)) (pss_one (ps_ret (pe_and (pe_cal0 G__law_is (hr.mono (by decide)) (by rfl) (pa_cons (pe_cal0 G_compare (hr.mono (by decide)) (by rfl) (pa_cons (pv 2) (pa_cons (pe_cal0 G_of_part (hr.mono (by decide)) (by rfl) (pa_cons (pe_tup (pa_cons (pv 1) (pa_cons pe_int pa_nil))) pa_nil)) pa_nil))) (pa_cons pe_int pa_nil))) (pe_one (pe_cal0 G__law_is (hr.mono (by decide)) (by rfl) (pa_cons (pe_cal0 G_compare (hr.mono (by decide)) (by rfl) (pa_cons (pe_cal0 G_of_part (hr.mono (by decide)) (by rfl) (pa_cons (pe_tup (pa_cons (pv 1) (pa_cons pe_int pa_nil))) pa_nil)) (pa_cons (pv 2) pa_nil))) (pa_cons (pe_un un_neg pe_int) pa_nil))))))) pss_nil)
      (pss_cons (ps_set (i := 3) sc__law_near.nd rfl (by first | exact Or.inl rfl | exact Or.inr rfl) (pe_cal0 G__law_part (hr.mono (by decide)) (by rfl) (pa_cons (pe_op op_add (pe_op op_mulX (pe_op op_mulX pe_int (pv 1)) (pv 1)) pe_int) (pa_cons (pe_op op_mulX pe_int (pv 1)) pa_nil))))
      (pss_cons (ps_if (pt_cmpR (op_eqD hr.units) (pe_op op_modN (pv 0) pe_int) pe_int (nomark _)) (pss_one (ps_ret (pe_and (pe_cal0 G__law_is (hr.mono (by decide)) (by rfl) (pa_cons (pe_cal0 G_compare (hr.mono (by decide)) (by rfl) (pa_cons (pv 2) (pa_cons (pe_cal0 G_of_part (hr.mono (by decide)) (by rfl) (pa_cons (pv 3) pa_nil)) pa_nil))) (pa_cons (pe_un un_neg pe_int) pa_nil))) (pe_one (pe_cal0 G__law_is (hr.mono (by decide)) (by rfl) (pa_cons (pe_cal0 G_compare (hr.mono (by decide)) (by rfl) (pa_cons (pe_cal0 G_of_part (hr.mono (by decide)) (by rfl) (pa_cons (pv 3) pa_nil)) (pa_cons (pv 2) pa_nil))) (pa_cons pe_int pa_nil))))))) pss_nil)
      (pss_cons (ps_set (i := 4) sc__law_near.nd rfl (by first | exact Or.inl rfl | exact Or.inr rfl) (pe_tup (pa_cons (pe_tup (pa_cons (pe_op op_sub (pe_un un_neg pe_int) (pe_op op_mulX (pv 1) (pv 1))) (pa_cons pe_int (pa_cons pe_int pa_nil)))) (pa_cons (pe_tup (pa_cons (pv 1) (pa_cons pe_int pa_nil))) (pa_cons (pe_tup (pa_cons (pe_op op_add (pv 1) pe_int) (pa_cons pe_int pa_nil))) pa_nil)))))
      (pss_one (ps_ret (pe_and (pe_cal0 G__law_is (hr.mono (by decide)) (by rfl) (pa_cons (pe_cal0 G_compare (hr.mono (by decide)) (by rfl) (pa_cons (pv 2) (pa_cons (pv 4) pa_nil))) (pa_cons (pe_un un_neg pe_int) pa_nil))) (pe_one (pe_cal0 G__law_is (hr.mono (by decide)) (by rfl) (pa_cons (pe_cal0 G_compare (hr.mono (by decide)) (by rfl) (pa_cons (pv 4) (pa_cons (pv 2) pa_nil))) (pa_cons pe_int pa_nil))))))))))))))
    (fun ds r h B0 B => pure__law_near ds r h B0 B)
theorem ok_law {f : Addr} {fd : FuncData} (F : Fun K "law" "law" s_law f fd) (T : Txt K mg C_NoPart) (G__law_cell_at : Cal P w K mg base CX0 1 "_law_cell_at" ["_law_script", "_law_k"] (sp__law_cell_at K)) (G__law_near : Cal P w K mg base CX0 6 "_law_near" ["_law_cell"] (sp__law_near K)) (G__law_two_quads : Cal P w K mg base CX0 3 "_law_two_quads" ["_law_script"] (sp__law_two_quads K)) (G__law_quad_peg : Cal P w K mg base CX0 4 "_law_quad_peg" ["_law_p", "_law_q", "_law_r", "_law_d"] (sp__law_quad_peg K)) (G__law_other_row : Cal P w K mg base CX0 2 "_law_other_row" ["_law_one", "_law_draw"] (sp__law_other_row K)) (G__law_four : Cal P w K mg base CX0 3 "_law_four" ["_law_one", "_law_a", "_law_b"] (sp__law_four K)) (G_compare : Cal P w K mg base CX0 5 "compare" ["one", "other"] (sp_compare K)) (G__law_is : Cal P w K mg base CX0 2 "_law_is" ["_law_found", "_law_due"] (sp__law_is K)) (G__law_two : Cal P w K mg base CX0 2 "_law_two" ["_law_x", "_law_y", "_law_a"] (sp__law_two K)) (G_sign_of_peg : Cal P w K mg base CX0 3 "sign_of_peg" ["one"] (sp_sign_of_peg K)) (G__law_part : Cal P w K mg base CX0 2 "_law_part" ["_law_top", "_law_bottom"] (sp__law_part K)) (G_of_part : Cal P w K mg base CX0 3 "of_part" ["at"] (sp_of_part K)) : FnOk P w K mg base CX0 7 f fd ["_law_script"] (sp_law K) :=
  fun_ok (t := t_law K) F sc_law rfl (fun cdv A outer s H E hr => by exact (pss_cons (ps_if (pt_cmpR (op_eqD hr.units) (pe_op op_modN (pe_cal0 G__law_cell_at (hr.mono (by decide)) (by rfl) (pa_cons (pv 0) (pa_cons pe_int pa_nil))) pe_int) pe_int (nomark _)) (pss_one (ps_ret (pe_cal0 G__law_near (hr.mono (by decide)) (by rfl) (pa_cons (pe_op op_fdivP (pe_cal0 G__law_cell_at (hr.mono (by decide)) (by rfl) (pa_cons (pv 0) (pa_cons pe_int pa_nil))) pe_int) pa_nil)))) pss_nil)
      (pss_cons (ps_set (i := 1) sc_law.nd rfl (by first | exact Or.inl rfl | exact Or.inr rfl) (pe_cal0 G__law_two_quads (hr.mono (by decide)) (by rfl) (pa_cons (pv 0) pa_nil)))
      (pss_cons (ps_set (i := 2) sc_law.nd rfl (by first | exact Or.inl rfl | exact Or.inr rfl) (pe_ix ix_seq (pv 1) pe_int (fun _ _ => rfl)))
      (pss_cons (ps_set (i := 3) sc_law.nd rfl (by first | exact Or.inl rfl | exact Or.inr rfl) (pe_ix ix_seq (pv 1) pe_int (fun _ _ => rfl)))
      (pss_cons (ps_set (i := 4) sc_law.nd rfl (by first | exact Or.inl rfl | exact Or.inr rfl) (pe_ix ix_seq (pv 2) pe_int (fun _ _ => rfl)))
      (pss_cons (ps_set (i := 5) sc_law.nd rfl (by first | exact Or.inl rfl | exact Or.inr rfl) (pe_ix ix_seq (pv 3) pe_int (fun _ _ => rfl)))
      (pss_cons (ps_set (i := 6) sc_law.nd rfl (by first | exact Or.inl rfl | exact Or.inr rfl) (pe_cal0 G__law_quad_peg (hr.mono (by decide)) (by rfl) (pa_cons (pe_ix ix_seq (pv 2) pe_int (fun _ _ => rfl)) (pa_cons (pe_ix ix_seq (pv 2) pe_int (fun _ _ => rfl)) (pa_cons (pe_ix ix_seq (pv 2) pe_int (fun _ _ => rfl)) (pa_cons (pv 4) pa_nil))))))
      (pss_cons (ps_set (i := 7) sc_law.nd rfl (by first | exact Or.inl rfl | exact Or.inr rfl) (pe_cal0 G__law_quad_peg (hr.mono (by decide)) (by rfl) (pa_cons (pe_ix ix_seq (pv 3) pe_int (fun _ _ => rfl)) (pa_cons (pe_ix ix_seq (pv 3) pe_int (fun _ _ => rfl)) (pa_cons (pe_ix ix_seq (pv 3) pe_int (fun _ _ => rfl)) (pa_cons (pv 5) pa_nil))))))
      (pss_cons (ps_if (pt_cmpR (op_eqD hr.units) (pe_op op_modN (pe_cal0 G__law_cell_at (hr.mono (by decide)) (by rfl) (pa_cons (pv 0) (pa_cons pe_int pa_nil))) pe_int) pe_int (nomark _)) (pss_one (ps_set (i := 7) sc_law.nd rfl (by first | exact Or.inl rfl | exact Or.inr rfl) (pe_cal0 G__law_other_row (hr.mono (by decide)) (by rfl) (pa_cons (pv 7) (pa_cons (pe_op op_fdivP (pe_cal0 G__law_cell_at (hr.mono (by decide)) (by rfl) (pa_cons (pv 0) (pa_cons pe_int pa_nil))) pe_int) pa_nil))))) pss_nil)
      (pss_cons (ps_if (pt_cmpR (op_eqD hr.units) (pe_op op_modN (pe_cal0 G__law_cell_at (hr.mono (by decide)) (by rfl) (pa_cons (pv 0) (pa_cons pe_int pa_nil))) pe_int) pe_int (nomark _)) (pss_one (ps_set (i := 6) sc_law.nd rfl (by first | exact Or.inl rfl | exact Or.inr rfl) (pe_cal0 G__law_other_row (hr.mono (by decide)) (by rfl) (pa_cons (pv 6) (pa_cons (pe_op op_fdivP (pe_cal0 G__law_cell_at (hr.mono (by decide)) (by rfl) (pa_cons (pv 0) (pa_cons pe_int pa_nil))) pe_int) pa_nil))))) pss_nil)
      (pss_cons (ps_set (i := 8) sc_law.nd rfl (by first | exact Or.inl rfl | exact Or.inr rfl) (pe_lst (pa_cons (pe_op op_sub (pe_op op_mulX (pe_ix ix_seq (pv 2) pe_int (fun _ _ => rfl)) (pe_ix ix_seq (pv 3) pe_int (fun _ _ => rfl))) (pe_op op_mulX (pe_ix ix_seq (pv 3) pe_int (fun _ _ => rfl)) (pe_ix ix_seq (pv 2) pe_int (fun _ _ => rfl)))) (pa_cons (pe_op op_mulX (pe_ix ix_seq (pv 2) pe_int (fun _ _ => rfl)) (pe_ix ix_seq (pv 3) pe_int (fun _ _ => rfl))) (pa_cons (pe_op op_sub pe_int (pe_op op_mulX (pe_ix ix_seq (pv 3) pe_int (fun _ _ => rfl)) (pe_ix ix_seq (pv 2) pe_int (fun _ _ => rfl)))) (pa_cons pe_int pa_nil))))))
      (pss_cons (ps_set (i := 9) sc_law.nd rfl (by first | exact Or.inl rfl | exact Or.inr rfl) (pe_cal0 G__law_four (hr.mono (by decide)) (by rfl) (pa_cons (pv 8) (pa_cons (pv 4) (pa_cons (pv 5) pa_nil)))))
      (pss_cons (ps_if (PW.pt (pw_or (pt_not (pt_truth (pe_cal0 G__law_is (hr.mono (by decide)) (by rfl) (pa_cons (pe_cal0 G_compare (hr.mono (by decide)) (by rfl) (pa_cons (pv 6) (pa_cons (pv 7) pa_nil))) (pa_cons (pv 9) pa_nil))) (by intro _; rfl))) (pw_or1 (pt_not (pt_truth (pe_cal0 G__law_is (hr.mono (by decide)) (by rfl) (pa_cons (pe_cal0 G_compare (hr.mono (by decide)) (by rfl) (pa_cons (pv 7) (pa_cons (pv 6) pa_nil))) (pa_cons (pe_op op_sub pe_int (pv 9)) pa_nil))) (by intro _; rfl)))))) (pss_one (ps_ret pe_bl)) pss_nil)
      (pss_cons (ps_if (pt_not (pt_truth (pe_cal0 G__law_is (hr.mono (by decide)) (by rfl) (pa_cons (pe_cal0 G_sign_of_peg (hr.mono (by decide)) (by rfl) (pa_cons (pv 6) pa_nil)) (pa_cons (pe_cal0 G__law_two (hr.mono (by decide)) (by rfl) (pa_cons (pe_ix ix_seq (pv 2) pe_int (fun _ _ => rfl)) (pa_cons (pe_ix ix_seq (pv 2) pe_int (fun _ _ => rfl)) (pa_cons (pv 4) pa_nil)))) pa_nil))) (by intro _; rfl))) (pss_one (ps_ret pe_bl)) pss_nil)
      (pss_cons (ps_if (pt_not (pt_truth (pe_cal0 G__law_is (hr.mono (by decide)) (by rfl) (pa_cons (pe_cal0 G_sign_of_peg (hr.mono (by decide)) (by rfl) (pa_cons (pv 7) pa_nil)) (pa_cons (pe_cal0 G__law_two (hr.mono (by decide)) (by rfl) (pa_cons (pe_ix ix_seq (pv 3) pe_int (fun _ _ => rfl)) (pa_cons (pe_ix ix_seq (pv 3) pe_int (fun _ _ => rfl)) (pa_cons (pv 5) pa_nil)))) pa_nil))) (by intro _; rfl))) (pss_one (ps_ret pe_bl)) pss_nil)
      (pss_cons (ps_set (i := 10) sc_law.nd rfl (by first | exact Or.inl rfl | exact Or.inr rfl) (pe_cal0 G__law_part (hr.mono (by decide)) (by rfl) (pa_cons (pe_op op_sub (pe_op op_modN (pe_cal0 G__law_cell_at (hr.mono (by decide)) (by rfl) (pa_cons (pv 0) (pa_cons pe_int pa_nil))) pe_int) pe_int) (pa_cons (pe_op op_add pe_int (pe_op op_modN (pe_cal0 G__law_cell_at (hr.mono (by decide)) (by rfl) (pa_cons (pv 0) (pa_cons pe_int pa_nil))) pe_int)) pa_nil))))
      (pss_cons (ps_set (i := 9) sc_law.nd rfl (by first | exact Or.inl rfl | exact Or.inr rfl) (pe_cal0 G__law_two (hr.mono (by decide)) (by rfl) (pa_cons (pe_op op_sub (pe_op op_mulX (pe_ix ix_seq (pv 2) pe_int (fun _ _ => rfl)) (pe_ix ix_seq (pv 10) pe_int (fun _ _ => rfl))) (pe_op op_mulX (pe_ix ix_seq (pv 10) pe_int (fun _ _ => rfl)) (pe_ix ix_seq (pv 2) pe_int (fun _ _ => rfl)))) (pa_cons (pe_op op_mulX (pe_ix ix_seq (pv 2) pe_int (fun _ _ => rfl)) (pe_ix ix_seq (pv 10) pe_int (fun _ _ => rfl))) (pa_cons (pv 4) pa_nil)))))
      (pss_one (ps_ret (pe_and (pe_cal0 G__law_is (hr.mono (by decide)) (by rfl) (pa_cons (pe_cal0 G_compare (hr.mono (by decide)) (by rfl) (pa_cons (pv 6) (pa_cons (pe_cal0 G_of_part (hr.mono (by decide)) (by rfl) (pa_cons (pv 10) pa_nil)) pa_nil))) (pa_cons (pv 9) pa_nil))) (pe_one (pe_cal0 G__law_is (hr.mono (by decide)) (by rfl) (pa_cons (pe_cal0 G_compare (hr.mono (by decide)) (by rfl) (pa_cons (pe_cal0 G_of_part (hr.mono (by decide)) (by rfl) (pa_cons (pv 10) pa_nil)) (pa_cons (pv 6) pa_nil))) (pa_cons (pe_op op_sub pe_int (pv 9)) pa_nil)))))))))))))))))))))))))
    (fun ds r h B0 B => pure_law ds r h B0 B)
end
theorem all_mk {l : PySem.W.OpenLaw} {w : World} {K : PySem.W.Frag} {h : Heap} {mg : Str → Option Value} {fa : Addr} {C_NoPart : Addr} (X : K.In h) (G : h.Ns mainGlobals mg) (hfa : mg "law" = some (.ref fa))
    {f_part f_below f_part_sum f_middle f_sign f_sign_at f_bare f_common_row f_largest f_value_at f_digits f_quotient f_lowered f_of_part f_halved f_compare f_alike f_overlapping f_sign_of_peg f__law_whole f__law_cell_at f__law_divisor f__law_part f__law_smallest f__law_by f__law_sign f__law_two f__law_four f__law_mul f__law_ends f__law_quad_peg f__law_quad f__law_two_quads f__law_other_row f__law_is f__law_near f_law : Addr} {od_part an_part od_below an_below od_part_sum an_part_sum od_middle an_middle od_sign an_sign od_sign_at an_sign_at od_bare an_bare od_common_row an_common_row od_largest an_largest od_value_at an_value_at od_digits an_digits od_quotient an_quotient od_lowered an_lowered od_of_part an_of_part od_halved an_halved od_compare an_compare od_alike an_alike od_overlapping an_overlapping od_sign_of_peg an_sign_of_peg od__law_whole an__law_whole od__law_cell_at an__law_cell_at od__law_divisor an__law_divisor od__law_part an__law_part od__law_smallest an__law_smallest od__law_by an__law_by od__law_sign an__law_sign od__law_two an__law_two od__law_four an__law_four od__law_mul an__law_mul od__law_ends an__law_ends od__law_quad_peg an__law_quad_peg od__law_quad an__law_quad od__law_two_quads an__law_two_quads od__law_other_row an__law_other_row od__law_is an__law_is od__law_near an__law_near od_law an_law : Option Addr} {sl_part sl_below sl_part_sum sl_middle sl_sign sl_sign_at sl_bare sl_common_row sl_largest sl_value_at sl_digits sl_quotient sl_lowered sl_of_part sl_halved sl_compare sl_alike sl_overlapping sl_sign_of_peg sl__law_whole sl__law_cell_at sl__law_divisor sl__law_part sl__law_smallest sl__law_by sl__law_sign sl__law_two sl__law_four sl__law_mul sl__law_ends sl__law_quad_peg sl__law_quad sl__law_two_quads sl__law_other_row sl__law_is sl__law_near sl_law : Array (Option Value)} {oc_part kV_part dc_part pm_part cd_part ct_part oc_below kV_below dc_below pm_below cd_below ct_below oc_part_sum kV_part_sum dc_part_sum pm_part_sum cd_part_sum ct_part_sum oc_middle kV_middle dc_middle pm_middle cd_middle ct_middle oc_sign kV_sign dc_sign pm_sign cd_sign ct_sign oc_sign_at kV_sign_at dc_sign_at pm_sign_at cd_sign_at ct_sign_at oc_bare kV_bare dc_bare pm_bare cd_bare ct_bare oc_common_row kV_common_row dc_common_row pm_common_row cd_common_row ct_common_row oc_largest kV_largest dc_largest pm_largest cd_largest ct_largest oc_value_at kV_value_at dc_value_at pm_value_at cd_value_at ct_value_at oc_digits kV_digits dc_digits pm_digits cd_digits ct_digits oc_quotient kV_quotient dc_quotient pm_quotient cd_quotient ct_quotient oc_lowered kV_lowered dc_lowered pm_lowered cd_lowered ct_lowered oc_of_part kV_of_part dc_of_part pm_of_part cd_of_part ct_of_part oc_halved kV_halved dc_halved pm_halved cd_halved ct_halved oc_compare kV_compare dc_compare pm_compare cd_compare ct_compare oc_alike kV_alike dc_alike pm_alike cd_alike ct_alike oc_overlapping kV_overlapping dc_overlapping pm_overlapping cd_overlapping ct_overlapping oc_sign_of_peg kV_sign_of_peg dc_sign_of_peg pm_sign_of_peg cd_sign_of_peg ct_sign_of_peg oc__law_whole kV__law_whole dc__law_whole pm__law_whole cd__law_whole ct__law_whole oc__law_cell_at kV__law_cell_at dc__law_cell_at pm__law_cell_at cd__law_cell_at ct__law_cell_at oc__law_divisor kV__law_divisor dc__law_divisor pm__law_divisor cd__law_divisor ct__law_divisor oc__law_part kV__law_part dc__law_part pm__law_part cd__law_part ct__law_part oc__law_smallest kV__law_smallest dc__law_smallest pm__law_smallest cd__law_smallest ct__law_smallest oc__law_by kV__law_by dc__law_by pm__law_by cd__law_by ct__law_by oc__law_sign kV__law_sign dc__law_sign pm__law_sign cd__law_sign ct__law_sign oc__law_two kV__law_two dc__law_two pm__law_two cd__law_two ct__law_two oc__law_four kV__law_four dc__law_four pm__law_four cd__law_four ct__law_four oc__law_mul kV__law_mul dc__law_mul pm__law_mul cd__law_mul ct__law_mul oc__law_ends kV__law_ends dc__law_ends pm__law_ends cd__law_ends ct__law_ends oc__law_quad_peg kV__law_quad_peg dc__law_quad_peg pm__law_quad_peg cd__law_quad_peg ct__law_quad_peg oc__law_quad kV__law_quad dc__law_quad pm__law_quad cd__law_quad ct__law_quad oc__law_two_quads kV__law_two_quads dc__law_two_quads pm__law_two_quads cd__law_two_quads ct__law_two_quads oc__law_other_row kV__law_other_row dc__law_other_row pm__law_other_row cd__law_other_row ct__law_other_row oc__law_is kV__law_is dc__law_is pm__law_is cd__law_is ct__law_is oc__law_near kV__law_near dc__law_near pm__law_near cd__law_near ct__law_near oc_law kV_law dc_law pm_law cd_law ct_law : Value}
    {tk_SPARE : Tok}
    (a_NoPart : PySem.W.nsIn K mainGlobals "NoPart" = some (some (.ref C_NoPart)))
    (a_part : PySem.W.nsIn K mainGlobals "part" = some (some (.ref f_part)))
    (l_part : K.lookup f_part = some ⟨oc_part, od_part, .func (PySem.W.fnOf "part" "part" (defArgs s_part) (defBody s_part) (defScope s_part) .none kV_part dc_part pm_part an_part cd_part ct_part), sl_part⟩)
    (c_part : PySem.W.codeIn K cd_part "part" = true)
    (k_part : PySem.W.keepIn K (.ref f_part) = true)
    (a_below : PySem.W.nsIn K mainGlobals "below" = some (some (.ref f_below)))
    (l_below : K.lookup f_below = some ⟨oc_below, od_below, .func (PySem.W.fnOf "below" "below" (defArgs s_below) (defBody s_below) (defScope s_below) .none kV_below dc_below pm_below an_below cd_below ct_below), sl_below⟩)
    (c_below : PySem.W.codeIn K cd_below "below" = true)
    (k_below : PySem.W.keepIn K (.ref f_below) = true)
    (a_part_sum : PySem.W.nsIn K mainGlobals "part_sum" = some (some (.ref f_part_sum)))
    (l_part_sum : K.lookup f_part_sum = some ⟨oc_part_sum, od_part_sum, .func (PySem.W.fnOf "part_sum" "part_sum" (defArgs s_part_sum) (defBody s_part_sum) (defScope s_part_sum) .none kV_part_sum dc_part_sum pm_part_sum an_part_sum cd_part_sum ct_part_sum), sl_part_sum⟩)
    (c_part_sum : PySem.W.codeIn K cd_part_sum "part_sum" = true)
    (k_part_sum : PySem.W.keepIn K (.ref f_part_sum) = true)
    (a_middle : PySem.W.nsIn K mainGlobals "middle" = some (some (.ref f_middle)))
    (l_middle : K.lookup f_middle = some ⟨oc_middle, od_middle, .func (PySem.W.fnOf "middle" "middle" (defArgs s_middle) (defBody s_middle) (defScope s_middle) .none kV_middle dc_middle pm_middle an_middle cd_middle ct_middle), sl_middle⟩)
    (c_middle : PySem.W.codeIn K cd_middle "middle" = true)
    (k_middle : PySem.W.keepIn K (.ref f_middle) = true)
    (a_sign : PySem.W.nsIn K mainGlobals "sign" = some (some (.ref f_sign)))
    (l_sign : K.lookup f_sign = some ⟨oc_sign, od_sign, .func (PySem.W.fnOf "sign" "sign" (defArgs s_sign) (defBody s_sign) (defScope s_sign) .none kV_sign dc_sign pm_sign an_sign cd_sign ct_sign), sl_sign⟩)
    (c_sign : PySem.W.codeIn K cd_sign "sign" = true)
    (k_sign : PySem.W.keepIn K (.ref f_sign) = true)
    (a_sign_at : PySem.W.nsIn K mainGlobals "sign_at" = some (some (.ref f_sign_at)))
    (l_sign_at : K.lookup f_sign_at = some ⟨oc_sign_at, od_sign_at, .func (PySem.W.fnOf "sign_at" "sign_at" (defArgs s_sign_at) (defBody s_sign_at) (defScope s_sign_at) .none kV_sign_at dc_sign_at pm_sign_at an_sign_at cd_sign_at ct_sign_at), sl_sign_at⟩)
    (c_sign_at : PySem.W.codeIn K cd_sign_at "sign_at" = true)
    (k_sign_at : PySem.W.keepIn K (.ref f_sign_at) = true)
    (a_bare : PySem.W.nsIn K mainGlobals "bare" = some (some (.ref f_bare)))
    (l_bare : K.lookup f_bare = some ⟨oc_bare, od_bare, .func (PySem.W.fnOf "bare" "bare" (defArgs s_bare) (defBody s_bare) (defScope s_bare) .none kV_bare dc_bare pm_bare an_bare cd_bare ct_bare), sl_bare⟩)
    (c_bare : PySem.W.codeIn K cd_bare "bare" = true)
    (k_bare : PySem.W.keepIn K (.ref f_bare) = true)
    (a_common_row : PySem.W.nsIn K mainGlobals "common_row" = some (some (.ref f_common_row)))
    (l_common_row : K.lookup f_common_row = some ⟨oc_common_row, od_common_row, .func (PySem.W.fnOf "common_row" "common_row" (defArgs s_common_row) (defBody s_common_row) (defScope s_common_row) .none kV_common_row dc_common_row pm_common_row an_common_row cd_common_row ct_common_row), sl_common_row⟩)
    (c_common_row : PySem.W.codeIn K cd_common_row "common_row" = true)
    (k_common_row : PySem.W.keepIn K (.ref f_common_row) = true)
    (a_largest : PySem.W.nsIn K mainGlobals "largest" = some (some (.ref f_largest)))
    (l_largest : K.lookup f_largest = some ⟨oc_largest, od_largest, .func (PySem.W.fnOf "largest" "largest" (defArgs s_largest) (defBody s_largest) (defScope s_largest) .none kV_largest dc_largest pm_largest an_largest cd_largest ct_largest), sl_largest⟩)
    (c_largest : PySem.W.codeIn K cd_largest "largest" = true)
    (k_largest : PySem.W.keepIn K (.ref f_largest) = true)
    (a_value_at : PySem.W.nsIn K mainGlobals "value_at" = some (some (.ref f_value_at)))
    (l_value_at : K.lookup f_value_at = some ⟨oc_value_at, od_value_at, .func (PySem.W.fnOf "value_at" "value_at" (defArgs s_value_at) (defBody s_value_at) (defScope s_value_at) .none kV_value_at dc_value_at pm_value_at an_value_at cd_value_at ct_value_at), sl_value_at⟩)
    (c_value_at : PySem.W.codeIn K cd_value_at "value_at" = true)
    (k_value_at : PySem.W.keepIn K (.ref f_value_at) = true)
    (a_digits : PySem.W.nsIn K mainGlobals "digits" = some (some (.ref f_digits)))
    (l_digits : K.lookup f_digits = some ⟨oc_digits, od_digits, .func (PySem.W.fnOf "digits" "digits" (defArgs s_digits) (defBody s_digits) (defScope s_digits) .none kV_digits dc_digits pm_digits an_digits cd_digits ct_digits), sl_digits⟩)
    (c_digits : PySem.W.codeIn K cd_digits "digits" = true)
    (k_digits : PySem.W.keepIn K (.ref f_digits) = true)
    (a_quotient : PySem.W.nsIn K mainGlobals "quotient" = some (some (.ref f_quotient)))
    (l_quotient : K.lookup f_quotient = some ⟨oc_quotient, od_quotient, .func (PySem.W.fnOf "quotient" "quotient" (defArgs s_quotient) (defBody s_quotient) (defScope s_quotient) .none kV_quotient dc_quotient pm_quotient an_quotient cd_quotient ct_quotient), sl_quotient⟩)
    (c_quotient : PySem.W.codeIn K cd_quotient "quotient" = true)
    (k_quotient : PySem.W.keepIn K (.ref f_quotient) = true)
    (a_lowered : PySem.W.nsIn K mainGlobals "lowered" = some (some (.ref f_lowered)))
    (l_lowered : K.lookup f_lowered = some ⟨oc_lowered, od_lowered, .func (PySem.W.fnOf "lowered" "lowered" (defArgs s_lowered) (defBody s_lowered) (defScope s_lowered) .none kV_lowered dc_lowered pm_lowered an_lowered cd_lowered ct_lowered), sl_lowered⟩)
    (c_lowered : PySem.W.codeIn K cd_lowered "lowered" = true)
    (k_lowered : PySem.W.keepIn K (.ref f_lowered) = true)
    (a_of_part : PySem.W.nsIn K mainGlobals "of_part" = some (some (.ref f_of_part)))
    (l_of_part : K.lookup f_of_part = some ⟨oc_of_part, od_of_part, .func (PySem.W.fnOf "of_part" "of_part" (defArgs s_of_part) (defBody s_of_part) (defScope s_of_part) .none kV_of_part dc_of_part pm_of_part an_of_part cd_of_part ct_of_part), sl_of_part⟩)
    (c_of_part : PySem.W.codeIn K cd_of_part "of_part" = true)
    (k_of_part : PySem.W.keepIn K (.ref f_of_part) = true)
    (a_halved : PySem.W.nsIn K mainGlobals "halved" = some (some (.ref f_halved)))
    (l_halved : K.lookup f_halved = some ⟨oc_halved, od_halved, .func (PySem.W.fnOf "halved" "halved" (defArgs s_halved) (defBody s_halved) (defScope s_halved) .none kV_halved dc_halved pm_halved an_halved cd_halved ct_halved), sl_halved⟩)
    (c_halved : PySem.W.codeIn K cd_halved "halved" = true)
    (k_halved : PySem.W.keepIn K (.ref f_halved) = true)
    (a_compare : PySem.W.nsIn K mainGlobals "compare" = some (some (.ref f_compare)))
    (l_compare : K.lookup f_compare = some ⟨oc_compare, od_compare, .func (PySem.W.fnOf "compare" "compare" (defArgs s_compare) (defBody s_compare) (defScope s_compare) .none kV_compare dc_compare pm_compare an_compare cd_compare ct_compare), sl_compare⟩)
    (c_compare : PySem.W.codeIn K cd_compare "compare" = true)
    (k_compare : PySem.W.keepIn K (.ref f_compare) = true)
    (a_alike : PySem.W.nsIn K mainGlobals "alike" = some (some (.ref f_alike)))
    (l_alike : K.lookup f_alike = some ⟨oc_alike, od_alike, .func (PySem.W.fnOf "alike" "alike" (defArgs s_alike) (defBody s_alike) (defScope s_alike) .none kV_alike dc_alike pm_alike an_alike cd_alike ct_alike), sl_alike⟩)
    (c_alike : PySem.W.codeIn K cd_alike "alike" = true)
    (k_alike : PySem.W.keepIn K (.ref f_alike) = true)
    (a_overlapping : PySem.W.nsIn K mainGlobals "overlapping" = some (some (.ref f_overlapping)))
    (l_overlapping : K.lookup f_overlapping = some ⟨oc_overlapping, od_overlapping, .func (PySem.W.fnOf "overlapping" "overlapping" (defArgs s_overlapping) (defBody s_overlapping) (defScope s_overlapping) .none kV_overlapping dc_overlapping pm_overlapping an_overlapping cd_overlapping ct_overlapping), sl_overlapping⟩)
    (c_overlapping : PySem.W.codeIn K cd_overlapping "overlapping" = true)
    (k_overlapping : PySem.W.keepIn K (.ref f_overlapping) = true)
    (a_sign_of_peg : PySem.W.nsIn K mainGlobals "sign_of_peg" = some (some (.ref f_sign_of_peg)))
    (l_sign_of_peg : K.lookup f_sign_of_peg = some ⟨oc_sign_of_peg, od_sign_of_peg, .func (PySem.W.fnOf "sign_of_peg" "sign_of_peg" (defArgs s_sign_of_peg) (defBody s_sign_of_peg) (defScope s_sign_of_peg) .none kV_sign_of_peg dc_sign_of_peg pm_sign_of_peg an_sign_of_peg cd_sign_of_peg ct_sign_of_peg), sl_sign_of_peg⟩)
    (c_sign_of_peg : PySem.W.codeIn K cd_sign_of_peg "sign_of_peg" = true)
    (k_sign_of_peg : PySem.W.keepIn K (.ref f_sign_of_peg) = true)
    (a__law_whole : PySem.W.nsIn K mainGlobals "_law_whole" = some (some (.ref f__law_whole)))
    (l__law_whole : K.lookup f__law_whole = some ⟨oc__law_whole, od__law_whole, .func (PySem.W.fnOf "_law_whole" "_law_whole" (defArgs s__law_whole) (defBody s__law_whole) (defScope s__law_whole) .none kV__law_whole dc__law_whole pm__law_whole an__law_whole cd__law_whole ct__law_whole), sl__law_whole⟩)
    (c__law_whole : PySem.W.codeIn K cd__law_whole "_law_whole" = true)
    (k__law_whole : PySem.W.keepIn K (.ref f__law_whole) = true)
    (a__law_cell_at : PySem.W.nsIn K mainGlobals "_law_cell_at" = some (some (.ref f__law_cell_at)))
    (l__law_cell_at : K.lookup f__law_cell_at = some ⟨oc__law_cell_at, od__law_cell_at, .func (PySem.W.fnOf "_law_cell_at" "_law_cell_at" (defArgs s__law_cell_at) (defBody s__law_cell_at) (defScope s__law_cell_at) .none kV__law_cell_at dc__law_cell_at pm__law_cell_at an__law_cell_at cd__law_cell_at ct__law_cell_at), sl__law_cell_at⟩)
    (c__law_cell_at : PySem.W.codeIn K cd__law_cell_at "_law_cell_at" = true)
    (k__law_cell_at : PySem.W.keepIn K (.ref f__law_cell_at) = true)
    (a__law_divisor : PySem.W.nsIn K mainGlobals "_law_divisor" = some (some (.ref f__law_divisor)))
    (l__law_divisor : K.lookup f__law_divisor = some ⟨oc__law_divisor, od__law_divisor, .func (PySem.W.fnOf "_law_divisor" "_law_divisor" (defArgs s__law_divisor) (defBody s__law_divisor) (defScope s__law_divisor) .none kV__law_divisor dc__law_divisor pm__law_divisor an__law_divisor cd__law_divisor ct__law_divisor), sl__law_divisor⟩)
    (c__law_divisor : PySem.W.codeIn K cd__law_divisor "_law_divisor" = true)
    (k__law_divisor : PySem.W.keepIn K (.ref f__law_divisor) = true)
    (a__law_part : PySem.W.nsIn K mainGlobals "_law_part" = some (some (.ref f__law_part)))
    (l__law_part : K.lookup f__law_part = some ⟨oc__law_part, od__law_part, .func (PySem.W.fnOf "_law_part" "_law_part" (defArgs s__law_part) (defBody s__law_part) (defScope s__law_part) .none kV__law_part dc__law_part pm__law_part an__law_part cd__law_part ct__law_part), sl__law_part⟩)
    (c__law_part : PySem.W.codeIn K cd__law_part "_law_part" = true)
    (k__law_part : PySem.W.keepIn K (.ref f__law_part) = true)
    (a__law_smallest : PySem.W.nsIn K mainGlobals "_law_smallest" = some (some (.ref f__law_smallest)))
    (l__law_smallest : K.lookup f__law_smallest = some ⟨oc__law_smallest, od__law_smallest, .func (PySem.W.fnOf "_law_smallest" "_law_smallest" (defArgs s__law_smallest) (defBody s__law_smallest) (defScope s__law_smallest) .none kV__law_smallest dc__law_smallest pm__law_smallest an__law_smallest cd__law_smallest ct__law_smallest), sl__law_smallest⟩)
    (c__law_smallest : PySem.W.codeIn K cd__law_smallest "_law_smallest" = true)
    (k__law_smallest : PySem.W.keepIn K (.ref f__law_smallest) = true)
    (a__law_by : PySem.W.nsIn K mainGlobals "_law_by" = some (some (.ref f__law_by)))
    (l__law_by : K.lookup f__law_by = some ⟨oc__law_by, od__law_by, .func (PySem.W.fnOf "_law_by" "_law_by" (defArgs s__law_by) (defBody s__law_by) (defScope s__law_by) .none kV__law_by dc__law_by pm__law_by an__law_by cd__law_by ct__law_by), sl__law_by⟩)
    (c__law_by : PySem.W.codeIn K cd__law_by "_law_by" = true)
    (k__law_by : PySem.W.keepIn K (.ref f__law_by) = true)
    (a__law_sign : PySem.W.nsIn K mainGlobals "_law_sign" = some (some (.ref f__law_sign)))
    (l__law_sign : K.lookup f__law_sign = some ⟨oc__law_sign, od__law_sign, .func (PySem.W.fnOf "_law_sign" "_law_sign" (defArgs s__law_sign) (defBody s__law_sign) (defScope s__law_sign) .none kV__law_sign dc__law_sign pm__law_sign an__law_sign cd__law_sign ct__law_sign), sl__law_sign⟩)
    (c__law_sign : PySem.W.codeIn K cd__law_sign "_law_sign" = true)
    (k__law_sign : PySem.W.keepIn K (.ref f__law_sign) = true)
    (a__law_two : PySem.W.nsIn K mainGlobals "_law_two" = some (some (.ref f__law_two)))
    (l__law_two : K.lookup f__law_two = some ⟨oc__law_two, od__law_two, .func (PySem.W.fnOf "_law_two" "_law_two" (defArgs s__law_two) (defBody s__law_two) (defScope s__law_two) .none kV__law_two dc__law_two pm__law_two an__law_two cd__law_two ct__law_two), sl__law_two⟩)
    (c__law_two : PySem.W.codeIn K cd__law_two "_law_two" = true)
    (k__law_two : PySem.W.keepIn K (.ref f__law_two) = true)
    (a__law_four : PySem.W.nsIn K mainGlobals "_law_four" = some (some (.ref f__law_four)))
    (l__law_four : K.lookup f__law_four = some ⟨oc__law_four, od__law_four, .func (PySem.W.fnOf "_law_four" "_law_four" (defArgs s__law_four) (defBody s__law_four) (defScope s__law_four) .none kV__law_four dc__law_four pm__law_four an__law_four cd__law_four ct__law_four), sl__law_four⟩)
    (c__law_four : PySem.W.codeIn K cd__law_four "_law_four" = true)
    (k__law_four : PySem.W.keepIn K (.ref f__law_four) = true)
    (a__law_mul : PySem.W.nsIn K mainGlobals "_law_mul" = some (some (.ref f__law_mul)))
    (l__law_mul : K.lookup f__law_mul = some ⟨oc__law_mul, od__law_mul, .func (PySem.W.fnOf "_law_mul" "_law_mul" (defArgs s__law_mul) (defBody s__law_mul) (defScope s__law_mul) .none kV__law_mul dc__law_mul pm__law_mul an__law_mul cd__law_mul ct__law_mul), sl__law_mul⟩)
    (c__law_mul : PySem.W.codeIn K cd__law_mul "_law_mul" = true)
    (k__law_mul : PySem.W.keepIn K (.ref f__law_mul) = true)
    (a__law_ends : PySem.W.nsIn K mainGlobals "_law_ends" = some (some (.ref f__law_ends)))
    (l__law_ends : K.lookup f__law_ends = some ⟨oc__law_ends, od__law_ends, .func (PySem.W.fnOf "_law_ends" "_law_ends" (defArgs s__law_ends) (defBody s__law_ends) (defScope s__law_ends) .none kV__law_ends dc__law_ends pm__law_ends an__law_ends cd__law_ends ct__law_ends), sl__law_ends⟩)
    (c__law_ends : PySem.W.codeIn K cd__law_ends "_law_ends" = true)
    (k__law_ends : PySem.W.keepIn K (.ref f__law_ends) = true)
    (a__law_quad_peg : PySem.W.nsIn K mainGlobals "_law_quad_peg" = some (some (.ref f__law_quad_peg)))
    (l__law_quad_peg : K.lookup f__law_quad_peg = some ⟨oc__law_quad_peg, od__law_quad_peg, .func (PySem.W.fnOf "_law_quad_peg" "_law_quad_peg" (defArgs s__law_quad_peg) (defBody s__law_quad_peg) (defScope s__law_quad_peg) .none kV__law_quad_peg dc__law_quad_peg pm__law_quad_peg an__law_quad_peg cd__law_quad_peg ct__law_quad_peg), sl__law_quad_peg⟩)
    (c__law_quad_peg : PySem.W.codeIn K cd__law_quad_peg "_law_quad_peg" = true)
    (k__law_quad_peg : PySem.W.keepIn K (.ref f__law_quad_peg) = true)
    (a__law_quad : PySem.W.nsIn K mainGlobals "_law_quad" = some (some (.ref f__law_quad)))
    (l__law_quad : K.lookup f__law_quad = some ⟨oc__law_quad, od__law_quad, .func (PySem.W.fnOf "_law_quad" "_law_quad" (defArgs s__law_quad) (defBody s__law_quad) (defScope s__law_quad) .none kV__law_quad dc__law_quad pm__law_quad an__law_quad cd__law_quad ct__law_quad), sl__law_quad⟩)
    (c__law_quad : PySem.W.codeIn K cd__law_quad "_law_quad" = true)
    (k__law_quad : PySem.W.keepIn K (.ref f__law_quad) = true)
    (a__law_two_quads : PySem.W.nsIn K mainGlobals "_law_two_quads" = some (some (.ref f__law_two_quads)))
    (l__law_two_quads : K.lookup f__law_two_quads = some ⟨oc__law_two_quads, od__law_two_quads, .func (PySem.W.fnOf "_law_two_quads" "_law_two_quads" (defArgs s__law_two_quads) (defBody s__law_two_quads) (defScope s__law_two_quads) .none kV__law_two_quads dc__law_two_quads pm__law_two_quads an__law_two_quads cd__law_two_quads ct__law_two_quads), sl__law_two_quads⟩)
    (c__law_two_quads : PySem.W.codeIn K cd__law_two_quads "_law_two_quads" = true)
    (k__law_two_quads : PySem.W.keepIn K (.ref f__law_two_quads) = true)
    (a__law_other_row : PySem.W.nsIn K mainGlobals "_law_other_row" = some (some (.ref f__law_other_row)))
    (l__law_other_row : K.lookup f__law_other_row = some ⟨oc__law_other_row, od__law_other_row, .func (PySem.W.fnOf "_law_other_row" "_law_other_row" (defArgs s__law_other_row) (defBody s__law_other_row) (defScope s__law_other_row) .none kV__law_other_row dc__law_other_row pm__law_other_row an__law_other_row cd__law_other_row ct__law_other_row), sl__law_other_row⟩)
    (c__law_other_row : PySem.W.codeIn K cd__law_other_row "_law_other_row" = true)
    (k__law_other_row : PySem.W.keepIn K (.ref f__law_other_row) = true)
    (a__law_is : PySem.W.nsIn K mainGlobals "_law_is" = some (some (.ref f__law_is)))
    (l__law_is : K.lookup f__law_is = some ⟨oc__law_is, od__law_is, .func (PySem.W.fnOf "_law_is" "_law_is" (defArgs s__law_is) (defBody s__law_is) (defScope s__law_is) .none kV__law_is dc__law_is pm__law_is an__law_is cd__law_is ct__law_is), sl__law_is⟩)
    (c__law_is : PySem.W.codeIn K cd__law_is "_law_is" = true)
    (k__law_is : PySem.W.keepIn K (.ref f__law_is) = true)
    (a__law_near : PySem.W.nsIn K mainGlobals "_law_near" = some (some (.ref f__law_near)))
    (l__law_near : K.lookup f__law_near = some ⟨oc__law_near, od__law_near, .func (PySem.W.fnOf "_law_near" "_law_near" (defArgs s__law_near) (defBody s__law_near) (defScope s__law_near) .none kV__law_near dc__law_near pm__law_near an__law_near cd__law_near ct__law_near), sl__law_near⟩)
    (c__law_near : PySem.W.codeIn K cd__law_near "_law_near" = true)
    (k__law_near : PySem.W.keepIn K (.ref f__law_near) = true)
    (a_law : PySem.W.nsIn K mainGlobals "law" = some (some (.ref f_law)))
    (l_law : K.lookup f_law = some ⟨oc_law, od_law, .func (PySem.W.fnOf "law" "law" (defArgs s_law) (defBody s_law) (defScope s_law) .none kV_law dc_law pm_law an_law cd_law ct_law), sl_law⟩)
    (c_law : PySem.W.codeIn K cd_law "law" = true)
    (k_law : PySem.W.keepIn K (.ref f_law) = true)
    (z_gcd : PySem.W.nsIn K mainGlobals "gcd" = some (some (.builtin "math.gcd")))
    (z_reversed : PySem.W.nsIn K mainGlobals "reversed" = some none)
    (z_min : PySem.W.nsIn K mainGlobals "min" = some none)
    (z_SPARE : PySem.W.nsIn K mainGlobals "SPARE" = some (some (.int 64 tk_SPARE)))
    (z_abs : PySem.W.nsIn K mainGlobals "abs" = some none)
    (z_max : PySem.W.nsIn K mainGlobals "max" = some none)
    (z_list : PySem.W.nsIn K mainGlobals "list" = some none)
    (z_len : PySem.W.nsIn K mainGlobals "len" = some none)
    (z_any : PySem.W.nsIn K mainGlobals "any" = some none)
    (z_zip : PySem.W.nsIn K mainGlobals "zip" = some none)
    (z_int : PySem.W.nsIn K mainGlobals "int" = some none)
    (z_isinstance : PySem.W.nsIn K mainGlobals "isinstance" = some none)
    (z_bool : PySem.W.nsIn K mainGlobals "bool" = some none)
    (z_range : PySem.W.nsIn K mainGlobals "range" = some none)
    (z_tuple : PySem.W.nsIn K mainGlobals "tuple" = some none)
    (x_NoPart : PySem.W.excIn K C_NoPart [.type "ValueError", .type "Exception", .type "BaseException", .type "object"] "ValueError.__new__" = true)
    (kc_NoPart : PySem.W.keepIn K (.ref C_NoPart) = true)
    (s_NoPart : PySem.W.subIn K (.ref C_NoPart) (.type "BaseException") = some true)
    (t_NoPart : PySem.W.typeIn K (.ref C_NoPart) = some (.type "type"))
    : ∃ fd : FuncData, (∀ (s : Shared) (v : Value), BindsTo s fd ⟨[v], []⟩ [("_law_script", v)]) ∧ ∀ base : Heap, K.In base → base.Ns mainGlobals mg → FnOk l.prog w K mg base CX0 7 fa fd ["_law_script"] (sp_law K) := by
  have e := hfa.symm.trans (PySem.W.mg_of X G a_law)
  cases e
  have T : Txt K mg C_NoPart := { b_gcd := PySem.W.mg_of X G z_gcd, b_reversed := PySem.W.mg_none_of X G z_reversed, b_min := PySem.W.mg_none_of X G z_min, g_SPARE := ⟨_, PySem.W.mg_of X G z_SPARE⟩, b_abs := PySem.W.mg_none_of X G z_abs, b_max := PySem.W.mg_none_of X G z_max, b_list := PySem.W.mg_none_of X G z_list, b_len := PySem.W.mg_none_of X G z_len, b_any := PySem.W.mg_none_of X G z_any, b_zip := PySem.W.mg_none_of X G z_zip, b_int := PySem.W.mg_none_of X G z_int, b_isinstance := PySem.W.mg_none_of X G z_isinstance, b_bool := PySem.W.mg_none_of X G z_bool, b_range := PySem.W.mg_none_of X G z_range, b_tuple := PySem.W.mg_none_of X G z_tuple, m_NoPart := PySem.W.mg_of X G a_NoPart, x_NoPart := x_NoPart, k_NoPart := kc_NoPart, s_NoPart := s_NoPart, t_NoPart := t_NoPart }
  have F_part' := fun_mk (st := s_part) l_part c_part k_part
  have b_part' := F_part'.binds (ps := ["top", "bottom"]) fun _ _ _ _ _ _ us hl => match us, hl with | [_, _], _ => rfl
  have F_below' := fun_mk (st := s_below) l_below c_below k_below
  have b_below' := F_below'.binds (ps := ["one", "other"]) fun _ _ _ _ _ _ us hl => match us, hl with | [_, _], _ => rfl
  have F_part_sum' := fun_mk (st := s_part_sum) l_part_sum c_part_sum k_part_sum
  have b_part_sum' := F_part_sum'.binds (ps := ["one", "other"]) fun _ _ _ _ _ _ us hl => match us, hl with | [_, _], _ => rfl
  have F_middle' := fun_mk (st := s_middle) l_middle c_middle k_middle
  have b_middle' := F_middle'.binds (ps := ["low", "high"]) fun _ _ _ _ _ _ us hl => match us, hl with | [_, _], _ => rfl
  have F_sign' := fun_mk (st := s_sign) l_sign c_sign k_sign
  have b_sign' := F_sign'.binds (ps := ["number"]) fun _ _ _ _ _ _ us hl => match us, hl with | [_], _ => rfl
  have F_sign_at' := fun_mk (st := s_sign_at) l_sign_at c_sign_at k_sign_at
  have b_sign_at' := F_sign_at'.binds (ps := ["row", "at"]) fun _ _ _ _ _ _ us hl => match us, hl with | [_, _], _ => rfl
  have F_bare' := fun_mk (st := s_bare) l_bare c_bare k_bare
  have b_bare' := F_bare'.binds (ps := ["row"]) fun _ _ _ _ _ _ us hl => match us, hl with | [_], _ => rfl
  have F_common_row' := fun_mk (st := s_common_row) l_common_row c_common_row k_common_row
  have b_common_row' := F_common_row'.binds (ps := ["one", "other"]) fun _ _ _ _ _ _ us hl => match us, hl with | [_, _], _ => rfl
  have F_largest' := fun_mk (st := s_largest) l_largest c_largest k_largest
  have b_largest' := F_largest'.binds (ps := ["row"]) fun _ _ _ _ _ _ us hl => match us, hl with | [_], _ => rfl
  have F_value_at' := fun_mk (st := s_value_at) l_value_at c_value_at k_value_at
  have b_value_at' := F_value_at'.binds (ps := ["row", "number"]) fun _ _ _ _ _ _ us hl => match us, hl with | [_, _], _ => rfl
  have F_digits' := fun_mk (st := s_digits) l_digits c_digits k_digits
  have b_digits' := F_digits'.binds (ps := ["number", "place"]) fun _ _ _ _ _ _ us hl => match us, hl with | [_, _], _ => rfl
  have F_quotient' := fun_mk (st := s_quotient) l_quotient c_quotient k_quotient
  have b_quotient' := F_quotient'.binds (ps := ["row", "other"]) fun _ _ _ _ _ _ us hl => match us, hl with | [_, _], _ => rfl
  have F_lowered' := fun_mk (st := s_lowered) l_lowered c_lowered k_lowered
  have b_lowered' := F_lowered'.binds (ps := ["row", "other", "factor"]) fun _ _ _ _ _ _ us hl => match us, hl with | [_, _, _], _ => rfl
  have F_of_part' := fun_mk (st := s_of_part) l_of_part c_of_part k_of_part
  have b_of_part' := F_of_part'.binds (ps := ["at"]) fun _ _ _ _ _ _ us hl => match us, hl with | [_], _ => rfl
  have F_halved' := fun_mk (st := s_halved) l_halved c_halved k_halved
  have b_halved' := F_halved'.binds (ps := ["one"]) fun _ _ _ _ _ _ us hl => match us, hl with | [_], _ => rfl
  have F_compare' := fun_mk (st := s_compare) l_compare c_compare k_compare
  have b_compare' := F_compare'.binds (ps := ["one", "other"]) fun _ _ _ _ _ _ us hl => match us, hl with | [_, _], _ => rfl
  have F_alike' := fun_mk (st := s_alike) l_alike c_alike k_alike
  have b_alike' := F_alike'.binds (ps := ["one", "other"]) fun _ _ _ _ _ _ us hl => match us, hl with | [_, _], _ => rfl
  have F_overlapping' := fun_mk (st := s_overlapping) l_overlapping c_overlapping k_overlapping
  have b_overlapping' := F_overlapping'.binds (ps := ["one", "other"]) fun _ _ _ _ _ _ us hl => match us, hl with | [_, _], _ => rfl
  have F_sign_of_peg' := fun_mk (st := s_sign_of_peg) l_sign_of_peg c_sign_of_peg k_sign_of_peg
  have b_sign_of_peg' := F_sign_of_peg'.binds (ps := ["one"]) fun _ _ _ _ _ _ us hl => match us, hl with | [_], _ => rfl
  have F__law_whole' := fun_mk (st := s__law_whole) l__law_whole c__law_whole k__law_whole
  have b__law_whole' := F__law_whole'.binds (ps := ["_law_found"]) fun _ _ _ _ _ _ us hl => match us, hl with | [_], _ => rfl
  have F__law_cell_at' := fun_mk (st := s__law_cell_at) l__law_cell_at c__law_cell_at k__law_cell_at
  have b__law_cell_at' := F__law_cell_at'.binds (ps := ["_law_script", "_law_k"]) fun _ _ _ _ _ _ us hl => match us, hl with | [_, _], _ => rfl
  have F__law_divisor' := fun_mk (st := s__law_divisor) l__law_divisor c__law_divisor k__law_divisor
  have b__law_divisor' := F__law_divisor'.binds (ps := ["_law_one", "_law_other"]) fun _ _ _ _ _ _ us hl => match us, hl with | [_, _], _ => rfl
  have F__law_part' := fun_mk (st := s__law_part) l__law_part c__law_part k__law_part
  have b__law_part' := F__law_part'.binds (ps := ["_law_top", "_law_bottom"]) fun _ _ _ _ _ _ us hl => match us, hl with | [_, _], _ => rfl
  have F__law_smallest' := fun_mk (st := s__law_smallest) l__law_smallest c__law_smallest k__law_smallest
  have b__law_smallest' := F__law_smallest'.binds (ps := ["_law_row"]) fun _ _ _ _ _ _ us hl => match us, hl with | [_], _ => rfl
  have F__law_by' := fun_mk (st := s__law_by) l__law_by c__law_by k__law_by
  have b__law_by' := F__law_by'.binds (ps := ["_law_row", "_law_other"]) fun _ _ _ _ _ _ us hl => match us, hl with | [_, _], _ => rfl
  have F__law_sign' := fun_mk (st := s__law_sign) l__law_sign c__law_sign k__law_sign
  have b__law_sign' := F__law_sign'.binds (ps := ["_law_number"]) fun _ _ _ _ _ _ us hl => match us, hl with | [_], _ => rfl
  have F__law_two' := fun_mk (st := s__law_two) l__law_two c__law_two k__law_two
  have b__law_two' := F__law_two'.binds (ps := ["_law_x", "_law_y", "_law_a"]) fun _ _ _ _ _ _ us hl => match us, hl with | [_, _, _], _ => rfl
  have F__law_four' := fun_mk (st := s__law_four) l__law_four c__law_four k__law_four
  have b__law_four' := F__law_four'.binds (ps := ["_law_one", "_law_a", "_law_b"]) fun _ _ _ _ _ _ us hl => match us, hl with | [_, _, _], _ => rfl
  have F__law_mul' := fun_mk (st := s__law_mul) l__law_mul c__law_mul k__law_mul
  have b__law_mul' := F__law_mul'.binds (ps := ["_law_x", "_law_y", "_law_a"]) fun _ _ _ _ _ _ us hl => match us, hl with | [_, _, _], _ => rfl
  have F__law_ends' := fun_mk (st := s__law_ends) l__law_ends c__law_ends k__law_ends
  have b__law_ends' := F__law_ends'.binds (ps := ["_law_p", "_law_q", "_law_r", "_law_d"]) fun _ _ _ _ _ _ us hl => match us, hl with | [_, _, _, _], _ => rfl
  have F__law_quad_peg' := fun_mk (st := s__law_quad_peg) l__law_quad_peg c__law_quad_peg k__law_quad_peg
  have b__law_quad_peg' := F__law_quad_peg'.binds (ps := ["_law_p", "_law_q", "_law_r", "_law_d"]) fun _ _ _ _ _ _ us hl => match us, hl with | [_, _, _, _], _ => rfl
  have F__law_quad' := fun_mk (st := s__law_quad) l__law_quad c__law_quad k__law_quad
  have b__law_quad' := F__law_quad'.binds (ps := ["_law_script", "_law_k"]) fun _ _ _ _ _ _ us hl => match us, hl with | [_, _], _ => rfl
  have F__law_two_quads' := fun_mk (st := s__law_two_quads) l__law_two_quads c__law_two_quads k__law_two_quads
  have b__law_two_quads' := F__law_two_quads'.binds (ps := ["_law_script"]) fun _ _ _ _ _ _ us hl => match us, hl with | [_], _ => rfl
  have F__law_other_row' := fun_mk (st := s__law_other_row) l__law_other_row c__law_other_row k__law_other_row
  have b__law_other_row' := F__law_other_row'.binds (ps := ["_law_one", "_law_draw"]) fun _ _ _ _ _ _ us hl => match us, hl with | [_, _], _ => rfl
  have F__law_is' := fun_mk (st := s__law_is) l__law_is c__law_is k__law_is
  have b__law_is' := F__law_is'.binds (ps := ["_law_found", "_law_due"]) fun _ _ _ _ _ _ us hl => match us, hl with | [_, _], _ => rfl
  have F__law_near' := fun_mk (st := s__law_near) l__law_near c__law_near k__law_near
  have b__law_near' := F__law_near'.binds (ps := ["_law_cell"]) fun _ _ _ _ _ _ us hl => match us, hl with | [_], _ => rfl
  have F_law' := fun_mk (st := s_law) l_law c_law k_law
  have b_law' := F_law'.binds (ps := ["_law_script"]) fun _ _ _ _ _ _ us hl => match us, hl with | [_], _ => rfl
  refine ⟨PySem.W.fnOf "law" "law" (defArgs s_law) (defBody s_law) (defScope s_law) .none kV_law dc_law pm_law an_law cd_law ct_law, fun s v => .of_eq rfl, fun base KB GB => ?_⟩
  have G__law_cell_at : Cal l.prog w K mg base CX0 1 "_law_cell_at" ["_law_script", "_law_k"] (sp__law_cell_at K) := ⟨f__law_cell_at, _, ok__law_cell_at F__law_cell_at' T, PySem.W.mg_of X G a__law_cell_at, k__law_cell_at, b__law_cell_at'⟩
  have G_part : Cal l.prog w K mg base (L2.CX l.prog w) 1 "part" ["top", "bottom"] (sp_part K C_NoPart) := ⟨f_part, _, ok_part F_part' T, PySem.W.mg_of X G a_part, k_part, b_part'⟩
  have G_part_sum : Cal l.prog w K mg base CX0 2 "part_sum" ["one", "other"] (sp_part_sum K) := ⟨f_part_sum, _, ok_part_sum F_part_sum' T G_part, PySem.W.mg_of X G a_part_sum, k_part_sum, b_part_sum'⟩
  have G_of_part : Cal l.prog w K mg base CX0 3 "of_part" ["at"] (sp_of_part K) := ⟨f_of_part, _, ok_of_part F_of_part' T G_part_sum, PySem.W.mg_of X G a_of_part, k_of_part, b_of_part'⟩
  have G_below : Cal l.prog w K mg base CX0 1 "below" ["one", "other"] (sp_below K) := ⟨f_below, _, ok_below F_below' T, PySem.W.mg_of X G a_below, k_below, b_below'⟩
  have G_overlapping : Cal l.prog w K mg base CX0 2 "overlapping" ["one", "other"] (sp_overlapping K) := ⟨f_overlapping, _, ok_overlapping F_overlapping' T G_below, PySem.W.mg_of X G a_overlapping, k_overlapping, b_overlapping'⟩
  have G_largest : Cal l.prog w K mg base CX0 1 "largest" ["row"] (sp_largest K) := ⟨f_largest, _, ok_largest F_largest' T, PySem.W.mg_of X G a_largest, k_largest, b_largest'⟩
  have G_value_at : Cal l.prog w K mg base CX0 1 "value_at" ["row", "number"] (sp_value_at K) := ⟨f_value_at, _, ok_value_at F_value_at' T, PySem.W.mg_of X G a_value_at, k_value_at, b_value_at'⟩
  have G_digits : Cal l.prog w K mg base CX0 1 "digits" ["number", "place"] (sp_digits K) := ⟨f_digits, _, ok_digits F_digits' T, PySem.W.mg_of X G a_digits, k_digits, b_digits'⟩
  have G_bare : Cal l.prog w K mg base CX0 1 "bare" ["row"] (sp_bare K) := ⟨f_bare, _, ok_bare F_bare' T, PySem.W.mg_of X G a_bare, k_bare, b_bare'⟩
  have G_lowered : Cal l.prog w K mg base CX0 1 "lowered" ["row", "other", "factor"] (sp_lowered K) := ⟨f_lowered, _, ok_lowered F_lowered' T, PySem.W.mg_of X G a_lowered, k_lowered, b_lowered'⟩
  have G_quotient : Cal l.prog w K mg base CX0 2 "quotient" ["row", "other"] (sp_quotient K) := ⟨f_quotient, _, ok_quotient F_quotient' T G_lowered, PySem.W.mg_of X G a_quotient, k_quotient, b_quotient'⟩
  have G_common_row : Cal l.prog w K mg base CX0 3 "common_row" ["one", "other"] (sp_common_row K) := ⟨f_common_row, _, ok_common_row F_common_row' T G_largest G_value_at G_digits G_bare G_quotient, PySem.W.mg_of X G a_common_row, k_common_row, b_common_row'⟩
  have G_sign : Cal l.prog w K mg base CX0 1 "sign" ["number"] (sp_sign K) := ⟨f_sign, _, ok_sign F_sign' T, PySem.W.mg_of X G a_sign, k_sign, b_sign'⟩
  have G_sign_at : Cal l.prog w K mg base CX0 2 "sign_at" ["row", "at"] (sp_sign_at K) := ⟨f_sign_at, _, ok_sign_at F_sign_at' T G_sign, PySem.W.mg_of X G a_sign_at, k_sign_at, b_sign_at'⟩
  have G_alike : Cal l.prog w K mg base CX0 4 "alike" ["one", "other"] (sp_alike K) := ⟨f_alike, _, ok_alike F_alike' T G_overlapping G_below G_common_row G_sign_at, PySem.W.mg_of X G a_alike, k_alike, b_alike'⟩
  have G_middle : Cal l.prog w K mg base CX0 2 "middle" ["low", "high"] (sp_middle K) := ⟨f_middle, _, ok_middle F_middle' T G_part, PySem.W.mg_of X G a_middle, k_middle, b_middle'⟩
  have G_halved : Cal l.prog w K mg base CX0 3 "halved" ["one"] (sp_halved K) := ⟨f_halved, _, ok_halved F_halved' T G_middle G_sign_at, PySem.W.mg_of X G a_halved, k_halved, b_halved'⟩
  have G_compare : Cal l.prog w K mg base CX0 5 "compare" ["one", "other"] (sp_compare K) := ⟨f_compare, _, ok_compare F_compare' T G_alike G_overlapping G_halved G_below, PySem.W.mg_of X G a_compare, k_compare, b_compare'⟩
  have G__law_whole : Cal l.prog w K mg base CX0 1 "_law_whole" ["_law_found"] (sp__law_whole K) := ⟨f__law_whole, _, ok__law_whole F__law_whole' T, PySem.W.mg_of X G a__law_whole, k__law_whole, b__law_whole'⟩
  have G__law_is : Cal l.prog w K mg base CX0 2 "_law_is" ["_law_found", "_law_due"] (sp__law_is K) := ⟨f__law_is, _, ok__law_is F__law_is' T G__law_whole, PySem.W.mg_of X G a__law_is, k__law_is, b__law_is'⟩
  have G__law_divisor : Cal l.prog w K mg base CX0 1 "_law_divisor" ["_law_one", "_law_other"] (sp__law_divisor K) := ⟨f__law_divisor, _, ok__law_divisor F__law_divisor' T, PySem.W.mg_of X G a__law_divisor, k__law_divisor, b__law_divisor'⟩
  have G__law_part : Cal l.prog w K mg base CX0 2 "_law_part" ["_law_top", "_law_bottom"] (sp__law_part K) := ⟨f__law_part, _, ok__law_part F__law_part' T G__law_divisor, PySem.W.mg_of X G a__law_part, k__law_part, b__law_part'⟩
  have G__law_near : Cal l.prog w K mg base CX0 6 "_law_near" ["_law_cell"] (sp__law_near K) := ⟨f__law_near, _, ok__law_near F__law_near' T G_of_part G_compare G__law_is G__law_part, PySem.W.mg_of X G a__law_near, k__law_near, b__law_near'⟩
  have G__law_quad : Cal l.prog w K mg base CX0 2 "_law_quad" ["_law_script", "_law_k"] (sp__law_quad K) := ⟨f__law_quad, _, ok__law_quad F__law_quad' T G__law_cell_at, PySem.W.mg_of X G a__law_quad, k__law_quad, b__law_quad'⟩
  have G__law_two_quads : Cal l.prog w K mg base CX0 3 "_law_two_quads" ["_law_script"] (sp__law_two_quads K) := ⟨f__law_two_quads, _, ok__law_two_quads F__law_two_quads' T G__law_quad G__law_cell_at, PySem.W.mg_of X G a__law_two_quads, k__law_two_quads, b__law_two_quads'⟩
  have G__law_ends : Cal l.prog w K mg base CX0 3 "_law_ends" ["_law_p", "_law_q", "_law_r", "_law_d"] (sp__law_ends K) := ⟨f__law_ends, _, ok__law_ends F__law_ends' T G__law_part, PySem.W.mg_of X G a__law_ends, k__law_ends, b__law_ends'⟩
  have G__law_smallest : Cal l.prog w K mg base CX0 2 "_law_smallest" ["_law_row"] (sp__law_smallest K) := ⟨f__law_smallest, _, ok__law_smallest F__law_smallest' T G__law_divisor, PySem.W.mg_of X G a__law_smallest, k__law_smallest, b__law_smallest'⟩
  have G__law_quad_peg : Cal l.prog w K mg base CX0 4 "_law_quad_peg" ["_law_p", "_law_q", "_law_r", "_law_d"] (sp__law_quad_peg K) := ⟨f__law_quad_peg, _, ok__law_quad_peg F__law_quad_peg' T G__law_ends G__law_smallest, PySem.W.mg_of X G a__law_quad_peg, k__law_quad_peg, b__law_quad_peg'⟩
  have G__law_by : Cal l.prog w K mg base CX0 1 "_law_by" ["_law_row", "_law_other"] (sp__law_by K) := ⟨f__law_by, _, ok__law_by F__law_by' T, PySem.W.mg_of X G a__law_by, k__law_by, b__law_by'⟩
  have G__law_other_row : Cal l.prog w K mg base CX0 2 "_law_other_row" ["_law_one", "_law_draw"] (sp__law_other_row K) := ⟨f__law_other_row, _, ok__law_other_row F__law_other_row' T G__law_by, PySem.W.mg_of X G a__law_other_row, k__law_other_row, b__law_other_row'⟩
  have G__law_sign : Cal l.prog w K mg base CX0 1 "_law_sign" ["_law_number"] (sp__law_sign K) := ⟨f__law_sign, _, ok__law_sign F__law_sign' T, PySem.W.mg_of X G a__law_sign, k__law_sign, b__law_sign'⟩
  have G__law_two : Cal l.prog w K mg base CX0 2 "_law_two" ["_law_x", "_law_y", "_law_a"] (sp__law_two K) := ⟨f__law_two, _, ok__law_two F__law_two' T G__law_sign, PySem.W.mg_of X G a__law_two, k__law_two, b__law_two'⟩
  have G__law_mul : Cal l.prog w K mg base CX0 1 "_law_mul" ["_law_x", "_law_y", "_law_a"] (sp__law_mul K) := ⟨f__law_mul, _, ok__law_mul F__law_mul' T, PySem.W.mg_of X G a__law_mul, k__law_mul, b__law_mul'⟩
  have G__law_four : Cal l.prog w K mg base CX0 3 "_law_four" ["_law_one", "_law_a", "_law_b"] (sp__law_four K) := ⟨f__law_four, _, ok__law_four F__law_four' T G__law_two G__law_sign G__law_mul, PySem.W.mg_of X G a__law_four, k__law_four, b__law_four'⟩
  have G_sign_of_peg : Cal l.prog w K mg base CX0 3 "sign_of_peg" ["one"] (sp_sign_of_peg K) := ⟨f_sign_of_peg, _, ok_sign_of_peg F_sign_of_peg' T G_sign G_sign_at, PySem.W.mg_of X G a_sign_of_peg, k_sign_of_peg, b_sign_of_peg'⟩
  exact ok_law F_law' T G__law_cell_at G__law_near G__law_two_quads G__law_quad_peg G__law_other_row G__law_four G_compare G__law_is G__law_two G_sign_of_peg G__law_part G_of_part
theorem walk {l : PySem.W.OpenLaw} {q : Program} {loose : List Str} {XP : (Str → Option Value) → Heap → Prop} {YP : World → Heap → Prop} {d : DefRec} {K : Params → PySem.W.Frag} (hn : l.most = some 63) (hdf : d.params.defaults = [])
    (hY : ∀ (w : World) (h : Heap), YP w h → (K w.params).In h)
    (F : ∀ (w : World) (mg : Str → Option Value) (fa : Addr) (h : Heap), (K w.params).In h → h.Ns mainGlobals mg → mg d.name = some (.ref fa) →
      ∃ fd : FuncData, (∀ (s : Shared) (u : Value), BindsTo s fd ⟨[u], []⟩ [("_law_script", u)]) ∧ ∀ base : Heap, (K w.params).In base → base.Ns mainGlobals mg → FnOk l.prog w (K w.params) mg base CX0 7 fa fd ["_law_script"] (sp_law (K w.params))) :
    PySem.W.WalkO q loose XP YP l.row.toRowW d [] (fun f vs => PySem.call f vs) :=
  L2.walk_of (n := 63) (k := 7) (x := "_law_script") (CX := fun _ => CX0) (sp := fun w => sp_law (K w.params)) hn (by decide) hdf ⟨rfl, by decide, by decide⟩ hY F
    (fun _ H a ns hl _ hS => ⟨rfl, H, [.list (ns.map .int)], .rt (.bool true), Ex.refl H, .cons (.lst hS dpa_ints) .nil, ⟨ns, hl, rfl, rfl⟩, fun v G2 H2 _ hv => dp_bl hv⟩) fun _ _ _ _ _ z => z
end K09
open PySem PySem.W PyProof.Rows
set_option maxRecDepth 100000 in
set_option maxHeartbeats 0 in
theorem PySem.Challenge.cw_rootpeg_k09_compared_holds : PySem.Challenge.rw_rootpeg_k09_compared.Holds := by
  w_on; o_law; k_head; (case hw => w_witness2)
  k_fill
  refine K09.walk (l := PySem.Challenge.rw_rootpeg_k09_compared) rfl rfl (fun w h Y => PySem.W.kIn_of Y) ?F
  case F =>
    intro w mg fa h KX G hmg
    refine' K09.all_mk KX G hmg ?a_NoPart ?a_part ?l_part ?c_part ?k_part ?a_below ?l_below ?c_below ?k_below ?a_part_sum ?l_part_sum ?c_part_sum ?k_part_sum ?a_middle ?l_middle ?c_middle ?k_middle ?a_sign ?l_sign ?c_sign ?k_sign ?a_sign_at ?l_sign_at ?c_sign_at ?k_sign_at ?a_bare ?l_bare ?c_bare ?k_bare ?a_common_row ?l_common_row ?c_common_row ?k_common_row ?a_largest ?l_largest ?c_largest ?k_largest ?a_value_at ?l_value_at ?c_value_at ?k_value_at ?a_digits ?l_digits ?c_digits ?k_digits ?a_quotient ?l_quotient ?c_quotient ?k_quotient ?a_lowered ?l_lowered ?c_lowered ?k_lowered ?a_of_part ?l_of_part ?c_of_part ?k_of_part ?a_halved ?l_halved ?c_halved ?k_halved ?a_compare ?l_compare ?c_compare ?k_compare ?a_alike ?l_alike ?c_alike ?k_alike ?a_overlapping ?l_overlapping ?c_overlapping ?k_overlapping ?a_sign_of_peg ?l_sign_of_peg ?c_sign_of_peg ?k_sign_of_peg ?a__law_whole ?l__law_whole ?c__law_whole ?k__law_whole ?a__law_cell_at ?l__law_cell_at ?c__law_cell_at ?k__law_cell_at ?a__law_divisor ?l__law_divisor ?c__law_divisor ?k__law_divisor ?a__law_part ?l__law_part ?c__law_part ?k__law_part ?a__law_smallest ?l__law_smallest ?c__law_smallest ?k__law_smallest ?a__law_by ?l__law_by ?c__law_by ?k__law_by ?a__law_sign ?l__law_sign ?c__law_sign ?k__law_sign ?a__law_two ?l__law_two ?c__law_two ?k__law_two ?a__law_four ?l__law_four ?c__law_four ?k__law_four ?a__law_mul ?l__law_mul ?c__law_mul ?k__law_mul ?a__law_ends ?l__law_ends ?c__law_ends ?k__law_ends ?a__law_quad_peg ?l__law_quad_peg ?c__law_quad_peg ?k__law_quad_peg ?a__law_quad ?l__law_quad ?c__law_quad ?k__law_quad ?a__law_two_quads ?l__law_two_quads ?c__law_two_quads ?k__law_two_quads ?a__law_other_row ?l__law_other_row ?c__law_other_row ?k__law_other_row ?a__law_is ?l__law_is ?c__law_is ?k__law_is ?a__law_near ?l__law_near ?c__law_near ?k__law_near ?a_law ?l_law ?c_law ?k_law ?z_gcd ?z_reversed ?z_min ?z_SPARE ?z_abs ?z_max ?z_list ?z_len ?z_any ?z_zip ?z_int ?z_isinstance ?z_bool ?z_range ?z_tuple ?x_NoPart ?kc_NoPart ?s_NoPart ?t_NoPart
    (case a_NoPart => first | k_is | rfl)
    (case a_part => first | k_is | rfl)
    (case l_part => first | k_is | rfl)
    (case c_part => first | k_is | rfl)
    (case k_part => first | k_is | rfl)
    (case a_below => first | k_is | rfl)
    (case l_below => first | k_is | rfl)
    (case c_below => first | k_is | rfl)
    (case k_below => first | k_is | rfl)
    (case a_part_sum => first | k_is | rfl)
    (case l_part_sum => first | k_is | rfl)
    (case c_part_sum => first | k_is | rfl)
    (case k_part_sum => first | k_is | rfl)
    (case a_middle => first | k_is | rfl)
    (case l_middle => first | k_is | rfl)
    (case c_middle => first | k_is | rfl)
    (case k_middle => first | k_is | rfl)
    (case a_sign => first | k_is | rfl)
    (case l_sign => first | k_is | rfl)
    (case c_sign => first | k_is | rfl)
    (case k_sign => first | k_is | rfl)
    (case a_sign_at => first | k_is | rfl)
    (case l_sign_at => first | k_is | rfl)
    (case c_sign_at => first | k_is | rfl)
    (case k_sign_at => first | k_is | rfl)
    (case a_bare => first | k_is | rfl)
    (case l_bare => first | k_is | rfl)
    (case c_bare => first | k_is | rfl)
    (case k_bare => first | k_is | rfl)
    (case a_common_row => first | k_is | rfl)
    (case l_common_row => first | k_is | rfl)
    (case c_common_row => first | k_is | rfl)
    (case k_common_row => first | k_is | rfl)
    (case a_largest => first | k_is | rfl)
    (case l_largest => first | k_is | rfl)
    (case c_largest => first | k_is | rfl)
    (case k_largest => first | k_is | rfl)
    (case a_value_at => first | k_is | rfl)
    (case l_value_at => first | k_is | rfl)
    (case c_value_at => first | k_is | rfl)
    (case k_value_at => first | k_is | rfl)
    (case a_digits => first | k_is | rfl)
    (case l_digits => first | k_is | rfl)
    (case c_digits => first | k_is | rfl)
    (case k_digits => first | k_is | rfl)
    (case a_quotient => first | k_is | rfl)
    (case l_quotient => first | k_is | rfl)
    (case c_quotient => first | k_is | rfl)
    (case k_quotient => first | k_is | rfl)
    (case a_lowered => first | k_is | rfl)
    (case l_lowered => first | k_is | rfl)
    (case c_lowered => first | k_is | rfl)
    (case k_lowered => first | k_is | rfl)
    (case a_of_part => first | k_is | rfl)
    (case l_of_part => first | k_is | rfl)
    (case c_of_part => first | k_is | rfl)
    (case k_of_part => first | k_is | rfl)
    (case a_halved => first | k_is | rfl)
    (case l_halved => first | k_is | rfl)
    (case c_halved => first | k_is | rfl)
    (case k_halved => first | k_is | rfl)
    (case a_compare => first | k_is | rfl)
    (case l_compare => first | k_is | rfl)
    (case c_compare => first | k_is | rfl)
    (case k_compare => first | k_is | rfl)
    (case a_alike => first | k_is | rfl)
    (case l_alike => first | k_is | rfl)
    (case c_alike => first | k_is | rfl)
    (case k_alike => first | k_is | rfl)
    (case a_overlapping => first | k_is | rfl)
    (case l_overlapping => first | k_is | rfl)
    (case c_overlapping => first | k_is | rfl)
    (case k_overlapping => first | k_is | rfl)
    (case a_sign_of_peg => first | k_is | rfl)
    (case l_sign_of_peg => first | k_is | rfl)
    (case c_sign_of_peg => first | k_is | rfl)
    (case k_sign_of_peg => first | k_is | rfl)
    (case a__law_whole => first | k_is | rfl)
    (case l__law_whole => first | k_is | rfl)
    (case c__law_whole => first | k_is | rfl)
    (case k__law_whole => first | k_is | rfl)
    (case a__law_cell_at => first | k_is | rfl)
    (case l__law_cell_at => first | k_is | rfl)
    (case c__law_cell_at => first | k_is | rfl)
    (case k__law_cell_at => first | k_is | rfl)
    (case a__law_divisor => first | k_is | rfl)
    (case l__law_divisor => first | k_is | rfl)
    (case c__law_divisor => first | k_is | rfl)
    (case k__law_divisor => first | k_is | rfl)
    (case a__law_part => first | k_is | rfl)
    (case l__law_part => first | k_is | rfl)
    (case c__law_part => first | k_is | rfl)
    (case k__law_part => first | k_is | rfl)
    (case a__law_smallest => first | k_is | rfl)
    (case l__law_smallest => first | k_is | rfl)
    (case c__law_smallest => first | k_is | rfl)
    (case k__law_smallest => first | k_is | rfl)
    (case a__law_by => first | k_is | rfl)
    (case l__law_by => first | k_is | rfl)
    (case c__law_by => first | k_is | rfl)
    (case k__law_by => first | k_is | rfl)
    (case a__law_sign => first | k_is | rfl)
    (case l__law_sign => first | k_is | rfl)
    (case c__law_sign => first | k_is | rfl)
    (case k__law_sign => first | k_is | rfl)
    (case a__law_two => first | k_is | rfl)
    (case l__law_two => first | k_is | rfl)
    (case c__law_two => first | k_is | rfl)
    (case k__law_two => first | k_is | rfl)
    (case a__law_four => first | k_is | rfl)
    (case l__law_four => first | k_is | rfl)
    (case c__law_four => first | k_is | rfl)
    (case k__law_four => first | k_is | rfl)
    (case a__law_mul => first | k_is | rfl)
    (case l__law_mul => first | k_is | rfl)
    (case c__law_mul => first | k_is | rfl)
    (case k__law_mul => first | k_is | rfl)
    (case a__law_ends => first | k_is | rfl)
    (case l__law_ends => first | k_is | rfl)
    (case c__law_ends => first | k_is | rfl)
    (case k__law_ends => first | k_is | rfl)
    (case a__law_quad_peg => first | k_is | rfl)
    (case l__law_quad_peg => first | k_is | rfl)
    (case c__law_quad_peg => first | k_is | rfl)
    (case k__law_quad_peg => first | k_is | rfl)
    (case a__law_quad => first | k_is | rfl)
    (case l__law_quad => first | k_is | rfl)
    (case c__law_quad => first | k_is | rfl)
    (case k__law_quad => first | k_is | rfl)
    (case a__law_two_quads => first | k_is | rfl)
    (case l__law_two_quads => first | k_is | rfl)
    (case c__law_two_quads => first | k_is | rfl)
    (case k__law_two_quads => first | k_is | rfl)
    (case a__law_other_row => first | k_is | rfl)
    (case l__law_other_row => first | k_is | rfl)
    (case c__law_other_row => first | k_is | rfl)
    (case k__law_other_row => first | k_is | rfl)
    (case a__law_is => first | k_is | rfl)
    (case l__law_is => first | k_is | rfl)
    (case c__law_is => first | k_is | rfl)
    (case k__law_is => first | k_is | rfl)
    (case a__law_near => first | k_is | rfl)
    (case l__law_near => first | k_is | rfl)
    (case c__law_near => first | k_is | rfl)
    (case k__law_near => first | k_is | rfl)
    (case a_law => first | k_is | rfl)
    (case l_law => first | k_is | rfl)
    (case c_law => first | k_is | rfl)
    (case k_law => first | k_is | rfl)
    (case z_gcd => first | k_is | rfl)
    (case z_reversed => first | k_is | rfl)
    (case z_min => first | k_is | rfl)
    (case z_SPARE => first | k_is | rfl)
    (case z_abs => first | k_is | rfl)
    (case z_max => first | k_is | rfl)
    (case z_list => first | k_is | rfl)
    (case z_len => first | k_is | rfl)
    (case z_any => first | k_is | rfl)
    (case z_zip => first | k_is | rfl)
    (case z_int => first | k_is | rfl)
    (case z_isinstance => first | k_is | rfl)
    (case z_bool => first | k_is | rfl)
    (case z_range => first | k_is | rfl)
    (case z_tuple => first | k_is | rfl)
    (case x_NoPart => first | k_exc | k_is)
    (case kc_NoPart => first | k_is | rfl)
    (case s_NoPart => first | k_is | rfl)
    (case t_NoPart => first | k_is | rfl)

